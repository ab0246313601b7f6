import PyProof.Rows.All
import Wide.All
import OpenK.AllK
import Wide.FinOn
import Lean
import PyProof.EqAt
import PyProof.EqKinds
import PyProof.TupleCall
import KE.KDictLaws
import KE.KDictList
import KE.KDictOf
import KE.KEqDict
import KE.KTryMore
import PyProof.AttrMissHeap
import PyProof.CompUse
import PyProof.ConsumeWalk
import PyProof.Conv_int_bool
import PyProof.DictItems
import PyProof.DictValues
import PyProof.DictWalks
import PyProof.Draws
import PyProof.EnumFor
import PyProof.EnumMake
import PyProof.EnumStmt
import PyProof.FString5
import PyProof.FactsAll.set
import PyProof.FactsAll.subtypes_5
import PyProof.FactsAll.zip
import PyProof.NeKinds
import PyProof.P3Eq
import PyProof.Rows.SetFrom
import PyProof.SetRoads
import PyProof.StrWalks
import PyProof.SumAny
import PyProof.Walks
import PySem.Challenge.RW_arrayloom_k59_cuts_keep_the_order
-- CHANGE: your row's module here, as the last of these rows
set_option Elab.async false
set_option linter.all false
set_option maxRecDepth 100000
/-! THE HAND LAYER, for ints, bools, texts, own classes, LISTS and tuples (index, slices, in, append, pop ..), calls, loops. Paste it whole ahead of your own text; what your proof does not reach may be deleted. -/
namespace L2
open PySem PySem.Spec PyProof.Rows

/-- a key: an int or a str -/
abbrev Key := Sum Int Str
def keyIs : Key → Value → Bool
  | .inl k, v => Value.isInt k v
  | .inr x, v => Value.isStrOf x v
def keyH (w : World) : Key → Int
  | .inl k => hashInt k
  | .inr x => hashStr w x
theorem keyIs_shape : ∀ {k : Key} {v : Value}, keyIs k v = true → (∃ i t, k = Sum.inl i ∧ v = Value.int i t) ∨ (∃ x t, k = Sum.inr x ∧ v = Value.str x t)
  | .inl i, v, h => by
    obtain ⟨t, e⟩ := Value.isInt_shape (k := i) (v := v) h
    exact .inl ⟨i, t, rfl, e⟩
  | .inr x, v, h => by
    obtain ⟨t, e⟩ := Value.isStrOf_shape (x := x) (v := v) h
    exact .inr ⟨x, t, rfl, e⟩
theorem keyIs_int (i : Int) (t : Tok) : keyIs (.inl i) (.int i t) = true := by simp [keyIs, Value.isInt]
theorem keyIs_str (x : Str) (t : Tok) : keyIs (.inr x) (.str x t) = true := by simp [keyIs, Value.isStrOf]
theorem key_ll (a b : Int) : decide ((Sum.inl a : Key) = Sum.inl b) = (a == b) := by
  by_cases e : a = b
  · subst e; simp
  · have h : ¬ (Sum.inl a : Key) = Sum.inl b := fun q => e (Sum.inl.inj q)
    rw [decide_eq_false h]
    exact (beq_eq_false_iff_ne.mpr e).symm
theorem key_rr (a b : Str) : decide ((Sum.inr a : Key) = Sum.inr b) = decide (a = b) := by
  by_cases e : a = b
  · subst e; simp
  · have h : ¬ (Sum.inr a : Key) = Sum.inr b := fun q => e (Sum.inr.inj q)
    rw [decide_eq_false h, decide_eq_false e]
theorem key_lr (a : Int) (b : Str) : decide ((Sum.inl a : Key) = Sum.inr b) = false := decide_eq_false (fun q => nomatch q)
theorem key_rl (a : Str) (b : Int) : decide ((Sum.inr a : Key) = Sum.inl b) = false := decide_eq_false (fun q => nomatch q)

def mixKind (prog : Program) (w : World) : PySem.KeyKind prog w Key where
  is := keyIs
  hash := keyH w
  inj := fun v a b ha hb => by
    rcases keyIs_shape ha with ⟨i, t, rfl, rfl⟩ | ⟨x, t, rfl, rfl⟩
    · rcases keyIs_shape hb with ⟨j, u, rfl, e⟩ | ⟨y, u, rfl, e⟩
      · injection e with e1 _; rw [e1]
      · exact nomatch e
    · rcases keyIs_shape hb with ⟨j, u, rfl, e⟩ | ⟨y, u, rfl, e⟩
      · exact nomatch e
      · injection e with e1 _; rw [e1]
  byValue := fun k v h => by
    rcases keyIs_shape h with ⟨i, t, rfl, rfl⟩ | ⟨x, t, rfl, rfl⟩ <;> rfl
  pyHash := fun hv h => by
    rcases keyIs_shape hv with ⟨i, t, rfl, rfl⟩ | ⟨x, t, rfl, rfl⟩
    · exact wpAny_pyHash_int h
    · exact wpAny_pyHash_str h
  eqBool := fun hu hv h => by
    rcases keyIs_shape hu with ⟨i, t, rfl, rfl⟩ | ⟨x, t, rfl, rfl⟩
    · rcases keyIs_shape hv with ⟨j, u, rfl, rfl⟩ | ⟨y, u, rfl, rfl⟩
      · rw [key_ll] at h; exact wpAny_eqBool_int h
      · rw [key_lr] at h; exact SeqAt.EqAt.int_str i t y u _ _ _ _ h
    · rcases keyIs_shape hv with ⟨j, u, rfl, rfl⟩ | ⟨y, u, rfl, rfl⟩
      · rw [key_rl] at h; exact SeqAt.EqAt.str_int x t j u _ _ _ _ h
      · rw [key_rr] at h; exact wpAny_eqBool_str h
  «strs» := fun k x t v h => by
    rcases keyIs_shape h with ⟨i, u, rfl, e⟩ | ⟨y, u, rfl, e⟩
    · exact nomatch e
    · injection e with e1 _
      subst e1
      cases v <;> rfl

theorem mixKind_int (prog : Program) (w : World) (i : Int) (t : Tok) : (mixKind prog w).is (.inl i) (.int i t) = true := keyIs_int i t
theorem mixKind_str (prog : Program) (w : World) (x : Str) (t : Tok) : (mixKind prog w).is (.inr x) (.str x t) = true := keyIs_str x t
end L2

namespace L2
open PySem PySem.Spec PyProof.Rows

/-- a value, without the heap -/
inductive V where
  | non | bl (b : Bool) | int (i : Int) | str (x : Str) | byt (b : Array UInt8) | flt (b : UInt64) | ref (a : Addr) | ty (n : String)
  deriving DecidableEq

def RelV : V → Value → Prop
  | .non, u => u = Value.none
  | .bl b, u => u = Value.bool b
  | .int i, u => ∃ t, u = Value.int i t
  | .str x, u => ∃ t, u = Value.str x t
  | .byt b, u => ∃ t, u = Value.bytes b t
  | .flt b, u => ∃ t, u = Value.float b t
  | .ref a, u => u = Value.ref a
  | .ty n, u => u = Value.type n

abbrev Vals : List V → List Value → Prop := Paired RelV
theorem Vals.length {xs : List V} {us : List Value} (r : Vals xs us) : xs.length = us.length := Paired.length r
theorem Vals.get : ∀ {xs : List V} {us : List Value} {i : Nat} {x : V}, Vals xs us → xs[i]? = some x → ∃ u, us[i]? = some u ∧ RelV x u
  | _, _, _, _, .nil, e => by simp at e
  | _, _, 0, _, .cons r _, e => by simp at e; subst e; exact ⟨_, rfl, r⟩
  | _, _, i + 1, x, .cons _ t, e => by
    obtain ⟨u, h1, h2⟩ := Vals.get (i := i) (x := x) t (by simpa using e)
    exact ⟨u, by simpa using h1, h2⟩
theorem Vals.append : ∀ {xs ys : List V} {us ws : List Value}, Vals xs us → Vals ys ws → Vals (xs ++ ys) (us ++ ws)
  | _, _, _, _, .nil, s => s
  | _, _, _, _, .cons r t, s => .cons r (Vals.append t s)
theorem Vals.take : ∀ {xs : List V} {us : List Value} (n : Nat), Vals xs us → Vals (xs.take n) (us.take n)
  | _, _, 0, _ => .nil
  | _, _, _ + 1, .nil => .nil
  | _, _, n + 1, .cons r t => .cons r (Vals.take n t)
theorem Vals.drop : ∀ {xs : List V} {us : List Value} (n : Nat), Vals xs us → Vals (xs.drop n) (us.drop n)
  | _, _, 0, r => r
  | _, _, _ + 1, .nil => .nil
  | _, _, n + 1, .cons _ t => Vals.drop n t
def RelO : Option V → Option Value → Prop
  | some v, some u => RelV v u
  | none, none => True
  | _, _ => False
def KV {κ : Type} : List (κ × V) → List (κ × Value) → Prop := Paired fun (p : κ × V) (q : κ × Value) => p.1 = q.1 ∧ RelV p.2 q.2

/-- a key of a dict (00_mix): an int or a text -/
def kV : Key → V
  | .inl i => .int i
  | .inr x => .str x

/-- what stands at a tracked address -/
inductive HO where
  /-- a list -/
  | lst (xs : List V)
  /-- a tuple (never changes) -/
  | tup (xs : List V)
  /-- a dict whose keys are ints and texts; one whose keys are tuples of ints and texts (the empty one is both) -/
  | dK (kvs : List (Key × V)) | dT (kvs : List (List Key × V))
  /-- a set of ints: its members, its size -/
  | set (S : Int → Bool) (n : Nat)
  /-- an instance of the class at C, its dict at dx, its attributes -/
  | ins (C dx : Addr) (fs : List (Str × V))
  /-- the dict of the instance at x -/
  | own (x : Addr)
  /-- the dict of an exception -/
  | xd (fs : List (Str × V))
  /-- a bound method, f of x -/
  | met (f x : Addr)
  /-- a range object lo, lo + 1, .. below hi -/
  | rng (lo hi : Int)
  /-- a thing that is known to the object (the script; a dict while a loop walks it): read, never written while it is so -/
  | frz (o : Obj) (u : HO)
  /-- a code object's table -/
  | tbl (ps : Array Value)
  /-- any other thing, by what is true of its one object (a def of one's own: SetO a S n := HO.ext fun h => ..) -/
  | ext (φ : Heap → Prop)

abbrev Hp := Addr → Option HO
def upd (H : Hp) (a : Addr) (o : HO) : Hp := fun b => if b = a then some o else H b
theorem upd_same {H : Hp} {a : Addr} {o : HO} : upd H a o a = some o := by unfold upd; rw [if_pos rfl]
theorem upd_ne {H : Hp} {a b : Addr} {o : HO} (h : b ≠ a) : upd H a o b = H b := by unfold upd; rw [if_neg h]
theorem upd_upd {H : Hp} {a : Addr} {o u : HO} : upd (upd H a o) a u = upd H a u := by
  funext b; unfold upd; split <;> rfl
/-- two objects of different content stand apart -/
theorem ne_of {H : Hp} {a b : Addr} {o u : HO} (h : H a = some o) (h' : H b = some u) (d : o ≠ u) : a ≠ b := by
  intro e; subst e; rw [h] at h'; exact d (Option.some.inj h')
theorem ne_of_none {H : Hp} {a b : Addr} {o : HO} (h : H a = some o) (h' : H b = none) : a ≠ b := by
  intro e; subst e; rw [h] at h'; cases h'

section
variable (P : Program) (w : World)
def ObjOk (H : Hp) (h : Heap) (a : Addr) : HO → Prop
  | .lst xs => xs.length ≤ sizeLine ∧ ∃ (its : List Value) (n : Nat), Vals xs its ∧ h.get? a = some { cls := .type "list", data := .seq its.toArray n }
  | .tup xs => xs.length ≤ sizeLine ∧ ∃ its : List Value, Vals xs its ∧ IsTup h a its.toArray
  | .dK kvs => kvs.length ≤ sizeLine ∧ (a == sysModules) = false ∧ ∃ vs, KV kvs vs ∧ h.DictOf (mixKind P w) a vs
  | .dT kvs => kvs.length ≤ sizeLine ∧ (a == sysModules) = false ∧ ∃ xs : List (List Key × Addr × Value),
      Paired (fun (p : List Key × V) (q : List Key × Addr × Value) => p.1 = q.1 ∧ H q.2.1 = some (.tup (p.1.map kV)) ∧ RelV p.2 q.2.2) kvs xs ∧
      ∃ o es ep, h.get? a = some o ∧ o.ExactDict ∧ o.data = .dict es ep ∧ es.toList = xs.map (entryOfKey (tupleKind (mixKind P w))) ∧ (xs.map (·.1)).Nodup
  | .set S n => h.SetOf (intKind P w) a S n
  | .ins C dx fs => H dx = some (.own a) ∧ fs.length ≤ 1000 ∧ dx ≠ a ∧ h.get? a = some (PySem.W.instObj C dx) ∧
      ∃ mA, h.Ns1 dx mA ∧ (∀ f, RelO (fs.lookup f) (mA f)) ∧ PySem.Within mA (fs.map (·.1))
  | .own _ => ∃ o, h.get? a = some o
  | .xd fs => ∃ mA, h.Ns1 a mA ∧ ∀ f, RelO (fs.lookup f) (mA f)
  | .rng lo hi => ∃ t u v, h.get? a = some { cls := .type "range", data := .fields #[.int lo t, .int hi u, .int 1 v] }
  | .frz o u => h.get? a = some o ∧ ObjOk H h a u
  | .tbl ps => h.get? a = some { cls := .none, data := .fields ps }
  | .met f x => h.get? a = some (PySem.W.methodObj (.ref f) (.ref x))
  | .ext φ => φ h ∧ (∃ o, h.get? a = some o) ∧ ∀ h1 h2 : Heap, φ h1 → (∀ o, h1.get? a = some o → h2.get? a = some o) → φ h2
/-- the abstract heap is held -/
def HOk (H : Hp) (h : Heap) : Prop := ∀ a o, H a = some o → ObjOk P w H h a o
end

section
variable {P : Program} {w : World} {H H' : Hp} {h h' : Heap} {a : Addr} {o : HO}
theorem ObjOk.lt (x : ObjOk P w H h a o) : a < h.objs.size := by
  cases o with
  | lst xs => obtain ⟨_, _, _, _, e⟩ := x; exact Heap.lt_size e
  | tup xs => obtain ⟨_, _, _, p⟩ := x; exact p.lt
  | dK kvs => obtain ⟨_, _, _, _, o, _, _, e, _⟩ := x; exact Heap.lt_size e
  | dT kvs => obtain ⟨_, _, _, _, o, _, _, e, _⟩ := x; exact Heap.lt_size e
  | set S n => obtain ⟨o, _, _, _, e, _⟩ := x; exact Heap.lt_size e
  | ins C dx fs => obtain ⟨_, _, _, e, _⟩ := x; exact Heap.lt_size e
  | own y => obtain ⟨_, e⟩ := x; exact Heap.lt_size e
  | xd fs => obtain ⟨_, ⟨_, _, _, e, _⟩, _⟩ := x; exact Heap.lt_size e
  | rng lo hi => obtain ⟨_, _, _, e⟩ := x; exact Heap.lt_size e
  | frz ob u => obtain ⟨e, _⟩ := x; exact Heap.lt_size e
  | tbl ps => exact Heap.lt_size (show h.get? a = some _ from x)
  | met f y => exact Heap.lt_size (show h.get? a = some _ from x)
  | ext φ => obtain ⟨_, ⟨_, e⟩, _⟩ := x; exact Heap.lt_size e
theorem Paired.mapP {α β : Type} {F G : α → β → Prop} : ∀ {l₁ : List α} {l₂ : List β}, Paired F l₁ l₂ → (∀ a b, F a b → G a b) → Paired G l₁ l₂
  | _, _, .nil, _ => .nil
  | _, _, .cons r t, f => .cons (f _ _ r) (Paired.mapP t f)
/-- what an object's description leans on: its own object, its own dict, the tuples -/
theorem ObjOk.stay (x : ObjOk P w H h a o) (k : ∀ b u, (b = a ∨ H b = some (.own a)) → h.get? b = some u → h'.get? b = some u)
    (ho : ∀ b, H b = some (.own a) → H' b = some (.own a)) (ht : ∀ b xs, H b = some (.tup xs) → H' b = some (.tup xs)) : ObjOk P w H' h' a o := by
  induction o with
  | lst xs => obtain ⟨z, its, n, r, e⟩ := x; exact ⟨z, its, n, r, k _ _ (.inl rfl) e⟩
  | tup xs => obtain ⟨z, its, r, ob, e, c⟩ := x; exact ⟨z, its, r, ob, k _ _ (.inl rfl) e, c⟩
  | dK kvs => obtain ⟨z, y, vs, r, ob, es, ep, e, c⟩ := x; exact ⟨z, y, vs, r, ob, es, ep, k _ _ (.inl rfl) e, c⟩
  | dT kvs =>
    obtain ⟨z, y, xs, r, ob, es, ep, e, c⟩ := x
    exact ⟨z, y, xs, Paired.mapP r fun p q z => ⟨z.1, ht _ _ z.2.1, z.2.2⟩, ob, es, ep, k _ _ (.inl rfl) e, c⟩
  | set S n => obtain ⟨ob, es, ep, t, e, c⟩ := x; exact ⟨ob, es, ep, t, k _ _ (.inl rfl) e, c⟩
  | ins C dx fs =>
    obtain ⟨d, z, ne, e, mA, ⟨od, es, ep, e2, c⟩, r⟩ := x
    exact ⟨ho _ d, z, ne, k _ _ (.inl rfl) e, mA, ⟨od, es, ep, k _ _ (.inr d) e2, c⟩, r⟩
  | own y => obtain ⟨ob, e⟩ := x; exact ⟨ob, k _ _ (.inl rfl) e⟩
  | xd fs => obtain ⟨mA, ⟨od, es, ep, e, c⟩, r⟩ := x; exact ⟨mA, ⟨od, es, ep, k _ _ (.inl rfl) e, c⟩, r⟩
  | rng lo hi => obtain ⟨t, u, v, e⟩ := x; exact ⟨t, u, v, k _ _ (.inl rfl) e⟩
  | frz ob u ih => obtain ⟨e, q⟩ := x; exact ⟨k _ _ (.inl rfl) e, ih q⟩
  | tbl ps =>
    have e : h.get? a = some { cls := .none, data := .fields ps } := x
    show h'.get? a = some { cls := .none, data := .fields ps }
    exact k a _ (.inl rfl) e
  | met f y =>
    have e : h.get? a = some (PySem.W.methodObj (.ref f) (.ref y)) := x
    show h'.get? a = some (PySem.W.methodObj (.ref f) (.ref y))
    exact k a _ (.inl rfl) e
  | ext φ => obtain ⟨p, ⟨o, e⟩, st⟩ := x; exact ⟨st _ _ p fun o q => k _ _ (.inl rfl) q, ⟨o, k _ _ (.inl rfl) e⟩, st⟩
theorem HOk.lt (x : HOk P w H h) (e : H a = some o) : a < h.objs.size := (x a o e).lt
theorem HOk.fresh (x : HOk P w H h) (e : h.objs.size ≤ a) : H a = none := by
  cases q : H a with
  | none => rfl
  | some u => exact absurd (Nat.lt_of_lt_of_le (x.lt q) e) (Nat.lt_irrefl _)
/-- every object of the heap is kept -/
theorem HOk.kept (x : HOk P w H h) (k : ∀ b u, h.get? b = some u → h'.get? b = some u) : HOk P w H h' := fun a o e =>
  (x a o e).stay (fun b u _ q => k b u q) (fun _ q => q) fun _ _ q => q
/-- a new object is laid and tracked -/
theorem HOk.laid (x : HOk P w H h) (k : ∀ b u, h.get? b = some u → h'.get? b = some u) (hp : h.objs.size ≤ a) (new : ObjOk P w (upd H a o) h' a o) : HOk P w (upd H a o) h' := fun b u e => by
  have hn := x.fresh hp
  by_cases hb : b = a
  · subst hb; rw [upd_same] at e; cases e; exact new
  · rw [upd_ne hb] at e
    exact (x b u e).stay (fun c v _ q => k c v q) (fun c q => by rw [upd_ne (ne_of_none q hn)]; exact q) fun c xs q => by rw [upd_ne (ne_of_none q hn)]; exact q
end

/-- what may be read as u: it is u, or a known u -/
def Rd (H : Hp) (a : Addr) (u : HO) : Prop := H a = some u ∨ ∃ o, H a = some (.frz o u)
theorem Rd.ok {P : Program} {w : World} {H : Hp} {h : Heap} {a : Addr} {u : HO} (r : Rd H a u) (x : HOk P w H h) : ObjOk P w H h a u := by
  rcases r with r | ⟨o, r⟩
  · exact x a u r
  · obtain ⟨_, q⟩ := x a _ r
    exact q
/-- what may be written -/
def Mut : Option HO → Prop
  | some (.lst _) => True
  | some (.dK _) => True
  | some (.dT _) => True
  | some (.set _ _) => True
  | some (.ins _ _ _) => True
  | some (.ext _) => True
  | _ => False
section
variable {P : Program} {w : World} {H : Hp} {h h' : Heap} {x e : Addr} {o' : HO}
/-- the object at e is changed: x itself, or the dict of the instance x -/
theorem HOk.write (ok : HOk P w H h) (mu : Mut (H x)) (he : e = x ∨ H e = some (.own x)) (k : ∀ b u, b ≠ e → h.get? b = some u → h'.get? b = some u) (heo : ∃ u, h'.get? e = some u)
    (new : ObjOk P w (upd H x o') h' x o') : HOk P w (upd H x o') h' := fun b u q => by
  have nown : ∀ c y, H c = some (.own y) → c ≠ x := fun c y r z => by subst z; rw [r] at mu; exact mu
  have ntup : ∀ c xs, H c = some (.tup xs) → c ≠ x := fun c xs r z => by subst z; rw [r] at mu; exact mu
  by_cases hb : b = x
  · subst hb; rw [upd_same] at q; cases q; exact new
  · rw [upd_ne hb] at q
    by_cases hbe : b = e
    · have q' : H b = some (.own x) := by
        rcases he with z | z
        · exact absurd (hbe.trans z) hb
        · rw [hbe]; exact z
      rw [q] at q'; cases q'
      obtain ⟨v, hv⟩ := heo
      exact ⟨v, by rw [hbe]; exact hv⟩
    · refine (ok b u q).stay (fun c v hc r => k c v ?_ r) (fun c r => by rw [upd_ne (nown c b r)]; exact r) fun c xs r => by rw [upd_ne (ntup c xs r)]; exact r
      rcases hc with rfl | hc
      · exact hbe
      · rintro rfl
        rcases he with z | z
        · exact nown c b hc z
        · rw [hc] at z; cases z; exact hb rfl
end

/-! ### kept unless tracked; of the frames at fs (the callers') the slots may change (an exception that passes writes there); of the records at ex (iterators) nothing is said -/
structure Un (fs ex : List Addr) (H H' : Hp) (h h' : Heap) : Prop where
  keep : ∀ b o, h.get? b = some o → H b = none → b ∉ fs → b ∉ ex → h'.get? b = some o
  slot : ∀ b o, h.get? b = some o → H b = none → b ∈ fs → b ∉ ex → ∃ sl, h'.get? b = some { o with slots := sl }
  free : ∀ b o, h.get? b = some o → H b = none → b ∉ ex → H' b = none
  there : ∀ b o, h.get? b = some o → b ∉ ex → ∃ o', h'.get? b = some o'
  tups : ∀ b xs, H b = some (.tup xs) → H' b = some (.tup xs)
  frzs : ∀ b o u, H b = some (.frz o u) → H' b = some (.frz o u)
  tbls : ∀ b ps, H b = some (.tbl ps) → ∃ more, H' b = some (.tbl (ps ++ more))
section
variable {fs fs' ex ex' : List Addr} {H H1 H2 : Hp} {h h1 h2 h' : Heap} {a x e : Addr} {o : HO}
theorem Un.any (u : Un fs ex H H1 h h1) {b : Addr} {ob : Obj} (q : h.get? b = some ob) (n : H b = none) (hx : b ∉ ex) : ∃ sl, h1.get? b = some { ob with slots := sl } := by
  by_cases hb : b ∈ fs
  · exact u.slot b ob q n hb hx
  · exact ⟨ob.slots, u.keep b ob q n hb hx⟩
theorem Un.kept (k : ∀ b u, h.get? b = some u → h'.get? b = some u) : Un fs ex H H h h' :=
  ⟨fun b ob q _ _ _ => k b ob q, fun b ob q _ _ _ => ⟨ob.slots, k b ob q⟩, fun _ _ _ n _ => n, fun b ob q _ => ⟨ob, k b ob q⟩, fun _ _ q => q, fun _ _ _ q => q, fun _ ps q => ⟨#[], by rw [q]; simp⟩⟩
theorem Un.refl : Un fs ex H H h h := Un.kept fun _ _ q => q
theorem Un.laid (k : ∀ b u, h.get? b = some u → h'.get? b = some u) (hp : h.objs.size ≤ a) (hn : H a = none) : Un fs ex H (upd H a o) h h' where
  keep := fun b u q _ _ _ => k b u q
  slot := fun b u q _ _ _ => ⟨u.slots, k b u q⟩
  free := fun b u q n _ => by rw [upd_ne (Nat.ne_of_lt (Nat.lt_of_lt_of_le (Heap.lt_size q) hp))]; exact n
  there := fun b u q _ => ⟨u, k b u q⟩
  tups := fun b xs q => by rw [upd_ne (ne_of_none q hn)]; exact q
  frzs := fun b u xs q => by rw [upd_ne (ne_of_none q hn)]; exact q
  tbls := fun b ps q => ⟨#[], by rw [upd_ne (ne_of_none q hn), q]; simp⟩
theorem Un.write (mu : Mut (H x)) (he : e = x ∨ H e = some (.own x)) (k : ∀ b u, b ≠ e → h.get? b = some u → h'.get? b = some u) (heo : ∃ u, h'.get? e = some u) : Un fs ex H (upd H x o) h h' := by
  have hx : ∀ b, H b = none → b ≠ x := fun b n z => by subst z; rw [n] at mu; exact mu
  have hb : ∀ b, H b = none → b ≠ e := fun b n z => by
    subst z
    rcases he with r | r
    · exact hx b n r
    · rw [n] at r; cases r
  have hm : ∀ b u, H b = some u → ¬ Mut (some u) → b ≠ x := fun b u q nm z => by subst z; rw [q] at mu; exact nm mu
  refine ⟨fun b u q n _ _ => k b u (hb b n) q, fun b u q n _ _ => ⟨u.slots, k b u (hb b n) q⟩, fun b u q n _ => by rw [upd_ne (hx b n)]; exact n, fun b u q _ => ?_,
    fun b xs q => by rw [upd_ne (hm b _ q fun z => z)]; exact q, fun b u xs q => by rw [upd_ne (hm b _ q fun z => z)]; exact q, fun b ps q => ⟨#[], by rw [upd_ne (hm b _ q fun z => z), q]; simp⟩⟩
  by_cases hbe : b = e
  · subst hbe; exact heo
  · exact ⟨u, k b u hbe q⟩
end

/-! ### the heap without what is tracked -/
def trk (h : Heap) (H : Hp) : List Addr := (List.range h.objs.size).filter fun a => (H a).isSome
def hidT (h : Heap) (H : Hp) : Heap := PySem.W.hideAll h (trk h H)
theorem hidT_size (h : Heap) (H : Hp) : (hidT h H).objs.size = h.objs.size := PySem.W.hideAll_size _ _
theorem hidT_get {h : Heap} {H : Hp} {b : Addr} {o : Obj} (e : h.get? b = some o) (n : H b = none) : (hidT h H).get? b = some o :=
  PySem.W.hideAll_get _ e fun hm => by
    have q : (H b).isSome = true := (List.mem_filter.mp hm).2
    rw [n] at q; simp at q
theorem of_hidT {h : Heap} {H : Hp} {b : Addr} {o : Obj} (e : (hidT h H).get? b = some o) : h.get? b = some o ∧ H b = none := by
  have e' : h.get? b = some o := PySem.W.of_hideAll (trk h H) e
  refine ⟨e', ?_⟩
  cases q : H b with
  | none => rfl
  | some x =>
    have hm : b ∈ trk h H := List.mem_filter.mpr ⟨List.mem_range.mpr (Heap.lt_size e'), by simp [q]⟩
    have z : (hidT h H).get? b = none := PySem.W.hideAll_none (trk h H) hm
    rw [z] at e; cases e

/-! ### OpenK's ledger, filled with every new object but one -/
end L2

namespace L2
open PySem PySem.Spec PyProof.Rows

/-- the module's facts, over the base: the heap at the law's entry without what is tracked there -/
structure Mod (K : PySem.W.Frag) (mg : Str → Option Value) (base : Heap) : Prop where
  kin : K.In base
  glob : base.Ns mainGlobals mg
  blt : ∃ mb, base.Ns builtinsNs mb ∧ ∀ x : Str, x ≠ "__name__" → mb x = bootBuiltins x
  nolimit : base.NoLimit

/-- the context: a def's body (or a comprehension's block) running. base: fixed through the whole law; s₀, H₀: the entry; outer: the frames whose slots others may change (a def's callers); stack: all frames that run;
   ex: iterators that were made ahead of the entry and are walked here (a comprehension's); fn: the names whose cells were made at the entry (a def: all; a comprehension's block: its own); calm: not within an except suite; pn: pins that every state bears; xe: what is wanted of an exception that leaves the code -/
structure Cx where
  prog : Program
  w : World
  K : PySem.W.Frag
  mg : Str → Option Value
  base : Heap
  A : Around
  N : List Str
  s₀ : Shared
  H₀ : Hp
  env : Env
  outer : List Env
  stack : List Env
  ex : List Addr
  fn : Str → Bool
  calm : Bool
  pn : List (Addr × Obj)
  xe : Value → Shared → Prop
/-- the callers' frames -/
def frs (l : List Env) : List Addr := l.filterMap (·.frame)
abbrev Cx.fs (X : Cx) : List Addr := frs X.outer

def Vis (sc : Scope) (x : Str) : Prop := sc.names.lookup x = some .local ∨ sc.names.lookup x = some .cell ∨ sc.names.lookup x = some .free
def Loc (sc : Scope) (x : Str) : Prop := sc.names.lookup x = some .local ∨ sc.names.lookup x = some .cell
def Look (env : Env) (h : Heap) (m : Str → Option Value) (x : Str) (u : Value) : Prop :=
  (env.kindOf x = some .local ∧ m x = some u) ∨ ((env.kindOf x = some .cell ∨ env.kindOf x = some .free) ∧ ∃ c, env.cells.lookup x = some c ∧ h.IsCell c (some u))

structure Cx.Ok (X : Cx) : Prop where
  mod : Mod X.K X.mg X.base
  kind : X.env.scope.kind = .function
  glob : X.env.globals = mainGlobals
  blt : X.env.builtins = builtinsNs
  above : X.s₀.heap.objs.size ≤ X.env.locals
  inj : ∀ x y c, X.env.cells.lookup x = some c → X.env.cells.lookup y = some c → x = y
  has : ∀ x, (X.env.kindOf x = some .cell ∨ X.env.kindOf x = some .free) → ∃ c, X.env.cells.lookup x = some c
  cab : ∀ x c, X.fn x = true → X.env.cells.lookup x = some c → X.s₀.heap.objs.size ≤ c
  hd : X.calm = true → X.A.handled = none
  frames : X.A.frames = some X.stack
  stk : X.stack = X.outer ∨ (X.stack = X.env :: X.outer ∧ X.env.frame = some X.env.locals)
  exf : ∀ b ∈ X.ex, b ≠ X.env.locals ∧ ∀ x c, X.env.cells.lookup x = some c → c ≠ b
  bs : ∀ b o, X.base.get? b = some o → X.s₀.heap.get? b = some o ∧ X.H₀ b = none
  bsz : X.base.objs.size ≤ X.s₀.heap.objs.size
  noex : ∀ b o, X.base.get? b = some o → b ∉ X.ex
  exfs : ∀ b ∈ X.ex, b ∉ X.fs
  funs : X.s₀.heap.FunFrames X.base X.outer
  frf : ∀ b ∈ X.fs, X.H₀ b = none

structure Inv (X : Cx) (pins : List (Addr × Obj)) (σ : List (Option V)) (H : Hp) (s : Shared) : Prop where
  ok : X.Ok
  os : s.os = X.s₀.os
  bare : AllBare s.gens
  base : Un X.fs X.ex X.H₀ H X.s₀.heap s.heap
  loc : ∃ m, s.heap.Ns X.env.locals m ∧ ∀ (i : Nat) (x : Str) (v : V), X.N[i]? = some x → σ[i]? = some (some v) → Vis X.env.scope x → ∃ u, RelV v u ∧ Look X.env s.heap m x u
  cell : ∀ x c, X.env.cells.lookup x = some c → ∃ v, s.heap.IsCell c v
  free : H X.env.locals = none
  freeC : ∀ x c, X.env.cells.lookup x = some c → H c = none
  pin : ∀ p ∈ X.pn ++ pins, s.heap.get? p.1 = some p.2 ∧ H p.1 = none ∧ p.1 ≠ X.env.locals ∧ p.1 ∉ X.fs ∧ ∀ v, p.2.data ≠ .cell v
  hok : HOk X.prog X.w H s.heap
  len : σ.length = X.N.length

section
variable {X : Cx} {pins : List (Addr × Obj)} {σ : List (Option V)} {H H' : Hp} {s : Shared} {h' : Heap}

theorem Cx.Ok.nofr (ok : X.Ok) {b : Addr} {o : Obj} (e : X.base.get? b = some o) : b ∉ X.fs := fun hb => by
  have := (ok.funs.mem hb).1
  rw [e] at this; cases this
theorem Inv.bs (I : Inv X pins σ H s) : ∀ b o, X.base.get? b = some o → s.heap.get? b = some o ∧ H b = none := fun b o e =>
  ⟨I.base.keep b o (I.ok.bs b o e).1 (I.ok.bs b o e).2 (I.ok.nofr e) (I.ok.noex b o e), I.base.free b o (I.ok.bs b o e).1 (I.ok.bs b o e).2 (I.ok.noex b o e)⟩
theorem Inv.bk (I : Inv X pins σ H s) : ∀ b o, X.base.get? b = some o → s.heap.get? b = some o := fun b o e => (I.bs b o e).1
theorem Inv.mod (I : Inv X pins σ H s) : Mod X.K X.mg X.base := I.ok.mod
theorem Inv.kIn (I : Inv X pins σ H s) : X.K.In s.heap := I.ok.mod.kin.keeps I.bk
theorem Inv.lt (I : Inv X pins σ H s) : X.env.locals < s.heap.objs.size := let ⟨_, hn, _⟩ := I.loc; hn.lt
theorem Inv.sz (I : Inv X pins σ H s) : X.s₀.heap.objs.size ≤ s.heap.objs.size := Nat.le_trans I.ok.above (Nat.le_of_lt I.lt)
theorem Inv.nofs (I : Inv X pins σ H s) {a : Addr} (h : s.heap.objs.size ≤ a) : a ∉ X.fs := fun hb => by
  obtain ⟨_, o, ho, _⟩ := I.ok.funs.mem hb
  exact absurd (Nat.lt_of_lt_of_le (Heap.lt_size ho) (Nat.le_trans I.sz h)) (Nat.lt_irrefl _)
theorem Inv.cne (I : Inv X pins σ H s) : ∀ x c, X.env.cells.lookup x = some c → c ≠ X.env.locals := fun x c e z => by
  obtain ⟨v, o, ho, hd⟩ := I.cell x c e
  obtain ⟨m, ⟨o', es, ep, ho', hd', _⟩, _⟩ := I.loc
  rw [z, ho'] at ho; cases ho; rw [hd'] at hd; cases hd
theorem Inv.funs (I : Inv X pins σ H s) : s.heap.FunFrames X.base X.outer := by
  have all : ∀ (l : List Env), (∀ b ∈ frs l, b ∈ X.fs) → X.s₀.heap.FunFrames X.base l → s.heap.FunFrames X.base l := by
    intro l
    induction l with
    | nil => intro _ _; trivial
    | cons env r ih =>
      intro hs hl
      obtain ⟨hk, ⟨L, o, hf, hn, ho, hd⟩, hr⟩ := hl
      have hL : L ∈ X.fs := hs L (by unfold frs; rw [List.filterMap_cons, hf]; exact List.mem_cons_self)
      obtain ⟨sl, e⟩ := I.base.slot L o ho (I.ok.frf L hL) hL fun z => I.ok.exfs L z hL
      exact ⟨hk, ⟨L, _, hf, hn, e, hd⟩, ih (fun b hb => hs b (by unfold frs; rw [List.filterMap_cons, hf]; exact List.mem_cons_of_mem _ hb)) hr⟩
  exact all X.outer (fun _ hb => hb) I.ok.funs

/-- the frames that run, for a call -/
theorem Inv.stack (I : Inv X pins σ H s) : s.heap.FunFrames X.base X.stack := by
  rcases I.ok.stk with e | ⟨e, hf⟩
  · rw [e]; exact I.funs
  · rw [e]
    obtain ⟨m, hn, _⟩ := I.loc
    refine .cons (by rw [I.ok.kind]; decide) hf hn ?_ I.funs
    exact Heap.get?_none_of_le (Nat.le_trans I.ok.bsz I.ok.above)
theorem Inv.stkSub (I : Inv X pins σ H s) : ∀ b ∈ frs X.stack, b ∈ X.env.locals :: X.fs := fun b hb => by
  rcases I.ok.stk with e | ⟨e, hf⟩
  · rw [e] at hb; exact List.mem_cons_of_mem _ hb
  · rw [e] at hb
    unfold frs at hb
    rw [List.filterMap_cons, hf] at hb
    exact hb
theorem Inv.stkFree (I : Inv X pins σ H s) : ∀ b ∈ frs X.stack, H b = none := fun b hb => by
  rcases List.mem_cons.mp (I.stkSub b hb) with e | hb
  · rw [e]; exact I.free
  · obtain ⟨_, o, ho, _⟩ := I.ok.funs.mem hb
    exact I.base.free b o ho (I.ok.frf b hb) fun z => I.ok.exfs b z hb

/-- THE STEP: the untracked objects but the frame and the records at ch are kept (the callers' frames up to slots), the frame's map is kept, the new abstract heap is held -/
theorem Inv.step {g' : Array GenState} {t' : Nat} {d' : Drawn} {ch : List Addr} (I : Inv X pins σ H s)
    (hch : ∀ b ∈ ch, (b ∈ X.ex ∨ X.s₀.heap.objs.size ≤ b) ∧ b ≠ X.env.locals ∧ (∀ x c, X.env.cells.lookup x = some c → c ≠ b) ∧ ∀ p ∈ X.pn ++ pins, p.1 ≠ b)
    (keep : ∀ b o, b ≠ X.env.locals → b ∉ X.fs → b ∉ ch → s.heap.get? b = some o → H b = none → h'.get? b = some o)
    (slot : ∀ b o, b ≠ X.env.locals → b ∈ X.fs → b ∉ ch → s.heap.get? b = some o → H b = none → ∃ sl, h'.get? b = some { o with slots := sl }) (free : ∀ b o, b ∉ ch → s.heap.get? b = some o → H b = none → H' b = none)
    (there : ∀ b o, b ∉ ch → s.heap.get? b = some o → ∃ o', h'.get? b = some o')
    (tups : ∀ b xs, H b = some (.tup xs) → H' b = some (.tup xs)) (frzs : ∀ b o u, H b = some (.frz o u) → H' b = some (.frz o u)) (tbls : ∀ b ps, H b = some (.tbl ps) → ∃ more, H' b = some (.tbl (ps ++ more)))
    (ns : ∀ m, s.heap.Ns X.env.locals m → h'.Ns X.env.locals m) (hok : HOk X.prog X.w H' h') (hg : AllBare g') :
    Inv X pins σ H' { s with heap := h', gens := g', drawn := d', toks := t' } := by
  have neL : ∀ b o, X.s₀.heap.get? b = some o → b ≠ X.env.locals := fun b o e => Nat.ne_of_lt (Nat.lt_of_lt_of_le (Heap.lt_size e) I.ok.above)
  have neC : ∀ b o, X.s₀.heap.get? b = some o → b ∉ X.ex → b ∉ ch := fun b o e hx hb => by
    rcases (hch b hb).1 with z | z
    · exact hx z
    · exact absurd (Nat.lt_of_lt_of_le (Heap.lt_size e) z) (Nat.lt_irrefl _)
  have cellK : ∀ x c, X.env.cells.lookup x = some c → ∀ v, s.heap.IsCell c v → h'.IsCell c v := fun x c e v ⟨o, ho, hd⟩ => by
    have nch : c ∉ ch := fun z => (hch c z).2.2.1 x c e rfl
    by_cases hc : c ∈ X.fs
    · obtain ⟨sl, q⟩ := slot c o (I.cne x c e) hc nch ho (I.freeC x c e)
      exact ⟨_, q, hd⟩
    · exact ⟨o, keep c o (I.cne x c e) hc nch ho (I.freeC x c e), hd⟩
  refine ⟨I.ok, I.os, hg, ⟨fun b o e n hb hx => ?_, fun b o e n hb hx => ?_, fun b o e n hx => ?_, fun b o e hx => ?_, fun b xs e => tups b xs (I.base.tups b xs e), fun b o xs e => frzs b o xs (I.base.frzs b o xs e), fun b ps e => ?_⟩, ?_, fun x c e => ?_, ?_, fun x c e => ?_, fun p hp => ?_, hok, I.len⟩
  · exact keep b o (neL b o e) hb (neC b o e hx) (I.base.keep b o e n hb hx) (I.base.free b o e n hx)
  · obtain ⟨sl, e1⟩ := I.base.slot b o e n hb hx
    obtain ⟨sl', e2⟩ := slot b _ (neL b o e) hb (neC b o e hx) e1 (I.base.free b o e n hx)
    exact ⟨sl', e2⟩
  · obtain ⟨o', e1⟩ := I.base.there b o e hx
    exact free b o' (neC b o e hx) e1 (I.base.free b o e n hx)
  · obtain ⟨o', e1⟩ := I.base.there b o e hx
    exact there b o' (neC b o e hx) e1
  · obtain ⟨m1, e1⟩ := I.base.tbls b ps e
    obtain ⟨m2, e2⟩ := tbls b _ e1
    exact ⟨m1 ++ m2, by rw [e2, Array.append_assoc]⟩
  · obtain ⟨m, hn, hl⟩ := I.loc
    refine ⟨m, ns m hn, fun i x v e1 e2 e3 => ?_⟩
    obtain ⟨u, r, l⟩ := hl i x v e1 e2 e3
    refine ⟨u, r, ?_⟩
    rcases l with l | ⟨k, c, e, z⟩
    · exact .inl l
    · exact .inr ⟨k, c, e, cellK x c e _ z⟩
  · obtain ⟨v, z⟩ := I.cell x c e
    exact ⟨v, cellK x c e v z⟩
  · obtain ⟨m, ⟨o, _, _, ho, _⟩, _⟩ := I.loc
    exact free _ o (fun z => (hch _ z).2.1 rfl) ho I.free
  · obtain ⟨v, o, ho, hd⟩ := I.cell x c e
    exact free c o (fun z => (hch c z).2.2.1 x c e rfl) ho (I.freeC x c e)
  · obtain ⟨e, n, ne, nf, d⟩ := I.pin p hp
    have nch : p.1 ∉ ch := fun z => (hch p.1 z).2.2.2 p hp rfl
    exact ⟨keep p.1 p.2 ne nf nch e n, free p.1 p.2 nch e n, ne, nf, d⟩
/-- .. where the frame's own object is kept too -/
theorem Inv.un {t' : Nat} (I : Inv X pins σ H s) (u : Un X.fs [] H H' s.heap h') (hok : HOk X.prog X.w H' h') : Inv X pins σ H' { s with heap := h', toks := t' } := by
  obtain ⟨m, ⟨o, es, ep, ho, r⟩, _⟩ := id I.loc
  obtain ⟨sl, hL⟩ := u.any ho I.free (by simp)
  exact I.step (g' := s.gens) (d' := s.drawn) (ch := []) (fun _ z => nomatch z) (fun b o _ hb _ e n => u.keep b o e n hb (by simp)) (fun b o _ hb _ e n => u.slot b o e n hb (by simp)) (fun b o _ e n => u.free b o e n (by simp)) (fun b o _ e => u.there b o e (by simp)) u.tups u.frzs u.tbls (fun m' hm => by
    obtain ⟨o', es', ep', ho', r'⟩ := hm
    rw [ho] at ho'; cases ho'
    exact ⟨_, es', ep', hL, r'⟩) hok I.bare
/-- behind a call (or a comprehension's block): the slots of this frame may have changed too, the records at ch may have turned -/
theorem Inv.call {g' : Array GenState} {t' : Nat} {d' : Drawn} {ch : List Addr} (I : Inv X pins σ H s) (u : Un (frs X.stack) ch H H' s.heap h') (hok : HOk X.prog X.w H' h') (hg : AllBare g')
    (hch : ∀ b ∈ ch, (b ∈ X.ex ∨ X.s₀.heap.objs.size ≤ b) ∧ b ≠ X.env.locals ∧ (∀ x c, X.env.cells.lookup x = some c → c ≠ b) ∧ ∀ p ∈ X.pn ++ pins, p.1 ≠ b) :
    Inv X pins σ H' { s with heap := h', gens := g', drawn := d', toks := t' } := by
  obtain ⟨m, ⟨o, es, ep, ho, r⟩, _⟩ := id I.loc
  obtain ⟨sl, hL⟩ := u.any ho I.free fun z => (hch _ z).2.1 rfl
  exact I.step (ch := ch) hch (fun b o hL hb hc e n => u.keep b o e n (fun z => (List.mem_cons.mp (I.stkSub b z)).elim hL hb) hc) (fun b o _ _ hc e n => u.any e n hc) (fun b o hc e n => u.free b o e n hc) (fun b o hc e => u.there b o e hc) u.tups u.frzs u.tbls (fun m' hm => by
    obtain ⟨o', es', ep', ho', r'⟩ := hm
    rw [ho] at ho'; cases ho'
    exact ⟨_, es', ep', hL, r'⟩) hok hg
/-- an untracked record of ours (an iterator) has turned -/
theorem Inv.turned {t' : Nat} {it : Addr} (I : Inv X pins σ H s) (k : ∀ b o, b ≠ it → s.heap.get? b = some o → h'.get? b = some o) (hn : H it = none) (hL : it ≠ X.env.locals)
    (h1 : it ∈ X.ex ∨ X.s₀.heap.objs.size ≤ it) (h2 : ∀ x c, X.env.cells.lookup x = some c → c ≠ it) (h3 : ∀ p ∈ X.pn ++ pins, p.1 ≠ it) : Inv X pins σ H { s with heap := h', toks := t' } := by
  have nit : ∀ b u, H b = some u → b ≠ it := fun b u e z => by rw [z, hn] at e; cases e
  refine I.step (g' := s.gens) (d' := s.drawn) (ch := [it]) (fun b hb => ?_) (fun b o _ _ hc e _ => k b o (fun z => hc (by simp [z])) e) (fun b o _ _ hc e _ => ⟨o.slots, k b o (fun z => hc (by simp [z])) e⟩) (fun _ _ _ _ n => n)
    (fun b o hc e => ⟨o, k b o (fun z => hc (by simp [z])) e⟩) (fun _ _ e => e) (fun _ _ _ e => e) (fun b ps e => ⟨#[], by rw [e]; simp⟩) (fun m hm => ?_) (fun b u e => ?_) I.bare
  · have e : b = it := by simpa using hb
    subst e
    exact ⟨h1, hL, h2, h3⟩
  · obtain ⟨o, es, ep, ho, r⟩ := hm
    exact ⟨o, es, ep, k _ o (Ne.symm hL) ho, r⟩
  · refine (I.hok b u e).stay (fun c v hc q => k c v ?_ q) (fun _ q => q) fun _ _ q => q
    rcases hc with z | z
    · rw [z]; exact nit b u e
    · exact nit c _ z
theorem Inv.tok (I : Inv X pins σ H s) (t : Nat) : Inv X pins σ H { s with toks := t } := I.un (h' := s.heap) (t' := t) Un.refl I.hok
/-- all objects kept -/
theorem Inv.kept {t' : Nat} (I : Inv X pins σ H s) (k : ∀ b u, s.heap.get? b = some u → h'.get? b = some u) : Inv X pins σ H { s with heap := h', toks := t' } := I.un (Un.kept k) (I.hok.kept k)
/-- a new object laid and tracked -/
theorem Inv.laid {a : Addr} {o : HO} {t' : Nat} (I : Inv X pins σ H s) (k : ∀ b u, s.heap.get? b = some u → h'.get? b = some u) (hp : s.heap.objs.size ≤ a) (new : ObjOk X.prog X.w (upd H a o) h' a o) :
    Inv X pins σ (upd H a o) { s with heap := h', toks := t' } := I.un (Un.laid k hp (I.hok.fresh hp)) (I.hok.laid k hp new)
/-- an object written -/
theorem Inv.write {x e : Addr} {o : HO} {t' : Nat} (I : Inv X pins σ H s) (mu : Mut (H x)) (he : e = x ∨ H e = some (.own x)) (k : ∀ b u, b ≠ e → s.heap.get? b = some u → h'.get? b = some u) (heo : ∃ u, h'.get? e = some u)
    (new : ObjOk X.prog X.w (upd H x o) h' x o) : Inv X pins σ (upd H x o) { s with heap := h', toks := t' } := I.un (Un.write mu he k heo) (I.hok.write mu he k heo new)
/-- forgetting slots, pins -/
theorem Inv.weak {σ' : List (Option V)} (I : Inv X pins σ H s) (hl : σ'.length = σ.length) (w : ∀ (i : Nat) v, σ'[i]? = some (some v) → σ[i]? = some (some v)) : Inv X pins σ' H s :=
  ⟨I.ok, I.os, I.bare, I.base, let ⟨m, hn, hl'⟩ := I.loc; ⟨m, hn, fun i x v e1 e2 e3 => hl' i x v e1 (w i v e2) e3⟩, I.cell, I.free, I.freeC, I.pin, I.hok, hl.trans I.len⟩
theorem Inv.pins_of {pins' : List (Addr × Obj)} (I : Inv X pins σ H s) (h : ∀ p ∈ pins', s.heap.get? p.1 = some p.2 ∧ H p.1 = none ∧ p.1 ≠ X.env.locals ∧ p.1 ∉ X.fs ∧ ∀ v, p.2.data ≠ .cell v) : Inv X pins' σ H s :=
  ⟨I.ok, I.os, I.bare, I.base, I.loc, I.cell, I.free, I.freeC, fun p hp => (List.mem_append.mp hp).elim (fun z => I.pin p (List.mem_append_left _ z)) (h p), I.hok, I.len⟩

theorem nodup_ix {N : List Str} (hN : N.Nodup) {i j : Nat} {x : Str} (a : N[i]? = some x) (b : N[j]? = some x) : i = j := by
  obtain ⟨h1, e1⟩ := List.getElem?_eq_some_iff.mp a
  obtain ⟨h2, e2⟩ := List.getElem?_eq_some_iff.mp b
  exact (List.getElem_inj hN).mp (e1.trans e2.symm)

/-- a name is stored; what changed -/
theorem store_ok2 {M : Model} {A : Around} {E : Value → Shared → Prop} {i : Nat} {x : Str} {v : V} {u : Value} {Q : Unit → Shared → Prop} (I : Inv X pins σ H s) (hN : X.N.Nodup) (hi : X.N[i]? = some x) (hx : Loc X.env.scope x) (r : RelV v u)
    (h : ∀ s', Inv X pins (σ.set i (some v)) H s' → (∃ a, Heap.SameBut a s.heap s'.heap ∧ (a = X.env.locals ∨ X.env.cells.lookup x = some a)) → Q () s') (hf : X.fn x = true ∨ X.env.scope.names.lookup x = some .local := by first | exact .inl rfl | exact .inr rfl | assumption) : wpAny M A (storeName X.env x u) Q E s := by
  obtain ⟨m, hn, hl⟩ := id I.loc
  have hcls : (X.env.scope.kind == .class || (X.env.scope.kind == .module && X.env.locals != X.env.globals)) = false := by rw [I.ok.kind]; rfl
  have hiσ : i < σ.length := by rw [I.len]; exact (List.getElem?_eq_some_iff.mp hi).1
  have cne := I.cne
  have tracked : ∀ {a : Addr} {h' : Heap}, (∃ o, s.heap.get? a = some o ∧ H a = none) → Heap.SameBut a s.heap h' → HOk X.prog X.w H h' := fun {a h'} ha hs b ob e => by
    obtain ⟨_, _, hfree⟩ := ha
    refine (I.hok b ob e).stay (fun c w' hc q => (hs.2 c ?_).trans q) (fun _ q => q) fun _ _ q => q
    rintro rfl
    rcases hc with rfl | hc
    · rw [hfree] at e; cases e
    · rw [hfree] at hc; cases hc
  rcases hx with hk | hk
  · refine wpAny_storeName_local hk hn (fun h' hn' hs => ?_) hcls
    obtain ⟨oL, _, _, hoL, _⟩ := id hn
    refine h _ ⟨I.ok, I.os, I.bare, ⟨fun b o e n hb hx => ?_, fun b o e n hb hx => ?_, I.base.free, fun b o e hx => ?_, I.base.tups, I.base.frzs, I.base.tbls⟩, ⟨_, hn', fun j y v' e1 e2 e3 => ?_⟩, fun y c e => ?_, I.free, I.freeC, fun p hp => ?_, tracked ⟨oL, hoL, I.free⟩ hs, by simpa using I.len⟩ ⟨_, hs, .inl rfl⟩
    · exact (hs.2 b (Nat.ne_of_lt (Nat.lt_of_lt_of_le (Heap.lt_size e) I.ok.above))).trans (I.base.keep b o e n hb hx)
    · obtain ⟨sl, e1⟩ := I.base.slot b o e n hb hx
      exact ⟨sl, (hs.2 b (Nat.ne_of_lt (Nat.lt_of_lt_of_le (Heap.lt_size e) I.ok.above))).trans e1⟩
    · obtain ⟨o', e1⟩ := I.base.there b o e hx
      exact ⟨o', (hs.2 b (Nat.ne_of_lt (Nat.lt_of_lt_of_le (Heap.lt_size e) I.ok.above))).trans e1⟩
    · by_cases hj : j = i
      · subst hj
        rw [hi] at e1; cases e1
        rw [List.getElem?_set_self hiσ] at e2
        cases e2
        exact ⟨u, r, .inl ⟨hk, by simp⟩⟩
      · rw [List.getElem?_set_ne (Ne.symm hj)] at e2
        obtain ⟨u', r', q⟩ := hl j y v' e1 e2 e3
        refine ⟨u', r', ?_⟩
        rcases q with ⟨k, e⟩ | ⟨k, c, e, z⟩
        · refine .inl ⟨k, ?_⟩
          have : y ≠ x := fun e => hj (nodup_ix hN e1 (e ▸ hi))
          simp [this, e]
        · exact .inr ⟨k, c, e, z.sameBut hs (cne y c e)⟩
    · obtain ⟨w', z⟩ := I.cell y c e
      exact ⟨w', z.sameBut hs (cne y c e)⟩
    · obtain ⟨e, n, ne, nf, d⟩ := I.pin p hp
      exact ⟨(hs.2 p.1 ne).trans e, n, ne, nf, d⟩
  · have hfn : X.fn x = true := by
      rcases hf with z | z
      · exact z
      · rw [z] at hk; cases hk
    obtain ⟨c, hc⟩ := I.ok.has x (.inl hk)
    obtain ⟨w', z⟩ := I.cell x c hc
    refine wpAny_storeName_cell I.ok.kind hk hc z (fun h' hc' hs => ?_)
    obtain ⟨oc, hoc, hocd⟩ := id z
    refine h { s with heap := h' } ⟨I.ok, I.os, I.bare, ⟨fun b o e n hb hx => ?_, fun b o e n hb hx => ?_, I.base.free, fun b o e hx => ?_, I.base.tups, I.base.frzs, I.base.tbls⟩, ⟨m, hn.sameBut hs (Ne.symm (cne x c hc)), fun j y v' e1 e2 e3 => ?_⟩, fun y c' e => ?_, I.free, I.freeC, fun p hp => ?_, tracked ⟨oc, hoc, I.freeC x c hc⟩ hs, by simpa using I.len⟩ ⟨c, hs, .inr hc⟩
    · exact (hs.2 b (Nat.ne_of_lt (Nat.lt_of_lt_of_le (Heap.lt_size e) (I.ok.cab x c hfn hc)))).trans (I.base.keep b o e n hb hx)
    · obtain ⟨sl, e1⟩ := I.base.slot b o e n hb hx
      exact ⟨sl, (hs.2 b (Nat.ne_of_lt (Nat.lt_of_lt_of_le (Heap.lt_size e) (I.ok.cab x c hfn hc)))).trans e1⟩
    · obtain ⟨o', e1⟩ := I.base.there b o e hx
      exact ⟨o', (hs.2 b (Nat.ne_of_lt (Nat.lt_of_lt_of_le (Heap.lt_size e) (I.ok.cab x c hfn hc)))).trans e1⟩
    · by_cases hj : j = i
      · subst hj
        rw [hi] at e1; cases e1
        rw [List.getElem?_set_self hiσ] at e2
        cases e2
        exact ⟨u, r, .inr ⟨.inl hk, c, hc, hc'⟩⟩
      · rw [List.getElem?_set_ne (Ne.symm hj)] at e2
        obtain ⟨u', r', q⟩ := hl j y v' e1 e2 e3
        refine ⟨u', r', ?_⟩
        rcases q with q | ⟨k, c', e, z'⟩
        · exact .inl q
        · refine .inr ⟨k, c', e, z'.sameBut hs ?_⟩
          rintro rfl
          exact hj (nodup_ix hN e1 (I.ok.inj _ _ _ e hc ▸ hi))
    · by_cases hcc : c' = c
      · subst hcc; exact ⟨_, hc'⟩
      · obtain ⟨w2, z2⟩ := I.cell y c' e
        exact ⟨w2, z2.sameBut hs hcc⟩
    · obtain ⟨e, n, ne, nf, d⟩ := I.pin p hp
      refine ⟨(hs.2 p.1 ?_).trans e, n, ne, nf, d⟩
      intro q
      rw [q, hoc] at e
      have q' : oc = p.2 := Option.some.inj e
      exact d w' (by rw [← q']; exact hocd)
theorem store_ok {M : Model} {A : Around} {E : Value → Shared → Prop} {i : Nat} {x : Str} {v : V} {u : Value} {Q : Unit → Shared → Prop} (I : Inv X pins σ H s) (hN : X.N.Nodup) (hi : X.N[i]? = some x) (hx : Loc X.env.scope x) (r : RelV v u)
    (h : ∀ s', Inv X pins (σ.set i (some v)) H s' → Q () s') (hf : X.fn x = true ∨ X.env.scope.names.lookup x = some .local := by first | exact .inl rfl | exact .inr rfl | assumption) : wpAny M A (storeName X.env x u) Q E s :=
  store_ok2 I hN hi hx r (fun s' I' _ => h s' I') hf
/-- behind a call or a block, the state as it is -/
theorem Inv.call' {s' : Shared} {ch : List Addr} (I : Inv X pins σ H s) (ho : s'.os = s.os) (u : Un (frs X.stack) ch H H' s.heap s'.heap) (hok : HOk X.prog X.w H' s'.heap) (hg : AllBare s'.gens)
    (hch : ∀ b ∈ ch, (b ∈ X.ex ∨ X.s₀.heap.objs.size ≤ b) ∧ b ≠ X.env.locals ∧ (∀ x c, X.env.cells.lookup x = some c → c ≠ b) ∧ ∀ p ∈ X.pn ++ pins, p.1 ≠ b) : Inv X pins σ H' s' := by
  obtain ⟨h', g', d', t', o'⟩ := s'
  have e : o' = s.os := ho
  subst e
  exact I.call (g' := g') (t' := t') (d' := d') u hok hg hch
end

/-! ### the judgements -/
/-- an exception: its class, its own dict's address (where it has one), the abstract heap behind it -/
abbrev XK := Value → Option Addr → Hp → Prop
abbrev St := List (Option V)
abbrev VK := V → Hp → Prop
/-- an expression's reading; a test's; an argument list's -/
abbrev TE := St → Hp → VK → Prop
abbrev TT := St → Hp → (Bool → Hp → Prop) → Prop
abbrev TA := St → Hp → (List V → Hp → Prop) → Prop
/-- what is wanted behind a statement -/
structure Ends where
  nx : St → Hp → Prop
  rt : VK
  bk : St → Hp → Prop := fun _ _ => False
  ct : St → Hp → Prop := fun _ _ => False
abbrev TS := Ends → St → Hp → Prop

def EP (X : Cx) (pins : List (Addr × Obj)) (σ : St) (Q : VK) (u : Value) (s' : Shared) : Prop := ∃ v H', Inv X pins σ H' s' ∧ RelV v u ∧ Q v H'
def TP (X : Cx) (pins : List (Addr × Obj)) (σ : St) (Q : Bool → Hp → Prop) (b : Bool) (s' : Shared) : Prop := ∃ H', Inv X pins σ H' s' ∧ Q b H'
def AP (X : Cx) (pins : List (Addr × Obj)) (σ : St) (Q : List V → Hp → Prop) (us : List Value) (s' : Shared) : Prop := ∃ vs H', Inv X pins σ H' s' ∧ Vals vs us ∧ Q vs H'
def SP (X : Cx) (pins : List (Addr × Obj)) (D : Ends) (f : Flow) (s' : Shared) : Prop :=
  match f with
  | .next => ∃ σ' H', Inv X pins σ' H' s' ∧ D.nx σ' H'
  | .brk => ∃ σ' H', Inv X pins σ' H' s' ∧ D.bk σ' H'
  | .cont => ∃ σ' H', Inv X pins σ' H' s' ∧ D.ct σ' H'
  | .ret u => ∃ v σ' H', Inv X pins σ' H' s' ∧ RelV v u ∧ D.rt v H'

def PE (X : Cx) (e : Expr) (t : TE) : Prop :=
  ∀ (pins : List (Addr × Obj)) (s : Shared) (σ : St) (H : Hp) (Q : VK), Inv X pins σ H s → t σ H Q → wpAny (model X.prog X.w) X.A (eval e X.env) (EP X pins σ Q) X.xe s
def PT (X : Cx) (e : Expr) (t : TT) : Prop :=
  ∀ (pins : List (Addr × Obj)) (s : Shared) (σ : St) (H : Hp) (Q : Bool → Hp → Prop), Inv X pins σ H s → t σ H Q → wpAny (model X.prog X.w) X.A (isTrue e X.env (eval e X.env)) (TP X pins σ Q) X.xe s
/-- a test whatever its 'whole' is (and, or) -/
def PW (X : Cx) (e : Expr) (t : TT) : Prop :=
  ∀ (whole : Sem Value) (pins : List (Addr × Obj)) (s : Shared) (σ : St) (H : Hp) (Q : Bool → Hp → Prop), Inv X pins σ H s → t σ H Q → wpAny (model X.prog X.w) X.A (isTrue e X.env whole) (TP X pins σ Q) X.xe s
theorem PW.pt {X : Cx} {e : Expr} {t : TT} (h : PW X e t) : PT X e t := h _
/-- an argument list (no star), from the left -/
def PA (X : Cx) (es : List Expr) (t : TA) : Prop :=
  ∀ (pos : Pos) (pins : List (Addr × Obj)) (s : Shared) (σ : St) (H : Hp) (Q : List V → Hp → Prop), Inv X pins σ H s → t σ H Q → wpAny (model X.prog X.w) X.A (spliced (backTo pos (starEach es X.env))) (AP X pins σ Q) X.xe s
def PS (X : Cx) (st : Stmt) (t : TS) : Prop :=
  ∀ (pins : List (Addr × Obj)) (s : Shared) (σ : St) (H : Hp) (D : Ends), Inv X pins σ H s → t D σ H → wpAny (model X.prog X.w) X.A (exec st X.env) (SP X pins D) X.xe s
def PSs (X : Cx) (st : List Stmt) (t : TS) : Prop :=
  ∀ (pins : List (Addr × Obj)) (s : Shared) (σ : St) (H : Hp) (D : Ends), Inv X pins σ H s → t D σ H → wpAny (model X.prog X.w) X.A (execs st X.env) (SP X pins D) X.xe s
/-- weaken the end -/
theorem thn {α : Type} {t : Sem α} {Q Q' : α → Shared → Prop} {M : Model} {A : Around} {E : Value → Shared → Prop} {s : Shared} (h : wpAny M A t Q E s) (hQ : ∀ a s, Q a s → Q' a s) : wpAny M A t Q' E s := wpAny_mono h hQ fun _ _ x => x
end L2

namespace L2
open PySem PySem.Spec PyProof.Rows
section
variable {X : Cx}

/-! ### names and constants -/
def tVar (i : Nat) : TE := fun σ H Q => ∃ v, σ[i]? = some (some v) ∧ Q v H
def tC (v : V) : TE := fun _ H Q => Q v H
theorem pe_var {i : Nat} {x : Str} {pos : Pos} (hN : X.N[i]? = some x) (hv : Vis X.env.scope x) (hd : (x == ("__debug__" : Str)) = false := by decide) (hcd : (x == ("__classdict__" : Str)) = false := by decide) : PE X (.Name x pos) (tVar i) := by
  intro pins s σ H Q I h
  obtain ⟨v, e, h⟩ := h
  obtain ⟨m, hn, hl⟩ := I.loc
  obtain ⟨u, r, l⟩ := hl i x v hN e hv
  have fin : EP X pins σ Q u s := ⟨v, H, I, r, h⟩
  rcases l with ⟨hk, hm⟩ | ⟨hk, c, hc, hcell⟩
  · exact wpAny_Name (wpAny_loadName_local I.ok.kind hk hn hm fin) hd
  · rcases hk with hk | hk
    · exact wpAny_Name (wpAny_loadName_cell I.ok.kind hk hc hcell fin) hd
    · exact wpAny_Name (wpAny_loadName_free I.ok.kind hk hc hcell fin hcd) hd
theorem pe_int {i j pos} : PE X (.Constant (.int i) j pos) (tC (.int i)) := fun _ _ _ H _ I h => wpAny_Constant_int ⟨.int i, H, I.tok _, ⟨_, rfl⟩, h⟩
theorem pe_bl {b j pos} : PE X (.Constant (.bool b) j pos) (tC (.bl b)) := fun _ _ _ H _ I h => Constant_bool ⟨.bl b, H, I, rfl, h⟩
theorem pe_str {x j pos} : PE X (.Constant (.str x) j pos) (tC (.str x)) := fun _ _ _ H _ I h => Calls.Constant_str ⟨.str x, H, I.tok _, ⟨_, rfl⟩, h⟩

/-- a global name of the def -/
def Gl (X : Cx) (x : Str) : Prop := X.env.kindOf x = some .globalImplicit
theorem ld_glob {E : Value → Shared → Prop} {pins : List (Addr × Obj)} {s : Shared} {σ : St} {H : Hp} {x : Str} {u : Value} {pos : Pos} {Q : Value → Shared → Prop} (I : Inv X pins σ H s) (hg : Gl X x) (hm : X.mg x = some u) (h : Q u s)
    (hd : (x == ("__debug__" : Str)) = false := by decide) : wpAny (model X.prog X.w) X.A (eval (.Name x pos) X.env) Q E s :=
  Calls.Name_function_global I.ok.kind hg (Calls.loadGlobal_global (by rw [I.ok.glob]; exact I.mod.glob.keeps I.bk) hm h) hd
theorem ld_blt {E : Value → Shared → Prop} {pins : List (Addr × Obj)} {s : Shared} {σ : St} {H : Hp} {x : Str} {u : Value} {pos : Pos} {Q : Value → Shared → Prop} (I : Inv X pins σ H s) (hg : Gl X x) (hm : X.mg x = none) (hv : bootBuiltins x = some u) (h : Q u s)
    (hn : x ≠ "__name__" := by decide) (hd : (x == ("__debug__" : Str)) = false := by decide) : wpAny (model X.prog X.w) X.A (eval (.Name x pos) X.env) Q E s := by
  obtain ⟨mb, h1, h2⟩ := I.mod.blt
  exact Calls.Name_function_global I.ok.kind hg (Calls.loadGlobal_builtin (by rw [I.ok.glob]; exact I.mod.glob.keeps I.bk) hm (by rw [I.ok.blt]; exact h1.keeps I.bk) ((h2 x hn).trans hv) h) hd
theorem pe_bltn {x : Str} {v : V} {u : Value} {pos : Pos} (hg : Gl X x) (hm : X.mg x = none) (hv : bootBuiltins x = some u) (r : RelV v u) (hn : x ≠ "__name__" := by decide) (hd : (x == ("__debug__" : Str)) = false := by decide) : PE X (.Name x pos) (tC v) :=
  fun _ _ _ H _ I h => ld_blt I hg hm hv ⟨v, H, I, r, h⟩ hn hd

/-! ### arithmetic -/
variable {a b : Expr} {ta tb : TE} {pos : Pos}
/-! ### comparisons -/
/-- a comparison as a value, as a test -/
def tB (t : TE) : TT := fun σ H Q => t σ H fun x H1 => ∃ c, x = .bl c ∧ Q c H1
/-- an expression whose value is a bool, as a test -/
theorem pt_val {e : Expr} {t : TE} (h : PE X e t) (he : ∀ whole, isTrue e X.env whole = (do let v ← whole; standAt e.pos; holding [v] (truthy v)) := by intro _; rfl) : PT X e (tB t) := by
  intro pins s σ H Q I hw
  refine isTrue_plain (thn (h pins s σ H _ I hw) fun v s1 ⟨x, H1, I1, r1, q1⟩ => ?_) (he _)
  obtain ⟨d, rfl, q⟩ := q1
  cases r1
  exact wpAny_truthy_bool ⟨H1, I1, q⟩

/-! ### and, or, not -/
variable {tA tB' : TT} {rest : List Expr}
def tOr (t u : TT) : TT := fun σ H Q => t σ H fun c H1 => if c = true then Q true H1 else u σ H1 Q
def tNot (t : TT) : TT := fun σ H Q => t σ H fun c H1 => Q (!c) H1
theorem pw_or1 (ha : PT X a tA) : PW X (.BoolOp .Or [a] pos) tA := by
  intro wh pins s σ H Q I h
  refine isTrue_or (thn (ha pins s σ H Q I h) fun c s1 e => ?_)
  cases c with
  | false => exact isTrue_or_nil e
  | true => exact e
theorem pw_or (ha : PT X a tA) (hb : PW X (.BoolOp .Or (b :: rest) pos) tB') : PW X (.BoolOp .Or (a :: b :: rest) pos) (tOr tA tB') := by
  intro wh pins s σ H Q I h
  refine isTrue_or (thn (ha pins s σ H _ I h) fun c s1 ⟨H1, I1, q1⟩ => ?_)
  cases c with
  | true => exact ⟨H1, I1, q1⟩
  | false => exact hb wh pins s1 σ H1 Q I1 q1
theorem pt_not (ha : PT X a tA) : PT X (.UnaryOp .Not a pos) (tNot tA) := by
  intro pins s σ H Q I h
  exact isTrue_not (ha pins s σ H (fun c H1 => Q (!c) H1) I h)
/-- .. as values (bools) -/
def tAndV (ta tb : TE) : TE := fun σ H Q => ta σ H fun x H1 => ∃ c, x = .bl c ∧ if c = true then tb σ H1 Q else Q (.bl false) H1
def tNotV (ta : TE) : TE := fun σ H Q => ta σ H fun x H1 => ∃ c, x = .bl c ∧ Q (.bl (!c)) H1
theorem pe_one {op} {t : TE} (h : PE X a t) : PE X (.BoolOp op [a] pos) t := fun pins s σ H Q I hw => BoolOp_one (h pins s σ H Q I hw)
theorem pe_and (ha : PE X a ta) (hb : PE X (.BoolOp .And (b :: rest) pos) tb) : PE X (.BoolOp .And (a :: b :: rest) pos) (tAndV ta tb) := by
  intro pins s σ H Q I h
  refine BoolOp_and (thn (ha pins s σ H _ I h) fun v s1 ⟨x, H1, I1, r1, q1⟩ => ?_)
  obtain ⟨c, rfl, q1⟩ := q1
  cases r1
  refine wpAny_truthy_bool ?_
  cases c with
  | true => exact hb pins s1 σ H1 Q I1 q1
  | false => exact ⟨.bl false, H1, I1, rfl, q1⟩
theorem pe_not (ha : PE X a ta) : PE X (.UnaryOp .Not a pos) (tNotV ta) := by
  intro pins s σ H Q I h
  refine UnaryOp_ (thn (ha pins s σ H _ I h) fun v s1 ⟨x, H1, I1, r1, q1⟩ => ?_)
  obtain ⟨c, rfl, q1⟩ := q1
  cases r1
  exact not_of (wpAny_truthy_bool ⟨.bl (!c), H1, I1, rfl, q1⟩)
/-- a if t else b -/
def tIf (t : TT) (ta tb : TE) : TE := fun σ H Q => t σ H fun c H1 => if c = true then ta σ H1 Q else tb σ H1 Q
theorem pe_ifExp {c : Expr} (hc : PT X c tA) (ha : PE X a ta) (hb : PE X b tb) : PE X (.IfExp c a b pos) (tIf tA ta tb) := by
  intro pins s σ H Q I h
  refine wpAny_IfExp (thn (hc pins s σ H _ I h) fun d s1 ⟨H1, I1, q1⟩ => ?_)
  cases d with
  | true => exact ha pins s1 σ H1 Q I1 q1
  | false => exact hb pins s1 σ H1 Q I1 q1
end
end L2

namespace L2
open PySem PySem.Spec PyProof.Rows

/-! ### a list, a tuple that is read: tracked, frozen, or an object of the module -/
def SqL (K : PySem.W.Frag) (H : Hp) (a : Addr) (xs : List V) : Prop :=
  Rd H a (.lst xs) ∨
    ∃ (o : Obj) (its : Array Value) (n : Nat), K.lookup a = some o ∧ o.cls = .type "list" ∧ o.dict = none ∧ o.data = .seq its n ∧ its.size ≤ sizeLine ∧ Vals xs its.toList
def SqT (K : PySem.W.Frag) (H : Hp) (a : Addr) (xs : List V) : Prop :=
  Rd H a (.tup xs) ∨
    ∃ (o : Obj) (its : Array Value) (n : Nat), K.lookup a = some o ∧ o.cls = .type "tuple" ∧ o.data = .seq its n ∧ its.size ≤ sizeLine ∧ Vals xs its.toList
def absV : Value → Option V
  | .none => some .non
  | .bool b => some (.bl b)
  | .int i _ => some (.int i)
  | .str x _ => some (.str x)
  | .bytes b _ => some (.byt b)
  | .float b _ => some (.flt b)
  | .ref a => some (.ref a)
  | .type n => some (.ty n)
  | _ => none
theorem RelV.abs {x : V} {u : Value} (r : RelV x u) : absV u = some x := by
  cases x with
  | non => cases r; rfl
  | bl _ => cases r; rfl
  | int _ => obtain ⟨t, rfl⟩ := r; rfl
  | str _ => obtain ⟨t, rfl⟩ := r; rfl
  | byt _ => obtain ⟨t, rfl⟩ := r; rfl
  | flt _ => obtain ⟨t, rfl⟩ := r; rfl
  | ref _ => cases r; rfl
  | ty _ => cases r; rfl
theorem RelV.inj {x y : V} {u : Value} (r : RelV x u) (q : RelV y u) : x = y := Option.some.inj (r.abs.symm.trans q.abs)
theorem Vals.inj : ∀ {xs ys : List V} {us : List Value}, Vals xs us → Vals ys us → xs = ys
  | _, _, _, .nil, .nil => rfl
  | _, _, _, .cons r t, .cons r' t' => by rw [r.inj r', Vals.inj t t']
section
variable {X : Cx} {pins : List (Addr × Obj)} {σ : St} {H : Hp} {s : Shared} {a : Addr} {xs ys : List V}
theorem SqL.of {K : PySem.W.Frag} (h : H a = some (.lst xs)) : SqL K H a xs := .inl (.inl h)
theorem SqT.of {K : PySem.W.Frag} (h : H a = some (.tup xs)) : SqT K H a xs := .inl (.inl h)
theorem Inv.list (I : Inv X pins σ H s) (h : SqL X.K H a xs) : ∃ its : List Value, Vals xs its ∧ PlainL s.heap a its.toArray ∧ xs.length ≤ sizeLine := by
  rcases h with h | ⟨o, its, n, hk, hc, hd, hs, hz, r⟩
  · obtain ⟨z, its, n, r, e⟩ := h.ok I.hok
    exact ⟨its, r, ⟨_, n, e, rfl, rfl, rfl⟩, z⟩
  · refine ⟨its.toList, r, ⟨o, n, I.kIn a o hk, hc, hd, by simpa using hs⟩, ?_⟩
    have e := r.length
    simp only [Array.length_toList] at e
    omega
theorem Inv.tuple (I : Inv X pins σ H s) (h : SqT X.K H a xs) : ∃ its : List Value, Vals xs its ∧ IsTup s.heap a its.toArray ∧ xs.length ≤ sizeLine := by
  rcases h with h | ⟨o, its, n, hk, hc, hs, hz, r⟩
  · obtain ⟨z, its, r, p⟩ := h.ok I.hok
    exact ⟨its, r, p, z⟩
  · refine ⟨its.toList, r, ⟨o, I.kIn a o hk, hc, n, by simpa using hs⟩, ?_⟩
    have e := r.length
    simp only [Array.length_toList] at e
    omega
theorem Inv.list_inj (I : Inv X pins σ H s) (h : SqL X.K H a xs) (h' : SqL X.K H a ys) : xs = ys := by
  obtain ⟨its, r, ⟨o, n, e, _, _, d⟩, _⟩ := I.list h
  obtain ⟨its', r', ⟨o', n', e', _, _, d'⟩, _⟩ := I.list h'
  rw [e] at e'; cases e'
  rw [d] at d'
  injection d' with d1 _
  have : its = its' := by simpa using congrArg Array.toList d1
  subst this
  exact r.inj r'
theorem Inv.tuple_inj (I : Inv X pins σ H s) (h : SqT X.K H a xs) (h' : SqT X.K H a ys) : xs = ys := by
  obtain ⟨its, r, ⟨o, e, _, n, d⟩, _⟩ := I.tuple h
  obtain ⟨its', r', ⟨o', e', _, n', d'⟩, _⟩ := I.tuple h'
  rw [e] at e'; cases e'
  rw [d] at d'
  injection d' with d1 _
  have : its = its' := by simpa using congrArg Array.toList d1
  subst this
  exact r.inj r'
end

/-! ### another wish about exceptions -/
abbrev Cx.wish (X : Cx) (E : Value → Shared → Prop) : Cx := { X with xe := E }
/-- no exception leaves -/
abbrev Cx.nox (X : Cx) : Cx := X.wish fun _ _ => False
theorem Cx.Ok.wish {X : Cx} (ok : X.Ok) (E : Value → Shared → Prop) : (X.wish E).Ok :=
  ⟨ok.mod, ok.kind, ok.glob, ok.blt, ok.above, ok.inj, ok.has, ok.cab, ok.hd, ok.frames, ok.stk, ok.exf, ok.bs, ok.bsz, ok.noex, ok.exfs, ok.funs, ok.frf⟩
theorem Cx.Ok.unwish {X : Cx} {E : Value → Shared → Prop} (ok : (X.wish E).Ok) : X.Ok :=
  ⟨ok.mod, ok.kind, ok.glob, ok.blt, ok.above, ok.inj, ok.has, ok.cab, ok.hd, ok.frames, ok.stk, ok.exf, ok.bs, ok.bsz, ok.noex, ok.exfs, ok.funs, ok.frf⟩
section
variable {X : Cx} {pins : List (Addr × Obj)} {σ : St} {H : Hp} {s : Shared} {E : Value → Shared → Prop}
theorem Inv.wish (I : Inv X pins σ H s) (E : Value → Shared → Prop) : Inv (X.wish E) pins σ H s := ⟨I.ok.wish E, I.os, I.bare, I.base, I.loc, I.cell, I.free, I.freeC, I.pin, I.hok, I.len⟩
theorem Inv.unwish (I : Inv (X.wish E) pins σ H s) : Inv X pins σ H s := ⟨I.ok.unwish, I.os, I.bare, I.base, I.loc, I.cell, I.free, I.freeC, I.pin, I.hok, I.len⟩
theorem SP.unwish {D : Ends} {f : Flow} {s' : Shared} (h : SP (X.wish E) pins D f s') : SP X pins D f s' := by
  cases f with
  | next => obtain ⟨σ', H', I, q⟩ := h; exact ⟨σ', H', I.unwish, q⟩
  | brk => obtain ⟨σ', H', I, q⟩ := h; exact ⟨σ', H', I.unwish, q⟩
  | cont => obtain ⟨σ', H', I, q⟩ := h; exact ⟨σ', H', I.unwish, q⟩
  | ret u => obtain ⟨v, σ', H', I, r, q⟩ := h; exact ⟨v, σ', H', I.unwish, r, q⟩
theorem PSs.nox {st : List Stmt} {t : TS} (h : PSs X.nox st t) : PSs X st t := fun pins s σ H D I hw =>
  wpAny_mono (h pins s σ H D (I.wish _) hw) (fun _ _ q => q.unwish) fun _ _ z => False.elim z
end

/-! ### blocks and small statements -/
section
variable {X : Cx} {st : Stmt} {rest : List Stmt} {t u : TS} {e : Expr} {te : TE} {pos : Pos}
def tNext : TS := fun D σ H => D.nx σ H
def tSeq (t u : TS) : TS := fun D σ H => t { D with nx := u D } σ H
theorem pss_nil : PSs X [] tNext := fun _ _ σ H _ I h => wpAny_execs_nil ⟨σ, H, I, h⟩
theorem pss_cons (h1 : PS X st t) (h2 : PSs X rest u) : PSs X (st :: rest) (tSeq t u) := by
  intro pins s σ H D I h
  refine wpAny_execs_cons (thn (h1 pins s σ H { D with nx := u D } I h) fun f s1 q => ?_)
  cases f with
  | next =>
    obtain ⟨σ', H', I', q⟩ := q
    exact h2 pins s1 σ' H' D I' q
  | ret v => exact q
  | brk => exact q
  | cont => exact q
theorem pss_one (h1 : PS X st t) : PSs X [st] t := by
  intro pins s σ H D I h
  refine wpAny_execs_cons (thn (h1 pins s σ H D I h) fun f s1 q => ?_)
  cases f with
  | next => exact wpAny_execs_nil q
  | ret v => exact q
  | brk => exact q
  | cont => exact q
/-- in a def's body nothing is shown -/
theorem Inv.quiet {pins : List (Addr × Obj)} {σ : St} {H : Hp} {s : Shared} (I : Inv X pins σ H s) : interactive X.env = false := by simp [interactive, I.ok.kind]
/-- an expression whose value is dropped -/
def tDrop (te : TE) : TS := fun D σ H => te σ H fun _ H1 => D.nx σ H1
theorem ps_expr (he : PE X e te) (hs : swapsWith e none pos.line X.env = pure false := by rfl) : PS X (.Expr e pos) (tDrop te) := by
  intro pins s σ H D I h
  exact wpAny_Expr_any (thn (he pins s σ H _ I h) fun v s1 ⟨x, H1, I1, r1, q1⟩ => ⟨σ, H1, I1, q1⟩) I.quiet hs
def tRet (te : TE) : TS := fun D σ H => te σ H D.rt
theorem ps_ret (he : PE X e te) : PS X (.Return (some e) pos) (tRet te) := by
  intro pins s σ H D I h
  exact wpAny_Return_some (thn (he pins s σ H _ I h) fun v s1 ⟨x, H1, I1, r1, q1⟩ => ⟨x, σ, H1, I1, r1, q1⟩)
def tIfS (c : TT) (t u : TS) : TS := fun D σ H => c σ H fun b H1 => if b = true then t D σ H1 else u D σ H1
theorem ps_if {c : Expr} {a b : List Stmt} {tc : TT} (hc : PT X c tc) (ha : PSs X a t) (hb : PSs X b u) : PS X (.If c a b pos) (tIfS tc t u) := by
  intro pins s σ H D I h
  refine wpAny_If (thn (hc pins s σ H _ I h) fun d s1 ⟨H1, I1, q1⟩ => ?_)
  cases d with
  | true => exact ha pins s1 σ H1 D I1 q1
  | false => exact hb pins s1 σ H1 D I1 q1
/-- code that the proof never comes to -/
def tNever : TS := fun _ _ _ => False
theorem ps_never : PS X st tNever := fun _ _ _ _ _ _ h => h.elim
end

/-! ### targets -/
abbrev TG := V → St → Hp → (St → Hp → Prop) → Prop
abbrev TGs := List V → St → Hp → (St → Hp → Prop) → Prop
def PG (X : Cx) (target : Expr) (t : TG) : Prop :=
  ∀ (pins : List (Addr × Obj)) (s : Shared) (σ : St) (H : Hp) (v : V) (u : Value) (Q : St → Hp → Prop), Inv X pins σ H s → RelV v u → t v σ H Q →
    wpAny (model X.prog X.w) X.A (assign target X.env u) (fun _ s' => ∃ σ' H', Inv X pins σ' H' s' ∧ Q σ' H') X.xe s
/-- several targets, one after another -/
def PGs (X : Cx) (ts : List Expr) (t : TGs) : Prop :=
  ∀ (pins : List (Addr × Obj)) (s : Shared) (σ : St) (H : Hp) (vs : List V) (us : List Value) (Q : St → Hp → Prop), Inv X pins σ H s → Vals vs us → t vs σ H Q →
    wpAny (model X.prog X.w) X.A (assignInOrder ((assignEach ts X.env).map (·.2)) us) (fun _ s' => ∃ σ' H', Inv X pins σ' H' s' ∧ Q σ' H') X.xe s
section
variable {X : Cx} {pos : Pos}
def gName (i : Nat) : TG := fun v σ H Q => Q (σ.set i (some v)) H
theorem pg_name {i : Nat} {x : Str} (hN : X.N.Nodup) (hi : X.N[i]? = some x) (hx : Loc X.env.scope x) (hf : X.fn x = true ∨ X.env.scope.names.lookup x = some .local := by first | exact .inl rfl | exact .inr rfl | assumption) : PG X (.Name x pos) (gName i) := by
  intro pins s σ H v u Q I r h
  exact wpAny_assign_Name (store_ok I hN hi hx r (fun s' I' => ⟨_, H, I', h⟩) hf)
def gNil : TGs := fun vs σ H Q => vs = [] ∧ Q σ H
def gCons (t : TG) (u : TGs) : TGs := fun vs σ H Q => ∃ v r, vs = v :: r ∧ t v σ H fun σ' H' => u r σ' H' Q
theorem pgs_nil : PGs X [] gNil := by
  intro pins s σ H vs us Q I r h
  obtain ⟨e, h⟩ := h
  subst e
  cases r
  exact assignInOrder_nil ⟨σ, H, I, h⟩
theorem pgs_cons {e : Expr} {es : List Expr} {t : TG} {u : TGs} (h1 : PG X e t) (h2 : PGs X es u)
    (hs : (assignEach (e :: es) X.env).map (·.2) = assign e X.env :: (assignEach es X.env).map (·.2) := by rfl) : PGs X (e :: es) (gCons t u) := by
  intro pins s σ H vs us Q I r h
  obtain ⟨v, vr, e1, h⟩ := h
  subst e1
  cases r with
  | cons r rr =>
    rw [hs]
    refine assignInOrder_cons (thn (h1 pins s σ H _ _ _ I r h) fun _ s1 ⟨σ1, H1, I1, q1⟩ => ?_)
    exact h2 pins s1 σ1 H1 _ _ Q I1 rr q1
/-- (a, b, ..) = a tuple of that length -/
def gTup (K : PySem.W.Frag) (n : Nat) (t : TGs) : TG := fun v σ H Q => ∃ a xs, v = .ref a ∧ SqT K H a xs ∧ xs.length = n ∧ t xs σ H Q
theorem pg_tup {es : List Expr} {k : Nat} {t : TGs} {n : Nat} (hc : X.calm = true) (h : PGs X es t)
    (hn : (assignEach es X.env).length = n := by rfl) (hst : (assignEach es X.env).findIdx? (·.1) = none := by rfl) : PG X (.Tuple es k pos) (gTup X.K n t) := by
  intro pins s σ H v u Q I r hw
  obtain ⟨a, xs, e1, hq, hl, hw⟩ := hw
  subst e1
  cases r
  obtain ⟨its, rv, ht, hz⟩ := I.tuple hq
  refine assign_Tuple_tuple (I.ok.hd hc) ht (by simp [hn, ← hl, rv.length]) hst fun h' hx => ?_
  have I1 : Inv X pins σ H { s with heap := h' } := I.kept (t' := s.toks) fun b o e => hx b o (Nat.ne_of_lt (Heap.lt_size e)) e
  exact h pins _ σ H xs _ Q I1 (by simpa using rv) hw
/-- target = value -/
def tAsg (te : TE) (g : TG) : TS := fun D σ H => te σ H fun x H1 => g x σ H1 D.nx
theorem ps_asg {tg e : Expr} {te : TE} {g : TG} (he : PE X e te) (hg : PG X tg g) (hs : swapsWithSole [tg] e pos.line X.env = pure false := by rfl) (hw : swappedStores [tg] e X.env = pure none := by rfl)
    (h1 : (assignEach [tg] X.env).map (·.2) = [assign tg X.env] := by rfl) : PS X (.Assign [tg] e pos) (tAsg te g) := by
  intro pins s σ H D I h
  refine wpAny_Assign_stores (thn (he pins s σ H _ I h) fun v s1 ⟨x, H1, I1, r1, q1⟩ => ?_) hs hw
  rw [h1]
  exact thn (hg pins s1 σ H1 x v _ I1 r1 q1) fun _ s2 q => q
/-- name = value -/
theorem ps_set {i : Nat} {x : Str} {e : Expr} {te : TE} {pos' : Pos} (hN : X.N.Nodup) (hi : X.N[i]? = some x) (hx : Loc X.env.scope x) (he : PE X e te) (hs : swapsWith e (some (.Name x pos')) pos.line X.env = pure false := by rfl) (hf : X.fn x = true ∨ X.env.scope.names.lookup x = some .local := by first | exact .inl rfl | exact .inr rfl | assumption) :
    PS X (.Assign [.Name x pos'] e pos) (tAsg te (gName i)) := by
  intro pins s σ H D I h
  refine wpAny_Assign_Name (thn (he pins s σ H _ I h) fun v s1 ⟨y, H1, I1, r1, q1⟩ => ?_) hs
  exact store_ok I1 hN hi hx r1 (fun s2 I2 => ⟨_, H1, I2, q1⟩) hf
end

/-! ### while -/
section
variable {X : Cx} {pos : Pos}
end

/-! ### what a loop or a comprehension walks -/
/-- at turn i: it yields x (the heap may grow), or it stops -/
structure It where
  go : Nat → Hp → Prop
  yld : Nat → Hp → V → Hp → Prop
  stop : Nat → Hp → Prop
/-- the iterator's own objects may turn: they are not the frame's, not pinned, younger than the entry (or a comprehension's own) -/
def FpOk (X : Cx) (pins : List (Addr × Obj)) (H : Hp) (b : Addr) : Prop :=
  H b = none ∧ b ≠ X.env.locals ∧ b ∉ X.fs ∧ (b ∈ X.ex ∨ X.s₀.heap.objs.size ≤ b) ∧ (∀ x c, X.env.cells.lookup x = some c → c ≠ b) ∧ ∀ p ∈ X.pn ++ pins, p.1 ≠ b
theorem Inv.fpOk {X : Cx} {pins : List (Addr × Obj)} {σ : St} {H H' : Hp} {s : Shared} {b : Addr} (I : Inv X pins σ H s) (hb : s.heap.objs.size ≤ b) (hn : H' b = none) : FpOk X pins H' b := by
  refine ⟨hn, Nat.ne_of_gt (Nat.lt_of_lt_of_le I.lt hb), I.nofs hb, .inr (Nat.le_trans I.sz hb), fun x c e z => ?_, fun p hp z => ?_⟩
  · obtain ⟨v, q⟩ := I.cell x c e
    exact absurd (Nat.lt_of_lt_of_le q.lt (by rw [z]; exact hb)) (Nat.lt_irrefl _)
  · exact absurd (Nat.lt_of_lt_of_le (Heap.lt_size (I.pin p hp).1) (by rw [z]; exact hb)) (Nat.lt_irrefl _)
structure Turn (P : Program) (w : World) (K : PySem.W.Frag) (tg : Expr) (J : It) (fp : List Addr) (it : Addr) (tn : Nat → Heap → Prop) : Prop where
  mem : it ∈ fp
  obj : ∀ i h, tn i h → ∀ b ∈ fp, ∃ o, h.get? b = some o ∧ ∀ v, o.data ≠ .cell v
  keep : ∀ i h h', tn i h → (∀ b ∈ fp, ∀ o, h.get? b = some o → h'.get? b = some o) → tn i h'
  item : ∀ (X : Cx), X.prog = P → X.w = w → X.K = K → X.calm = true → ∀ (i : Nat) (pins : List (Addr × Obj)) (s : Shared) (σ : St) (H : Hp) (E : Value → Shared → Prop), Inv X pins σ H s → (∀ b ∈ fp, FpOk X pins H b) → tn i s.heap → J.go i H →
    wpAny (model P w) X.A (pyNext (.ref it)) (fun r s1 => ∃ u, r = some u ∧
      wpAny (model P w) X.A (letOwnedTupleGo tg (.ref it) u) (fun _ s2 => ∃ x H', Inv X pins σ H' s2 ∧ RelV x u ∧ J.yld i H x H' ∧ tn (i + 1) s2.heap ∧ ∀ b ∈ fp, H' b = none) E s1) E s
  done : ∀ (X : Cx), X.prog = P → X.w = w → X.K = K → X.calm = true → ∀ (i : Nat) (pins : List (Addr × Obj)) (s : Shared) (σ : St) (H : Hp) (E : Value → Shared → Prop), Inv X pins σ H s → (∀ b ∈ fp, FpOk X pins H b) → tn i s.heap → J.stop i H →
    wpAny (model P w) X.A (pyNext (.ref it)) (fun r s1 => r = none ∧ Inv X pins σ H s1) E s
  self : ∀ (A : Around) (i : Nat) (s : Shared) (Q : Value → Shared → Prop) (E : Value → Shared → Prop), tn i s.heap → Q (.ref it) s → wpAny (model P w) A (pyIter (.ref it)) Q E s
abbrev TI := St → Hp → (It → Hp → Prop) → Prop
/-- an iterator has come -/
def PIE (X : Cx) (pins : List (Addr × Obj)) (σ : St) (tg : Expr) (R : It → Hp → Prop) (itv : Value) (s2 : Shared) : Prop :=
  ∃ (it : Addr) (fp : List Addr) (tn : Nat → Heap → Prop) (J : It) (H' : Hp), itv = .ref it ∧ Inv X pins σ H' s2 ∧ Turn X.prog X.w X.K tg J fp it tn ∧ tn 0 s2.heap ∧ (∀ b ∈ fp, FpOk X pins H' b) ∧ R J H'
def PI (X : Cx) (tg iter : Expr) (wi : TI) : Prop :=
  ∀ (pins : List (Addr × Obj)) (s : Shared) (σ : St) (H : Hp) (R : It → Hp → Prop), Inv X pins σ H s → wi σ H R →
    wpAny (model X.prog X.w) X.A (eval iter X.env) (fun v s1 => wpAny (model X.prog X.w) X.A (pyIter v) (PIE X pins σ tg R) X.xe s1) X.xe s

/-- the step ahead of the store is nothing for an iterator that keeps no tuple -/
theorem go_of {M : Model} {A : Around} {E : Value → Shared → Prop} {s : Shared} {tg : Expr} {it : Addr} {u : Value} {o : Obj} {n : String} {vs : Array Value} {Q : Unit → Shared → Prop} (ho : s.heap.get? it = some o) (hc : o.cls = .type n) (hd : o.data = .fields vs)
    (hn : ["enumerate", "zip", "dict_itemiterator", "dict_reverseitemiterator", "odict_iterator", "itertools.zip_longest", "itertools.pairwise"].contains n = false) (hQ : Q () s) : wpAny M A (letOwnedTupleGo tg (.ref it) u) Q E s := by
  unfold letOwnedTupleGo
  cases tg <;> first
    | exact wpAny_pure hQ
    | (cases u <;> first
        | exact wpAny_pure hQ
        | (refine wpAny_bind (wpAny_load ho ?_)
           rw [hc, hd]
           show wpAny M A (if (["enumerate", "zip", "dict_itemiterator", "dict_reverseitemiterator", "odict_iterator", "itertools.zip_longest", "itertools.pairwise"].contains n && vs[0]? == some (rawInt _)) = true then _ else _) Q E s
           rw [if_neg (by intro h; rw [hn, Bool.false_and] at h; cases h)]
           exact wpAny_pure hQ))

/-- the list at a, as it stands at each turn (a loop may append to it) -/
def Itl (K : PySem.W.Frag) (a : Addr) : It :=
  ⟨fun i H => ∃ xs x, SqL K H a xs ∧ xs[i]? = some x, fun i H x H' => H' = H ∧ ∀ xs, SqL K H a xs → xs[i]? = some x, fun i H => ∃ xs, SqL K H a xs ∧ xs.length ≤ i⟩
def Itt (K : PySem.W.Frag) (a : Addr) : It :=
  ⟨fun i H => ∃ xs x, SqT K H a xs ∧ xs[i]? = some x, fun i H x H' => H' = H ∧ ∀ xs, SqT K H a xs → xs[i]? = some x, fun i H => ∃ xs, SqT K H a xs ∧ xs.length ≤ i⟩
/-- lo, lo + 1, .. (n of them) -/
def Itr (lo : Int) (n : Nat) : It := ⟨fun i _ => i < n, fun i H x H' => H' = H ∧ x = .int (lo + i), fun i _ => n ≤ i⟩
theorem turn_list {P : Program} {w : World} {K : PySem.W.Frag} {tg : Expr} (a it : Addr) : Turn P w K tg (Itl K a) [it] it (fun i h => h.IsListIter it a i) where
  mem := by simp
  obj := fun i h st b hb => by
    have e : b = it := by simpa using hb
    subst e
    obtain ⟨o, e, c, d⟩ := st
    exact ⟨o, e, fun v z => by rw [d] at z; cases z⟩
  keep := fun i h h' st k => st.at fun o e => k it (by simp) o e
  item := by
    intro X hP hw hK hc i pins s σ H E I hf st hg
    subst hP hw hK
    obtain ⟨xs, x, hq, hx⟩ := hg
    obtain ⟨its, rv, p, hz⟩ := I.list hq
    obtain ⟨u, hu, ru⟩ := rv.get hx
    obtain ⟨f0, f1, f2, f3, f4, f5⟩ := hf it (by simp)
    refine wpAny_pyNext_list_item st p.isList (x := u) (by simpa using hu) fun h' st' sb => ?_
    have I1 : Inv X pins σ H { s with heap := h' } := I.turned (t' := s.toks) (fun b o hb e => (sb.2 b hb).trans e) f0 f1 f3 f4 f5
    obtain ⟨o, e, c, d⟩ := id st'
    exact ⟨u, rfl, go_of (s := { s with heap := h' }) e c d (by decide) ⟨x, H, I1, ru, ⟨rfl, fun ys hy => by rw [I.list_inj hy hq]; exact hx⟩, st', fun b hb => (hf b hb).1⟩⟩
  done := by
    intro X hP hw hK hc i pins s σ H E I hf st hg
    subst hP hw hK
    obtain ⟨xs, hq, hx⟩ := hg
    obtain ⟨its, rv, p, hz⟩ := I.list hq
    obtain ⟨f0, f1, f2, f3, f4, f5⟩ := hf it (by simp)
    have hl := rv.length
    exact wpAny_pyNext_list_end (I.ok.hd hc) st p.isList (by simp; omega) fun h' eb => ⟨rfl, I.turned (t' := s.toks) (fun b o hb e => eb b o hb e) f0 f1 f3 f4 f5⟩
  self := fun _ _ _ _ _ st h => wpAny_pyIter_listiter st h
theorem turn_tuple {P : Program} {w : World} {K : PySem.W.Frag} {tg : Expr} (a it : Addr) : Turn P w K tg (Itt K a) [it] it (fun i h => h.IsTupleIter it a i) where
  mem := by simp
  obj := fun i h st b hb => by
    have e : b = it := by simpa using hb
    subst e
    obtain ⟨o, e, c, d⟩ := st
    exact ⟨o, e, fun v z => by rw [d] at z; cases z⟩
  keep := fun i h h' st k => st.at fun o e => k it (by simp) o e
  item := by
    intro X hP hw hK hc i pins s σ H E I hf st hg
    subst hP hw hK
    obtain ⟨xs, x, hq, hx⟩ := hg
    obtain ⟨its, rv, p, hz⟩ := I.tuple hq
    obtain ⟨u, hu, ru⟩ := rv.get hx
    obtain ⟨f0, f1, f2, f3, f4, f5⟩ := hf it (by simp)
    refine wpAny_pyNext_tuple_item st (show s.heap.IsTuple a its.toArray from p) (x := u) (by simpa using hu) fun h' st' sb => ?_
    have I1 : Inv X pins σ H { s with heap := h' } := I.turned (t' := s.toks) (fun b o hb e => (sb.2 b hb).trans e) f0 f1 f3 f4 f5
    obtain ⟨o, e, c, d⟩ := id st'
    exact ⟨u, rfl, go_of (s := { s with heap := h' }) e c d (by decide) ⟨x, H, I1, ru, ⟨rfl, fun ys hy => by rw [I.tuple_inj hy hq]; exact hx⟩, st', fun b hb => (hf b hb).1⟩⟩
  done := by
    intro X hP hw hK hc i pins s σ H E I hf st hg
    subst hP hw hK
    obtain ⟨xs, hq, hx⟩ := hg
    obtain ⟨its, rv, p, hz⟩ := I.tuple hq
    obtain ⟨f0, f1, f2, f3, f4, f5⟩ := hf it (by simp)
    have hl := rv.length
    exact wpAny_pyNext_tuple_end (I.ok.hd hc) st (show s.heap.IsTuple a its.toArray from p) (by simp; omega) fun h' eb => ⟨rfl, I.turned (t' := s.toks) (fun b o hb e => eb b o hb e) f0 f1 f3 f4 f5⟩
  self := fun _ _ _ _ _ st h => wpAny_pyIter_tupleiter st h
theorem turn_range {P : Program} {w : World} {K : PySem.W.Frag} {tg : Expr} (it : Addr) (lo : Int) (n : Nat) : Turn P w K tg (Itr lo n) [it] it (fun i h => IsRangeIter h it (lo + (i : Nat) * 1) ((n : Int) - (i : Nat)) 1) where
  mem := by simp
  obj := fun i h st b hb => by
    have e : b = it := by simpa using hb
    subst e
    exact ⟨_, st, fun v z => by
      have z' : Data.fields _ = Data.cell v := z
      cases z'⟩
  keep := fun i h h' st k => k it (by simp) _ st
  item := by
    intro X hP hw hK hc i pins s σ H E I hf st hg
    subst hP hw hK
    obtain ⟨f0, f1, f2, f3, f4, f5⟩ := hf it (by simp)
    have W := Walks.range (prog := X.prog) (w := X.w) (I.ok.hd hc) it lo 1 n
    refine W.item i s _ _ hg st fun v h' tk hv st' kk => ?_
    obtain ⟨t, rfl⟩ := hv
    have I1 : Inv X pins σ H { s with heap := h', toks := tk } := I.turned (fun b o hb e => kk b o (by simpa using hb) e) f0 f1 f3 f4 f5
    refine ⟨_, rfl, go_of (s := { s with heap := h', toks := tk }) (n := "range_iterator") st' rfl rfl (by decide) ⟨.int (lo + i), H, I1, ⟨t, ?_⟩, ⟨rfl, rfl⟩, st', fun b hb => (hf b hb).1⟩⟩
    rw [Int.mul_one]
  done := by
    intro X hP hw hK hc i pins s σ H E I hf st hg
    subst hP hw hK
    obtain ⟨f0, f1, f2, f3, f4, f5⟩ := hf it (by simp)
    exact wpAny_pyNext_range_end (I.ok.hd hc) st (by have : n ≤ i := hg; omega) fun h' eb => ⟨rfl, I.turned (t' := s.toks) (fun b o hb e => eb b o hb e) f0 f1 f3 f4 f5⟩
  self := fun _ _ _ _ _ st h => wpAny_pyIter_rangeiter st h
end L2

namespace L2
open PySem PySem.Spec PyProof.Rows
section
variable {X : Cx} {tg : Expr}
def iList (K : PySem.W.Frag) (tl : TE) : TI := fun σ H R => tl σ H fun x H1 => ∃ a, x = .ref a ∧ (∃ xs, SqL K H1 a xs) ∧ R (Itl K a) H1
def iTup (K : PySem.W.Frag) (tl : TE) : TI := fun σ H R => tl σ H fun x H1 => ∃ a, x = .ref a ∧ (∃ xs, SqT K H1 a xs) ∧ R (Itt K a) H1
theorem pi_list {l : Expr} {tl : TE} (hl : PE X l tl) : PI X tg l (iList X.K tl) := by
  intro pins s σ H R I h
  refine thn (hl pins s σ H _ I h) fun v s1 ⟨x, H1, I1, r1, q1⟩ => ?_
  obtain ⟨a, e, ⟨xs, hq⟩, q⟩ := q1
  subst e
  cases r1
  obtain ⟨its, rv, p, hz⟩ := I1.list hq
  refine wpAny_pyIter_list p.isList ?_
  refine ⟨s1.heap.objs.size, [s1.heap.objs.size], _, _, H1, rfl, I1.kept (t' := s1.toks) fun b o e => Heap.get?_push_of_some _ e, turn_list a _, ⟨_, Heap.get?_push_size _ rfl, rfl, rfl⟩, fun b hb => ?_, q⟩
  have e : b = s1.heap.objs.size := by simpa using hb
  subst e
  exact I1.fpOk (Nat.le_refl _) (I1.hok.fresh (Nat.le_refl _))
theorem pi_tup {l : Expr} {tl : TE} (hl : PE X l tl) : PI X tg l (iTup X.K tl) := by
  intro pins s σ H R I h
  refine thn (hl pins s σ H _ I h) fun v s1 ⟨x, H1, I1, r1, q1⟩ => ?_
  obtain ⟨a, e, ⟨xs, hq⟩, q⟩ := q1
  subst e
  cases r1
  obtain ⟨its, rv, p, hz⟩ := I1.tuple hq
  refine wpAny_pyIter_tuple (show s1.heap.IsTuple a its.toArray from p) ?_
  refine ⟨s1.heap.objs.size, [s1.heap.objs.size], _, _, H1, rfl, I1.kept (t' := s1.toks) fun b o e => Heap.get?_push_of_some _ e, turn_tuple a _, ⟨_, Heap.get?_push_size _ rfl, rfl, rfl⟩, fun b hb => ?_, q⟩
  have e : b = s1.heap.objs.size := by simpa using hb
  subst e
  exact I1.fpOk (Nat.le_refl _) (I1.hok.fresh (Nat.le_refl _))
/-- a range object just made, walked -/
theorem range_it {pins : List (Addr × Obj)} {σ : St} {H : Hp} {s : Shared} {R : It → Hp → Prop} {E : Value → Shared → Prop} {lo hi : Int} {t u v : Tok} {tk : Nat} (I : Inv X pins σ H s) (h1 : -(2 ^ 62) ≤ lo) (h2 : lo < 2 ^ 62) (h3 : -(2 ^ 62) ≤ hi) (h4 : hi < 2 ^ 62)
    (q : R (Itr lo (hi - lo).toNat) H) : wpAny (model X.prog X.w) X.A (pyIter (.ref s.heap.objs.size)) (PIE X pins σ tg R) E { s with heap := s.heap.push { cls := .type "range", data := .fields #[.int lo t, .int hi u, .int 1 v] }, toks := tk } := by
  refine wpAny_pyIter_range (IsRange.new ..) (small_one h1 h2 h3 h4) ?_
  have I1 : Inv X pins σ H { s with heap := s.heap.push { cls := .type "range", data := .fields #[.int lo t, .int hi u, .int 1 v] }, toks := tk } := I.kept fun b o e => Heap.get?_push_of_some _ e
  refine ⟨(s.heap.push { cls := .type "range", data := .fields #[.int lo t, .int hi u, .int 1 v] }).objs.size, [(s.heap.push { cls := .type "range", data := .fields #[.int lo t, .int hi u, .int 1 v] }).objs.size], _, _, H, rfl,
    I1.kept (t' := tk) fun b o e => Heap.get?_push_of_some _ e, turn_range _ lo (hi - lo).toNat, ?_, fun b hb => ?_, q⟩
  · have e1 : lo + ((0 : Nat) : Int) * 1 = lo := by simp
    have e2 : (((hi - lo).toNat : Nat) : Int) - ((0 : Nat) : Int) = Builtin.Range.rangeSize lo hi 1 := by rw [rangeSize_one]; split <;> omega
    show IsRangeIter _ _ (lo + ((0 : Nat) : Int) * 1) ((((hi - lo).toNat : Nat) : Int) - ((0 : Nat) : Int)) 1
    rw [e1, e2]
    exact Heap.get?_push_size _ rfl
  · have e : b = (s.heap.push { cls := .type "range", data := .fields #[.int lo t, .int hi u, .int 1 v] }).objs.size := by simpa using hb
    subst e
    exact I1.fpOk (Nat.le_refl _) (I1.hok.fresh (Nat.le_refl _))
def iRng1 (ta : TA) : TI := fun σ H R => ta σ H fun vs H1 => ∃ j : Int, vs = [.int j] ∧ -(2 ^ 62) ≤ j ∧ j < 2 ^ 62 ∧ R (Itr 0 j.toNat) H1
theorem pi_range1 {a : Expr} {ta : TA} {p pos : Pos} (hg : Gl X "range") (hm : X.mg "range" = none) (ha : PA X [a] ta) (hs : starEach [a] X.env = [(false, eval a X.env)] := by rfl) : PI X tg (.Call (.Name "range" p) [a] [] pos) (iRng1 ta) := by
  intro pins s σ H R I h
  refine Call_ (ld_blt I hg hm boot_range (PyProof.Rows.callWith_type1 (thn (ha pos pins s σ H _ I h) fun us s1 ⟨vs, H1, I1, r1, q1⟩ => ?_) hs rfl))
  obtain ⟨j, e, q1, q2, q⟩ := q1
  subst e
  cases r1 with
  | cons r rr =>
    cases rr
    obtain ⟨t, rfl⟩ := r
    exact call_range_1 (range_it I1 (by omega) (by omega) q1 q2 (by simpa using q))
/-! ### for -/
/-- W: the invariant by the turn and a measure; N: what the body is to reach -/
def tFor (wi : TI) (g : TG) (tb : TS) : TS := fun D σ H => wi σ H fun J H1 => ∃ W : Nat → Nat → St → Hp → Prop, (∃ m, W 0 m σ H1) ∧ ∀ i m σ H, W i m σ H →
  (J.stop i H ∧ D.nx σ H) ∨ (J.go i H ∧ ∃ N : St → Hp → Prop, (∀ σ' H', N σ' H' → ∃ m', m' < m ∧ W (i + 1) m' σ' H') ∧ ∀ x H', J.yld i H x H' → g x σ H' fun σ2 H2 => tb { D with nx := N, ct := N, bk := D.nx } σ2 H2)
/-- the records at fp as they stand -/
def pinsAt (fp : List Addr) (h : Heap) : List (Addr × Obj) := fp.filterMap fun b => (h.get? b).map fun o => (b, o)
theorem mem_pinsAt {fp : List Addr} {h : Heap} {b : Addr} {o : Obj} (hb : b ∈ fp) (e : h.get? b = some o) : (b, o) ∈ pinsAt fp h := List.mem_filterMap.mpr ⟨b, hb, by rw [e]; rfl⟩
theorem of_pinsAt {fp : List Addr} {h : Heap} {p : Addr × Obj} (hp : p ∈ pinsAt fp h) : p.1 ∈ fp ∧ h.get? p.1 = some p.2 := by
  obtain ⟨b, hb, e⟩ := List.mem_filterMap.mp hp
  cases q : h.get? b with
  | none => rw [q] at e; cases e
  | some o =>
    rw [q] at e
    have e' : (b, o) = p := Option.some.inj e
    subst e'
    exact ⟨hb, q⟩
theorem Inv.pinned {pins : List (Addr × Obj)} {σ : St} {H : Hp} {s : Shared} {fp : List Addr} (I : Inv X pins σ H s) (hf : ∀ b ∈ fp, FpOk X pins H b) (ho : ∀ b ∈ fp, ∃ o, s.heap.get? b = some o ∧ ∀ v, o.data ≠ .cell v) : Inv X (pins ++ pinsAt fp s.heap) σ H s :=
  I.pins_of fun p hp => (List.mem_append.mp hp).elim (fun z => I.pin p (List.mem_append_right _ z)) fun z => by
    obtain ⟨hb, e⟩ := of_pinsAt z
    obtain ⟨f0, f1, f2, _⟩ := hf p.1 hb
    obtain ⟨o, e', d⟩ := ho p.1 hb
    rw [e] at e'; cases e'
    exact ⟨e, f0, f1, f2, d⟩
theorem Inv.unpinned {pins pl : List (Addr × Obj)} {σ : St} {H : Hp} {s : Shared} (I : Inv X (pins ++ pl) σ H s) : Inv X pins σ H s := I.pins_of fun p hp => I.pin p (List.mem_append_right _ (List.mem_append_left _ hp))
theorem ps_for {iter : Expr} {body : List Stmt} {wi : TI} {g : TG} {tb : TS} {pos : Pos} (hp : PassesOwn (model X.prog X.w) X.A X.env X.xe) (hc : X.calm = true) (hi : PI X tg iter wi) (hg : PG X tg g) (hb : PSs X body tb)
    (hs : ∀ x, foldedSetIterable iter X.env x = pure x := by intro _; rfl) : PS X (.For tg iter body [] pos) (tFor wi g tb) := by
  intro pins s σ H D I h
  refine wpAny_For (thn (hi pins s σ H _ I h) fun v s1 h1 => thn h1 fun itv s2 h2 => ?_) hs
  obtain ⟨it, fp, tn, J, H2, e, I2, T, st2, f2, W, ⟨m0, w0⟩, turn⟩ := h2
  subst e
  -- what stays true of the iterator's objects through the loop
  have stat : ∀ {H' : Hp}, (∀ b ∈ fp, H' b = none) → ∀ b ∈ fp, FpOk X pins H' b := fun hn b hb => ⟨hn b hb, (f2 b hb).2⟩
  refine codeAny_forLoop_any (fun n s' => ∃ i σ' H', Inv X pins σ' H' s' ∧ tn i s'.heap ∧ (∀ b ∈ fp, H' b = none) ∧ W i n σ' H') ?_ m0 ⟨0, σ, H2, I2, st2, fun b hb => (f2 b hb).1, w0⟩
  rintro n s3 ⟨i, σ3, H3, I3, st3, fr3, w3⟩
  rcases turn i n σ3 H3 w3 with ⟨stop, qn⟩ | ⟨go, N, hN, step⟩
  · refine wpAny_passesOwn hp (thn (T.done X rfl rfl rfl hc i pins s3 σ3 H3 X.xe I3 (stat fr3) st3 stop) fun r s4 ⟨hr, I4⟩ => ?_)
    subst hr
    exact wpAny_execs_nil ⟨σ3, H3, I4, qn⟩
  · refine wpAny_passesOwn hp (thn (T.item X rfl rfl rfl hc i pins s3 σ3 H3 X.xe I3 (stat fr3) st3 go) fun r s4 ⟨u, hr, h4⟩ => ?_)
    subst hr
    refine wpAny_passesOwn hp (thn h4 fun _ s5 ⟨x, H5, I5, r5, y5, st5, fr5⟩ => ?_)
    have I5' := I5.pinned (stat fr5) (T.obj _ _ st5)
    refine wpAny_passesOwn hp (thn (hg _ s5 σ3 H5 x u _ I5' r5 (step x H5 y5)) fun _ s6 ⟨σ6, H6, I6, q6⟩ => ?_)
    refine wpAny_passesOwn hp (thn (hb _ s6 σ6 H6 _ I6 q6) fun f s7 q7 => ?_)
    have again : ∀ {σ7 : St} {H7 : Hp}, Inv X (pins ++ pinsAt fp s5.heap) σ7 H7 s7 → N σ7 H7 → ∃ m, m < n ∧ ∃ i σ' H', Inv X pins σ' H' s7 ∧ tn i s7.heap ∧ (∀ b ∈ fp, H' b = none) ∧ W i m σ' H' := fun {σ7 H7} I7 n7 => by
      obtain ⟨m', hm, w7⟩ := hN σ7 H7 n7
      refine ⟨m', hm, i + 1, σ7, H7, I7.unpinned, T.keep _ _ _ st5 fun b hb o e => (I7.pin (b, o) (List.mem_append_right _ (List.mem_append_right _ (mem_pinsAt hb e)))).1, fun b hb => ?_, w7⟩
      obtain ⟨o, e, d⟩ := T.obj _ _ st5 b hb
      exact (I7.pin (b, o) (List.mem_append_right _ (List.mem_append_right _ (mem_pinsAt hb e)))).2.1
    cases f with
    | next => obtain ⟨σ7, H7, I7, n7⟩ := q7; exact again I7 n7
    | cont => obtain ⟨σ7, H7, I7, n7⟩ := q7; exact again I7 n7
    | brk => obtain ⟨σ7, H7, I7, q7⟩ := q7; exact ⟨σ7, H7, I7.unpinned, q7⟩
    | ret v => obtain ⟨x7, σ7, H7, I7, r7, q7⟩ := q7; exact ⟨x7, σ7, H7, I7.unpinned, r7, q7⟩
end

/-! ### the forms one uses -/
/-- over a list that the body leaves as it is -/
theorem for_list {K : PySem.W.Frag} {a : Addr} {xs : List V} {g : TG} {tb : TS} {D : Ends} {σ : St} {H : Hp} (Pv : Nat → St → Hp → Prop) (h0 : Pv 0 σ H) (hl : ∀ i σ H, i ≤ xs.length → Pv i σ H → SqL K H a xs)
    (hs : ∀ i x σ H, xs[i]? = some x → Pv i σ H → g x σ H fun σ2 H2 => tb { D with nx := Pv (i + 1), ct := Pv (i + 1), bk := D.nx } σ2 H2) (hd : ∀ σ H, Pv xs.length σ H → D.nx σ H) :
    ∃ W : Nat → Nat → St → Hp → Prop, (∃ m, W 0 m σ H) ∧ ∀ i m σ H, W i m σ H →
      ((Itl K a).stop i H ∧ D.nx σ H) ∨ ((Itl K a).go i H ∧ ∃ N : St → Hp → Prop, (∀ σ' H', N σ' H' → ∃ m', m' < m ∧ W (i + 1) m' σ' H') ∧ ∀ x H', (Itl K a).yld i H x H' → g x σ H' fun σ2 H2 => tb { D with nx := N, ct := N, bk := D.nx } σ2 H2) := by
  refine ⟨fun i m σ H => m = xs.length - i ∧ i ≤ xs.length ∧ Pv i σ H, ⟨xs.length, by simp, Nat.zero_le _, h0⟩, ?_⟩
  rintro i m σ H ⟨rfl, hi, p⟩
  have q := hl i σ H hi p
  by_cases hlt : i < xs.length
  · refine .inr ⟨⟨xs, xs[i], q, by simp [hlt]⟩, Pv (i + 1), fun σ' H' p' => ⟨xs.length - (i + 1), by omega, rfl, hlt, p'⟩, fun x H' y => ?_⟩
    obtain ⟨e, y⟩ := y
    subst e
    exact hs i x σ _ (y xs q) p
  · have e : i = xs.length := by omega
    subst e
    exact .inl ⟨⟨xs, q, Nat.le_refl _⟩, hd σ H p⟩
theorem for_tup {K : PySem.W.Frag} {a : Addr} {xs : List V} {g : TG} {tb : TS} {D : Ends} {σ : St} {H : Hp} (Pv : Nat → St → Hp → Prop) (h0 : Pv 0 σ H) (hl : ∀ i σ H, i ≤ xs.length → Pv i σ H → SqT K H a xs)
    (hs : ∀ i x σ H, xs[i]? = some x → Pv i σ H → g x σ H fun σ2 H2 => tb { D with nx := Pv (i + 1), ct := Pv (i + 1), bk := D.nx } σ2 H2) (hd : ∀ σ H, Pv xs.length σ H → D.nx σ H) :
    ∃ W : Nat → Nat → St → Hp → Prop, (∃ m, W 0 m σ H) ∧ ∀ i m σ H, W i m σ H →
      ((Itt K a).stop i H ∧ D.nx σ H) ∨ ((Itt K a).go i H ∧ ∃ N : St → Hp → Prop, (∀ σ' H', N σ' H' → ∃ m', m' < m ∧ W (i + 1) m' σ' H') ∧ ∀ x H', (Itt K a).yld i H x H' → g x σ H' fun σ2 H2 => tb { D with nx := N, ct := N, bk := D.nx } σ2 H2) := by
  refine ⟨fun i m σ H => m = xs.length - i ∧ i ≤ xs.length ∧ Pv i σ H, ⟨xs.length, by simp, Nat.zero_le _, h0⟩, ?_⟩
  rintro i m σ H ⟨rfl, hi, p⟩
  have q := hl i σ H hi p
  by_cases hlt : i < xs.length
  · refine .inr ⟨⟨xs, xs[i], q, by simp [hlt]⟩, Pv (i + 1), fun σ' H' p' => ⟨xs.length - (i + 1), by omega, rfl, hlt, p'⟩, fun x H' y => ?_⟩
    obtain ⟨e, y⟩ := y
    subst e
    exact hs i x σ _ (y xs q) p
  · have e : i = xs.length := by omega
    subst e
    exact .inl ⟨⟨xs, q, Nat.le_refl _⟩, hd σ H p⟩
theorem for_range {lo : Int} {n : Nat} {g : TG} {tb : TS} {D : Ends} {σ : St} {H : Hp} (Pv : Nat → St → Hp → Prop) (h0 : Pv 0 σ H)
    (hs : ∀ i σ H, i < n → Pv i σ H → g (.int (lo + i)) σ H fun σ2 H2 => tb { D with nx := Pv (i + 1), ct := Pv (i + 1), bk := D.nx } σ2 H2) (hd : ∀ σ H, Pv n σ H → D.nx σ H) :
    ∃ W : Nat → Nat → St → Hp → Prop, (∃ m, W 0 m σ H) ∧ ∀ i m σ H, W i m σ H →
      ((Itr lo n).stop i H ∧ D.nx σ H) ∨ ((Itr lo n).go i H ∧ ∃ N : St → Hp → Prop, (∀ σ' H', N σ' H' → ∃ m', m' < m ∧ W (i + 1) m' σ' H') ∧ ∀ x H', (Itr lo n).yld i H x H' → g x σ H' fun σ2 H2 => tb { D with nx := N, ct := N, bk := D.nx } σ2 H2) := by
  refine ⟨fun i m σ H => m = n - i ∧ i ≤ n ∧ Pv i σ H, ⟨n, by simp, Nat.zero_le _, h0⟩, ?_⟩
  rintro i m σ H ⟨rfl, hi, p⟩
  by_cases hlt : i < n
  · refine .inr ⟨hlt, Pv (i + 1), fun σ' H' p' => ⟨n - (i + 1), by omega, rfl, hlt, p'⟩, fun x H' y => ?_⟩
    obtain ⟨e, y⟩ := y
    subst e y
    exact hs i σ _ hlt p
  · have e : i = n := by omega
    subst e
    exact .inl ⟨Nat.le_refl _, hd σ H p⟩
end L2

namespace L2
open PySem PySem.Spec PyProof.Rows

abbrev R2 := V → V → Hp → VK → Prop
/-- a two-place operation on values: f is binaryOp op, inplaceOp op or compareOp op -/
def OpR (X : Cx) (f : Value → Value → Sem Value) (r : R2) : Prop :=
  ∀ (pins : List (Addr × Obj)) (s : Shared) (σ : St) (H : Hp) (x y : V) (v u : Value) (Q : VK), Inv X pins σ H s → RelV x v → RelV y u → r x y H Q →
    wpAny (model X.prog X.w) X.A (f v u) (EP X pins σ Q) X.xe s
/-- a call of a value that is known (a builtin, a type) with values -/
def CallR (X : Cx) (f : Value) (r : List V → Hp → VK → Prop) : Prop :=
  ∀ (pins : List (Addr × Obj)) (s : Shared) (σ : St) (H : Hp) (xs : List V) (us : List Value) (Q : VK), Inv X pins σ H s → Vals xs us → r xs H Q →
    wpAny (model X.prog X.w) X.A (call f us) (EP X pins σ Q) X.xe s
def tOp (r : R2) (ta tb : TE) : TE := fun σ H Q => ta σ H fun x H1 => tb σ H1 fun y H2 => r x y H2 Q
/-- ints in, under C, and a value out -/
def rI (C : Int → Int → Prop) (g : Int → Int → V) : R2 := fun x y H Q => ∃ i j, x = .int i ∧ y = .int j ∧ C i j ∧ Q (g i j) H
def rI0 (g : Int → Int → V) : R2 := fun x y H Q => ∃ i j, x = .int i ∧ y = .int j ∧ Q (g i j) H
section
variable {X : Cx} {a b c : Expr} {ta tb tc : TE} {pos : Pos}

theorem binT (ha : PE X a ta) (hb : PE X b tb) {pins : List (Addr × Obj)} {s : Shared} {σ : St} {H : Hp} {R : V → V → Hp → Prop} (I : Inv X pins σ H s)
    (h : ta σ H fun x H1 => tb σ H1 fun y H2 => R x y H2) {Q : Value → Shared → Prop} {f : Value → Value → Sem Value}
    (hf : ∀ v u s2 x y H2, Inv X pins σ H2 s2 → RelV x v → RelV y u → R x y H2 → wpAny (model X.prog X.w) X.A (f v u) Q X.xe s2) :
    wpAny (model X.prog X.w) X.A (eval a X.env) (fun v s₁ => wpAny (model X.prog X.w) X.A (eval b X.env) (fun u s₂ => wpAny (model X.prog X.w) X.A (f v u) Q X.xe s₂) X.xe s₁) X.xe s := by
  refine thn (ha pins s σ H _ I h) fun v s1 ⟨x, H1, I1, r1, q1⟩ => ?_
  refine thn (hb pins s1 σ H1 _ I1 q1) fun u s2 ⟨y, H2, I2, r2, q2⟩ => ?_
  exact hf v u s2 x y H2 I2 r1 r2 q2

theorem pe_op {op : Operator} {r : R2} (ho : OpR X (binaryOp op) r) (ha : PE X a ta) (hb : PE X b tb) : PE X (.BinOp a op b pos) (tOp r ta tb) := by
  intro pins s σ H Q I h
  exact wpAny_BinOp (binT ha hb I h fun v u s2 x y H2 I2 rx ry q => ho pins s2 σ H2 x y v u Q I2 rx ry q)
/-! ### ints -/
theorem opI {f : Value → Value → Sem Value} {C : Int → Int → Prop} {g : Int → Int → Int}
    (rule : ∀ (i j : Int) (t u : Tok) (s : Shared) (Q : Value → Shared → Prop) (E : Value → Shared → Prop), C i j → Q (.int (g i j) s.toks) { s with toks := s.toks + 1 } → wpAny (model X.prog X.w) X.A (f (.int i t) (.int j u)) Q E s) :
    OpR X f (rI C fun i j => .int (g i j)) := by
  intro pins s σ H x y v u Q I rx ry h
  obtain ⟨i, j, rfl, rfl, hc, q⟩ := h
  obtain ⟨t, rfl⟩ := rx
  obtain ⟨t', rfl⟩ := ry
  exact rule i j t t' s _ _ hc ⟨.int (g i j), H, I.tok _, ⟨_, rfl⟩, q⟩
theorem opI0 {f : Value → Value → Sem Value} {g : Int → Int → Int}
    (rule : ∀ (i j : Int) (t u : Tok) (s : Shared) (Q : Value → Shared → Prop) (E : Value → Shared → Prop), Q (.int (g i j) s.toks) { s with toks := s.toks + 1 } → wpAny (model X.prog X.w) X.A (f (.int i t) (.int j u)) Q E s) :
    OpR X f (rI0 fun i j => .int (g i j)) := by
  intro pins s σ H x y v u Q I rx ry h
  obtain ⟨i, j, rfl, rfl, q⟩ := h
  obtain ⟨t, rfl⟩ := rx
  obtain ⟨t', rfl⟩ := ry
  exact rule i j t t' s _ _ ⟨.int (g i j), H, I.tok _, ⟨_, rfl⟩, q⟩
theorem opB0 {f : Value → Value → Sem Value} {g : Int → Int → Bool}
    (rule : ∀ (i j : Int) (t u : Tok) (s : Shared) (Q : Value → Shared → Prop) (E : Value → Shared → Prop), Q (.bool (g i j)) s → wpAny (model X.prog X.w) X.A (f (.int i t) (.int j u)) Q E s) :
    OpR X f (rI0 fun i j => .bl (g i j)) := by
  intro pins s σ H x y v u Q I rx ry h
  obtain ⟨i, j, rfl, rfl, q⟩ := h
  obtain ⟨t, rfl⟩ := rx
  obtain ⟨t', rfl⟩ := ry
  exact rule i j t t' s _ _ ⟨.bl (g i j), H, I, rfl, q⟩

def CDiv (i j : Int) : Prop := 0 < j ∧ j < 1073741824
def CPow (i j : Int) : Prop := 0 ≤ j ∧ j ≤ 1000000 ∧ i.natAbs < 2 ^ 64
def CMul (i j : Int) : Prop := (-(2 ^ 64) < i ∧ i < 2 ^ 64) ∨ (-(2 ^ 64) < j ∧ j < 2 ^ 64)
theorem CMul.ok {i j : Int} (h : CMul i j) : IntMulOk i j := by
  rcases h with ⟨h1, h2⟩ | ⟨h1, h2⟩
  · exact .of_left (intBits_le_64 h1 h2)
  · exact .of_right (intBits_le_64 h1 h2)
theorem op_add : OpR X (binaryOp .Add) (rI0 fun i j => .int (i + j)) := opI0 fun _ _ _ _ _ _ _ q => add_int q
theorem op_sub : OpR X (binaryOp .Sub) (rI0 fun i j => .int (i - j)) := opI0 fun _ _ _ _ _ _ _ q => sub_int q
theorem op_mul : OpR X (binaryOp .Mult) (rI CMul fun i j => .int (i * j)) := opI fun _ _ _ _ _ _ _ hc q => mul_int q hc.ok
/-- // by a positive divisor -/
theorem op_fdiv : OpR X (binaryOp .FloorDiv) (rI CDiv fun i j => .int (i / j)) := opI fun i j _ _ _ _ _ hc q => by
  have h1 : (0 : Int) < j := hc.1
  have h2 : j < 1073741824 := hc.2
  exact floordiv_int (by omega) (by rw [Int.fdiv_eq_ediv_of_nonneg i (by omega)]; exact q) (.inl (PyProof.noPylong_small (by omega)))
/-- % by a positive divisor of any size -/
theorem op_mod : OpR X (binaryOp .Mod) (rI (fun _ j => 0 < j) fun i j => .int (i % j)) := opI fun i j _ _ _ _ _ hc q => by
  have h1 : (0 : Int) < j := hc
  exact mod_int' (by omega) (by rw [Int.fmod_eq_emod_of_nonneg i (by omega)]; exact q)
theorem op_pow : OpR X (binaryOp .Pow) (rI CPow fun i j => .int (i ^ j.toNat)) := opI fun _ _ _ _ _ _ _ hc q => pow_int_small hc.1 hc.2.1 hc.2.2 q
/-! ### bools among ints: n += (a < b) -/
end

/-! ### comparisons -/
/-- the scalars that == tells apart as data does -/
def scal : V → V → Bool
  | .non, .non => true | .non, .int _ => true | .int _, .non => true | .non, .bl _ => true | .bl _, .non => true | .non, .str _ => true | .str _, .non => true
  | .int _, .int _ => true | .bl _, .bl _ => true | .str _, .str _ => true | .byt _, .byt _ => true
  | .int _, .str _ => true | .str _, .int _ => true | .bl _, .str _ => true | .str _, .bl _ => true
  | _, _ => false
def rEq : R2 := fun x y H Q => scal x y = true ∧ Q (.bl (decide (x = y))) H
def rNe : R2 := fun x y H Q => scal x y = true ∧ Q (.bl (!decide (x = y))) H

theorem dec_int {i j : Int} : decide (V.int i = V.int j) = (i == j) := by
  rw [Bool.eq_iff_iff]
  simp
theorem dec_bl {i j : Bool} : decide (V.bl i = V.bl j) = (i == j) := by
  rw [Bool.eq_iff_iff]
  simp
theorem dec_str {i j : Str} : decide (V.str i = V.str j) = (i == j) := by
  rw [Bool.eq_iff_iff]
  simp
theorem dec_byt {i j : Array UInt8} : decide (V.byt i = V.byt j) = (i.toList == j.toList) := by
  rw [Bool.eq_iff_iff]
  cases i
  cases j
  simp

section
variable {X : Cx} {a b c : Expr} {ta tb tc : TE} {pos : Pos}
theorem fin_bl {pins : List (Addr × Obj)} {σ : St} {H : Hp} {s : Shared} {Q : VK} {k k' : Bool} (I : Inv X pins σ H s) (q : Q (.bl k) H) (e : k = k') : EP X pins σ Q (.bool k') s := by
  subst e
  exact ⟨.bl k, H, I, rfl, q⟩
theorem op_eq : OpR X (compareOp .Eq) rEq := by
  intro pins s σ H x y v u Q I rx ry h
  obtain ⟨hs, q⟩ := h
  cases x with
  | non =>
    cases rx
    cases y with
    | non => cases ry; exact PySem.EqNone.eq_none_none (fin_bl I q (by simp))
    | bl j => cases ry; exact PySem.EqNone.eq_none_bool (fin_bl I q (by simp))
    | int j => obtain ⟨t', rfl⟩ := ry; exact PySem.EqNone.eq_none_int (fin_bl I q (by simp))
    | str j => obtain ⟨t', rfl⟩ := ry; exact PySem.EqNone.eq_none_str (fin_bl I q (by simp))
    | _ => exact absurd (show false = true from hs) Bool.false_ne_true
  | bl i =>
    cases rx
    cases y with
    | non => cases ry; exact PySem.EqNone.eq_bool_none (fin_bl I q (by simp))
    | bl j => cases ry; exact eq_bool (fin_bl I q dec_bl)
    | str j => obtain ⟨t', rfl⟩ := ry; exact PySem.EqMixed.eq_bool_str (fin_bl I q (by simp))
    | _ => exact absurd (show false = true from hs) Bool.false_ne_true
  | int i =>
    obtain ⟨t, rfl⟩ := rx
    cases y with
    | non => cases ry; exact PySem.EqNone.eq_int_none (fin_bl I q (by simp))
    | int j => obtain ⟨t', rfl⟩ := ry; exact eq_int (fin_bl I q dec_int)
    | str j => obtain ⟨t', rfl⟩ := ry; exact PySem.EqMixed.eq_int_str (fin_bl I q (by simp))
    | _ => exact absurd (show false = true from hs) Bool.false_ne_true
  | str i =>
    obtain ⟨t, rfl⟩ := rx
    cases y with
    | non => cases ry; exact PySem.EqNone.eq_str_none (fin_bl I q (by simp))
    | bl j => cases ry; exact PySem.EqMixed.eq_str_bool (fin_bl I q (by simp))
    | int j => obtain ⟨t', rfl⟩ := ry; exact PySem.EqMixed.eq_str_int (fin_bl I q (by simp))
    | str j => obtain ⟨t', rfl⟩ := ry; exact eq_str (fin_bl I q dec_str)
    | _ => exact absurd (show false = true from hs) Bool.false_ne_true
  | byt i =>
    obtain ⟨t, rfl⟩ := rx
    cases y with
    | byt j => obtain ⟨t', rfl⟩ := ry; exact PySem.W.eq_bytes (fin_bl I q dec_byt)
    | _ => exact absurd (show false = true from hs) Bool.false_ne_true
  | _ => cases y <;> exact absurd (show false = true from hs) Bool.false_ne_true
theorem op_ne : OpR X (compareOp .NotEq) rNe := by
  intro pins s σ H x y v u Q I rx ry h
  obtain ⟨hs, q⟩ := h
  cases x with
  | non =>
    cases rx
    cases y with
    | non => cases ry; exact PySem.EqNone.ne_none_none (fin_bl I q (by simp))
    | bl j => cases ry; exact PySem.EqNone.ne_none_bool (fin_bl I q (by simp))
    | int j => obtain ⟨t', rfl⟩ := ry; exact PySem.EqNone.ne_none_int (fin_bl I q (by simp))
    | str j => obtain ⟨t', rfl⟩ := ry; exact PySem.EqNone.ne_none_str (fin_bl I q (by simp))
    | _ => exact absurd (show false = true from hs) Bool.false_ne_true
  | bl i =>
    cases rx
    cases y with
    | non => cases ry; exact PySem.EqNone.ne_bool_none (fin_bl I q (by simp))
    | bl j => cases ry; exact ne_bool (fin_bl I q (congrArg not dec_bl))
    | str j => obtain ⟨t', rfl⟩ := ry; exact PySem.EqMixed.ne_bool_str (fin_bl I q (by simp))
    | _ => exact absurd (show false = true from hs) Bool.false_ne_true
  | int i =>
    obtain ⟨t, rfl⟩ := rx
    cases y with
    | non => cases ry; exact PySem.EqNone.ne_int_none (fin_bl I q (by simp))
    | int j => obtain ⟨t', rfl⟩ := ry; exact ne_int (fin_bl I q (congrArg not dec_int))
    | str j => obtain ⟨t', rfl⟩ := ry; exact PySem.EqMixed.ne_int_str (fin_bl I q (by simp))
    | _ => exact absurd (show false = true from hs) Bool.false_ne_true
  | str i =>
    obtain ⟨t, rfl⟩ := rx
    cases y with
    | non => cases ry; exact PySem.EqNone.ne_str_none (fin_bl I q (by simp))
    | bl j => cases ry; exact PySem.EqMixed.ne_str_bool (fin_bl I q (by simp))
    | int j => obtain ⟨t', rfl⟩ := ry; exact PySem.EqMixed.ne_str_int (fin_bl I q (by simp))
    | str j => obtain ⟨t', rfl⟩ := ry; exact ne_str (fin_bl I q (congrArg not dec_str))
    | _ => exact absurd (show false = true from hs) Bool.false_ne_true
  | byt i =>
    obtain ⟨t, rfl⟩ := rx
    cases y with
    | byt j => obtain ⟨t', rfl⟩ := ry; exact PySem.W.ne_bytes (fin_bl I q (congrArg not dec_byt))
    | _ => exact absurd (show false = true from hs) Bool.false_ne_true
  | _ => cases y <;> exact absurd (show false = true from hs) Bool.false_ne_true

theorem op_lt : OpR X (compareOp .Lt) (rI0 fun i j => .bl (decide (i < j))) := opB0 fun _ _ _ _ _ _ _ q => lt_int q
theorem op_le : OpR X (compareOp .LtE) (rI0 fun i j => .bl (decide (i ≤ j))) := opB0 fun _ _ _ _ _ _ _ q => le_int q
theorem nomark (b : Expr) {op : CmpOp} (h : op ≠ .In := by decide) (h2 : op ≠ .NotIn := by decide) : behindInMarks op b = false := by
  have e1 : (op == CmpOp.In) = false := by cases op <;> first | rfl | exact absurd rfl h
  have e2 : (op == CmpOp.NotIn) = false := by cases op <;> first | rfl | exact absurd rfl h2
  cases b <;> simp [behindInMarks, e1, e2]
/-- a comparison as a value; hm: nomark b, or (for in, not in) by with_unfolding_all rfl -/
theorem pe_cmpR {op : CmpOp} {r : R2} (ho : OpR X (compareOp op) r) (ha : PE X a ta) (hb : PE X b tb) (hm : behindInMarks op b = false) : PE X (.Compare a [op] [b] pos) (tOp r ta tb) := by
  intro pins s σ H Q I h
  exact wpAny_Compare1 (binT ha hb I h fun v u s2 x y H2 I2 rx ry q => ho pins s2 σ H2 x y v u Q I2 rx ry q) hm
/-- a reading of a value as a test -/
def tTest (t : TE) : TT := fun σ H Q => t σ H fun x H' => ∃ k, x = .bl k ∧ Q k H'
theorem pt_cmpR {op : CmpOp} {r : R2} (ho : OpR X (compareOp op) r) (ha : PE X a ta) (hb : PE X b tb) (hm : behindInMarks op b = false) : PT X (.Compare a [op] [b] pos) (tTest (tOp r ta tb)) := by
  intro pins s σ H Q I h
  refine wpAny_isTrue_Compare1 (thn (ha pins s σ H _ I h) fun v s1 ⟨x, H1, I1, r1, q1⟩ => thn (hb pins s1 σ H1 _ I1 q1) fun u s2 ⟨y, H2, I2, r2, q2⟩ =>
    thn (ho pins s2 σ H2 x y v u _ I2 r1 r2 q2) fun c s3 ⟨z, H3, I3, r3, k, e, q3⟩ => ?_) hm
  subst e
  cases r3
  exact wpAny_truthy_bool ⟨H3, I3, q3⟩
/-! ### truth -/
theorem line63 : (sizeLine : Nat) < 2 ^ 63 := by rw [sizeLine_eq]; decide
/-! ### strs and bytes -/
theorem op_add_str : OpR X (binaryOp .Add) (fun x y H Q => ∃ i j, x = .str i ∧ y = .str j ∧ i.length + j.length ≤ sizeLine ∧ Q (.str (i ++ j)) H) := by
  intro pins s σ H x y v u Q I rx ry h
  obtain ⟨i, j, rfl, rfl, hz, q⟩ := h
  obtain ⟨t, rfl⟩ := rx
  obtain ⟨t', rfl⟩ := ry
  exact add_str (fun t' tk => ⟨.str (i ++ j), H, I.tok _, ⟨_, rfl⟩, q⟩) hz
/-! ### scalar builtins, by CallR -/
theorem vals1 {x : V} {us : List Value} (r : Vals [x] us) : ∃ u, us = [u] ∧ RelV x u := by
  cases r with
  | cons r1 r2 => cases r2; exact ⟨_, rfl, r1⟩
theorem vals2 {x y : V} {us : List Value} (r : Vals [x, y] us) : ∃ u w', us = [u, w'] ∧ RelV x u ∧ RelV y w' := by
  cases r with
  | cons r1 r2 =>
    cases r2 with
    | cons r3 r4 => cases r4; exact ⟨_, _, rfl, r1, r3⟩
theorem call_min2 (hc : X.calm = true) : CallR X (.builtin "min") (fun xs H Q => ∃ i j, xs = [.int i, .int j] ∧ Q (.int (if j < i then j else i)) H) := by
  intro pins s σ H xs us Q I r h
  obtain ⟨i, j, rfl, q⟩ := h
  obtain ⟨u, w', rfl, ⟨t, rfl⟩, ⟨t', rfl⟩⟩ := vals2 r
  refine min_two_ints (I.ok.hd hc) fun h' tk k => ⟨_, H, I.kept k, ?_, q⟩
  by_cases hj : j < i
  · rw [if_pos hj, if_pos hj]; exact ⟨_, rfl⟩
  · rw [if_neg hj, if_neg hj]; exact ⟨_, rfl⟩
theorem call_int1 : CallR X (.type "int") (fun xs H Q => (∃ i, xs = [.int i] ∧ Q (.int i) H) ∨ ∃ k, xs = [.bl k] ∧ Q (.int (if k then 1 else 0)) H) := by
  intro pins s σ H xs us Q I r h
  rcases h with ⟨i, rfl, q⟩ | ⟨k, rfl, q⟩
  · obtain ⟨u, rfl, t, rfl⟩ := vals1 r
    exact call_int_int ⟨.int i, H, I, ⟨_, rfl⟩, q⟩
  · obtain ⟨u, rfl, r1⟩ := vals1 r
    cases r1
    exact call_int_bool ⟨.int (if k then 1 else 0), H, I.tok _, ⟨_, rfl⟩, q⟩
theorem call_str_int : CallR X (.type "str") (fun xs H Q => ∃ i, xs = [.int i] ∧ i.natAbs.log2 < 1920 ∧ Q (.str (toString i)) H) := by
  intro pins s σ H xs us Q I r h
  obtain ⟨i, rfl, hz, q⟩ := h
  obtain ⟨u, rfl, t, rfl⟩ := vals1 r
  exact PySem.P.str_of_int hz ⟨.str _, H, I.tok _, ⟨_, rfl⟩, q⟩
end
end L2

namespace L2
open PySem PySem.Spec PyProof.Rows

/-! ### an instance, its attributes a map -/
structure ObjM (h : Heap) (x dx C : Addr) (mA : Str → Option Value) : Prop where
  obj : h.get? x = some (PySem.W.instObj C dx)
  ns : h.Ns1 dx mA
  ne : dx ≠ x

theorem lookIn_ns {h : Heap} {dx : Addr} {mA : Str → Option Value} (n : h.Ns1 dx mA) : ∃ od, h.get? dx = some od ∧ ∀ name, PySem.W.lookIn name od = some (mA name) := by
  obtain ⟨o, es, ep, ho, hd, hk, _, hm⟩ := n
  refine ⟨o, ho, fun name => ?_⟩
  have e := hm name
  unfold nsFind findBy at e
  rw [← Array.find?_toList] at e
  unfold PySem.W.lookIn
  rw [hd]
  dsimp only
  split
  · rename_i y q
    rw [q] at e
    exact congrArg some e
  · rename_i q
    rw [q] at e
    have a : es.toList.any (·.refKey) = false := by
      rw [List.any_eq_false]
      intro y hy
      obtain ⟨z, t, hkey⟩ := hk y (Array.mem_toList_iff.mp hy)
      simp [DictEntry.refKey, hkey]
    have a' : ¬ es.toList.any (·.refKey) = true := by rw [a]; exact Bool.false_ne_true
    rw [if_neg a']
    exact congrArg some e

theorem ObjM.look {h : Heap} {x dx C : Addr} {mA : Str → Option Value} (I : ObjM h x dx C mA) : ∃ od, PySem.W.InstAt h x (PySem.W.instObj C dx) C (some od) ∧ ∀ name, PySem.W.lookIn name od = some (mA name) :=
  let ⟨od, ho, hl⟩ := lookIn_ns I.ns
  ⟨od, ⟨I.obj, rfl, rfl, ho⟩, hl⟩

section
variable {prog : Program} {w : World} {A : Around} {E : Value → Shared → Prop} {s : Shared} {K : PySem.W.Frag} {x dx C f : Addr} {mA : Str → Option Value} {name : Str} {v : Value}

theorem get_map {expr : Bool} {Q : Value → Shared → Prop} (X : K.In s.heap) (I : ObjM s.heap x dx C mA) (hg : PySem.W.plainGet K C name = true) (hh : PySem.W.hasDictIn K C = true)
    (ha : PySem.W.findIn K (.ref C) name = some none) (hv : mA name = some v) (hv' : PySem.W.handedIn v = true) (h : Q v { s with toks := s.toks + 1 }) :
    wpAny (model prog w) A (getAttr (.ref x) name expr) Q E s := by
  obtain ⟨od, J, hl⟩ := I.look
  exact PySem.W.get_value X J (PySem.W.plainGet_of hg).1 (PySem.W.findObj_own hh ha rfl (by rw [hl, hv])) hv' h

theorem set_map {ns : List Str} {Q : Unit → Shared → Prop} (X : K.In s.heap) (I : ObjM s.heap x dx C mA)
    (hs : PySem.W.findIn K (.ref C) "__setattr__" = some (some (.builtin "object.__setattr__"))) (hp : PySem.W.plainOver K C = true) (ht : PySem.W.takerIn K C name = some none) (hh : PySem.W.hasDictIn K C = true)
    (hw : PySem.Within mA ns) (hsz : ns.length ≤ sizeLine)
    (h : ∀ h', ObjM h' x dx C (fun y => if y = name then some v else mA y) → Heap.SameBut dx s.heap h' → Q () { s with heap := h', toks := s.toks + 2 }) :
    wpAny (model prog w) A (setAttr (.ref x) name v) Q E s := by
  obtain ⟨od, J, hl⟩ := I.look
  refine PySem.W.set_plain X J hs (PySem.W.osa_open (s := { s with toks := s.toks + 1 }) (r := none) X J hp ht fun b => ?_)
  obtain ⟨cd, hc, hd'⟩ := PySem.W.any_some hh
  have hx : s.heap.get? x = some ⟨.ref C, some dx, .plain, #[]⟩ := I.obj
  refine wpAny_bind (wpAny_pure (wpAny_bind (wpAny_bind (wpAny_loadPart hx (wpAny_bind (PySem.W.Looks.here (s := { s with toks := s.toks + 1 }) (PySem.W.looks_clsIn X hc) ?_))))))
  rw [hd']
  refine wpAny_pure (a := some dx) (wpAny_bind (wpAny_pure (wpAny_bind ?_)))
  refine wpAny_nsSet1 (s := { s with toks := s.toks + 1 }) I.ns fun h' hn2 hs2 => ?_
  obtain ⟨oD, esD, epD, hoD, hdD, hcD⟩ := hn2.count (PySem.Within.cons name v hw)
  refine wpAny_bind (wpAny_lookBehind hoD (by rw [hdD]; exact pastItsLine_dict (Nat.le_trans hcD (by rw [List.length_cons]; omega))) ?_)
  exact wpAny_pure (h _ ⟨(hs2.2 _ (Ne.symm I.ne)).trans I.obj, hn2, I.ne⟩ hs2)

/-- C(..): the dict at the heap's end, the instance behind it; then its __init__ -/
theorem make_map {R : Result → Shared → Prop} {vs : List Value} {kw : List (Str × Value)} (X : K.In s.heap) (hm : PySem.W.makesIn K C = true)
    (hi : PySem.W.findIn K (.ref C) "__init__" = some (some (.ref f))) (hf : PySem.W.typeIn K (.ref f) = some (.type "function"))
    (h : codeAny (model prog w) (A.under (.builtin "type.__call__" ⟨.ref C :: vs, kw⟩)) (.call (.ref f) ⟨.ref (s.heap.objs.size + 1) :: vs, kw⟩) (PySem.W.InitBack (s.heap.objs.size + 1) R)
      { s with heap := (s.heap.push PySem.W.emptyDict).push (PySem.W.instObj C s.heap.objs.size) }) :
    codeAny (model prog w) A (.call (.ref C) ⟨vs, kw⟩) R s := by
  obtain ⟨hh, g, d, t, os⟩ := s
  exact PySem.W.make_core (PySem.W.makes_of X hm) (PySem.W.looks_findIn X hi) (fun self => PySem.W.bind_fn X self hf) (.inl rfl) h
end

/-! ### the attributes as a list of pairs -/
def putF (f : Str) (v : V) : List (Str × V) → List (Str × V)
  | [] => [(f, v)]
  | (g, x) :: r => if g = f then (g, v) :: r else (g, x) :: putF f v r
theorem lookup_putF (f g : Str) (v : V) : ∀ fs : List (Str × V), (putF f v fs).lookup g = if g = f then some v else fs.lookup g
  | [] => by
    show List.lookup g [(f, v)] = _
    by_cases h : g = f
    · have hb : (g == f) = true := beq_iff_eq.mpr h
      simp only [List.lookup, hb, if_pos h]
    · have hb : (g == f) = false := beq_eq_false_iff_ne.mpr h
      simp only [List.lookup, hb, if_neg h]
  | (k, x) :: r => by
    have ih := lookup_putF f g v r
    rw [show putF f v ((k, x) :: r) = (if k = f then (k, v) :: r else (k, x) :: putF f v r) from rfl]
    by_cases hk : k = f
    · rw [if_pos hk]
      by_cases h : g = k
      · have hb : (g == k) = true := beq_iff_eq.mpr h
        simp only [List.lookup, hb, if_pos (h.trans hk)]
      · have hb : (g == k) = false := beq_eq_false_iff_ne.mpr h
        simp only [List.lookup, hb, if_neg (fun e : g = f => h (e.trans hk.symm))]
    · rw [if_neg hk]
      by_cases h : g = k
      · have hb : (g == k) = true := beq_iff_eq.mpr h
        simp only [List.lookup, hb, if_neg (fun e : g = f => hk (h.symm.trans e))]
      · have hb : (g == k) = false := beq_eq_false_iff_ne.mpr h
        simp only [List.lookup, hb]
        exact ih
theorem keys_putF (f : Str) (v : V) : ∀ fs : List (Str × V), f ∈ (putF f v fs).map (·.1) ∧ ∀ g, g ∈ fs.map (·.1) → g ∈ (putF f v fs).map (·.1)
  | [] => ⟨by simp [putF], fun g h => by simp at h⟩
  | (k, x) :: r => by
    obtain ⟨i1, i2⟩ := keys_putF f v r
    rw [show putF f v ((k, x) :: r) = (if k = f then (k, v) :: r else (k, x) :: putF f v r) from rfl]
    by_cases hk : k = f
    · rw [if_pos hk]
      subst hk
      exact ⟨by simp, fun g h => by simpa using h⟩
    · rw [if_neg hk]
      refine ⟨?_, fun g h => ?_⟩
      · rw [List.map_cons]
        exact List.mem_cons_of_mem _ i1
      · rw [List.map_cons] at h ⊢
        rcases List.mem_cons.mp h with e | e
        · exact List.mem_cons.mpr (.inl e)
        · exact List.mem_cons_of_mem _ (i2 g e)
theorem length_putF (f : Str) (v : V) : ∀ fs : List (Str × V), (putF f v fs).length ≤ fs.length + 1
  | [] => by simp [putF]
  | (k, x) :: r => by
    have ih := length_putF f v r
    rw [show putF f v ((k, x) :: r) = (if k = f then (k, v) :: r else (k, x) :: putF f v r) from rfl]
    by_cases hk : k = f
    · rw [if_pos hk, List.length_cons, List.length_cons]; omega
    · rw [if_neg hk, List.length_cons, List.length_cons]; omega

theorem RelO.some_of {v : V} {o : Option Value} (r : RelO (some v) o) : ∃ u, o = some u ∧ RelV v u := by
  cases o with
  | none => exact (show False from r).elim
  | some u => exact ⟨u, rfl, r⟩
theorem handed_of {v : V} {u : Value} (r : RelV v u) : PySem.W.handedIn u = true := by
  cases v with
  | non => cases (show u = Value.none from r); rfl
  | bl b => cases (show u = Value.bool b from r); rfl
  | int i => obtain ⟨t, e⟩ := (show ∃ t, u = Value.int i t from r); cases e; rfl
  | str x => obtain ⟨t, e⟩ := (show ∃ t, u = Value.str x t from r); cases e; rfl
  | byt b => obtain ⟨t, e⟩ := (show ∃ t, u = Value.bytes b t from r); cases e; rfl
  | flt b => obtain ⟨t, e⟩ := (show ∃ t, u = Value.float b t from r); cases e; rfl
  | ref a => cases (show u = Value.ref a from r); rfl
  | ty n => cases (show u = Value.type n from r); rfl

section
variable {P : Program} {w : World} {H H' : Hp} {h h' : Heap} {a C dx : Addr} {fs fs' : List (Str × V)}
theorem ins_get (hok : HOk P w H h) (e : H a = some (.ins C dx fs)) : ∃ mA, ObjM h a dx C mA ∧ (∀ f, RelO (fs.lookup f) (mA f)) ∧ PySem.Within mA (fs.map (·.1)) ∧ fs.length ≤ 1000 ∧ H dx = some (.own a) := by
  obtain ⟨d, z, ne, ob, mA, n, r, q⟩ := (show ObjOk P w H h a (.ins C dx fs) from hok a _ e)
  exact ⟨mA, ⟨ob, n, ne⟩, r, q, z, d⟩
end

/-! ### what of the text a class must have -/
structure Cls (K : PySem.W.Frag) (C : Addr) : Prop where
  pg : PySem.W.plainGet K C Str.empty = true
  hd : PySem.W.hasDictIn K C = true
  po : PySem.W.plainOver K C = true
  sa : PySem.W.findIn K (.ref C) "__setattr__" = some (some (.builtin "object.__setattr__"))
theorem Cls.get {K : PySem.W.Frag} {C : Addr} (c : Cls K C) (f : Str) : PySem.W.plainGet K C f = true := c.pg
/-- no class of it has the name -/
def NoAttr (K : PySem.W.Frag) (C : Addr) (f : Str) : Prop := PySem.W.findIn K (.ref C) f = some none
theorem NoAttr.taker {K : PySem.W.Frag} {C : Addr} {f : Str} (n : NoAttr K C f) : PySem.W.takerIn K C f = some none := by
  unfold PySem.W.takerIn
  rw [show PySem.W.findIn K (.ref C) f = some none from n]
  rfl
section
variable {X : Cx} {pins : List (Addr × Obj)} {σ : St} {H : Hp} {s : Shared} {a C dx : Addr} {fs : List (Str × V)} {f : Str} {v : V} {A : Around} {E : Value → Shared → Prop}

theorem getattr_ok {b : Bool} {Q : Value → Shared → Prop} (I : Inv X pins σ H s) (e : H a = some (.ins C dx fs)) (c : Cls X.K C) (n : NoAttr X.K C f) (l : fs.lookup f = some v)
    (h : ∀ u s', Inv X pins σ H s' → RelV v u → Q u s') : wpAny (model X.prog X.w) A (getAttr (.ref a) f b) Q E s := by
  obtain ⟨mA, O, r, _, _, _⟩ := ins_get I.hok e
  obtain ⟨u, hu, ru⟩ := RelO.some_of (v := v) (o := mA f) (by rw [← l]; exact r f)
  exact get_map I.kIn O (c.get f) c.hd n hu (handed_of ru) (h u _ (I.tok _) ru)

theorem setattr_ok {y : V} {u : Value} {Q : Unit → Shared → Prop} (I : Inv X pins σ H s) (e : H a = some (.ins C dx fs)) (c : Cls X.K C) (n : NoAttr X.K C f) (hl : fs.length < 1000) (ry : RelV y u)
    (h : ∀ s', Inv X pins σ (upd H a (.ins C dx (putF f y fs))) s' → Q () s') : wpAny (model X.prog X.w) A (setAttr (.ref a) f u) Q E s := by
  obtain ⟨mA, O, r, wi, _, ho⟩ := ins_get I.hok e
  have hz : (fs.map (·.1)).length ≤ sizeLine := by rw [List.length_map, sizeLine_eq]; omega
  refine set_map I.kIn O c.sa c.po n.taker c.hd wi hz fun h' O' sb => h _ ?_
  have hd : ∃ o, h'.get? dx = some o := let ⟨o, _, _, e', _⟩ := O'.ns; ⟨o, e'⟩
  refine I.write (x := a) (e := dx) (by rw [e]; exact True.intro) (.inr ho) (fun b q hb z => (sb.2 b hb).trans z) hd ?_
  refine ⟨by rw [upd_ne O.ne]; exact ho, ?_, O.ne, O'.obj, _, O'.ns, fun g => ?_, fun g hg => ?_⟩
  · have := length_putF f y fs; omega
  · show RelO ((putF f y fs).lookup g) (if g = f then some u else mA g)
    rw [lookup_putF]
    by_cases q : g = f
    · rw [if_pos q, if_pos q]; exact ry
    · rw [if_neg q, if_neg q]; exact r g
  · by_cases q : g = f
    · rw [q]; exact (keys_putF f y fs).1
    · refine (keys_putF f y fs).2 g (wi g fun z => hg ?_)
      show (if g = f then some u else mA g) = none
      rw [if_neg q]; exact z

/-- a new instance, tracked, without attributes -/
theorem Inv.made (I : Inv X pins σ H s) : Inv X pins σ (upd (upd H s.heap.objs.size (.own (s.heap.objs.size + 1))) (s.heap.objs.size + 1) (.ins C s.heap.objs.size []))
    { s with heap := (s.heap.push PySem.W.emptyDict).push (PySem.W.instObj C s.heap.objs.size) } := by
  have e1 : (s.heap.push PySem.W.emptyDict).get? s.heap.objs.size = some PySem.W.emptyDict := Heap.get?_push_size s.heap rfl
  have e2 : ((s.heap.push PySem.W.emptyDict).push (PySem.W.instObj C s.heap.objs.size)).get? (s.heap.objs.size + 1) = some (PySem.W.instObj C s.heap.objs.size) := by
    have := Heap.get?_push_size (s.heap.push PySem.W.emptyDict) (o := PySem.W.instObj C s.heap.objs.size) rfl
    rwa [Heap.size_push] at this
  have e3 : (s.heap.push PySem.W.emptyDict).Ns s.heap.objs.size (fun _ => none) := ⟨PySem.W.emptyDict, #[], _, e1, rfl, (fun e he => absurd he (by simp)), fun _ => rfl⟩
  have I1 := I.laid (a := s.heap.objs.size) (o := .own (s.heap.objs.size + 1)) (h' := s.heap.push PySem.W.emptyDict) (t' := s.toks) (fun b u q => Heap.get?_push_of_some _ q) (Nat.le_refl _) ⟨_, e1⟩
  refine I1.laid (a := s.heap.objs.size + 1) (o := .ins C s.heap.objs.size []) (t' := s.toks) (fun b u q => Heap.get?_push_of_some _ q) (Nat.le_of_eq (Heap.size_push _ _)) ?_
  have ne : s.heap.objs.size ≠ s.heap.objs.size + 1 := Nat.ne_of_lt (Nat.lt_succ_self _)
  refine ⟨by rw [upd_ne ne, upd_same], Nat.zero_le _, ne, e2, fun _ => none, (Heap.Ns1.of_empty e3).at fun o q => Heap.get?_push_of_some _ q, fun _ => True.intro, fun y hy => absurd rfl hy⟩

/-- e.f where nothing but the object is asked: through attributeBase (super) and the last hold -/
theorem attr_of {prog : Program} {w : World} {env : Env} {e : Expr} {f : Str} {pos : Pos} {s : Shared} {Q : Value → Shared → Prop} (hb : attributeBase e f env (eval e env) = eval e env)
    (h : wpAny (model prog w) A (eval e env) (fun o s₁ => wpAny (model prog w) A (getAttr o f true) Q E s₁) E s) : wpAny (model prog w) A (eval (.Attribute e f pos) env) Q E s :=
  Attribute_any_ h (by rw [arm_eval_Attribute, hb])
end

/-! ### readings and rules -/
/-- e.f, an attribute of the instance -/
def tFld (K : PySem.W.Frag) (ta : TE) (f : Str) : TE := fun σ H Q => ta σ H fun x H1 => ∃ a C dx fs v, x = .ref a ∧ H1 a = some (.ins C dx fs) ∧ Cls K C ∧ NoAttr K C f ∧ fs.lookup f = some v ∧ Q v H1
/-- e.f = value -/
def sFld (K : PySem.W.Frag) (ta tv : TE) (f : Str) : TS := fun D σ H => tv σ H fun y H1 => ta σ H1 fun x H2 => ∃ a C dx fs, x = .ref a ∧ H2 a = some (.ins C dx fs) ∧ Cls K C ∧ NoAttr K C f ∧ fs.length < 1000 ∧
  D.nx σ (upd H2 a (.ins C dx (putF f y fs)))
section
variable {X : Cx} {o e value : Expr} {f : Str} {pos pos' tpos : Pos} {ta tv : TE}
theorem pe_fld (he : PE X e ta) (hb : attributeBase e f X.env (eval e X.env) = eval e X.env) : PE X (.Attribute e f pos) (tFld X.K ta f) := by
  intro pins s σ H Q I h
  refine attr_of hb (thn (he pins s σ H _ I h) fun u s1 ⟨x, H1, I1, rx, a, C, dx, fs, v, ex, ea, c, n, l, q⟩ => ?_)
  subst ex
  obtain rfl : u = Value.ref a := rx
  exact getattr_ok I1 ea c n l fun u' s2 I2 ru => ⟨v, H1, I2, ru, q⟩
theorem ps_fld (ha : PE X o ta) (hv : PE X value tv) (hs : swapsWith value (some (.Attribute o f pos')) pos.line X.env = pure false) : PS X (.Assign [.Attribute o f pos'] value pos) (sFld X.K ta tv f) := by
  intro pins s σ H D I h
  refine plainObj_wpAny_Assign_Attribute (thn (hv pins s σ H _ I h) fun u s1 ⟨y, H1, I1, ry, q⟩ => thn (ha pins s1 σ H1 _ I1 q) fun ov s2 ⟨x, H2, I2, rx, a, C, dx, fs, ex, ea, c, n, l, q2⟩ => ?_) hs
  subst ex
  obtain rfl : ov = Value.ref a := rx
  exact setattr_ok I2 ea c n l ry fun s3 I3 => ⟨σ, _, I3, q2⟩
end

/-! ### isinstance -/
section
variable {X : Cx} {pins : List (Addr × Obj)} {σ : St} {H : Hp} {s : Shared} {A : Around} {E : Value → Shared → Prop} {Q : Value → Shared → Prop} {c : Value} {b : Bool}
/-- the type of a value, as the fragment's deciders take it; for an instance its class -/
inductive TyOf (K : PySem.W.Frag) (H : Hp) : V → Value → Prop where
  | non : TyOf K H .non (.type "NoneType")
  | bl (x : Bool) : TyOf K H (.bl x) (.type "bool")
  | int (i : Int) : TyOf K H (.int i) (.type "int")
  | str (x : Str) : TyOf K H (.str x) (.type "str")
  | flt (x : UInt64) : TyOf K H (.flt x) (.type "float")
  | lst {a : Addr} {xs : List V} (e : H a = some (.lst xs)) : TyOf K H (.ref a) (.type "list")
  | frz {a : Addr} {o : Obj} {xs : List V} (e : H a = some (.frz o (.lst xs))) : TyOf K H (.ref a) (.type "list")
  | tup {a : Addr} {xs : List V} (e : H a = some (.tup xs)) : TyOf K H (.ref a) (.type "tuple")
  | dK {a : Addr} {kvs : List (Key × V)} (e : H a = some (.dK kvs)) : TyOf K H (.ref a) (.type "dict")
  | dT {a : Addr} {kvs : List (List Key × V)} (e : H a = some (.dT kvs)) : TyOf K H (.ref a) (.type "dict")
  | ins {a C dx : Addr} {fs : List (Str × V)} (e : H a = some (.ins C dx fs)) (cl : Cls K C) (ha : PySem.W.findIn K (.ref C) "__class__" = some (some (.builtin "object.__class__")))
      (hn : PySem.W.specialIn K (.builtin "object.__class__") "__get__" = some (some (.builtin "getset_descriptor.__get__"))) (htk : PySem.W.takesIn K (.builtin "object.__class__") = some true)
      (hm : PySem.W.mroIn K C (.type "object") = some true) : TyOf K H (.ref a) (.ref C)
/-- isinstance(x, c) for one class c, a built-in or an own one: kitOne's answer -/
theorem isinst_ok {x : V} {u t : Value} (I : Inv X pins σ H s) (rx : RelV x u) (ty : TyOf X.K H x t) (e : PySem.W.kitOne X.K t c = some b) (h : ∀ tk, Q (.bool b) { s with toks := tk }) :
    wpAny (model X.prog X.w) A (call (.builtin "isinstance") [u, c]) Q E s := by
  cases ty with
  | non => cases (show u = Value.none from rx); exact PySem.W.kia_one PySem.W.kitx_none I.kIn True.intro e (fun z => nomatch z) h
  | bl y => cases (show u = Value.bool y from rx); exact PySem.W.kia_one PySem.W.kitx_bool I.kIn True.intro e (fun z => nomatch z) h
  | int i => obtain ⟨t, q⟩ := (show ∃ t, u = Value.int i t from rx); cases q; exact PySem.W.kia_one PySem.W.kitx_int I.kIn True.intro e (fun z => nomatch z) h
  | str y => obtain ⟨t, q⟩ := (show ∃ t, u = Value.str y t from rx); cases q; exact PySem.W.kia_one PySem.W.kitx_str I.kIn True.intro e (fun z => nomatch z) h
  | flt y => obtain ⟨t, q⟩ := (show ∃ t, u = Value.float y t from rx); cases q; exact PySem.W.kia_one PySem.W.kitx_float I.kIn True.intro e (fun z => nomatch z) h
  | @lst a xs ea =>
    cases (show u = Value.ref a from rx)
    obtain ⟨_, _, n, _, h1⟩ := (show ObjOk X.prog X.w H s.heap a (.lst xs) from I.hok a _ ea)
    exact PySem.W.kia_one PySem.W.kitx_list I.kIn ⟨_, h1, rfl⟩ e (fun z => nomatch z) h
  | @frz a ob xs ea =>
    cases (show u = Value.ref a from rx)
    obtain ⟨_, _, _, n, _, h1⟩ := (show ObjOk X.prog X.w H s.heap a (.frz ob (.lst xs)) from I.hok a _ ea)
    exact PySem.W.kia_one PySem.W.kitx_list I.kIn ⟨_, h1, rfl⟩ e (fun z => nomatch z) h
  | @tup a xs ea =>
    cases (show u = Value.ref a from rx)
    obtain ⟨_, _, _, p⟩ := (show ObjOk X.prog X.w H s.heap a (.tup xs) from I.hok a _ ea)
    obtain ⟨o, h1, h2, _⟩ := p
    exact PySem.W.kia_one PySem.W.kitx_tuple I.kIn ⟨o, h1, h2⟩ e (fun z => nomatch z) h
  | @dK a kvs ea =>
    cases (show u = Value.ref a from rx)
    obtain ⟨_, _, vs, _, p⟩ := (show ObjOk X.prog X.w H s.heap a (.dK kvs) from I.hok a _ ea)
    obtain ⟨o, es, ep, h1, h2, _⟩ := p
    exact PySem.W.kia_one PySem.W.kitx_dict I.kIn ⟨o, h1, h2.1⟩ e (fun z => nomatch z) h
  | @dT a kvs ea =>
    cases (show u = Value.ref a from rx)
    obtain ⟨_, _, xs, _, o, es, ep, h1, h2, _⟩ := (show ObjOk X.prog X.w H s.heap a (.dT kvs) from I.hok a _ ea)
    exact PySem.W.kia_one PySem.W.kitx_dict I.kIn ⟨o, h1, h2.1⟩ e (fun z => nomatch z) h
  | @ins a C dx fs ea cl ha hn htk hm =>
    cases (show u = Value.ref a from rx)
    obtain ⟨mA, O, _⟩ := ins_get I.hok ea
    obtain ⟨od, J, _⟩ := O.look
    exact PySem.W.kia_one (PySem.W.kitx_own (cl.get _) cl.hd ha hn htk hm) I.kIn J e (fun z => nomatch z) h
end
end L2

namespace L2
open PySem PySem.Spec PyProof.Rows

/-! ### room -/
structure Room (k : Nat) (A : Around) : Prop where
  hd : A.handled = none
  dp : A.depth + 3 * k + 5 < recursionLimit
  un : A.units + 16 * k + 200 < cLine
theorem Room.mono {j k : Nat} {A : Around} (r : Room k A) (h : j ≤ k) : Room j A := ⟨r.hd, by have := r.dp; omega, by have := r.un; omega⟩
theorem Room.deeper {k : Nat} {A : Around} (r : Room (k + 1) A) (env : Env) : Room k (A.deeper env) :=
  ⟨r.hd, by have := r.dp; show A.depth + 1 + 3 * k + 5 < _; omega, by have := r.un; show A.units + 3 + 16 * k + 200 < _; omega⟩
theorem make_depth {A : Around} {C : Addr} {us : List Value} {kw : List (Str × Value)} : (A.under (.builtin "type.__call__" ⟨.ref C :: us, kw⟩)).depth = A.depth + 1 := by
  first | rfl | simp [Around.under, Code.weight, Code.isCreation, Code.isGuard, Code.isCaller, Code.frames, Code.isFrame, guardIds]
theorem make_units {A : Around} {C : Addr} {us : List Value} {kw : List (Str × Value)} : (A.under (.builtin "type.__call__" ⟨.ref C :: us, kw⟩)).units = A.units + 1 := by
  first | rfl | simp [Around.under, Code.cUnits, Code.frames, Code.isFrame]
theorem Room.make {k : Nat} {A : Around} (r : Room (k + 1) A) (C : Addr) (us : List Value) (kw : List (Str × Value)) : Room k (A.under (.builtin "type.__call__" ⟨.ref C :: us, kw⟩)) :=
  ⟨r.hd, by have := r.dp; rw [make_depth]; omega, by have := r.un; rw [make_units]; omega⟩
theorem Room.depth {k : Nat} {A : Around} (r : Room k A) : A.depth < recursionLimit := by have := r.dp; omega
theorem Room.units {k : Nat} {A : Around} (r : Room k A) : A.units + 64 < cLine := by have := r.un; omega
/-! ### argument lists and displays -/
def tNil : TA := fun _ H Q => Q [] H
def tCons (ta : TE) (tr : TA) : TA := fun σ H Q => ta σ H fun x H1 => tr σ H1 fun xs H2 => Q (x :: xs) H2
section
variable {X : Cx} {e : Expr} {es : List Expr} {te : TE} {t : TA} {pos : Pos}
theorem pa_nil : PA X [] tNil := fun _ _ _ _ H Q I h => Calls.spliced_nil ⟨[], H, I, .nil, h⟩
theorem pa_cons (ha : PE X e te) (hr : PA X es t) (hs : starEach (e :: es) X.env = (false, eval e X.env) :: starEach es X.env := by rfl) : PA X (e :: es) (tCons te t) := by
  intro pos pins s σ H Q I h
  rw [hs]
  show wpAny _ _ (spliced ((false, eval e X.env) :: backTo pos (starEach es X.env))) _ _ s
  refine Calls.spliced_cons (thn (ha pins s σ H _ I h) fun u s1 ⟨x, H1, I1, r1, q1⟩ => ?_)
  exact thn (hr pos pins s1 σ H1 _ I1 q1) fun us s2 ⟨xs, H2, I2, r2, q2⟩ => ⟨x :: xs, H2, I2, .cons r1 r2, q2⟩

/-- a tuple, a list of written items -/
def tTup (t : TA) : TE := fun σ H Q => t σ H fun xs H1 => xs.length ≤ sizeLine ∧ ∀ p, H1 p = none → Q (.ref p) (upd H1 p (.tup xs))
def tLst (t : TA) : TE := fun σ H Q => t σ H fun xs H1 => xs.length ≤ sizeLine ∧ ∀ p, H1 p = none → Q (.ref p) (upd H1 p (.lst xs))
theorem pe_tup {x1} (h : PA X es t) : PE X (.Tuple es x1 pos) (tTup t) := by
  intro pins s σ H Q I hq
  refine wpAny_Tuple_spliced (thn (h pos pins s σ H _ I hq) fun us s1 ⟨xs, H1, I1, r, z, q⟩ => ⟨by rw [← r.length]; exact z, ?_⟩)
  have hf : H1 s1.heap.objs.size = none := I1.hok.fresh (Nat.le_refl _)
  refine ⟨.ref s1.heap.objs.size, upd H1 s1.heap.objs.size (.tup xs), I1.laid (t' := s1.toks) (fun b u e => Heap.get?_push_of_some _ e) (Nat.le_refl _) ?_, rfl, q _ hf⟩
  exact ⟨z, us, r, ⟨_, Heap.get?_push_size _ rfl, rfl, _, rfl⟩⟩
theorem pe_lst (h : PA X es t) : PE X (.List es pos) (tLst t) := by
  intro pins s σ H Q I hq
  refine wpAny_List_spliced (thn (h pos pins s σ H _ I hq) fun us s1 ⟨xs, H1, I1, r, z, q⟩ => ⟨by rw [← r.length]; exact z, ?_⟩)
  have hf : H1 s1.heap.objs.size = none := I1.hok.fresh (Nat.le_refl _)
  refine ⟨.ref s1.heap.objs.size, upd H1 s1.heap.objs.size (.lst xs), I1.laid (t' := s1.toks) (fun b u e => Heap.get?_push_of_some _ e) (Nat.le_refl _) ?_, rfl, q _ hf⟩
  exact ⟨z, us, 0, r, Heap.get?_push_size _ rfl⟩
end

/-! ### what a def promises -/
/-- a def's promise: the bound arguments in the parameters' order, the heap, the wanted end, the wanted exception -/
abbrev Sp := List V → Hp → VK → XK → Prop
/-- how an exception lies behind a call (file 08 gives it): the callers' frames, abstract heap and state ahead of the call, the wish, the exception, the state -/
abbrev CXT := List Env → Hp → Shared → XK → Value → Shared → Prop

/-- the state at a call -/
structure Env0 (P : Program) (w : World) (K : PySem.W.Frag) (mg : Str → Option Value) (base : Heap) (A : Around) (outer : List Env) (s : Shared) (H : Hp) : Prop where
  frames : A.frames = some outer
  mod : Mod K mg base
  bs : ∀ b o, base.get? b = some o → s.heap.get? b = some o ∧ H b = none
  bsz : base.objs.size ≤ s.heap.objs.size
  funs : s.heap.FunFrames base outer
  frf : ∀ b ∈ frs outer, H b = none
  hok : HOk P w H s.heap
  bare : AllBare s.gens
/-- a call's end -/
def CE (outer : List Env) (P : Program) (w : World) (H : Hp) (s : Shared) (Q : VK) (u : Value) (s' : Shared) : Prop :=
  ∃ v H', s'.os = s.os ∧ AllBare s'.gens ∧ Un (frs outer) [] H H' s.heap s'.heap ∧ HOk P w H' s'.heap ∧ RelV v u ∧ Q v H'
def CR (CX : CXT) (outer : List Env) (P : Program) (w : World) (H : Hp) (s : Shared) (Q : VK) (E : XK) (r : Result) (s' : Shared) : Prop :=
  match r with
  | .ok (.ret u) => CE outer P w H s Q u s'
  | .ok _ => False
  | .error e => CX outer H s E e s'
structure FnOk (P : Program) (w : World) (K : PySem.W.Frag) (mg : Str → Option Value) (base : Heap) (CX : CXT) (k : Nat) (f : Addr) (fd : FuncData) (ps : List Str) (sp : Sp) : Prop where
  len : ∀ vs H Q E, sp vs H Q E → vs.length = ps.length
  run : ∀ (A : Around) (outer : List Env) (s : Shared) (H : Hp) (args : Args) (us : List Value) (vs : List V) (Q : VK) (E : XK), Room k A → Env0 P w K mg base A outer s H → BindsTo s fd args (ps.zip us) → Vals vs us → sp vs H Q E →
    codeAny (model P w) A (.call (.ref f) args) (CR CX outer P w H s Q E) s
theorem FnOk.mono {P : Program} {w : World} {K : PySem.W.Frag} {mg : Str → Option Value} {base : Heap} {CX : CXT} {j k : Nat} {f : Addr} {fd : FuncData} {ps : List Str} {sp : Sp} (F : FnOk P w K mg base CX j f fd ps sp) (h : j ≤ k) :
    FnOk P w K mg base CX k f fd ps sp := ⟨F.len, fun A outer s H args us vs Q E hr => F.run A outer s H args us vs Q E (hr.mono h)⟩
theorem Env0.make {P : Program} {w : World} {K : PySem.W.Frag} {mg : Str → Option Value} {base : Heap} {A : Around} {outer : List Env} {s : Shared} {H : Hp} (e : Env0 P w K mg base A outer s H) (C : Addr) (us : List Value) (kw : List (Str × Value)) :
    Env0 P w K mg base (A.under (.builtin "type.__call__" ⟨.ref C :: us, kw⟩)) outer s H := ⟨by first | exact e.frames | (simpa [Around.under, Code.envs, Code.isFrame, pushEnvs] using e.frames), e.mod, e.bs, e.bsz, e.funs, e.frf, e.hok, e.bare⟩
section
variable {X : Cx} {pins : List (Addr × Obj)} {σ : St} {H : Hp} {s s' : Shared}
/-- from a body: what a callee wants -/
theorem Inv.env0 (I : Inv X pins σ H s) : Env0 X.prog X.w X.K X.mg X.base X.A X.stack s H :=
  ⟨I.ok.frames, I.ok.mod, I.bs, Nat.le_trans I.ok.bsz I.sz, I.stack, I.stkFree, I.hok, I.bare⟩
/-- behind a call -/
theorem Inv.after {Q : VK} {u : Value} (I : Inv X pins σ H s) (h : CE X.stack X.prog X.w H s Q u s') : EP X pins σ Q u s' := by
  obtain ⟨v, H', os, bare, un, hok, r, q⟩ := h
  obtain ⟨hh, g, d, t, os'⟩ := s'
  obtain rfl : os' = s.os := os
  exact ⟨v, H', I.call (h' := hh) (g' := g) (d' := d) (t' := t) (ch := []) un hok bare (fun b z => absurd z (by simp)), r, q⟩
end

/-! ### calls -/
/-- f(..): the written arguments, then the defaults dvs; E: what is wanted of an exception -/
def tCall (sp : Sp) (dvs : List V) (E : XK) (t : TA) : TE := fun σ H Q => t σ H fun vs H1 => sp (vs ++ dvs) H1 Q E
/-- C(..): a new instance and its dict, then __init__ -/
def tMake (C : Addr) (sp : Sp) (dvs : List V) (E : XK) (t : TA) : TE := fun σ H Q => t σ H fun vs H1 => ∀ x dx, H1 x = none → H1 dx = none → dx ≠ x →
  sp (.ref x :: (vs ++ dvs)) (upd (upd H1 dx (.own x)) x (.ins C dx [])) (fun v H2 => v = .non ∧ Q (.ref x) H2) E

/-- how the parameters are bound: us the positional arguments, kw the keywords' values by name, ds the defaults that fill up -/
def Binds (K : PySem.W.Frag) (fd : FuncData) (ps : List Str) (ds : List Value) : Prop :=
  ∀ (s : Shared) (us : List Value), K.In s.heap → (us ++ ds).length = ps.length → BindsTo s fd ⟨us, []⟩ (ps.zip (us ++ ds))
/-- every parameter is given -/
theorem Binds.all {K : PySem.W.Frag} {fd : FuncData} {ps : List Str} (h : ∀ us : List Value, us.length = ps.length → bindArgs fd ⟨us, []⟩ = pure (ps.zip us)) : Binds K fd ps [] := fun s us _ hl => by
  rw [List.append_nil] at hl ⊢
  exact .of_eq (h us hl)

/-- an exception of a callee reaches what this body wants of exceptions -/
def Passes (CX : CXT) (X : Cx) (E : XK) : Prop := ∀ (pins : List (Addr × Obj)) (σ : St) (H : Hp) (s : Shared) (e : Value) (s' : Shared), Inv X pins σ H s → CX X.stack H s E e s' → X.xe e s'

section
variable {X : Cx} {CX : CXT} {k : Nat} {f C : Addr} {fd : FuncData} {ps : List Str} {sp : Sp} {dvs : List V} {ds : List Value} {E : XK} {x m : Str} {p pos apos : Pos} {e o : Expr} {es : List Expr} {ta : TE} {t : TA}

/-- the callee runs -/
theorem run_fn {pins : List (Addr × Obj)} {σ : St} {H : Hp} {s : Shared} {Q : VK} {us : List Value} {vs : List V} (F : FnOk X.prog X.w X.K X.mg X.base CX k f fd ps sp) (hr : Room k X.A) (hb : Binds X.K fd ps ds) (hd : Vals dvs ds) (hx : Passes CX X E)
    (I : Inv X pins σ H s) (r : Vals vs us) (h : sp (vs ++ dvs) H Q E) : wpAny (model X.prog X.w) X.A (call (.ref f) us) (EP X pins σ Q) X.xe s := by
  have r2 : Vals (vs ++ dvs) (us ++ ds) := r.append hd
  have hl : (us ++ ds).length = ps.length := by rw [← r2.length]; exact F.len _ _ _ _ h
  refine wpAny_call (codeAny_mono (F.run X.A X.stack s H ⟨us, []⟩ (us ++ ds) (vs ++ dvs) Q E hr I.env0 (hb s us I.kIn hl) r2 h) fun r s' hq => ?_)
  cases r with
  | error e => exact hx pins σ H s e s' I hq
  | ok fl =>
    cases fl with
    | ret u => exact I.after hq
    | next => exact False.elim hq
    | brk => exact False.elim hq
    | cont => exact False.elim hq

theorem pe_call (F : FnOk X.prog X.w X.K X.mg X.base CX k f fd ps sp) (hr : Room k X.A) (hg : Gl X x) (hm : X.mg x = some (.ref f)) (hk : PySem.W.keepIn X.K (.ref f) = true) (hb : Binds X.K fd ps ds) (hd : Vals dvs ds) (hx : Passes CX X E)
    (ha : PA X (e :: es) t) (hdb : (x == ("__debug__" : Str)) = false := by decide) (he : starEach (e :: es) X.env = (false, eval e X.env) :: starEach es X.env := by rfl) (hpl : (backTo pos (starEach es X.env)).any (·.1) = false := by rfl) :
    PE X (.Call (.Name x p) (e :: es) [] pos) (tCall sp dvs E t) := by
  intro pins s σ H Q I h
  refine wpAny_Call_Name_kw (ld_glob I hg hm ?_ hdb)
  refine PySem.W.callWith_K (h₀ := X.base) I.ok.mod.kin hk (thn (ha pos pins s σ H _ I h) fun us s1 ⟨vs, H1, I1, r, q⟩ => ⟨I1.kIn, ?_⟩) he hpl
  exact run_fn F hr hb hd hx I1 r q
/-- what a class must have to be made -/
structure Mk (K : PySem.W.Frag) (C f : Addr) : Prop where
  makes : PySem.W.makesIn K C = true
  init : PySem.W.findIn K (.ref C) "__init__" = some (some (.ref f))
  fn : PySem.W.isFn K (.ref f) = true
  kp : PySem.W.keepIn K (.ref C) = true

theorem run_make {pins : List (Addr × Obj)} {σ : St} {H : Hp} {s : Shared} {Q : VK} {us : List Value} {vs : List V} (M : Mk X.K C f) (F : FnOk X.prog X.w X.K X.mg X.base CX k f fd ps sp) (hr : Room (k + 1) X.A) (hb : Binds X.K fd ps ds) (hd : Vals dvs ds)
    (hx : Passes CX X E) (I : Inv X pins σ H s) (r : Vals vs us)
    (h : ∀ x dx, H x = none → H dx = none → dx ≠ x → sp (.ref x :: (vs ++ dvs)) (upd (upd H dx (.own x)) x (.ins C dx [])) (fun v H2 => v = .non ∧ Q (.ref x) H2) E) :
    wpAny (model X.prog X.w) X.A (call (.ref C) us) (EP X pins σ Q) X.xe s := by
  have hq := h (s.heap.objs.size + 1) s.heap.objs.size (I.hok.fresh (Nat.le_succ _)) (I.hok.fresh (Nat.le_refl _)) (Nat.ne_of_lt (Nat.lt_succ_self _))
  have I2 := Inv.made (C := C) I
  have r2 : Vals (V.ref (s.heap.objs.size + 1) :: (vs ++ dvs)) (Value.ref (s.heap.objs.size + 1) :: (us ++ ds)) := .cons rfl (r.append hd)
  have hl : (Value.ref (s.heap.objs.size + 1) :: us ++ ds).length = ps.length := by
    have e := r2.length
    rw [F.len _ _ _ _ hq] at e
    exact e.symm
  refine wpAny_call (make_map (f := f) I.kIn M.makes M.init (beq_iff_eq.mp M.fn) (codeAny_mono (F.run _ X.stack _ _ ⟨Value.ref (s.heap.objs.size + 1) :: us, []⟩ (Value.ref (s.heap.objs.size + 1) :: (us ++ ds)) _ _ E (hr.make C us [])
    (I2.env0.make C us []) (hb _ (Value.ref (s.heap.objs.size + 1) :: us) I2.kIn hl) r2 hq) fun r s' hq' => ?_))
  cases r with
  | error e => exact hx pins σ _ _ e s' I2 hq'
  | ok fl =>
    cases fl with
    | ret u =>
      obtain ⟨v, H', I3, rv, ev, q3⟩ := I2.after hq'
      subst ev
      exact ⟨rv, ⟨V.ref (s.heap.objs.size + 1), H', I3, rfl, q3⟩⟩
    | next => exact False.elim hq'
    | brk => exact False.elim hq'
    | cont => exact False.elim hq'
theorem pe_make (M : Mk X.K C f) (F : FnOk X.prog X.w X.K X.mg X.base CX k f fd ps sp) (hr : Room (k + 1) X.A) (hg : Gl X x) (hm : X.mg x = some (.ref C)) (hb : Binds X.K fd ps ds) (hd : Vals dvs ds) (hx : Passes CX X E)
    (ha : PA X (e :: es) t) (hdb : (x == ("__debug__" : Str)) = false := by decide) (he : starEach (e :: es) X.env = (false, eval e X.env) :: starEach es X.env := by rfl) (hpl : (backTo pos (starEach es X.env)).any (·.1) = false := by rfl) :
    PE X (.Call (.Name x p) (e :: es) [] pos) (tMake C sp dvs E t) := by
  intro pins s σ H Q I h
  refine wpAny_Call_Name_kw (ld_glob I hg hm ?_ hdb)
  refine PySem.W.callWith_K (h₀ := X.base) I.ok.mod.kin M.kp (thn (ha pos pins s σ H _ I h) fun us s1 ⟨vs, H1, I1, r, q⟩ => ⟨I1.kIn, ?_⟩) he hpl
  exact run_make M F hr hb hd hx I1 r q
end

/-! ### keywords -/
section
variable {X : Cx} {CX : CXT} {k : Nat} {f C : Addr} {fd : FuncData} {ps ks : List Str} {sp : Sp} {E : XK} {x m : Str} {p pos apos kpos : Pos} {e o : Expr} {es : List Expr} {kws : List Keyword} {te ta : TE} {t tk : TA} {nm : Option Str}
variable {g : List Value → List Value → List Value} {gV : List V → List V → List V}
end

/-! ### a def's body keeps its promise -/
/-- names: the parameters first -/
structure FnScope (N P : List Str) (sc : Scope) : Prop where
  kind : sc.kind = .function
  co : sc.isCoroutine = false
  gen : sc.isGenerator = false
  nd : N.Nodup
  pre : N.take P.length = P
  par : ∀ x ∈ P, sc.names.lookup x = some .local ∨ sc.names.lookup x = some .cell
  nofree : ∀ y ∈ sc.names, y.2 ≠ .free

theorem bindL_out {kindOf : Str → Option NameKind} {x : Str} : ∀ {binds : List (Str × Value)} {m : Str → Option Value}, (∀ v, (x, v) ∉ binds) → bindL kindOf binds m x = m x
  | [], _, _ => rfl
  | (n, v) :: r, m, h => by
    unfold bindL
    rw [bindL_out fun w hw => h w (List.mem_cons_of_mem _ hw)]
    split
    · have : x ≠ n := by rintro rfl; exact h v List.mem_cons_self
      simp [this]
    · rfl
theorem bindC_out {kindOf : Str → Option NameKind} {x : Str} : ∀ {binds : List (Str × Value)} {m : Str → Option Value}, (∀ v, (x, v) ∉ binds) → bindC kindOf binds m x = m x
  | [], _, _ => rfl
  | (n, v) :: r, m, h => by
    unfold bindC
    rw [bindC_out fun w hw => h w (List.mem_cons_of_mem _ hw)]
    split
    · rfl
    · have : x ≠ n := by rintro rfl; exact h v List.mem_cons_self
      simp [this]
theorem bindL_get {kindOf : Str → Option NameKind} {x : Str} {v : Value} : ∀ {P : List Str} {vs : List Value} {i : Nat} {m : Str → Option Value}, P.Nodup → P[i]? = some x → vs[i]? = some v → kindOf x = some .local →
    bindL kindOf (P.zip vs) m x = some v
  | [], _, _, _, _, h, _, _ => by simp at h
  | _ :: _, [], _, _, _, _, h, _ => by simp at h
  | p :: P, w :: vs, 0, m, nd, h1, h2, hk => by
    simp at h1 h2; subst h1; subst h2
    show bindL kindOf ((p, w) :: P.zip vs) m p = _
    unfold bindL
    rw [bindL_out fun v hv => (List.nodup_cons.mp nd).1 (List.of_mem_zip hv).1, if_pos hk]
    simp
  | p :: P, w :: vs, i + 1, m, nd, h1, h2, hk => by
    show bindL kindOf ((p, w) :: P.zip vs) m x = _
    unfold bindL
    exact bindL_get (i := i) (List.nodup_cons.mp nd).2 (by simpa using h1) (by simpa using h2) hk
theorem bindC_get {kindOf : Str → Option NameKind} {x : Str} {v : Value} : ∀ {P : List Str} {vs : List Value} {i : Nat} {m : Str → Option Value}, P.Nodup → P[i]? = some x → vs[i]? = some v → kindOf x ≠ some .local →
    bindC kindOf (P.zip vs) m x = some v
  | [], _, _, _, _, h, _, _ => by simp at h
  | _ :: _, [], _, _, _, _, h, _ => by simp at h
  | p :: P, w :: vs, 0, m, nd, h1, h2, hk => by
    simp at h1 h2; subst h1; subst h2
    show bindC kindOf ((p, w) :: P.zip vs) m p = _
    unfold bindC
    rw [bindC_out fun v hv => (List.nodup_cons.mp nd).1 (List.of_mem_zip hv).1, if_neg hk]
    simp
  | p :: P, w :: vs, i + 1, m, nd, h1, h2, hk => by
    show bindC kindOf ((p, w) :: P.zip vs) m x = _
    unfold bindC
    exact bindC_get (i := i) (List.nodup_cons.mp nd).2 (by simpa using h1) (by simpa using h2) hk

/-- the names' values at the entry -/
def start (N : List Str) (vs : List V) : St := vs.map some ++ List.replicate (N.length - vs.length) none

/-- the context of a def's body, at its entry; an exception leaves the frame, then lies as CX says -/
def cxOf (CX : CXT) (P : Program) (w : World) (K : PySem.W.Frag) (mg : Str → Option Value) (base : Heap) (N : List Str) (qual : Str) (scope : Scope) (f : Addr) (cd : Value) (A : Around) (outer : List Env) (s : Shared) (H : Hp) (E : XK) : Cx where
  prog := P
  w := w
  K := K
  mg := mg
  base := base
  A := A.deeper (envOfC qual scope s.heap.objs.size f cd)
  N := N
  s₀ := s
  H₀ := H
  env := envOfC qual scope s.heap.objs.size f cd
  outer := outer
  stack := envOfC qual scope s.heap.objs.size f cd :: outer
  ex := []
  calm := true
  fn := fun _ => true
  pn := []
  xe := fun e s' => wpAny (model P w) (A.deeper (envOfC qual scope s.heap.objs.size f cd)) (leaving (envOfC qual scope s.heap.objs.size f cd) e) (fun _ s'' => CX outer H s E e s'') (fun e' s'' => CX outer H s E e' s'') s'

theorem cell_has {sc : Scope} {n : Nat} {x : Str} (h : sc.names.lookup x = some .cell) : ∃ c, (cellsFrom n sc.names []).lookup x = some c := by
  have q := PySem.W.cellsFrom_some sc.names n [] (.inl h)
  exact Option.isSome_iff_exists.mp q

theorem inv_start {CX : CXT} {P : Program} {w : World} {K : PySem.W.Frag} {mg : Str → Option Value} {base : Heap} {N ps : List Str} {qual : Str} {scope : Scope} {f : Addr} {cd : Value} {A : Around} {outer : List Env} {s s1 : Shared} {H : Hp} {E : XK} {us : List Value} {vs : List V}
    (S : FnScope N ps scope) (hd : A.handled = none) (e0 : Env0 P w K mg base A outer s H) (hl : vs.length = ps.length) (r : Vals vs us)
    (x : InCallC s s.heap.objs.size (bindL (envOfC qual scope s.heap.objs.size f cd).kindOf (ps.zip us) fun _ => none) (cellsFrom (s.heap.objs.size + 1) scope.names []) (bindC (envOfC qual scope s.heap.objs.size f cd).kindOf (ps.zip us) fun _ => none) s1) :
    Inv (cxOf CX P w K mg base N qual scope f cd A outer s H E) [] (start N vs) H s1 := by
  have hpl : ps.length ≤ N.length := by have := congrArg List.length S.pre; rw [List.length_take] at this; omega
  obtain ⟨h1, tk, rfl, hk⟩ := x.done
  have noA : ∀ b : Addr, b ∉ (cxOf CX P w K mg base N qual scope f cd A outer s H E).ex := fun b z => absurd (show b ∈ ([] : List Addr) from z) (by simp)
  refine ⟨⟨e0.mod, S.kind, rfl, rfl, Nat.le_refl _, fun y z c h1 h2 => ?_, fun y hy => ?_, fun y c _ h => ?_, fun _ => hd, Around.frames_deeper e0.frames, .inr ⟨rfl, rfl⟩, fun b z => absurd z (noA b), e0.bs, e0.bsz, fun b _ _ => noA b, fun b z => absurd z (noA b), e0.funs, e0.frf⟩,
    rfl, e0.bare, Un.kept hk, ⟨_, x.toInCall.ns, fun i y v h1 h2 h3 => ?_⟩, fun y c h => ⟨_, x.cell y c h⟩, e0.hok.fresh (Nat.le_refl _), fun y c h => ?_, fun p hp => absurd (show p ∈ ([] : List (Addr × Obj)) from hp) (by simp), e0.hok.kept hk, ?_⟩
  · exact name_of_addr x.apart (PySem.mem_of_lookup h1) (PySem.mem_of_lookup h2)
  · have hy : scope.names.lookup y = some .cell ∨ scope.names.lookup y = some .free := hy
    rcases hy with hy | hy
    · exact cell_has hy
    · exact absurd rfl (S.nofree _ (PySem.mem_of_lookup hy))
  · exact Nat.le_of_lt (x.above y c (PySem.mem_of_lookup h))
  · have hi : i < vs.length := by
      unfold start at h2
      by_cases hi : i < vs.length
      · exact hi
      · rw [List.getElem?_append_right (by simpa using hi)] at h2
        rw [List.getElem?_replicate] at h2
        split at h2 <;> cases h2
    have ha : vs[i]? = some v := by
      unfold start at h2
      rw [List.getElem?_append_left (by simpa using hi), List.getElem?_map] at h2
      cases e : vs[i]? with
      | none => rw [e] at h2; cases h2
      | some a => rw [e] at h2; cases h2; rfl
    obtain ⟨u, hu, rv⟩ := r.get ha
    have hp : ps[i]? = some y := by
      rw [← S.pre, List.getElem?_take_of_lt (by omega)]; exact h1
    have ndP : ps.Nodup := by rw [← S.pre]; exact S.nd.sublist (List.take_sublist _ _)
    refine ⟨u, rv, ?_⟩
    rcases S.par y (List.mem_of_getElem? hp) with k | k
    · exact .inl ⟨k, bindL_get ndP hp hu k⟩
    · obtain ⟨c, e⟩ := cell_has (n := s.heap.objs.size + 1) k
      refine .inr ⟨.inl k, c, e, ?_⟩
      have q := x.cell y c e
      rw [bindC_get ndP hp hu (by show scope.names.lookup y ≠ _; rw [k]; decide)] at q
      exact q
  · exact e0.hok.fresh (Nat.le_of_lt (x.above y c (PySem.mem_of_lookup h)))
  · unfold start
    show _ = N.length
    rw [List.length_append, List.length_map, List.length_replicate]
    omega

/-- THE RULE: a def (or a method) of the text, by its body. The body's reading t is chosen for each entry; it is run at the parameters' values -/
theorem fn_of {CX : CXT} {P : Program} {w : World} {K : PySem.W.Frag} {mg : Str → Option Value} {base : Heap} {k : Nat} {f : Addr} {name qual : Str} {params : Arguments} {body : List Stmt} {scope : Scope} {dV kV doc pm cdv ct oc : Value} {an od : Option Addr}
    {osl : Array (Option Value)} {N ps : List Str} {sp : Sp} (lk : K.lookup f = some ⟨oc, od, .func (PySem.W.fnOf name qual params body scope dV kV doc pm an cdv ct), osl⟩) (hcd : PySem.W.codeIn K cdv qual = true) (S : FnScope N ps scope)
    (len : ∀ vs H Q E, sp vs H Q E → vs.length = ps.length)
    (hbody : ∀ (A : Around) (outer : List Env) (s : Shared) (H : Hp) (vs : List V) (Q : VK) (E : XK), Room k (A.deeper (envOfC qual scope s.heap.objs.size f cdv)) → sp vs H Q E →
      ∃ t, PSs (cxOf CX P w K mg base N qual scope f cdv A outer s H E) body t ∧ t { nx := fun _ H' => Q .non H', rt := Q } (start N vs) H) :
    FnOk P w K mg base CX (k + 1) f (PySem.W.fnOf name qual params body scope dV kV doc pm an cdv ct) ps sp := by
  refine ⟨len, fun A outer s H args us vs Q E hr e0 hb r hsp => ?_⟩
  have hl := len _ _ _ _ hsp
  have KX : K.In s.heap := e0.mod.kin.keeps fun b o e => (e0.bs b o e).1
  have lim : s.heap.NoLimit := e0.mod.nolimit.keeps fun b o e => (e0.bs b o e).1
  have hkind : ∀ y ∈ ps.zip us, scope.names.lookup y.1 = some .local ∨ (scope.names.lookup y.1 = some .cell ∧ ((cellsFrom (s.heap.objs.size + 1) scope.names []).lookup y.1).isSome = true) := fun ⟨n, v⟩ hy => by
    rcases S.par n (List.of_mem_zip hy).1 with q | q
    · exact .inl q
    · exact .inr ⟨q, PySem.W.cellsFrom_some _ _ _ (.inl q)⟩
  refine codeAny_call_function hr.depth (KX _ _ lk) rfl S.co S.gen rfl (PySem.W.codeRec_of KX hcd) (hb _ _ _ _ ?_)
  refine wpAny_newFunctionEnv_cells S.kind hkind fun env he s1 x => ?_
  subst he
  refine ⟨lim.keeps x.toInCall.keep, codeAny_func ?_⟩
  obtain ⟨t, ht, hq⟩ := hbody A outer s H vs Q E (hr.deeper _) hsp
  have I : Inv (cxOf CX P w K mg base N qual scope f cdv A outer s H E) [] (start N vs) H s1 := inv_start S hr.hd e0 hl r x
  refine wpAny_mono (ht [] s1 (start N vs) H _ I hq) (fun fl s' hs => ?_) fun e s' hs => hs
  have fin : ∀ {σ' : St} {H' : Hp} {v : V} {u : Value}, Inv (cxOf CX P w K mg base N qual scope f cdv A outer s H E) [] σ' H' s' → RelV v u → Q v H' → CE outer P w H s Q u s' :=
    fun {σ' H' v u} J rv q => ⟨v, H', J.os, J.bare, J.base, J.hok, rv, q⟩
  cases fl with
  | ret u =>
    obtain ⟨v, σ', H', J, rv, q⟩ := hs
    exact fin J rv q
  | next =>
    obtain ⟨σ', H', J, q⟩ := hs
    exact fin (v := V.non) (u := Value.none) J rfl q
  | brk =>
    obtain ⟨_, _, _, q⟩ := hs
    exact False.elim q
  | cont =>
    obtain ⟨_, _, _, q⟩ := hs
    exact False.elim q
end L2

namespace L2
open PySem PySem.Spec PyProof.Rows
section
variable {X : Cx} {x : Str} {p pos : Pos} {e : Expr} {es : List Expr} {t : TA} {id T : String} {r : List V → Hp → VK → Prop}

def tCB (r : List V → Hp → VK → Prop) (t : TA) : TE := fun σ H Q => t σ H fun vs H1 => r vs H1 Q
/-- f(e, ..), f a built-in function -/
theorem pe_callB (hc : CallR X (.builtin id) r) (hg : Gl X x) (hm : X.mg x = none) (hv : bootBuiltins x = some (.builtin id)) (ha : PA X (e :: es) t) (hn : x ≠ "__name__" := by decide) (hdb : (x == ("__debug__" : Str)) = false := by decide)
    (he : starEach (e :: es) X.env = (false, eval e X.env) :: starEach es X.env := by rfl) (hpl : (backTo pos (starEach es X.env)).any (·.1) = false := by rfl) : PE X (.Call (.Name x p) (e :: es) [] pos) (tCB r t) := by
  intro pins s σ H Q I h
  refine wpAny_Call_Name_kw (ld_blt I hg hm hv ?_ hn hdb)
  exact PyProof.Rows.callWith_builtin1 (thn (ha pos pins s σ H _ I h) fun us s1 ⟨vs, H1, I1, r1, q1⟩ => hc pins s1 σ H1 vs us Q I1 r1 q1) he hpl
/-- T(e, ..), T a built-in type -/
theorem pe_callTy (hc : CallR X (.type T) r) (hg : Gl X x) (hm : X.mg x = none) (hv : bootBuiltins x = some (.type T)) (ha : PA X (e :: es) t) (hn : x ≠ "__name__" := by decide) (hdb : (x == ("__debug__" : Str)) = false := by decide)
    (he : starEach (e :: es) X.env = (false, eval e X.env) :: starEach es X.env := by rfl) (hpl : (backTo pos (starEach es X.env)).any (·.1) = false := by rfl) : PE X (.Call (.Name x p) (e :: es) [] pos) (tCB r t) := by
  intro pins s σ H Q I h
  refine wpAny_Call_Name_kw (ld_blt I hg hm hv ?_ hn hdb)
  exact PyProof.Rows.callWith_type1 (thn (ha pos pins s σ H _ I h) fun us s1 ⟨vs, H1, I1, r1, q1⟩ => hc pins s1 σ H1 vs us Q I1 r1 q1) he hpl
end
end L2

namespace HT
open PySem PyProof.Rows

section
open PySem.SeqAt
open PySem.AutoSeq1 (wpAny_loadPart')
open PySem.MeetsSeq PySem.MeetsSeq2 PySem.MeetsSeq3

end

section
variable {prog : Program} {w : World} {A : Around} {E : Value → Shared → Prop} {s : Shared}

/-- t + u, t not empty -/
theorem cat_tup {t b : Addr} {vs ws : List Value} {Q : Value → Shared → Prop} (ht : IsTup s.heap t vs.toArray) (hb : IsTup s.heap b ws.toArray) (hv : vs ≠ [])
    (h1 : ws = [] → Q (.ref t) s) (h2 : ws ≠ [] → Q (.ref s.heap.objs.size) { s with heap := s.heap.push { cls := .type "tuple", data := .seq (vs ++ ws).toArray } })
    (hsz : vs.length + ws.length ≤ sizeLine) : wpAny (model prog w) A (binaryOp .Add (.ref t) (.ref b)) Q E s := by
  obtain ⟨⟨cls, dd, data, sl⟩, ho, hc, n, hd⟩ := id ht
  obtain ⟨⟨cls2, dd2, data2, sl2⟩, ho2, hc2, n2, hd2⟩ := id hb
  simp only at hc hd hc2 hd2
  subst hc hd hc2 hd2
  have e : vs.toArray ++ ws.toArray = (vs ++ ws).toArray := by simp
  by_cases hw : ws = []
  · exact concat_meets ⟨_, ho, rfl⟩ ⟨_, ho2, rfl⟩ noFill_tuple_add seq_tuple_add PySem.F.slot_tuple_add PySem.F.entry_tuple_add (PySem.F.args_tuple_add_2 _ _)
      (tuple_addW1 t b vs.toArray ws.toArray n n2 dd dd2 sl sl2 (by simpa using hv) (by simp [hw])) ⟨ho, ho2, h1 hw⟩
  · refine concat_meets ⟨_, ho, rfl⟩ ⟨_, ho2, rfl⟩ noFill_tuple_add seq_tuple_add PySem.F.slot_tuple_add PySem.F.entry_tuple_add (PySem.F.args_tuple_add_2 _ _)
      (tuple_addW2 t b vs.toArray ws.toArray n n2 dd dd2 sl sl2 (by simpa using hv) (by simpa using hw) (by rw [List.size_toArray, List.size_toArray]; exact hsz)) ⟨ho, ho2, ?_⟩
    rw [e]
    exact h2 hw

/-! ### t[a:b], not the whole -/
/-- a slice's bound as a place among n (d where it is left out) -/
def sIx (n d : Nat) : Option Int → Nat
  | none => d
  | some v => if v < 0 then (v + (n : Int)).toNat else min v.toNat n
theorem sIx_none (n d : Nat) : sIx n d none = d := rfl
theorem sIx_nat (n d k : Nat) : sIx n d (some (k : Int)) = min k n := by
  show (if (k : Int) < 0 then ((k : Int) + (n : Int)).toNat else min (k : Int).toNat n) = min k n
  rw [if_neg (by omega), Int.toNat_natCast]
theorem sIx_le (n d : Nat) (hd : d ≤ n) (o : Option Int) : sIx n d o ≤ n := by
  cases o with
  | none => exact hd
  | some v =>
    show (if v < 0 then (v + (n : Int)).toNat else min v.toNat n) ≤ n
    by_cases hv : v < 0
    · rw [if_pos hv]; omega
    · rw [if_neg hv]; exact Nat.min_le_right _ _
theorem clip_eq (v : Int) (n d : Nat) : (if v < 0 then max (v + (n : Int)) 0 else min v (n : Int)) = ((sIx n d (some v) : Nat) : Int) := by
  show (if v < 0 then max (v + (n : Int)) 0 else min v (n : Int)) = (((if v < 0 then (v + (n : Int)).toNat else min v.toNat n) : Nat) : Int)
  by_cases hv : v < 0
  · simp only [if_pos hv]; omega
  · simp only [if_neg hv]; omega
theorem adjust_gen (lo hi : Option Int) (n : Nat) : Builtin.Slice.sliceAdjust lo hi 1 (n : Int) = (((sIx n 0 lo : Nat) : Int), ((sIx n n hi : Nat) : Int)) := by
  have h1 : ¬ ((1 : Int) < 0) := by omega
  unfold Builtin.Slice.sliceAdjust
  simp only [h1, if_false]
  refine Prod.ext ?_ ?_
  · cases lo with
    | none => rfl
    | some v => exact clip_eq v n 0
  · cases hi with
    | none => rfl
    | some v => exact clip_eq v n n
theorem places_gen (i j : Nat) : Builtin.Slice.slicePlaces (i : Int) (j : Int) 1 = j - i := by
  unfold Builtin.Slice.slicePlaces
  have h1 : (1 : Int) > 0 := by omega
  simp only [h1, if_true, Int.ediv_one]
  split <;> omega
theorem slicePart_ {v : Value} {o : Option Int} {Q : Option Int → Shared → Prop} (p : IsPart v o) (h : Q o s) : wpAny (model prog w) A (Builtin.Slice.slicePartIndex v) Q E s := by
  cases p with
  | none => exact slicePart_none h
  | int i t => exact slicePart_int h
theorem sliceApplied_gen {sl : Addr} {vl vu : Value} {lo hi : Option Int} {n : Nat} {Q : Int × Int × Nat → Shared → Prop} (hs : s.heap.IsSliceOf sl vl vu .none) (pl : IsPart vl lo) (pu : IsPart vu hi)
    (h : Q (((sIx n 0 lo : Nat) : Int), 1, sIx n n hi - sIx n 0 lo) s) : wpAny (model prog w) A (Builtin.Slice.sliceApplied (.ref sl) (pure (n : Int))) Q E s := by
  obtain ⟨os, hos, hcs, hds⟩ := id hs
  unfold Builtin.Slice.sliceApplied Builtin.Slice.sliceFields
  refine wpAny_bind (wpAny_bind (wpAny_field hos hds (x := vl) rfl (wpAny_bind (wpAny_field hos hds (x := vu) rfl (wpAny_bind (wpAny_field hos hds (x := .none) rfl (wpAny_pure ?_)))))))
  refine wpAny_bind (slicePart_none ?_)
  show wpAny _ _ (if ((1 : Int) == 0) = true then _ else _) _ _ s
  rw [if_neg (by decide)]
  refine wpAny_bind (slicePart_ pl (wpAny_bind (slicePart_ pu (wpAny_bind (wpAny_pure ?_)))))
  show wpAny _ _ (match Builtin.Slice.sliceAdjust lo hi 1 (n : Int) with | (lo, hi) => pure (lo, (1 : Int), Builtin.Slice.slicePlaces lo hi 1)) _ _ s
  rw [adjust_gen lo hi n]
  show wpAny _ _ (pure (((sIx n 0 lo : Nat) : Int), (1 : Int), Builtin.Slice.slicePlaces ((sIx n 0 lo : Nat) : Int) ((sIx n n hi : Nat) : Int) 1)) _ _ s
  rw [places_gen]
  exact wpAny_pure h
theorem pick_gen (xs : Array Value) (i k : Nat) : ((List.range k).filterMap fun (m : Nat) => xs[((i : Int) + (m : Int) * 1).toNat]?).toArray = ((xs.toList.drop i).take k).toArray := by
  have e : (fun (m : Nat) => xs[((i : Int) + (m : Int) * 1).toNat]?) = fun m => xs[i + m]? := by
    funext m
    have : ((i : Int) + (m : Int) * 1).toNat = i + m := by omega
    rw [this]
  rw [e]
  have := pick_run xs i k
  rw [List.filterMap_map] at this
  have e2 : ((fun x => xs[x]?) ∘ fun x => i + x) = fun m => xs[i + m]? := rfl
  rw [e2] at this
  rw [this]

theorem getItem_tuple_cut {t sl : Addr} {items : Array Value} {vl vu : Value} {lo hi : Option Int} {Q : Value → Shared → Prop} (ht : IsTup s.heap t items) (hs : s.heap.IsSliceOf sl vl vu .none) (pl : IsPart vl lo) (pu : IsPart vu hi)
    (hw : ¬ (sIx items.size 0 lo = 0 ∧ sIx items.size items.size hi = items.size))
    (h : Q (.ref s.heap.objs.size) { s with heap := s.heap.push { cls := .type "tuple", data := .seq ((items.toList.drop (sIx items.size 0 lo)).take (sIx items.size items.size hi - sIx items.size 0 lo)).toArray } })
    (hsz : items.size ≤ sizeLine) : wpAny (model prog w) A (getItem (.ref t) (.ref sl)) Q E s := by
  have htake : sizeOk (.seq ((items.toList.drop (sIx items.size 0 lo)).take (sIx items.size items.size hi - sIx items.size 0 lo)).toArray) := by
    show ((items.toList.drop (sIx items.size 0 lo)).take (sIx items.size items.size hi - sIx items.size 0 lo)).toArray.size ≤ sizeLine
    rw [List.size_toArray, List.length_take, List.length_drop, Array.length_toList]
    omega
  have hj : sIx items.size items.size hi ≤ items.size := sIx_le _ _ (Nat.le_refl _) hi
  obtain ⟨os, hos, hcs, hds⟩ := id hs
  have hTs : s.TypeIs (.ref sl) "slice" := ⟨os, hos, hcs⟩
  unfold getItem
  try with_reducible refine wpAny_holding ?_
  first | refine wpAny_bind (wpAny_pure ?_) | skip
  refine wpAny_bind (wpAny_sequenceKey ht.typeIs (by decide) ?_)
  refine wpAny_bind (wpAny_callSpecial?_slot (name := Str.ofString "__getitem__") ht.typeIs PyProof.Rows.slot_tuple_getitem
    (wpAny_call_entry PyProof.Rows.slot_tuple_getitem ht.typeIs entry_tuple_getitem ?_ (args_tuple_getitem _ _)))
  show wpAny _ _ (Builtin.Tuple.tupleItemsOf (.ref t) >>= _) _ _ s
  refine wpAny_bind (tupleItemsOf_ ht ?_)
  refine wpAny_bind (wpAny_typeOf hTs ?_)
  rw [if_pos (by decide)]
  refine wpAny_bind (sliceApplied_gen hs pl pu ?_)
  have hno : ¬ ((((sIx items.size 0 lo : Nat) : Int) == 0 && (1 : Int) == 1 && (sIx items.size items.size hi - sIx items.size 0 lo) == items.size) = true) := by
    intro q
    rw [Bool.and_eq_true, Bool.and_eq_true] at q
    have q1 : ((sIx items.size 0 lo : Nat) : Int) = 0 := eq_of_beq q.1.1
    have q2 : sIx items.size items.size hi - sIx items.size 0 lo = items.size := eq_of_beq q.2
    exact hw ⟨by omega, by omega⟩
  show wpAny _ _ (if (((sIx items.size 0 lo : Nat) : Int) == 0 && (1 : Int) == 1 && (sIx items.size items.size hi - sIx items.size 0 lo) == items.size) = true then _ else _) _ _ s
  rw [if_neg hno, pick_gen]
  first
    | exact wpAny_bind (m := Builtin.Tuple.tupleExact _) (wpAny_newObj_type (wpAny_pure ⟨_, rfl, wpAny_pure h⟩) htake)
    | exact wpAny_bind (m := Builtin.Tuple.tupleExact _) (wpAny_newObj_type (wpAny_bind (wpAny_pure (wpAny_pure ⟨_, rfl, wpAny_pure h⟩))) htake)
    | exact wpAny_bind (wpAny_bind (m := Builtin.Tuple.tupleExact _) (wpAny_newObj_type (wpAny_pure (wpAny_pure ⟨_, rfl, wpAny_pure h⟩)) htake))
    | exact wpAny_bind (wpAny_bind (m := Builtin.Tuple.tupleExact _) (wpAny_newObj_type (wpAny_pure ⟨_, rfl, wpAny_pure h⟩) htake))
end
end HT

namespace L2
open PySem PySem.Spec PyProof.Rows

/-! ### the parts of a slice -/
abbrev TO := St → Hp → (Option Int → Hp → Prop) → Prop
/-- a slice's part (left out, or an int) -/
def PO (X : Cx) (e : Option Expr) (t : TO) : Prop :=
  ∀ (pins : List (Addr × Obj)) (s : Shared) (σ : St) (H : Hp) (Q : Option Int → Hp → Prop), Inv X pins σ H s → t σ H Q →
    wpAny (model X.prog X.w) X.A (evalPart e X.env) (fun u s' => ∃ o H', Inv X pins σ H' s' ∧ IsPart u o ∧ Q o H') X.xe s
def tNoPart : TO := fun _ H Q => Q none H
def tPart (t : TE) : TO := fun σ H Q => t σ H fun x H1 => ∃ i, x = .int i ∧ Q (some i) H1

section
variable {X : Cx} {e : Expr} {te : TE} {lo hi : Option Expr} {tl th : TO} {pos p2 : Pos}

theorem po_none : PO X none tNoPart := by
  intro pins s σ H Q I h
  rw [evalPart_none]
  exact wpAny_pure ⟨none, H, I, .none, h⟩
theorem po_some (h : PE X e te) : PO X (some e) (tPart te) := by
  intro pins s σ H Q I hw
  rw [evalPart_some]
  refine thn (h pins s σ H _ I hw) fun u s1 ⟨x, H1, I1, r1, q1⟩ => ?_
  obtain ⟨i, rfl, q⟩ := q1
  obtain ⟨t, rfl⟩ := r1
  exact ⟨some i, H1, I1, .int i t, q⟩

/-- what a slice of a value is, by values: the slice object stands at sl -/
def SlR (X : Cx) (r : V → Option Int → Option Int → Hp → VK → Prop) : Prop :=
  ∀ (pins : List (Addr × Obj)) (s : Shared) (σ : St) (H : Hp) (x : V) (v vl vu : Value) (lo hi : Option Int) (sl : Addr) (Q : VK), Inv X pins σ H s → RelV x v → s.heap.IsSliceOf sl vl vu .none → IsPart vl lo → IsPart vu hi → r x lo hi H Q →
    ∃ T id, typeLookup (.type T) "__getitem__" = pure (some (.builtin id)) ∧ s.TypeIs v T ∧ wpAny (model X.prog X.w) X.A (getItem v (.ref sl)) (EP X pins σ Q) X.xe s
def tSl (r : V → Option Int → Option Int → Hp → VK → Prop) (te : TE) (tl th : TO) : TE := fun σ H Q => te σ H fun x H1 => tl σ H1 fun l H2 => th σ H2 fun u H3 => r x l u H3 Q
/-- a[lo:hi], any a -/
theorem pe_slice {r : V → Option Int → Option Int → Hp → VK → Prop} (hr : SlR X r) (he : PE X e te) (hl : PO X lo tl) (hu : PO X hi th) : PE X (.Subscript e (.Slice lo hi none p2) pos) (tSl r te tl th) := by
  intro pins s σ H Q I h
  refine Subscript_ (thn (he pins s σ H _ I h) fun v s1 ⟨x, H1, I1, r1, q1⟩ => ?_)
  refine wpAny_Slice (thn (hl pins s1 σ H1 _ I1 q1) fun vl s2 ⟨l, H2, I2, pl, q2⟩ => thn (hu pins s2 σ H2 _ I2 q2) fun vu s3 ⟨u, H3, I3, pu, q3⟩ => ?_)
  rw [evalPart_none]
  refine wpAny_pure ?_
  have I4 : Inv X pins σ H3 { s3 with heap := s3.heap.push { cls := .type "slice", data := .fields #[vl, vu, .none] } } := I3.kept (t' := s3.toks) fun b ob q => Heap.get?_push_of_some _ q
  obtain ⟨T, id, hT, ht, hg⟩ := hr pins { s3 with heap := s3.heap.push { cls := .type "slice", data := .fields #[vl, vu, .none] } } σ H3 x v vl vu l u s3.heap.objs.size Q I4 r1 (Heap.IsSliceOf.new ..) pl pu q3
  show wpAny (model X.prog X.w) X.A (subscriptTail e (.Slice lo hi none p2) v (.ref s3.heap.objs.size)) (EP X pins σ Q) X.xe { s3 with heap := s3.heap.push { cls := .type "slice", data := .fields #[vl, vu, .none] } }
  exact tail_any (ops := [.ref s3.heap.objs.size, v]) ht hT hg (by with_unfolding_all rfl)

/-- the items of xs[lo:hi] -/
def cutV (xs : List V) (lo hi : Option Int) : List V := (xs.drop (HT.sIx xs.length 0 lo)).take (HT.sIx xs.length xs.length hi - HT.sIx xs.length 0 lo)
theorem cutV_length (xs : List V) (lo hi : Option Int) : (cutV xs lo hi).length ≤ xs.length := by
  unfold cutV
  rw [List.length_take, List.length_drop]
  omega
/-- t[lo:hi], not the whole of it (the whole would be t itself) -/
def rSlT (K : PySem.W.Frag) : V → Option Int → Option Int → Hp → VK → Prop := fun x lo hi H Q => ∃ a xs, x = .ref a ∧ SqT K H a xs ∧
  ¬ (HT.sIx xs.length 0 lo = 0 ∧ HT.sIx xs.length xs.length hi = xs.length) ∧ ∀ p, H p = none → Q (.ref p) (upd H p (.tup (cutV xs lo hi)))
theorem sl_tup : SlR X (rSlT X.K) := by
  intro pins s σ H x v vl vu lo hi sl Q I rx hs pl pu h
  obtain ⟨a, xs, rfl, hx, hw, q⟩ := h
  cases rx
  obtain ⟨its, r, ht, hz⟩ := I.tuple hx
  have hlen : its.toArray.size = xs.length := by rw [List.size_toArray]; exact r.length.symm
  refine ⟨"tuple", _, PyProof.Rows.slot_tuple_getitem.lookup, ht.typeIs, ?_⟩
  refine HT.getItem_tuple_cut ht hs pl pu (by rw [hlen]; exact hw) ?_ (by rw [hlen]; exact hz)
  rw [hlen]
  refine ⟨.ref s.heap.objs.size, _, I.laid (t' := s.toks) (o := .tup (cutV xs lo hi)) (fun b ob q => Heap.get?_push_of_some _ q) (Nat.le_refl _) ?_, rfl, q _ (I.hok.fresh (Nat.le_refl _))⟩
  exact ⟨Nat.le_trans (cutV_length xs lo hi) hz, _, (r.drop (HT.sIx xs.length 0 lo)).take (HT.sIx xs.length xs.length hi - HT.sIx xs.length 0 lo), IsTup.new _ _⟩

/-! ### t < u, t + u -/
/-- t + u, t not empty: u empty gives t itself -/
def rCatT (K : PySem.W.Frag) : R2 := fun x y H Q => ∃ a b xs ys, x = .ref a ∧ y = .ref b ∧ SqT K H a xs ∧ SqT K H b ys ∧ xs ≠ [] ∧ xs.length + ys.length ≤ sizeLine ∧
  (ys = [] → Q (.ref a) H) ∧ (ys ≠ [] → ∀ p, H p = none → Q (.ref p) (upd H p (.tup (xs ++ ys))))
theorem Vals.nil_iff {xs : List V} {us : List Value} (r : Vals xs us) : us = [] ↔ xs = [] := by
  cases r with
  | nil => simp
  | cons _ _ => simp
theorem op_catT : OpR X (binaryOp .Add) (rCatT X.K) := by
  intro pins s σ H x y v u Q I rx ry h
  obtain ⟨a, b, xs, ys, rfl, rfl, ha, hb, hx, hz, q1, q2⟩ := h
  cases rx
  cases ry
  obtain ⟨its, r1, p1, _⟩ := I.tuple ha
  obtain ⟨its2, r2, p2, _⟩ := I.tuple hb
  refine HT.cat_tup p1 p2 (fun z => hx (r1.nil_iff.mp z)) (fun z => ⟨.ref a, H, I, rfl, q1 (r2.nil_iff.mp z)⟩) (fun z => ?_) (by rw [← r1.length, ← r2.length]; exact hz)
  refine ⟨.ref s.heap.objs.size, _, I.laid (t' := s.toks) (o := .tup (xs ++ ys)) (fun b ob q => Heap.get?_push_of_some _ q) (Nat.le_refl _) ?_, rfl, q2 (fun w => z (r2.nil_iff.mpr w)) _ (I.hok.fresh (Nat.le_refl _))⟩
  exact ⟨by rw [List.length_append]; exact hz, _, r1.append r2, IsTup.new _ _⟩
end
end L2

namespace L2
open PySem PySem.Spec PyProof.Rows

/-! ### places -/
/-- the place that an index of any sign means -/
def ixN (n : Nat) (i : Int) : Option Nat := if 0 ≤ i then (if i < n then some i.toNat else none) else if -(n : Int) ≤ i then some (i + n).toNat else none
def atI {α : Type} (xs : List α) (i : Int) : Option α := (ixN xs.length i).bind fun j => xs[j]?
theorem ixN_seq {n : Nat} {i : Int} {j : Nat} (h : ixN n i = some j) : seqIndex? i n = some j ∧ j < n ∧ -(n : Int) ≤ i ∧ i < n := by
  unfold ixN at h
  by_cases h0 : 0 ≤ i
  · rw [if_pos h0] at h
    by_cases h1 : i < n
    · rw [if_pos h1] at h
      have e : i.toNat = j := Option.some.inj h
      exact ⟨by rw [seqIndex_of h0 h1, e], by omega, by omega, h1⟩
    · rw [if_neg h1] at h; cases h
  · rw [if_neg h0] at h
    by_cases h1 : -(n : Int) ≤ i
    · rw [if_pos h1] at h
      have e : (i + n).toNat = j := Option.some.inj h
      exact ⟨by rw [seqIndex_neg (by omega) h1, e], by omega, h1, by omega⟩
    · rw [if_neg h1] at h; cases h
theorem atI_get {α : Type} {xs : List α} {i : Int} {v : α} (h : atI xs i = some v) : ∃ j, seqIndex? i xs.length = some j ∧ xs[j]? = some v ∧ j < xs.length ∧ -(xs.length : Int) ≤ i ∧ i < xs.length := by
  unfold atI at h
  cases e : ixN xs.length i with
  | none => rw [e] at h; cases h
  | some j =>
    rw [e] at h
    obtain ⟨h1, h2, h3, h4⟩ := ixN_seq e
    exact ⟨j, h1, h, h2, h3, h4⟩
theorem atI_nat {α : Type} {xs : List α} {j : Nat} {v : α} (h : xs[j]? = some v) : atI xs (j : Int) = some v := by
  have hj : j < xs.length := (List.getElem?_eq_some_iff.mp h).1
  have e : ixN xs.length (j : Int) = some j := by
    unfold ixN
    rw [if_pos (by omega), if_pos (by omega)]; simp
  unfold atI; rw [e]; exact h
/-! ### what may be subscripted -/
/-- what stands as an index of a plain subscript -/
def PlainIx (b : Expr) : Prop := ∀ o i, subscripted b false o i = operate [o, i] (getItem o i)
/-- a subscript by values -/
def IxR (X : Cx) (r : R2) : Prop :=
  ∀ (value slice : Expr) (pins : List (Addr × Obj)) (s : Shared) (σ : St) (H : Hp) (x y : V) (v u : Value) (Q : VK), Inv X pins σ H s → RelV x v → RelV y u → r x y H Q →
    subscripted slice false v u = operate [v, u] (getItem v u) → wpAny (model X.prog X.w) X.A (subscriptTail value slice v u) (EP X pins σ Q) X.xe s
/-- a call of a builtin's method by values: the receiver, the arguments -/
def MtR (X : Cx) (id : String) (r : V → List V → Hp → VK → Prop) : Prop :=
  ∀ (pins : List (Addr × Obj)) (s : Shared) (σ : St) (H : Hp) (x : V) (xs : List V) (v : Value) (us : List Value) (Q : VK), Inv X pins σ H s → RelV x v → Vals xs us → r x xs H Q →
    wpAny (model X.prog X.w) X.A (call (.builtin id) (v :: us)) (EP X pins σ Q) X.xe s
section
variable {X : Cx} {a b : Expr} {ta tb : TE} {pos : Pos}
/-- a[b] -/
theorem pe_ix {r : R2} (hr : IxR X r) (ha : PE X a ta) (hb : PE X b tb) (hs : PlainIx b) : PE X (.Subscript a b pos) (tOp r ta tb) := by
  intro pins s σ H Q I h
  exact Subscript_ (binT ha hb I h fun v u s2 x y H2 I2 rx ry q => hr a b pins s2 σ H2 x y v u Q I2 rx ry q (hs _ _))

def rIxL (K : PySem.W.Frag) : R2 := fun x y H Q => ∃ p xs i v, x = .ref p ∧ y = .int i ∧ SqL K H p xs ∧ atI xs i = some v ∧ Q v H
def rIxT (K : PySem.W.Frag) : R2 := fun x y H Q => ∃ p xs i v, x = .ref p ∧ y = .int i ∧ SqT K H p xs ∧ atI xs i = some v ∧ Q v H
theorem ix_list : IxR X (rIxL X.K) := by
  intro value slice pins s σ H x y v u Q I rx ry h hs
  obtain ⟨p, xs, i, z, rfl, rfl, hq, he, q⟩ := h
  cases rx
  obtain ⟨t, rfl⟩ := ry
  obtain ⟨its, r, pl, hz⟩ := I.list hq
  obtain ⟨j, h1, h2, h3, h4, h5⟩ := atI_get he
  obtain ⟨w, ew, rw'⟩ := r.get h2
  have hl := r.length
  have hn := line63
  have fin : EP X pins σ Q w s := ⟨z, H, I, rw', q⟩
  by_cases h0 : 0 ≤ i
  · have hj : i.toNat = j := by
      rw [seqIndex_of h0 h5] at h1
      exact Option.some.inj h1
    exact item_listR pl.isList h0 (by omega) (by rw [hj]; simpa using ew) fin hs
  · have hj : (i + (its.toArray.size : Int)).toNat = j := by
      rw [seqIndex_neg (by omega) h4] at h1
      rw [List.size_toArray, ← hl]
      exact Option.some.inj h1
    exact subscriptTail_builtinR (x := w) pl.isList.typeIs slot_list_getitem.lookup
      (wpAny_getItem_list_neg (Q := fun r s' => r = w ∧ EP X pins σ Q r s') pl.isList (by omega) (by rw [List.size_toArray] <;> omega) (by omega) (by rw [hj]; simpa using ew) ⟨rfl, fin⟩) hs
theorem ix_tup : IxR X (rIxT X.K) := by
  intro value slice pins s σ H x y v u Q I rx ry h hs
  obtain ⟨p, xs, i, z, rfl, rfl, hq, he, q⟩ := h
  cases rx
  obtain ⟨t, rfl⟩ := ry
  obtain ⟨its, r, pl, hz⟩ := I.tuple hq
  obtain ⟨j, h1, h2, h3, h4, h5⟩ := atI_get he
  obtain ⟨w, ew, rw'⟩ := r.get h2
  have hl := r.length
  have hn := line63
  have fin : EP X pins σ Q w s := ⟨z, H, I, rw', q⟩
  exact subscriptTail_builtinR (x := w) pl.typeIs slot_tuple_getitem.lookup
    (getItem_tuple (j := j) (Q := fun r s' => r = w ∧ EP X pins σ Q r s') pl (by omega) (by omega) (by rw [List.size_toArray, ← hl]; exact h1) (by simpa using ew) ⟨rfl, fin⟩) hs
/-! ### xs[i] = v, any sign -/
theorem Inv.lst {pins : List (Addr × Obj)} {σ : St} {H : Hp} {s : Shared} {p : Addr} {xs : List V} (I : Inv X pins σ H s) (h : H p = some (.lst xs)) :
    ∃ (its : List Value) (n : Nat), Vals xs its ∧ s.heap.get? p = some { cls := .type "list", data := .seq its.toArray n } ∧ xs.length ≤ sizeLine := by
  obtain ⟨z, its, n, r, e⟩ := I.hok p _ h
  exact ⟨its, n, r, e, z⟩
/-! ### slices -/
theorem slice_bounds (lo hi : Option Int) (n : Nat) : (sliceBounds lo hi none n).1 = ((HT.sIx n 0 lo : Nat) : Int) ∧ (sliceBounds lo hi none n).2.1 = ((HT.sIx n n hi : Nat) : Int) ∧ (sliceBounds lo hi none n).2.2 = 1 := by
  refine ⟨?_, ?_, rfl⟩
  · cases lo with
    | none => simp [sliceBounds, HT.sIx]
    | some i =>
      simp only [sliceBounds, HT.sIx, Option.getD_none, show (1 : Int) > 0 by decide, if_true]
      by_cases h : i < 0
      · simp only [h, if_true] <;> omega
      · simp only [h, if_false] <;> omega
  · cases hi with
    | none => simp [sliceBounds, HT.sIx]
    | some i =>
      simp only [sliceBounds, HT.sIx, Option.getD_none, show (1 : Int) > 0 by decide, if_true]
      by_cases h : i < 0
      · simp only [h, if_true] <;> omega
      · simp only [h, if_false] <;> omega
theorem slicePick_cut (its : List Value) (lo hi : Option Int) : slicePick its.toArray lo hi none = ((its.drop (HT.sIx its.length 0 lo)).take (HT.sIx its.length its.length hi - HT.sIx its.length 0 lo)).toArray := by
  obtain ⟨h1, h2, h3⟩ := slice_bounds lo hi its.toArray.size
  unfold slicePick
  rw [h1, h2, h3]
  simp only [sliceRange_one, pick_run, List.size_toArray] <;> rfl
/-- xs[lo:hi] of a list: a new list -/
def rSlL (K : PySem.W.Frag) : V → Option Int → Option Int → Hp → VK → Prop := fun x lo hi H Q => ∃ a xs, x = .ref a ∧ SqL K H a xs ∧ ∀ p, H p = none → Q (.ref p) (upd H p (.lst (cutV xs lo hi)))
theorem sl_list : SlR X (rSlL X.K) := by
  intro pins s σ H x v vl vu lo hi sl Q I rx hs pl pu h
  obtain ⟨a, xs, rfl, hx, q⟩ := h
  cases rx
  obtain ⟨its, r, ht, hz⟩ := I.list hx
  have hlen := r.length
  refine ⟨"list", _, slot_list_getitem.lookup, ht.isList.typeIs, ?_⟩
  refine wpAny_getItem_list_slice ht.isList hs pl pu .none (by simp) ?_ (by rw [List.size_toArray] <;> omega)
  rw [slicePick_cut, ← hlen]
  refine ⟨.ref s.heap.objs.size, _, I.laid (t' := s.toks) (o := .lst (cutV xs lo hi)) (fun b ob q => Heap.get?_push_of_some _ q) (Nat.le_refl _) ?_, rfl, q _ (I.hok.fresh (Nat.le_refl _))⟩
  exact ⟨Nat.le_trans (cutV_length xs lo hi) hz, _, 0, (r.drop (HT.sIx xs.length 0 lo)).take (HT.sIx xs.length xs.length hi - HT.sIx xs.length 0 lo), Heap.get?_push_size _ rfl⟩

/-! ### in, not in: flat items -/
/-! ### len, list(x), tuple(x) of any list or tuple that is read -/
theorem call_len_seq : CallR X (.builtin "len") (fun xs H Q => ∃ p ys, xs = [.ref p] ∧ (SqL X.K H p ys ∨ SqT X.K H p ys) ∧ Q (.int ys.length) H) := by
  intro pins s σ H xs us Q I r h
  obtain ⟨p, ys, rfl, hq, q⟩ := h
  obtain ⟨u, rfl, rx⟩ := vals1 r
  cases rx
  have hn := line63
  rcases hq with hq | hq
  · obtain ⟨its, r', pl, hz⟩ := I.list hq
    have hlen := r'.length
    exact Calls.call_len_list pl.isList (by simp only [List.size_toArray] <;> omega) ⟨.int ys.length, H, I.tok _, ⟨s.toks + 1, by rw [List.size_toArray, hlen]⟩, q⟩
  · obtain ⟨its, r', pl, hz⟩ := I.tuple hq
    have hlen := r'.length
    exact len_tuple pl (by simp only [List.size_toArray] <;> omega) ⟨.int ys.length, H, I.tok _, ⟨s.toks + 1, by rw [List.size_toArray, hlen]⟩, q⟩
theorem call_tuple_of : CallR X (.type "tuple") (fun xs H Q => ∃ p ys, xs = [.ref p] ∧ ((SqL X.K H p ys ∧ ∀ l, H l = none → Q (.ref l) (upd H l (.tup ys))) ∨ (SqT X.K H p ys ∧ Q (.ref p) H))) := by
  intro pins s σ H xs us Q I r h
  obtain ⟨p, ys, rfl, h⟩ := h
  obtain ⟨u, rfl, rx⟩ := vals1 r
  cases rx
  rcases h with ⟨hq, q⟩ | ⟨hq, q⟩
  · obtain ⟨its, r', pl, hz⟩ := I.list hq
    have hlen := r'.length
    refine call_tuple_list pl.isList (fun h' kp => ?_) (by simp only [List.size_toArray] <;> omega)
    have I1 : Inv X pins σ H { s with heap := h' } := I.kept (t' := s.toks) kp
    have I2 : Inv X pins σ (upd H h'.objs.size (.tup ys)) { s with heap := h'.push { cls := .type "tuple", data := .seq its.toArray } } :=
      I1.laid (t' := s.toks) (fun b o e => Heap.get?_push_of_some _ e) (Nat.le_refl _) (show ObjOk X.prog X.w _ _ _ (.tup ys) from ⟨hz, its, r', IsTup.new _ _⟩)
    exact ⟨.ref h'.objs.size, _, I2, rfl, q _ (I1.hok.fresh (Nat.le_refl _))⟩
  · obtain ⟨its, r', pl, hz⟩ := I.tuple hq
    exact call_tuple_same pl ⟨.ref p, H, I, rfl, q⟩

/-! ### the call of a builtin's method: o.m(..) -/
/-- the value is of that builtin type -/
def tyV (K : PySem.W.Frag) (T : String) (x : V) (H : Hp) : Prop := match x with
  | .str _ => T = "str"
  | .int _ => T = "int"
  | .ref p => (T = "list" ∧ ∃ xs, SqL K H p xs) ∨ (T = "tuple" ∧ ∃ o, K.lookup p = some o ∧ o.cls = .type "tuple" ∧ o.dict = none) ∨
      (T = "dict" ∧ ((∃ kvs, H p = some (.dK kvs)) ∨ ∃ kvs, H p = some (.dT kvs))) ∨ (T = "set" ∧ ∃ S n, H p = some (.set S n))
  | _ => False
theorem tyV_is {pins : List (Addr × Obj)} {σ : St} {H : Hp} {s : Shared} {T : String} {x : V} {v : Value} (I : Inv X pins σ H s) (r : RelV x v) (ty : tyV X.K T x H) :
    s.TypeIs v T ∧ ∀ a, v = .ref a → ∃ ob, s.heap.get? a = some ob ∧ ob.dict = none := by
  cases x with
  | str z =>
    obtain ⟨t, rfl⟩ := r
    cases (show T = "str" from ty)
    exact ⟨typeIs_str s z t, fun _ e => nomatch e⟩
  | int i =>
    obtain ⟨t, rfl⟩ := r
    cases (show T = "int" from ty)
    exact ⟨typeIs_int s i t, fun _ e => nomatch e⟩
  | ref p =>
    cases r
    rcases ty with ⟨rfl, xs, hq⟩ | ⟨rfl, o, hk, hc, hd⟩ | ⟨rfl, hk⟩ | ⟨rfl, S, n, hk⟩
    · obtain ⟨its, _, pl, _⟩ := I.list hq
      refine ⟨pl.isList.typeIs, fun a e => ?_⟩
      cases e
      obtain ⟨o, n, e, c, hd, _⟩ := pl
      exact ⟨o, e, hd⟩
    · refine ⟨⟨o, I.kIn p o hk, hc⟩, fun a e => ?_⟩
      cases e
      exact ⟨o, I.kIn _ o hk, hd⟩
    · have z : ∃ o, s.heap.get? p = some o ∧ o.ExactDict := by
        rcases hk with ⟨kvs, hk⟩ | ⟨kvs, hk⟩
        · obtain ⟨_, _, _, _, o, _, _, e, ex, _⟩ := I.hok p _ hk
          exact ⟨o, e, ex⟩
        · obtain ⟨_, _, _, _, o, _, _, e, ex, _⟩ := I.hok p _ hk
          exact ⟨o, e, ex⟩
      obtain ⟨o, e, ex⟩ := z
      refine ⟨⟨o, e, ex.1⟩, fun a e2 => ?_⟩
      cases e2
      exact ⟨o, e, ex.2.1⟩
    · obtain ⟨o, _, _, _, e, ex, _⟩ := I.hok p _ hk
      refine ⟨⟨o, e, ex.1⟩, fun a e2 => ?_⟩
      cases e2
      exact ⟨o, e, ex.2.1⟩
  | _ => exact False.elim ty
def tBM0 (K : PySem.W.Frag) (T : String) (r : V → List V → Hp → VK → Prop) (to : TE) : TE := fun σ H Q => to σ H fun x H1 => tyV K T x H1 ∧ r x [] H1 Q
def tBM (K : PySem.W.Frag) (T : String) (r : V → List V → Hp → VK → Prop) (to : TE) (t : TA) : TE := fun σ H Q => to σ H fun x H1 => tyV K T x H1 ∧ t σ H1 fun xs H2 => r x xs H2 Q
variable {o e : Expr} {es : List Expr} {to : TE} {t : TA} {name : Str} {apos cpos : Pos} {T id : String} {r : V → List V → Hp → VK → Prop}
theorem pe_bm0 (pa : PlainAttrs T) (slot : Slot T name id) (hty : typeOf (.builtin id) = pure (.type "method_descriptor")) (hm : MtR X id r) (ho : PE X o to)
    (hbase : attributeBase o name X.env (eval o X.env) = eval o X.env := by rfl) (hline : (apos.endLine == cpos.line) = true := by rfl) : PE X (.Call (.Attribute o name apos) [] [] cpos) (tBM0 X.K T r to) := by
  intro pins s σ H Q I h
  refine wpAny_Call_method0_late hbase hline (thn (ho pins s σ H _ I h) fun v s1 ⟨x, H1, I1, r1, ty, q1⟩ => ?_)
  obtain ⟨h1, h2⟩ := tyV_is I1 r1 ty
  exact ⟨T, id, pa, slot, hty, h1, h2, Calls.callWith_builtin rfl (PySem.evalArgs_none (hm pins s1 σ H1 x [] v [] Q I1 r1 .nil q1))⟩
theorem pe_bm (pa : PlainAttrs T) (slot : Slot T name id) (hty : typeOf (.builtin id) = pure (.type "method_descriptor")) (hm : MtR X id r) (ho : PE X o to) (ha : PA X (e :: es) t)
    (hbase : attributeBase o name X.env (eval o X.env) = eval o X.env := by rfl)
    (hfew : ((backTo cpos (starEach (e :: es) X.env)).all (fun x => !x.1) && (backToKw cpos (keywordEach [] X.env)).all (fun x => x.1.isSome)
      && decide ((e :: es).length + ([] : List Keyword).length + (if ([] : List Keyword).isEmpty then 0 else 1) < 30)) = true := by rfl)
    (hline : (apos.endLine == cpos.line) = true := by rfl) (hs : starEach (e :: es) X.env = (false, eval e X.env) :: starEach es X.env := by rfl) (hplain : (backTo cpos (starEach es X.env)).any (·.1) = false := by rfl) :
    PE X (.Call (.Attribute o name apos) (e :: es) [] cpos) (tBM X.K T r to t) := by
  intro pins s σ H Q I h
  refine wpAny_Call_method_late hbase hfew hline rfl (thn (ho pins s σ H _ I h) fun v s1 ⟨x, H1, I1, r1, ty, q1⟩ => ?_)
  obtain ⟨h1, h2⟩ := tyV_is I1 r1 ty
  refine ⟨T, id, pa, slot, hty, h1, h2, ?_⟩
  have hA := ha cpos pins s1 σ H1 _ I1 q1
  rw [hs] at hA ⊢
  refine Calls.callWith_builtin (by show (false || (backTo cpos (starEach es X.env)).any (·.1)) = false; rw [hplain] <;> rfl) (Calls.evalArgs_plain ?_)
  exact thn hA fun us s2 ⟨vs, H2, I2, r2, q2⟩ => hm pins s2 σ H2 x vs v us Q I2 r1 r2 q2
/- xs.append(e), list.index on a module's tuple .. are MtR facts of 06m -/
end
end L2

namespace L2
open PySem PySem.Spec PyProof.Rows

def MtM (X : Cx) (id : String) (r : V → List V → Hp → VK → Prop) : Prop :=
  ∀ (pins : List (Addr × Obj)) (s : Shared) (σ : St) (H : Hp) (x : V) (xs : List V) (v : Value) (us : List Value) (Q : VK), Inv X pins σ H s → RelV x v → Vals xs us → r x xs H Q →
    wpAny (model X.prog X.w) X.A (call (.builtin id) (v :: us)) (EP X pins σ Q) X.xe s

/-! ### lists of values -/
theorem Vals.one : ∀ {x : V} {us : List Value}, Vals [x] us → ∃ u, us = [u] ∧ RelV x u
  | _, _, .cons r .nil => ⟨_, rfl, r⟩
section
variable {X : Cx} {pins : List (Addr × Obj)} {σ : St} {H : Hp} {s : Shared} {l b : Addr} {xs ys zs : List V}

/-! ### the two steps: a tracked list is rewritten, a new list is laid -/
theorem Inv.lset {its its' : List Value} {n : Nat} {f : Array Value → Array Value} {t' : Nat} (I : Inv X pins σ H s) (hH : H l = some (.lst xs))
    (e : s.heap.get? l = some { cls := .type "list", data := .seq its.toArray n }) (hf : f its.toArray = its'.toArray) (hv : Vals ys its') (hz : ys.length ≤ sizeLine) :
    Inv X pins σ (upd H l (.lst ys)) { s with heap := s.heap.update l (Obj.mapSeq f), toks := t' } := by
  have q := PySem.IsL.update e f
  rw [hf] at q
  refine I.write (x := l) (e := l) (by rw [hH]; exact trivial) (.inl rfl) (fun b' u hb hu => (Heap.get?_update_other s.heap (Obj.mapSeq f) (Ne.symm hb)).trans hu) ⟨_, q⟩ ?_
  exact ⟨hz, its', _, hv, q⟩
theorem Inv.lnew {its : List Value} {t' : Nat} (I : Inv X pins σ H s) (hv : Vals ys its) (hz : ys.length ≤ sizeLine) :
    Inv X pins σ (upd H s.heap.objs.size (.lst ys)) { s with heap := s.heap.push { cls := .type "list", data := .seq its.toArray }, toks := t' } :=
  I.laid (fun _ _ q => Heap.get?_push_of_some _ q) (Nat.le_refl _) ⟨hz, its, 0, hv, Heap.get?_push_size _ rfl⟩
theorem Inv.fresh (I : Inv X pins σ H s) : H s.heap.objs.size = none := I.hok.fresh (Nat.le_refl _)
theorem Inv.lstM (I : Inv X pins σ H s) (hH : H l = some (.lst xs)) : xs.length ≤ sizeLine ∧ ∃ (its : List Value) (n : Nat), Vals xs its ∧ xs.length = its.length ∧ s.heap.get? l = some { cls := .type "list", data := .seq its.toArray n } := by
  obtain ⟨z, its, n, r, e⟩ := I.hok l _ hH
  exact ⟨z, its, n, r, r.length, e⟩

theorem notLongL {n : Nat} (h : n ≤ sizeLine) : Builtin.List.listTooLong n = false := by
  unfold Builtin.List.listTooLong
  exact decide_eq_false (by omega)
end

section
variable {X : Cx}

/-! ### methods -/
def rAppend : V → List V → Hp → VK → Prop := fun x vs H Q => ∃ l xs y, x = .ref l ∧ vs = [y] ∧ H l = some (.lst xs) ∧ xs.length < sizeLine ∧ Q .non (upd H l (.lst (xs ++ [y])))
theorem mt_append : MtM X "list.append" rAppend := by
  intro pins s σ H x vs v us Q I rx rv h
  obtain ⟨l, xs, y, rfl, rfl, hH, hz, q⟩ := h
  cases rx
  obtain ⟨u, rfl, ru⟩ := rv.one
  obtain ⟨z, its, n, r, hl, e⟩ := I.lstM hH
  refine call_meets F.slot_list_append ⟨_, e, rfl⟩ F.entry_list_append (F.args_list_append_2 _ _) (PySem.list_append l its.toArray n u (by rw [List.size_toArray]; omega)) ⟨e, ?_⟩
  refine ⟨.non, _, I.lset (its' := its ++ [u]) hH e (by simp) (r.append (.cons ru .nil)) ?_, rfl, q⟩
  rw [List.length_append, List.length_singleton]
  omega

def rExtend : V → List V → Hp → VK → Prop := fun x vs H Q => ∃ l b xs zs, x = .ref l ∧ vs = [.ref b] ∧ H l = some (.lst xs) ∧ H b = some (.lst zs) ∧ xs.length + zs.length ≤ sizeLine ∧ Q .non (upd H l (.lst (xs ++ zs)))
theorem mt_extend : MtM X "list.extend" rExtend := by
  intro pins s σ H x vs v us Q I rx rv h
  obtain ⟨l, b, xs, zs, rfl, rfl, hH, hB, hz, q⟩ := h
  cases rx
  obtain ⟨u, rfl, ru⟩ := rv.one
  cases ru
  obtain ⟨z, its, n, r, hl, e⟩ := I.lstM hH
  obtain ⟨z2, its2, n2, r2, hl2, e2⟩ := I.lstM hB
  have hsz : its.toArray.size + its2.toArray.size ≤ sizeLine := by rw [List.size_toArray, List.size_toArray]; omega
  have hlong : ¬ (!its.toArray.isEmpty && Builtin.List.listTooLong (its.toArray.size + its2.toArray.size)) = true := by
    rw [notLongL hsz, Bool.and_false]
    exact Bool.false_ne_true
  refine call_meets F.slot_list_extend ⟨_, e, rfl⟩ F.entry_list_extend (F.args_list_extend_2 _ _)
    (AutoSeq1.list_extend_list_list_0 l its.toArray n b its2.toArray n2 hlong (by rw [List.size_toArray]; omega) (by omega)) ⟨e, e2, ?_⟩
  refine ⟨.non, _, I.lset (its' := its ++ its2) hH e (by simp) (r.append r2) ?_, rfl, q⟩
  rw [List.length_append]
  omega

/-! ### list + list, list += list, list * int -/
def rCat : R2 := fun x y H Q => ∃ l b xs zs, x = .ref l ∧ y = .ref b ∧ H l = some (.lst xs) ∧ H b = some (.lst zs) ∧ xs.length + zs.length ≤ sizeLine ∧ ∀ p, H p = none → Q (.ref p) (upd H p (.lst (xs ++ zs)))
theorem op_cat : OpR X (binaryOp .Add) rCat := by
  intro pins s σ H x y v u Q I rx ry h
  obtain ⟨l, b, xs, zs, rfl, rfl, hH, hB, hz, q⟩ := h
  cases rx
  cases ry
  obtain ⟨z, its, n, r, hl, e⟩ := I.lstM hH
  obtain ⟨z2, its2, n2, r2, hl2, e2⟩ := I.lstM hB
  refine PySem.P.add_list e e2 ?_ (by rw [List.size_toArray, List.size_toArray]; omega)
  have ea : its.toArray ++ its2.toArray = (its ++ its2).toArray := by simp
  rw [ea]
  exact ⟨.ref _, _, I.lnew (t' := s.toks) (r.append r2) (by rw [List.length_append]; omega), rfl, q _ I.fresh⟩
/-! ### del xs[i] -/
end

/-! ### xs[a:b] = ys -/
section
variable {prog : Program} {w : World} {A : Around} {E : Value → Shared → Prop} {s : Shared}
set_option maxRecDepth 100000 in
end

section
variable {X : Cx}
end
end L2

namespace L2
open PySem PySem.Spec PyProof.Rows

/-! ### lists of pairs as tables -/
section
variable {κ : Type} [DecidableEq κ]
def valV (kvs : List (κ × V)) (k : κ) : Option V := (kvs.find? fun kv => decide (kv.1 = k)).map (·.2)
/-- in its place, or at the end -/
def putK (kvs : List (κ × V)) (k : κ) (v : V) : List (κ × V) :=
  if (kvs.any fun kv => decide (kv.1 = k)) = true then kvs.map (fun kv => if kv.1 = k then (kv.1, v) else kv) else kvs ++ [(k, v)]
theorem valV_pos {p : κ × V} {r : List (κ × V)} {k : κ} (e : p.1 = k) : valV (p :: r) k = some p.2 := by simp [valV, List.find?_cons, e]
theorem valV_neg {p : κ × V} {r : List (κ × V)} {k : κ} (e : ¬ p.1 = k) : valV (p :: r) k = valV r k := by simp [valV, List.find?_cons, e]
theorem valV_any (k : κ) : ∀ kvs : List (κ × V), (kvs.any fun kv => decide (kv.1 = k)) = (valV kvs k).isSome
  | [] => rfl
  | p :: r => by
    rw [List.any_cons]
    by_cases e : p.1 = k
    · simp only [valV_pos e, decide_eq_true e, Bool.true_or, Option.isSome_some]
    · rw [valV_neg e, decide_eq_false e, Bool.false_or]; exact valV_any k r
theorem valV_map (k j : κ) (y : V) : ∀ kvs : List (κ × V), valV (kvs.map fun kv => if kv.1 = k then (kv.1, y) else kv) j = (valV kvs j).map fun x => if j = k then y else x
  | [] => rfl
  | p :: r => by
    have ih := valV_map k j y r
    rw [List.map_cons]
    by_cases h : p.1 = k
    · rw [if_pos h]
      by_cases e : p.1 = j
      · rw [valV_pos (p := (p.1, y)) e, valV_pos e, Option.map_some, if_pos (e.symm.trans h)]
      · rw [valV_neg (p := (p.1, y)) e, valV_neg e, ih]
    · rw [if_neg h]
      by_cases e : p.1 = j
      · rw [valV_pos (p := p) e, valV_pos e, Option.map_some, if_neg (fun z => h (e.trans z))]
      · rw [valV_neg (p := p) e, valV_neg e, ih]
theorem valV_snoc (k j : κ) (y : V) : ∀ kvs : List (κ × V), valV kvs k = none → valV (kvs ++ [(k, y)]) j = if j = k then some y else valV kvs j
  | [], _ => by
    by_cases e : k = j
    · rw [if_pos e.symm]; exact valV_pos (p := (k, y)) e
    · rw [if_neg (fun z => e z.symm)]; exact valV_neg (p := (k, y)) e
  | p :: r, hn => by
    rw [List.cons_append]
    have hk : ¬ p.1 = k := fun z => by rw [valV_pos z] at hn; cases hn
    rw [valV_neg hk] at hn
    have ih := valV_snoc k j y r hn
    by_cases e : p.1 = j
    · rw [valV_pos e, valV_pos e, if_neg (fun z => hk (e.trans z))]
    · rw [valV_neg e, valV_neg e, ih]
theorem valV_put (kvs : List (κ × V)) (k j : κ) (y : V) : valV (putK kvs k y) j = if j = k then some y else valV kvs j := by
  unfold putK
  by_cases a : (kvs.any fun kv => decide (kv.1 = k)) = true
  · rw [if_pos a, valV_map]
    rw [valV_any] at a
    by_cases e : j = k
    · obtain ⟨x, hx⟩ := Option.isSome_iff_exists.mp a
      rw [if_pos e, e, hx, Option.map_some, if_pos rfl]
    · rw [if_neg e]
      cases valV kvs j with
      | none => rfl
      | some x => rw [Option.map_some, if_neg e]
  · rw [if_neg a]
    refine valV_snoc k j y kvs ?_
    rw [valV_any] at a
    cases q : valV kvs k with
    | none => rfl
    | some x => rw [q] at a; exact (a rfl).elim
theorem length_putK (kvs : List (κ × V)) (k : κ) (v : V) : (putK kvs k v).length ≤ kvs.length + 1 := by
  unfold putK
  split
  · rw [List.length_map]; omega
  · rw [List.length_append, List.length_cons, List.length_nil]; omega
theorem RelO.isSome_eq {o : Option V} {u : Option Value} (r : RelO o u) : o.isSome = u.isSome := by
  cases o with
  | none => cases u with
    | none => rfl
    | some _ => exact (show False from r).elim
  | some _ => cases u with
    | none => exact (show False from r).elim
    | some _ => rfl
/-- raw tables of the same keys -/
theorem KV.val {kvs : List (κ × V)} {vs : List (κ × Value)} (r : KV kvs vs) (k : κ) : RelO (valV kvs k) (valueAt vs k) := by
  unfold KV at r
  induction r with
  | nil => exact True.intro
  | @cons p q ps qs h t ih =>
    obtain ⟨h1, h2⟩ := h
    by_cases e : p.1 = k
    · have e' : q.1 = k := h1.symm.trans e
      have b : valueAt (q :: qs) k = some q.2 := by simp [valueAt, List.find?_cons, e']
      rw [valV_pos e, b]; exact h2
    · have e' : ¬ q.1 = k := fun z => e (h1.trans z)
      have b : valueAt (q :: qs) k = valueAt qs k := by simp [valueAt, List.find?_cons, e']
      rw [valV_neg e, b]; exact ih
theorem KV.any {kvs : List (κ × V)} {vs : List (κ × Value)} (r : KV kvs vs) (k : κ) : (kvs.any fun kv => decide (kv.1 = k)) = vs.any fun kv => decide (kv.1 = k) := by
  unfold KV at r
  induction r with
  | nil => rfl
  | cons h t ih => rw [List.any_cons, List.any_cons, ih, h.1]
theorem KV.repl {kvs : List (κ × V)} {vs : List (κ × Value)} (r : KV kvs vs) (k : κ) {y : V} {u : Value} (ry : RelV y u) :
    KV (kvs.map fun kv => if kv.1 = k then (kv.1, y) else kv) (vs.map fun kv => if kv.1 = k then (kv.1, u) else kv) := by
  unfold KV at r ⊢
  induction r with
  | nil => exact .nil
  | @cons p q ps qs h t ih =>
    rw [List.map_cons, List.map_cons]
    refine .cons ?_ ih
    obtain ⟨h1, h2⟩ := h
    by_cases e : p.1 = k
    · rw [if_pos e, if_pos (h1.symm.trans e)]; exact ⟨h1, ry⟩
    · rw [if_neg e, if_neg (fun z => e (h1.trans z))]; exact ⟨h1, h2⟩
theorem KV.put {kvs : List (κ × V)} {vs : List (κ × Value)} (r : KV kvs vs) (k : κ) {y : V} {u : Value} (ry : RelV y u) : KV (putK kvs k y) (stored vs k u) := by
  unfold putK stored
  rw [r.any k]
  by_cases e : (vs.any fun kv => decide (kv.1 = k)) = true
  · rw [if_pos e, if_pos e]; exact r.repl k ry
  · rw [if_neg e, if_neg e]; exact Paired.snoc r ⟨rfl, ry⟩
theorem KV.length {kvs : List (κ × V)} {vs : List (κ × Value)} (r : KV kvs vs) : kvs.length = vs.length := Paired.length r
end


/-! ### a tracked dict, its keys ints and texts or tuples of these -/
theorem kV_is {P : Program} {w : World} {k : Key} {u : Value} (r : RelV (kV k) u) : (mixKind P w).is k u = true := by
  cases k with
  | inl i => obtain ⟨t, e⟩ := (show ∃ t, u = Value.int i t from r); subst e; exact mixKind_int P w i t
  | inr x => obtain ⟨t, e⟩ := (show ∃ t, u = Value.str x t from r); subst e; exact mixKind_str P w x t
theorem items_are {P : Program} {w : World} : ∀ {ks : List Key} {us : List Value}, Vals (ks.map kV) us → ItemsAre (mixKind P w) ks us
  | [], _, r => by rw [List.map_nil] at r; cases r; exact .nil
  | k :: ks, _, r => by
    rw [List.map_cons] at r
    cases r with
    | cons h t => exact .cons (kV_is h) (items_are t)

/-- raw entries of a dict with tuple keys -/
abbrev KT (H : Hp) : List (List Key × V) → List (List Key × Addr × Value) → Prop := Paired fun p q => p.1 = q.1 ∧ H q.2.1 = some (.tup (p.1.map kV)) ∧ RelV p.2 q.2.2
theorem KT.val {H : Hp} {kvs : List (List Key × V)} {xs : List (List Key × Addr × Value)} (r : KT H kvs xs) (k : List Key) : RelO (valV kvs k) ((atKey xs k).map (·.2)) := by
  induction r with
  | nil => exact True.intro
  | @cons p q ps qs h t ih =>
    obtain ⟨h1, _, h2⟩ := h
    by_cases e : p.1 = k
    · have e' : q.1 = k := h1.symm.trans e
      have b : atKey (q :: qs) k = some q.2 := by simp [atKey, List.find?_cons, e']
      rw [valV_pos e, b]; exact h2
    · have e' : ¬ q.1 = k := fun z => e (h1.trans z)
      have b : atKey (q :: qs) k = atKey qs k := by simp [atKey, List.find?_cons, e']
      rw [valV_neg e, b]; exact ih
theorem KT.repl {H : Hp} {kvs : List (List Key × V)} {xs : List (List Key × Addr × Value)} (r : KT H kvs xs) (k : List Key) {y : V} {u : Value} (ry : RelV y u) :
    KT H (kvs.map fun kv => if kv.1 = k then (kv.1, y) else kv) (xs.map (putAt k u)) := by
  induction r with
  | nil => exact .nil
  | @cons p q ps qs h t ih =>
    rw [List.map_cons, List.map_cons]
    refine .cons ?_ ih
    obtain ⟨h1, h2, h3⟩ := h
    unfold putAt
    by_cases e : p.1 = k
    · rw [if_pos e, if_pos (h1.symm.trans e)]; exact ⟨h1, h2, ry⟩
    · rw [if_neg e, if_neg (fun z => e (h1.trans z))]; exact ⟨h1, h2, h3⟩
theorem KT.put {H : Hp} {kvs : List (List Key × V)} {xs : List (List Key × Addr × Value)} (r : KT H kvs xs) (k : List Key) {b : Addr} {y : V} {u : Value} (hb : H b = some (.tup (k.map kV))) (ry : RelV y u) :
    KT H (putK kvs k y) (storedH xs k b u) := by
  have e : (kvs.any fun kv => decide (kv.1 = k)) = (atKey xs k).isSome := by
    rw [valV_any, (r.val k).isSome_eq, Option.isSome_map]
  unfold putK storedH
  rw [e]
  by_cases q : (atKey xs k).isSome = true
  · rw [if_pos q, if_pos q]; exact r.repl k ry
  · rw [if_neg q, if_neg q]; exact Paired.snoc r ⟨rfl, hb, ry⟩
theorem KT.keeps {H H' : Hp} {kvs : List (List Key × V)} {xs : List (List Key × Addr × Value)} (r : KT H kvs xs) (ht : ∀ b ys, H b = some (.tup ys) → H' b = some (.tup ys)) : KT H' kvs xs :=
  Paired.mapP r fun _ _ z => ⟨z.1, ht _ _ z.2.1, z.2.2⟩

section
variable {P : Program} {w : World} {H : Hp} {h : Heap} {a : Addr}
theorem rd_of {u : HO} (ok : HOk P w H h) (e : Rd H a u) : ObjOk P w H h a u := e.ok ok
theorem dk_rd {kvs : List (Key × V)} (ok : HOk P w H h) (e : Rd H a (.dK kvs)) : kvs.length ≤ sizeLine ∧ (a == sysModules) = false ∧ ∃ vs, KV kvs vs ∧ h.DictOf (mixKind P w) a vs :=
  show ObjOk P w H h a (.dK kvs) from rd_of ok e
theorem dk_of {kvs : List (Key × V)} (ok : HOk P w H h) (e : H a = some (.dK kvs)) : kvs.length ≤ sizeLine ∧ (a == sysModules) = false ∧ ∃ vs, KV kvs vs ∧ h.DictOf (mixKind P w) a vs := dk_rd ok (.inl e)
/-- a tracked tuple of ints and texts is a key -/
theorem key_of {ks : List Key} (ok : HOk P w H h) (e : H a = some (.tup (ks.map kV))) : (tupleKind (mixKind P w)).is h ks a := by
  obtain ⟨_, its, r, o, h1, h2, n, h3⟩ := (show ObjOk P w H h a (.tup (ks.map kV)) from ok a _ e)
  exact ⟨o, its.toArray, n, h1, h2, h3, by simpa using items_are r⟩
theorem dt_rd {kvs : List (List Key × V)} (ok : HOk P w H h) (e : Rd H a (.dT kvs)) : kvs.length ≤ sizeLine ∧ (a == sysModules) = false ∧
    ∃ xs, KT H kvs xs ∧ h.DictOfH (tupleKind (mixKind P w)) a xs := by
  obtain ⟨z, y, xs, r, o, es, ep, h1, h2, h3, h4, h5⟩ := (show ObjOk P w H h a (.dT kvs) from rd_of ok e)
  refine ⟨z, y, xs, r, o, es, ep, h1, h2, h3, h4, fun x hx => ?_, h5⟩
  have all : ∀ {l : List (List Key × V)} {m : List (List Key × Addr × Value)}, KT H l m → ∀ x ∈ m, (tupleKind (mixKind P w)).is h x.1 x.2.1 := by
    intro l m q
    induction q with
    | nil => intro x hx; exact nomatch hx
    | @cons p q ps qs hq t ih =>
      intro x hx
      rcases List.mem_cons.mp hx with e | hx
      · subst e
        exact key_of ok (by rw [← hq.1]; exact hq.2.1)
      · exact ih x hx
  exact all r x hx
theorem dt_of {kvs : List (List Key × V)} (ok : HOk P w H h) (e : H a = some (.dT kvs)) : kvs.length ≤ sizeLine ∧ (a == sysModules) = false ∧
    ∃ xs, KT H kvs xs ∧ h.DictOfH (tupleKind (mixKind P w)) a xs := dt_rd ok (.inl e)
end

/-- what the dict at a holds at the key y -/
def DGet (H : Hp) (a : Addr) (y : V) (r : Option V) : Prop :=
  (∃ kvs k, Rd H a (.dK kvs) ∧ y = kV k ∧ r = valV kvs k) ∨ ∃ kvs k b, Rd H a (.dT kvs) ∧ y = .ref b ∧ H b = some (.tup (k.map kV)) ∧ r = valV kvs k
/-- the heap behind a[y] = v -/
def DPut (H : Hp) (a : Addr) (y v : V) (H' : Hp) : Prop :=
  (∃ kvs k, H a = some (.dK kvs) ∧ y = kV k ∧ kvs.length < sizeLine ∧ H' = upd H a (.dK (putK kvs k v))) ∨
  ∃ kvs k b, H a = some (.dT kvs) ∧ y = .ref b ∧ H b = some (.tup (k.map kV)) ∧ kvs.length < sizeLine ∧ H' = upd H a (.dT (putK kvs k v))
theorem DGet.k {H : Hp} {a : Addr} {kvs : List (Key × V)} {k : Key} (e : H a = some (.dK kvs)) : DGet H a (kV k) (valV kvs k) := .inl ⟨kvs, k, .inl e, rfl, rfl⟩
theorem DPut.k {H : Hp} {a : Addr} {kvs : List (Key × V)} {k : Key} {v : V} (e : H a = some (.dK kvs)) (hl : kvs.length < sizeLine) : DPut H a (kV k) v (upd H a (.dK (putK kvs k v))) := .inl ⟨kvs, k, e, rfl, hl, rfl⟩
section
variable {X : Cx} {pins : List (Addr × Obj)} {σ : St} {H : Hp} {s : Shared} {a : Addr} {y v : V} {u r : Value} {o : Option V} {A : Around} {E : Value → Shared → Prop}

theorem Inv.big (I : Inv X pins σ H s) : sysModules < s.heap.objs.size := by
  have h : mainGlobals < s.heap.objs.size := (I.mod.glob.keeps I.bk).lt
  exact Nat.lt_trans (by decide) h

/-- d[y], there -/
theorem d_getItem {Q : Value → Shared → Prop} (hu : A.units + 1 < cLine) (I : Inv X pins σ H s) (g : DGet H a y (some v)) (ry : RelV y u) (h : ∀ w' s', Inv X pins σ H s' → RelV v w' → Q w' s') :
    wpAny (model X.prog X.w) A (getItem (.ref a) u) Q E s := by
  rcases g with ⟨kvs, k, e, ey, l⟩ | ⟨kvs, k, b, e, ey, eb, l⟩
  · subst ey
    obtain ⟨z, hd, vs, rel, dd⟩ := dk_rd I.hok e
    obtain ⟨w', hw, rw'⟩ := RelO.some_of (v := v) (o := valueAt vs k) (by rw [l]; exact rel.val k)
    exact wpAny_getItem_of (kV_is ry) dd.mapOf hw (h w' _ (I.tok _) rw')
  · subst ey
    cases (show u = Value.ref b from ry)
    obtain ⟨z, hd, xs, rel, dd⟩ := dt_rd I.hok e
    obtain ⟨w', hw, rw'⟩ := RelO.some_of (v := v) (o := (atKey xs k).map (·.2)) (by rw [l]; exact rel.val k)
    obtain ⟨p, hp, hp2⟩ := Option.map_eq_some_iff.mp hw
    refine wpAny_getItem_heap (tupleKind_room_in1 hu) (key_of I.hok eb) dd hp ?_
    rw [hp2]
    exact h w' _ (I.tok _) rw'
/-- a dict's object is replaced -/
theorem d_write {h' : Heap} {t' : Nat} {ob : HO} (I : Inv X pins σ H s) (mu : Mut (H a)) (hs : Heap.SameBut a s.heap h') (he : ∃ q, h'.get? a = some q) (new : ObjOk X.prog X.w (upd H a ob) h' a ob) :
    Inv X pins σ (upd H a ob) { s with heap := h', toks := t' } :=
  I.write (x := a) (e := a) mu (.inl rfl) (fun b q hb z => (hs.2 b hb).trans z) he new
theorem dk_new {P : Program} {w : World} {H' : Hp} {h' : Heap} {kvs : List (Key × V)} {vs : List (Key × Value)} (z : kvs.length ≤ sizeLine) (hd : (a == sysModules) = false) (rel : KV kvs vs) (dd : h'.DictOf (mixKind P w) a vs) :
    ObjOk P w H' h' a (.dK kvs) := ⟨z, hd, vs, rel, dd⟩
/-- d[y] = v -/
theorem d_setItem {H' : Hp} {Q : Unit → Shared → Prop} (hu : A.units + 1 < cLine) (I : Inv X pins σ H s) (g : DPut H a y v H') (ry : RelV y u) (rv : RelV v r) (h : ∀ s', Inv X pins σ H' s' → Q () s') :
    wpAny (model X.prog X.w) A (setItem (.ref a) u r) Q E s := by
  rcases g with ⟨kvs, k, e, ey, l, eH⟩ | ⟨kvs, k, b, e, ey, eb, l, eH⟩
  · subst ey eH
    obtain ⟨z, hd, vs, rel, dd⟩ := dk_of I.hok e
    have hz : vs.length ≤ sizeLine := by rw [← rel.length]; exact z
    have hl : (putK kvs k v).length ≤ sizeLine := by have := length_putK kvs k v; omega
    refine wpAny_setItem_pairs (hsz := hz) (kV_is ry) dd fun h' dd' hs => h _ ?_
    have he : ∃ q, h'.get? a = some q := let ⟨q, _, _, hq, _⟩ := dd'; ⟨q, hq⟩
    exact d_write I (by rw [e]; exact True.intro) hs he (dk_new hl hd (rel.put k rv) dd')
  · subst ey eH
    cases (show u = Value.ref b from ry)
    obtain ⟨z, hd, xs, rel, dd⟩ := dt_of I.hok e
    have hz : xs.length ≤ sizeLine := by rw [← Paired.length rel]; exact z
    have hl : (putK kvs k v).length ≤ sizeLine := by have := length_putK kvs k v; omega
    refine wpAny_setItem_heap (hsz := hz) (tupleKind_room_in1 hu) (key_of I.hok eb) dd fun h' dd' hs => h _ ?_
    obtain ⟨q, es, ep, hq, h2, h3, h4, _, h5⟩ := dd'
    refine d_write I (by rw [e]; exact True.intro) hs ⟨q, hq⟩ ⟨hl, hd, _, (rel.put k eb rv).keeps fun c ys ec => ?_, q, es, ep, hq, h2, h3, h4, h5⟩
    rw [upd_ne (ne_of ec e (fun z => nomatch z))]
    exact ec
end

section
variable {X : Cx} {pins : List (Addr × Obj)} {σ : St} {H : Hp} {s : Shared} {a : Addr} {kvs : List (Key × V)} {k : Key} {u : Value} {A : Around} {E : Value → Shared → Prop}
end


/-! ### readings and rules -/
/-- the element of a subscription, not a slice -/
def NoSl (i : Expr) : Prop := ∀ ov iv, subscripted i false ov iv = operate [ov, iv] (getItem ov iv)
theorem subD_of {prog : Program} {w : World} {A : Around} {E : Value → Shared → Prop} {s : Shared} {env : Env} {value slice : Expr} {pos : Pos} {T id : String} {Q : Value → Shared → Prop}
    (hl : typeLookup (.type T) "__getitem__" = pure (some (.builtin id))) (hs : NoSl slice)
    (h : wpAny (model prog w) A (eval value env) (fun o s₁ => wpAny (model prog w) A (eval slice env) (fun i s₂ => s₂.TypeIs o T ∧ wpAny (model prog w) A (getItem o i) Q E s₂) E s₁) E s) :
    wpAny (model prog w) A (eval (.Subscript value slice pos) env) Q E s := by
  refine Subscript_ (wpAny_mono h (fun o s₁ h₁ => wpAny_mono h₁ (fun i s₂ h₂ => ?_) fun _ _ x => x) fun _ _ x => x)
  obtain ⟨hT, h₂⟩ := h₂
  unfold subscriptTail
  refine wpAny_bind ?_
  rw [getitemInPython_of_ne hT.not_modules]
  refine wpAny_bind (wpAny_specialOf hT hl ?_)
  have fin : wpAny (model prog w) A (subscripted slice false o i) (fun r s₃ => wpAny (model prog w) A (letTemporaryGo value o r >>= fun _ => pure r) Q E s₃) E s₂ := by
    rw [hs o i]
    exact wpAny_operating (wpAny_mono h₂ (fun r s₃ h₃ => wpAny_bind (wpAny_letTemporaryGo (wpAny_pure h₃))) fun _ _ x => x)
  first
    | exact wpAny_pure (wpAny_bind fin)
    | exact wpAny_bind (wpAny_pure (wpAny_bind fin))
    | exact wpAny_bind fin

theorem dict_typeIs {X : Cx} {pins : List (Addr × Obj)} {σ : St} {H : Hp} {s : Shared} {a : Addr} {y : V} {o : Option V} (I : Inv X pins σ H s) (g : DGet H a y o) : s.TypeIs (.ref a) "dict" := by
  rcases g with ⟨kvs, k, e, _, _⟩ | ⟨kvs, k, b, e, _, _, _⟩
  · obtain ⟨_, _, vs, _, dd⟩ := dk_rd I.hok e
    exact dd.typeIs
  · obtain ⟨_, _, xs, _, dd⟩ := dt_rd I.hok e
    exact dd.typeIs
/-- d[y] -/
def tDGet (td ty : TE) : TE := fun σ H Q => td σ H fun x H1 => ty σ H1 fun y H2 => ∃ a v, x = .ref a ∧ DGet H2 a y (some v) ∧ Q v H2
/-- d[y] = v -/
def sDPut (td ty tv : TE) : TS := fun D σ H => tv σ H fun v H1 => td σ H1 fun x H2 => ty σ H2 fun y H3 => ∃ a H4, x = .ref a ∧ DPut H3 a y v H4 ∧ D.nx σ H4
section
variable {X : Cx} {o i e value : Expr} {pos pos' tpos : Pos} {td ty tv : TE}
theorem pe_dget (hu : X.A.units + 1 < cLine) (ho : PE X o td) (hi : PE X i ty) (hs : NoSl i) : PE X (.Subscript o i pos) (tDGet td ty) := by
  intro pins s σ H Q I h
  refine subD_of PySem.F.slot_dict_getitem.lookup hs (thn (ho pins s σ H _ I h) fun u s1 ⟨x, H1, I1, rx, q1⟩ => thn (hi pins s1 σ H1 _ I1 q1) fun iv s2 ⟨y, H2, I2, ry, a, v, ex, g, q2⟩ => ?_)
  subst ex
  obtain rfl : u = Value.ref a := rx
  exact ⟨dict_typeIs I2 g, d_getItem hu I2 g ry fun w' s3 I3 rw' => ⟨v, H2, I3, rw', q2⟩⟩
theorem ps_dput (hu : X.A.units + 1 < cLine) (ho : PE X o td) (hi : PE X i ty) (hv : PE X value tv) (hs : swapsWith value (some (.Subscript o i pos')) pos.line X.env = pure false) :
    PS X (.Assign [.Subscript o i pos'] value pos) (sDPut td ty tv) := by
  intro pins s σ H D I h
  refine wpAny_Assign_Subscript (thn (hv pins s σ H _ I h) fun r s1 ⟨v, H1, I1, rv, q1⟩ => thn (ho pins s1 σ H1 _ I1 q1) fun u s2 ⟨x, H2, I2, rx, q2⟩ => thn (hi pins s2 σ H2 _ I2 q2) fun iv s3 ⟨y, H3, I3, ry, a, H4, ex, g, q3⟩ => ?_) hs
  subst ex
  obtain rfl : u = Value.ref a := rx
  exact d_setItem hu I3 g ry rv fun s4 I4 => ⟨σ, H4, I4, q3⟩
end


/-! ### displays -/
theorem dk_empty {P : Program} {w : World} {H : Hp} (h : Heap) (hb : sysModules < h.objs.size) : ObjOk P w H (h.push { cls := .type "dict", data := .dict #[] }) h.objs.size (.dK []) :=
  ⟨Nat.zero_le _, beq_eq_false_iff_ne.mpr (Ne.symm (Nat.ne_of_lt hb)), [], .nil, Heap.DictOf.new h⟩
/-- {}, to be a dict of the kind that is wanted -/
def tDNewK : TE := fun _ H Q => ∀ p, H p = none → Q (.ref p) (upd H p (.dK []))
section
variable {X : Cx} {pos : Pos}
theorem pe_dnewK : PE X (.Dict [] [] pos) tDNewK := fun pins s σ H Q I h =>
  wpAny_Dict_empty ⟨.ref s.heap.objs.size, _, I.laid (a := s.heap.objs.size) (o := .dK []) (t' := s.toks) (fun _ _ q => Heap.get?_push_of_some _ q) (Nat.le_refl _) (dk_empty s.heap I.big), rfl, h _ (I.hok.fresh (Nat.le_refl _))⟩
end

/-- the pairs of a display, from the left -/
def tPairs : List (TE × TE) → St → Hp → (List (V × V) → Hp → Prop) → Prop
  | [], _, H, Q => Q [] H
  | (tk, tv) :: r, σ, H, Q => tk σ H fun x H1 => tv σ H1 fun y H2 => tPairs r σ H2 fun ps H3 => Q ((x, y) :: ps) H3
abbrev VV : List (V × V) → List (Value × Value) → Prop := Paired fun p q => RelV p.1 q.1 ∧ RelV p.2 q.2
def PPs (X : Cx) (pos : Pos) (keys : List (Option Expr)) (values : List Expr) (trs : List (TE × TE)) : Prop :=
  ∀ (pins : List (Addr × Obj)) (s : Shared) (σ : St) (H : Hp) (Q : List (V × V) → Hp → Prop), Inv X pins σ H s → tPairs trs σ H Q →
    wpAny (model X.prog X.w) X.A (evalPairs (pairTrees keys values X.env pos)) (fun vs s' => ∃ ps H', Inv X pins σ H' s' ∧ VV ps vs ∧ Q ps H') X.xe s
theorem pps_nil {X : Cx} {pos : Pos} : PPs X pos [] [] [] := fun pins s σ H Q I h => pairTrees_nil_walk ⟨[], H, I, .nil, h⟩
theorem pps_cons {X : Cx} {pos : Pos} {k v : Expr} {ks : List (Option Expr)} {vs : List Expr} {tk tv : TE} {trs : List (TE × TE)} (hk : PE X k tk) (hv : PE X v tv) (hr : PPs X pos ks vs trs) :
    PPs X pos (some k :: ks) (v :: vs) ((tk, tv) :: trs) := fun pins s σ H Q I h =>
  pairTrees_cons_walk (thn (hk pins s σ H _ I h) fun u s1 ⟨x, H1, I1, rx, q1⟩ => thn (hv pins s1 σ H1 _ I1 q1) fun w2 s2 ⟨y, H2, I2, ry, q2⟩ =>
    thn (hr pins s2 σ H2 _ I2 q2) fun ws s3 ⟨ps, H3, I3, rel, q3⟩ => ⟨(x, y) :: ps, H3, I3, .cons ⟨rx, ry⟩ rel, q3⟩)

def mergeK (kvs more : List (Key × V)) : List (Key × V) := more.foldl (fun acc kv => putK acc kv.1 kv.2) kvs
theorem KV.merge : ∀ {more : List (Key × V)} {rs : List (Key × Value)} {kvs : List (Key × V)} {vs : List (Key × Value)}, KV more rs → KV kvs vs → KV (mergeK kvs more) (merged vs rs) := by
  intro more rs kvs vs r
  unfold KV at r
  induction r generalizing kvs vs with
  | nil => intro q; exact q
  | @cons p q ps qs h t ih =>
    intro r0
    have e : KV (putK kvs p.1 p.2) (stored vs q.1 q.2) := by
      have := r0.put p.1 h.2
      rw [← h.1]; exact this
    exact ih e
theorem length_mergeK : ∀ (more kvs : List (Key × V)), (mergeK kvs more).length ≤ kvs.length + more.length
  | [], kvs => by show kvs.length ≤ kvs.length + 0; omega
  | p :: r, kvs => by
    have h1 := length_mergeK r (putK kvs p.1 p.2)
    have h2 := length_putK kvs p.1 p.2
    show (mergeK (putK kvs p.1 p.2) r).length ≤ _
    rw [List.length_cons]; omega
theorem carries_of {P : Program} {w : World} : ∀ {kvs : List (Key × V)} {ws : List (Value × Value)}, VV (kvs.map fun kv => (kV kv.1, kv.2)) ws → ∃ rs, Carries (mixKind P w) ws rs ∧ KV kvs rs
  | [], _, r => by rw [List.map_nil] at r; cases r; exact ⟨[], True.intro, .nil⟩
  | p :: kvs, _, r => by
    rw [List.map_cons] at r
    cases r with
    | @cons a b as bs h t =>
      obtain ⟨rs, c, q⟩ := carries_of (P := P) (w := w) t
      obtain ⟨b1, b2⟩ := b
      exact ⟨(p.1, b2) :: rs, ⟨kV_is h.1, rfl, c⟩, .cons ⟨rfl, h.2⟩ q⟩
/-- {k: v, ..} with keys ints and texts; the new dict stands empty while the pairs are made -/
def tDisp (trs : List (TE × TE)) : TE := fun σ H Q => ∀ p, H p = none → tPairs trs σ (upd H p (.dK [])) fun ps H2 => H2 p = some (.dK []) ∧ ∃ kvs : List (Key × V), ps = kvs.map (fun kv => (kV kv.1, kv.2)) ∧ kvs.length ≤ 15 ∧ Q (.ref p) (upd H2 p (.dK (mergeK [] kvs)))
theorem pe_disp {X : Cx} {pos : Pos} {keys : List (Option Expr)} {values : List Expr} {trs : List (TE × TE)} (h : PPs X pos keys values trs) (hall : keys.all (·.isSome) = true) (hl : keys.length = values.length) (h0 : keys ≠ [])
    (h15 : keys.length ≤ 15) : PE X (.Dict keys values pos) (tDisp trs) := by
  intro pins s σ H Q I q
  have hn := I.hok.fresh (Nat.le_refl s.heap.objs.size)
  have I1 := I.laid (a := s.heap.objs.size) (o := .dK []) (h' := s.heap.push { cls := .type "dict", data := .dict #[] }) (t' := s.toks) (fun _ _ q => Heap.get?_push_of_some _ q) (Nat.le_refl _) (dk_empty s.heap I.big)
  refine wpAny_Dict_walk (knd := mixKind X.prog X.w) hall hl h0 h15 (thn (h pins _ σ _ _ I1 (q _ hn)) fun ws s2 ⟨ps, H2, I2, rel, e, kvs, ep, lk, q2⟩ => ?_)
  subst ep
  obtain ⟨rs, c, rk⟩ := carries_of (P := X.prog) (w := X.w) rel
  obtain ⟨z, hd, vs0, r0, dd⟩ := dk_of I2.hok e
  cases r0
  refine ⟨rs, c, dd, fun h' dd' hs => ⟨.ref s.heap.objs.size, _, ?_, rfl, q2⟩⟩
  have hz : (mergeK [] kvs).length ≤ sizeLine := by
    have h1 := length_mergeK kvs []
    rw [List.length_nil] at h1
    rw [sizeLine_eq]; omega
  have he : ∃ q, h'.get? s.heap.objs.size = some q := let ⟨q, _, _, hq, _⟩ := dd'; ⟨q, hq⟩
  exact d_write I2 (by rw [e]; exact True.intro) hs he (dk_new hz hd (rk.merge .nil) dd')


/-! ### methods -/
section
variable {X : Cx} {pins : List (Addr × Obj)} {σ : St} {H : Hp} {s : Shared} {a : Addr} {y d : V} {u r : Value} {o : Option V} {A : Around} {E : Value → Shared → Prop}
end

section
variable {X : Cx} {o e f : Expr} {apos cpos : Pos} {td ty tx : TE}
end

/-! ### dict(d): a copy -/
section
variable {X : Cx} {pins : List (Addr × Obj)} {σ : St} {H : Hp} {s : Shared} {a : Addr} {kvs : List (Key × V)} {A : Around} {E : Value → Shared → Prop}
end


section
variable {X : Cx} {pins : List (Addr × Obj)} {σ : St} {H : Hp} {s : Shared} {a : Addr} {y : V} {u : Value} {A : Around} {E : Value → Shared → Prop}
end
end L2

namespace Att
open PySem PySem.W PySem.Calls PyProof.Rows

/-! ### the script -/
theorem ints_of_wellAll {P : Params} {h : Heap} : ∀ (ns : List Int) (vs : List Value), WellAll P h vs (ns.map WData.int) → IntsAre vs ns := by
  intro ns
  induction ns with
  | nil =>
    intro vs w
    rw [List.map_nil] at w
    cases w
    exact .nil
  | cons n ns ih =>
    intro vs w
    rw [List.map_cons] at w
    cases w with
    | cons a b =>
      cases a
      exact .cons _ _ (ih _ b)

theorem script_of {l : OpenLaw} {n : Nat} (hn : l.most = some n) {P : Params} {h : Heap} {args : List WData} {vals : List Value}
    (hpre : l.row.toRowW.claim.pre args = true) (hwl : WellAll P h vals args) :
    ∃ a vs ns, vals = [Value.ref a] ∧ args = [WData.list (ns.map WData.int)] ∧ h.get? a = some { cls := .type "list", data := .seq vs.toArray } ∧ IntsAre vs ns ∧ ns.length ≤ n := by
  have hsh : WShape.hasAll [] args [.list .int] = true := (pre_splitW hpre).1
  have hc : l.pre.holds [] { args := args } = true := (pre_splitW hpre).2
  obtain ⟨d, r, rfl, h1, h2⟩ := hasAllW_cons hsh
  obtain rfl := hasAllW_nil h2
  obtain ⟨xs, rfl, h3⟩ := hasW_list h1
  obtain ⟨ns, rfl⟩ := items_int h3
  have hlen : ns.length ≤ n := by
    unfold OpenLaw.pre at hc
    have h4 : (WTm.not (.lt (.lit (.int (n : Int))) (.len (.arg 0)))).holds [] { args := [.list (ns.map .int)] } = true := by
      have h4 := (holds_andW hc).1
      rw [hn] at h4
      exact h4
    have h5 := condW_of h4 (w_not (w_lt w_lit (w_len_list (w_arg rfl))))
    rw [List.length_map] at h5
    refine Nat.le_of_not_lt fun q => ?_
    have q' : (n : Int) < ((ns.length : Nat) : Int) := by omega
    first
      | (rw [decide_eq_true q'] at h5; exact absurd h5 (by decide))
      | (simp at h5; omega)
  cases hwl with
  | cons w1 w2 =>
    cases w2
    cases w1 with
    | list ho hall => exact ⟨_, _, ns, rfl, rfl, ho, ints_of_wellAll ns _ hall, hlen⟩

theorem post_true (l : OpenLaw) (args : List WData) : l.row.toRowW.claim.post args (.bool true) args = true :=
  postW_of (r := l.row.toRowW) (X := (true == true))
    (show WShape.has [] (.bool true) .bool = true by first | rfl | decide | simp [WShape.has, WShape.arms, WShape.armsAll])
    (show (WTm.eq .res (.lit (.bool true))).value [] { args := args, res := some (.bool true), after := args } = some (.bool (true == true)) from w_eq_bool (w_res rfl) w_lit) rfl

/-! ### the attachment: holds_open's last premise (the goal 'hc' behind k_head) from a wpAny of the law's body -/
/-! ### rules over ANY heap (no ledger) from facts about the written part K: the library's own take a ledger (News) for what they write -/
section
variable {prog : Program} {w : World} {A : Around} {E : Value → Shared → Prop} {s : Shared} {K : Frag}

/-! the whole heap as the ledger: makes every rule that writes through a ledger a rule over any heap -/
end
end Att

namespace L2
open PySem PySem.Spec PyProof.Rows

theorem vals_ints : ∀ {vs : List Value} {ns : List Int}, IntsAre vs ns → Vals (ns.map V.int) vs
  | _, _, .nil => .nil
  | _, _, .cons n t h => .cons ⟨t, rfl⟩ (vals_ints h)

/-- nothing is tracked but the script, known to the object (or it is an object of the module) -/
def Only (H : Hp) : Prop := ∀ b, H b = none ∨ ∃ o xs, H b = some (.frz o (.lst xs))

/-- THE HEAD: the law's promise, at the heap behind the top. F, the promise of the law's def, may use that base is part of the heap (so K.In base, base.Ns mainGlobals mg stand in Mod) -/
theorem law_call {P : Program} {w : World} {K : PySem.W.Frag} {mg mb : Str → Option Value} {CX : CXT} {k : Nat} {fa a : Addr} {fd : FuncData} {x : Str} {sp : Sp} {s₁ : Shared} {vs : List Value} {ns : List Int}
    (KX : K.In s₁.heap) (hns : s₁.heap.Ns mainGlobals mg) (hb : s₁.heap.Ns builtinsNs mb) (hbb : ∀ x : Str, x ≠ "__name__" → mb x = bootBuiltins x) (hlim : s₁.heap.NoLimit) (hg : s₁.gens = #[])
    (ha : s₁.heap.get? a = some { cls := .type "list", data := .seq vs.toArray }) (hi : IntsAre vs ns) (hl : ns.length ≤ sizeLine) (hr : Room k callerA)
    (F : ∀ base : Heap, K.In base → base.Ns mainGlobals mg → FnOk P w K mg base CX k fa fd [x] sp) (hbind : ∀ (s : Shared) (u : Value), BindsTo s fd ⟨[u], []⟩ [(x, u)])
    (hsp : ∀ H : Hp, Only H → SqL K H a (ns.map V.int) → sp [.ref a] H (fun v _ => v = .bl true) fun _ _ _ => False)
    (hCX : ∀ H e s', CX [] H s₁ (fun _ _ _ => False) e s' → False) :
    codeAny (model P w) callerA (.call (.ref fa) ⟨[.ref a], []⟩) (fun r s' => r = .ok (.ret (.bool true)) ∧ OldK s₁.heap s'.heap ∧ s'.os = s₁.os ∧ AllBare s'.gens) s₁ := by
  have rv := vals_ints hi
  have lenV := hi.length
  -- from an abstract heap in which nothing but the script may be tracked
  have core : ∀ H : Hp, Only H → SqL K H a (ns.map V.int) → HOk P w H s₁.heap → (∀ b, H b ≠ none → b = a) → (H a ≠ none → K.lookup a = none) →
      codeAny (model P w) callerA (.call (.ref fa) ⟨[.ref a], []⟩) (fun r s' => r = .ok (.ret (.bool true)) ∧ OldK s₁.heap s'.heap ∧ s'.os = s₁.os ∧ AllBare s'.gens) s₁ := by
    intro H hO hS hok hA hK
    have base_of : ∀ {b : Addr} {o : Obj}, s₁.heap.get? b = some o → H b = none → (hidT s₁.heap H).get? b = some o := fun e n => hidT_get e n
    have noA : ∀ {b : Addr} {o : Obj} {es : Array DictEntry} {ep : Nat}, s₁.heap.get? b = some o → o.data = .dict es ep → H b = none := fun {b o es ep} e d => by
      cases q : H b with
      | none => rfl
      | some u =>
        have e' : b = a := hA b (by rw [q]; simp)
        subst e'
        rw [ha] at e; cases e
        have d' : Data.seq vs.toArray _ = Data.dict es ep := d
        cases d'
    have nsK : ∀ {b : Addr} {m : Str → Option Value}, s₁.heap.Ns b m → (hidT s₁.heap H).Ns b m := fun {b m} ⟨o, es, ep, e, d, r⟩ => ⟨o, es, ep, base_of e (noA e d), d, r⟩
    have hKb : K.In (hidT s₁.heap H) := fun b o e => base_of (KX b o e) (by
      cases q : H b with
      | none => rfl
      | some u =>
        have e' : b = a := hA b (by rw [q]; simp)
        subst e'
        rw [hK (by rw [q]; simp)] at e; cases e)
    have hM : Mod K mg (hidT s₁.heap H) := ⟨hKb, nsK hns, ⟨mb, nsK hb, hbb⟩, let ⟨mc, h1, h2⟩ := hlim; ⟨mc, nsK h1, h2⟩⟩
    have e0 : Env0 P w K mg (hidT s₁.heap H) callerA [] s₁ H := ⟨rfl, hM, fun b o e => of_hidT e, Nat.le_of_eq (hidT_size _ _), trivial, fun b hb => absurd (show b ∈ ([] : List Addr) from hb) (by simp), hok, .of_eq hg⟩
    refine codeAny_mono ((F _ hKb (nsK hns)).run callerA [] s₁ H ⟨[.ref a], []⟩ [.ref a] [.ref a] _ _ hr e0 (hbind s₁ (.ref a)) (.cons rfl .nil) (hsp H hO hS)) fun r s' h => ?_
    cases r with
    | error e => exact (hCX H e s' h).elim
    | ok fl =>
      cases fl with
      | next => exact False.elim h
      | brk => exact False.elim h
      | cont => exact False.elim h
      | ret u =>
        obtain ⟨v, H', os, bare, un, hok', r', q⟩ := h
        have q' : v = .bl true := q
        subst q'
        obtain rfl : u = Value.bool true := r'
        refine ⟨rfl, OldK.of_keep fun b o e => ?_, os, bare⟩
        cases q : H b with
        | none => exact un.keep b o e q (by intro z; exact absurd (show b ∈ ([] : List Addr) from z) (by simp)) (by simp)
        | some u =>
          rcases hO b with z | ⟨ob, xs, z⟩
          · rw [q] at z; cases z
          · have z2 := un.frzs b ob _ z
            obtain ⟨e1, _⟩ := hok b _ z
            obtain ⟨e2, _⟩ := hok' b _ z2
            rw [e] at e1; cases e1
            exact e2
  cases hk : K.lookup a with
  | some o =>
    -- the script is one of the module's own objects
    have e := KX a o hk
    rw [ha] at e
    cases e
    refine core (fun _ => none) (fun _ => .inl rfl) (.inr ⟨_, vs.toArray, _, hk, rfl, rfl, rfl, by rw [List.size_toArray, lenV]; exact hl, by simpa using rv⟩) (fun b u z => by have z' : (none : Option HO) = some u := z; cases z') (fun b z => absurd rfl z) fun z => absurd rfl z
  | none =>
    refine core (fun b => if b = a then some (.frz { cls := .type "list", data := .seq vs.toArray } (.lst (ns.map V.int))) else none) (fun b => ?_) (.inl (.inr ⟨{ cls := .type "list", data := .seq vs.toArray }, if_pos rfl⟩)) (fun b u z => ?_) (fun b z => ?_) fun _ => hk
    · by_cases hb : b = a
      · exact .inr ⟨_, _, if_pos hb⟩
      · exact .inl (if_neg hb)
    · by_cases hb : b = a
      · have z' := (if_pos hb).symm.trans z
        cases z'
        subst hb
        exact ⟨ha, by rw [List.length_map]; exact hl, vs, _, rv, ha⟩
      · have z' := (if_neg hb).symm.trans z
        cases z'
    · by_cases hb : b = a
      · exact hb
      · exact absurd (if_neg hb) z
end L2

namespace L2
open PySem PySem.Spec PyProof.Rows

end L2

/- THE LAST THEOREM (shape; LID, My.* are yours):
   My.Adr: a structure of the addresses that your layer names (classes, functions); My.Txt K t: a structure (Prop) of the equations over K;
   My.txt_mk : {K} {implicit addresses ..} (e1 : nsIn K mainGlobals "law" = some (some (.ref f))) (e2 : K.lookup f = some ⟨oc, od, .func (fnOf "law" "law" params body scope dV kV doc pm an cdv ct), sl⟩) (e3 : codeIn K cdv "law" = true) .. : ∃ t, My.Txt K t

set_option maxRecDepth 100000 in
set_option maxHeartbeats 0 in
theorem PySem.Challenge.cw_LID_holds : PySem.Challenge.rw_LID.Holds := by
  w_on; o_law; k_head; (case hw => w_witness2)
  k_fill
  refine L2.walk_of (l := PySem.Challenge.rw_LID) (n := 63) (k := 40) (x := "script") (CX := fun w => ..) (sp := fun _ => My.sp_law) rfl (by decide) rfl ⟨rfl, by decide, by decide⟩ (fun w h Y => PySem.W.kIn_of Y) ?F ?S ?C
  case F =>
    intro w mg fa h KX G hmg
    have T : ∃ t, My.Txt (L2.KOf KX) t := by
      dsimp only [L2.KOf]                          -- K must stand as «<heap const> w.params» for k_is
      refine' My.txt_mk ?e1 ?e2 ?e3 ..
      (case e1 => PySem.W.k_is)                    -- in the order: a name -> its address -> its object -> its parts
      (case e2 => PySem.W.k_is)
      ..
    obtain ⟨t, T⟩ := T
    have e0 := hmg.symm.trans (PySem.W.mg_of KX G T.law)
    cases e0                                       -- fa is the law's own address
    exact ⟨_, fun s u => .of_eq rfl, fun base kb nb => My.law_fn T kb nb⟩     -- if «.of_eq rfl» comes too early: refine' ⟨_, ?b, fun base kb nb => My.law_fn T kb nb⟩; exact fun s u => .of_eq rfl
  case S => exact fun w H a ns hl hO hS => ..
  case C => exact ..
(the tactic k_is has no namespace: write k_is) -/

/-! SHORT WORDS over the layer: a def of the text, its body, what a loop and a test want. -/
namespace L2
open PySem PySem.Spec PyProof.Rows

/-! ### the text by places -/
/-- the j-th statement of a class's body -/
def inClass (s : Stmt) (j : Nat) : Stmt := match s with
  | .ClassDef _ _ _ body _ _ _ _ _ _ _ => body.getD j (.Pass ⟨0, 0, 0, 0⟩)
  | _ => .Pass ⟨0, 0, 0, 0⟩
def defArgs (s : Stmt) : Arguments := match s with
  | .FunctionDef _ a _ _ _ _ _ _ _ _ => a
  | _ => { posonlyargs := [], args := [], vararg := none, kwonlyargs := [], kw_defaults := [], kwarg := none, defaults := [] }
def defBody (s : Stmt) : List Stmt := match s with
  | .FunctionDef _ _ b _ _ _ _ _ _ _ => b
  | _ => []
def defScope (s : Stmt) : Scope := match s with
  | .FunctionDef _ _ _ _ _ _ sc _ _ _ => sc
  | _ => { kind := .function, names := [], isGenerator := false, isCoroutine := false }

/-! ### no exception leaves a def -/
abbrev CX0 : CXT := fun _ _ _ _ _ _ => False
abbrev E0 : XK := fun _ _ _ => False
theorem pass0 {X : Cx} : Passes CX0 X E0 := fun _ _ _ _ _ _ _ h => h.elim

/-! ### a def (or method) of the text as it stands behind the top -/
structure Fun (K : PySem.W.Frag) (x qual : Str) (st : Stmt) (f : Addr) (fd : FuncData) : Prop where
  ex : ∃ (oc : Value) (od : Option Addr) (kV doc pm : Value) (an : Option Addr) (cdv ct : Value) (osl : Array (Option Value)),
    fd = PySem.W.fnOf x qual (defArgs st) (defBody st) (defScope st) .none kV doc pm an cdv ct ∧ K.lookup f = some ⟨oc, od, .func fd, osl⟩ ∧ PySem.W.codeIn K cdv qual = true
  kp : PySem.W.keepIn K (.ref f) = true
section
variable {P : Program} {w : World} {K : PySem.W.Frag} {mg : Str → Option Value} {base : Heap}
/-- THE RULE for a def: its body as a term of rules, and the reading of that term -/
theorem Fun.ok {x qual : Str} {st : Stmt} {f : Addr} {fd : FuncData} {N ps : List Str} {k : Nat} {sp : Sp} (F : Fun K x qual st f fd) (S : FnScope N ps (defScope st)) (len : ∀ vs H Q E, sp vs H Q E → vs.length = ps.length)
    (hbody : ∀ (cdv : Value) (A : Around) (outer : List Env) (s : Shared) (H : Hp) (vs : List V) (Q : VK) (E : XK), Room k (A.deeper (envOfC qual (defScope st) s.heap.objs.size f cdv)) → sp vs H Q E →
      ∃ t, PSs (cxOf CX0 P w K mg base N qual (defScope st) f cdv A outer s H E).nox (defBody st) t ∧ t { nx := fun _ H' => Q .non H', rt := Q } (start N vs) H) : FnOk P w K mg base CX0 (k + 1) f fd ps sp := by
  obtain ⟨oc, od, kV, doc, pm, an, cdv, ct, osl, rfl, lk, hcd⟩ := F.ex
  refine fn_of lk hcd S len fun A outer s H vs Q E hr hsp => ?_
  obtain ⟨t, h, q⟩ := hbody cdv A outer s H vs Q E hr hsp
  exact ⟨t, h.nox, q⟩
/-- how its arguments bind (no defaults): h is «fun _ _ _ _ _ _ us hl => match us, hl with | [_, _], _ => rfl», one _ a parameter -/
theorem Fun.binds {x qual : Str} {st : Stmt} {f : Addr} {fd : FuncData} {ps : List Str} (F : Fun K x qual st f fd)
    (h : ∀ (kV doc pm : Value) (an : Option Addr) (cdv ct : Value) (us : List Value), us.length = ps.length → bindArgs (PySem.W.fnOf x qual (defArgs st) (defBody st) (defScope st) .none kV doc pm an cdv ct) ⟨us, []⟩ = pure (ps.zip us)) : Binds K fd ps [] := by
  obtain ⟨oc, od, kV, doc, pm, an, cdv, ct, osl, rfl, lk, hcd⟩ := F.ex
  exact .all (h kV doc pm an cdv ct)
theorem fun_mk {x qual : Str} {st : Stmt} {f : Addr} {oc : Value} {od an : Option Addr} {osl : Array (Option Value)} {kV doc pm cdv ct : Value} (l : K.lookup f = some ⟨oc, od, .func (PySem.W.fnOf x qual (defArgs st) (defBody st) (defScope st) .none kV doc pm an cdv ct), osl⟩)
    (c : PySem.W.codeIn K cdv qual = true) (k : PySem.W.keepIn K (.ref f) = true) : Fun K x qual st f (PySem.W.fnOf x qual (defArgs st) (defBody st) (defScope st) .none kV doc pm an cdv ct) := ⟨⟨oc, od, kV, doc, pm, an, cdv, ct, osl, rfl, l, c⟩, k⟩
end
theorem hu_of {A : Around} {k : Nat} (hr : Room k A) : A.units + 1 < cLine := Nat.lt_of_le_of_lt (Nat.add_le_add_left (by decide : 1 ≤ 64) _) hr.units
/-! ### expressions in short: the name that stands in the i-th slot -/
section
variable {X : Cx}
theorem pv (i : Nat) {x : Str} {pos : Pos} (hN : X.N[i]? = some x := by rfl) (hv : Vis X.env.scope x := by first | exact Or.inl rfl | exact Or.inr (Or.inl rfl) | exact Or.inr (Or.inr rfl)) (hd : (x == ("__debug__" : Str)) = false := by decide)
    (hcd : (x == ("__classdict__" : Str)) = false := by decide) : PE X (.Name x pos) (tVar i) := pe_var hN hv hd hcd
end

/-! ### tests -/
theorem iteF {A B : Prop} (h : B) : if false = true then A else B := by
  rw [if_neg Bool.false_ne_true]
  exact h
theorem iteT {A B : Prop} (h : A) : if true = true then A else B := by
  rw [if_pos rfl]
  exact h
theorem ite2 {c A B : Prop} [Decidable c] (h1 : c → A) (h2 : ¬ c → B) : if c then A else B := by
  by_cases h : c
  · rw [if_pos h]
    exact h1 h
  · rw [if_neg h]
    exact h2 h
theorem iteNS {c A B : Prop} [Decidable c] (hc : c) (h : B) : if (!decide c) = true then A else B := by
  rw [decide_eq_true hc]
  exact iteF h

/-! ### heaps -/
/-- all that was tracked is as it was -/
def Same (H H' : Hp) : Prop := ∀ b o, H b = some o → H' b = some o
theorem Same.refl (H : Hp) : Same H H := fun _ _ h => h
theorem Same.trans {H H1 H2 : Hp} (a : Same H H1) (b : Same H1 H2) : Same H H2 := fun c o h => b c o (a c o h)
theorem Same.free {H H' : Hp} (e : Same H H') {l : Addr} (h : H' l = Option.none) : H l = Option.none := by
  cases q : H l with
  | none => rfl
  | some o =>
    rw [e l o q] at h
    cases h
theorem Same.seq {K : PySem.W.Frag} {H H' : Hp} {a : Addr} {xs : List V} (e : Same H H') (h : SqL K H a xs) : SqL K H' a xs := by
  rcases h with (h | ⟨o, h⟩) | h
  · exact .inl (.inl (e _ _ h))
  · exact .inl (.inr ⟨o, e _ _ h⟩)
  · exact .inr h

/-! ### a dict's pairs: keys that differ -/
section
variable {κ : Type} [DecidableEq κ]
end
end L2


/-! MY RULES over the hand layer: isinstance, == and != of lists of ints, t + u with an empty t, products and quotients of long ints. -/
namespace L2
open PySem PySem.Spec PyProof.Rows
section
variable {X : Cx}
/-- a statement, then the rest, with a word between them -/
def tCut (t u : TS) : TS := fun D σ H => ∃ M : St → Hp → Prop, t { D with nx := M } σ H ∧ ∀ σ' H', M σ' H' → u D σ' H'
theorem pss_cut {st : Stmt} {rest : List Stmt} {t u : TS} (h1 : PS X st t) (h2 : PSs X rest u) : PSs X (st :: rest) (tCut t u) := by
  intro pins s σ H D I h
  obtain ⟨M, h, hm⟩ := h
  refine wpAny_execs_cons (thn (h1 pins s σ H { D with nx := M } I h) fun f s1 q => ?_)
  cases f with
  | next =>
    obtain ⟨σ', H', I', q⟩ := q
    exact h2 pins s1 σ' H' D I' (hm _ _ q)
  | ret v => exact q
  | brk => exact q
  | cont => exact q
/-- isinstance(x, c) -/
def rIsi (K : PySem.W.Frag) : List V → Hp → VK → Prop := fun xs H Q => ∃ x c t b, xs = [x, c] ∧ TyOf K H x t ∧ (∀ u, RelV c u → PySem.W.kitOne K t u = some b) ∧ Q (.bl b) H
theorem call_isinst : CallR X (.builtin "isinstance") (rIsi X.K) := by
  intro pins s σ H xs us Q I r h
  obtain ⟨x, c, t, b, rfl, ty, e, q⟩ := h
  obtain ⟨u, w', rfl, ru, rw'⟩ := vals2 r
  exact isinst_ok I ru ty (e w' rw') fun tk => ⟨.bl b, H, I.tok tk, rfl, q⟩
theorem isi_same {K : PySem.W.Frag} (T : String) : ∀ u, RelV (.ty T) u → PySem.W.kitOne K (.type T) u = some true := by
  intro u h
  cases (show u = Value.type T from h)
  unfold PySem.W.kitOne
  rw [if_pos (beq_self_eq_true _)]
theorem isi_by {K : PySem.W.Frag} {T U : String} {b : Bool} (h : (Value.type T == Value.type U) = false) (hm : PySem.W.kitMeta U = true) (hs : (PySem.fastBuiltinMro T).map (·.contains (Value.type U)) = some b) :
    ∀ u, RelV (.ty U) u → PySem.W.kitOne K (.type T) u = some b := by
  intro u z
  cases (show u = Value.type U from z)
  unfold PySem.W.kitOne
  rw [if_neg (by rw [h]; exact Bool.false_ne_true)]
  show (if PySem.W.kitMeta U = true then PySem.W.subIn K (.type T) (.type U) else none) = some b
  rw [if_pos hm]
  exact hs
/-- t + u, u not empty: t empty gives u itself -/
def rCatT2 (K : PySem.W.Frag) : R2 := fun x y H Q => ∃ a b xs ys, x = .ref a ∧ y = .ref b ∧ SqT K H a xs ∧ SqT K H b ys ∧ ys ≠ [] ∧ xs.length + ys.length ≤ sizeLine ∧
  (xs = [] → Q (.ref b) H) ∧ (xs ≠ [] → ∀ p, H p = none → Q (.ref p) (upd H p (.tup (xs ++ ys))))
theorem op_catT2 : OpR X (binaryOp .Add) (rCatT2 X.K) := by
  intro pins s σ H x y v u Q I rx ry h
  obtain ⟨a, b, xs, ys, rfl, rfl, ha, hb, hy, hz, q1, q2⟩ := h
  by_cases hx : xs = []
  · subst hx
    cases rx
    cases ry
    obtain ⟨its, r1, p1, _⟩ := I.tuple ha
    obtain ⟨its2, r2, p2, _⟩ := I.tuple hb
    have e1 : its = [] := r1.nil_iff.mpr rfl
    obtain ⟨⟨cls, dd, data, sl⟩, ho, hc, n, hd⟩ := id p1
    obtain ⟨⟨cls2, dd2, data2, sl2⟩, ho2, hc2, n2, hd2⟩ := id p2
    simp only at hc hd hc2 hd2
    subst hc hd hc2 hd2
    exact concat_meets ⟨_, ho, rfl⟩ ⟨_, ho2, rfl⟩ noFill_tuple_add seq_tuple_add PySem.F.slot_tuple_add PySem.F.entry_tuple_add (PySem.F.args_tuple_add_2 _ _)
      (tuple_addW0 a b its.toArray its2.toArray n n2 dd dd2 sl sl2 (by simp [e1])) ⟨ho, ho2, ⟨.ref b, H, I, rfl, q1 rfl⟩⟩
  · exact op_catT pins s σ H _ _ v u Q I rx ry ⟨a, b, xs, ys, rfl, rfl, ha, hb, hx, hz, fun z => absurd z hy, fun _ => q2 hx⟩
/-- // by a positive divisor below 2 ** 4000 -/
def CDivB (_ j : Int) : Prop := 0 < j ∧ j.natAbs < 2 ^ 4000
theorem op_fdivB : OpR X (binaryOp .FloorDiv) (rI CDivB fun i j => .int (i / j)) := opI fun i j _ _ _ _ _ hc q => by
  have h1 : (0 : Int) < j := hc.1
  have h2 : j.natAbs.log2 < 9000 := Nat.lt_trans ((Nat.log2_lt (by omega)).mpr hc.2) (by decide)
  exact floordiv_int (by omega) (by rw [Int.fdiv_eq_ediv_of_nonneg i (by omega)]; exact q) (.inl (PyProof.noPylong_of_log2 h2))
end
end L2

/-! MY RULES: zip over two sources of any kind that is walked (list, tuple), reversed(list) walked, tuple(reversed(list)). -/
namespace L2
open PySem PySem.Spec PyProof.Rows
/-- a source that is drawn from by its own iterator: at the k-th draw it stands at st k -/
structure Nx (it l : Addr) (st : Nat → Heap → Prop) (src : Array Value → Heap → Prop) : Prop where
  item : ∀ {prog : Program} {w : World} {A : Around} {E : Value → Shared → Prop} {s : Shared} {k : Nat} {xs : Array Value} {x : Value} {Q : Value → Shared → Prop}, st k s.heap → src xs s.heap → xs[k]? = some x →
    (∀ h', st (k + 1) h' → Heap.SameBut it s.heap h' → Q x { s with heap := h' }) → wpAny (model prog w) A (Builtin.SmallTypes.nextOf (.ref it)) Q E s
  fin : ∀ {prog : Program} {w : World} {A : Around} {E : Value → Shared → Prop} {s : Shared} {k : Nat} {xs : Array Value} {Q : Value → Shared → Prop}, A.handled = none → st k s.heap → src xs s.heap → xs[k]? = none →
    (∀ h' e, Heap.ExtBut it s.heap h' → (∃ o, h'.get? e = some o ∧ o.cls = .type "StopIteration") → E (.ref e) { s with heap := h' }) → wpAny (model prog w) A (Builtin.SmallTypes.nextOf (.ref it)) Q E s
  mv : ∀ {k : Nat} {h h' : Heap}, st k h → (∀ o, h.get? it = some o → h'.get? it = some o) → st k h'
  mvS : ∀ {xs : Array Value} {h h' : Heap}, src xs h → (∀ o, h.get? l = some o → h'.get? l = some o) → src xs h'
  ob : ∀ {k : Nat} {h : Heap}, st k h → ∃ o, h.get? it = some o ∧ ∀ v, o.data ≠ .cell v
theorem nx_list (it l : Addr) : Nx it l (fun k h => h.IsListIter it l k) (fun xs h => h.IsList l xs) where
  item := wpAny_nextOf_list_item
  fin := wpAny_nextOf_list_end
  mv := fun x e => x.at e
  mvS := fun x e => x.at e
  ob := fun ⟨o, e, _, d⟩ => ⟨o, e, fun v z => by rw [d] at z; cases z⟩
section
variable {prog : Program} {w : World} {A : Around} {E : Value → Shared → Prop} {s : Shared}
theorem nextOf_tuple_item {it l : Addr} {k : Nat} {xs : Array Value} {x : Value} {Q : Value → Shared → Prop} (hi : s.heap.IsTupleIter it l k) (hl : s.heap.IsTuple l xs) (hx : xs[k]? = some x)
    (hQ : ∀ h', h'.IsTupleIter it l (k + 1) → Heap.SameBut it s.heap h' → Q x { s with heap := h' }) : wpAny (model prog w) A (Builtin.SmallTypes.nextOf (.ref it)) Q E s := by
  obtain ⟨o, ho, hc, hd⟩ := id hi
  obtain ⟨ol, hol, _, nl, hdl⟩ := hl
  unfold Builtin.SmallTypes.nextOf
  refine wpAny_bind (wpAny_callSpecial?_slot (name := Str.ofString "__next__") hi.typeIs F.slot_tuple_iterator_next (wpAny_call_entry F.slot_tuple_iterator_next hi.typeIs F.entry_tuple_iterator_next ?_ (F.args_tuple_iterator_next_1 _)))
  show wpAny _ _ (field (.ref it) 0 >>= _) _ _ s
  refine wpAny_bind (wpAny_field ho hd (x := .ref l) rfl ?_)
  show wpAny _ _ (if (Value.ref l == Value.none) = true then _ else _) _ _ s
  rw [if_neg (show ¬ ((Value.ref l == Value.none) = true) from Bool.false_ne_true)]
  show wpAny _ _ (field (.ref it) 1 >>= _) _ _ s
  refine wpAny_bind (wpAny_field ho hd (x := .int k 0) rfl ?_)
  show wpAny _ _ (seqItems? (.ref l) >>= _) _ _ s
  refine wpAny_bind (wpAny_seqItems hol hdl ?_)
  simp only [Int.toNat_natCast, hx]
  refine wpAny_bind (wpAny_setField ho hd (by simp) (wpAny_pure ⟨x, rfl, wpAny_pure (hQ _ ?_ (Heap.SameBut.update ..))⟩))
  exact ⟨_, Heap.get?_update_self _ ho (Obj.isFreed_of_fields (Obj.data_mapFields hd _)), (Obj.cls_mapFields ..).trans hc, by rw [Obj.data_mapFields hd]; simp [rawInt]⟩
theorem nextOf_tuple_end {it l : Addr} {k : Nat} {xs : Array Value} {Q : Value → Shared → Prop} (hh : A.handled = none) (hi : s.heap.IsTupleIter it l k) (hl : s.heap.IsTuple l xs) (hx : xs[k]? = none)
    (hE : ∀ h' e, Heap.ExtBut it s.heap h' → (∃ o, h'.get? e = some o ∧ o.cls = .type "StopIteration") → E (.ref e) { s with heap := h' }) : wpAny (model prog w) A (Builtin.SmallTypes.nextOf (.ref it)) Q E s := by
  obtain ⟨o, ho, hc, hd⟩ := id hi
  obtain ⟨ol, hol, _, nl, hdl⟩ := hl
  unfold Builtin.SmallTypes.nextOf
  refine wpAny_bind (wpAny_callSpecial?_slot (name := Str.ofString "__next__") hi.typeIs F.slot_tuple_iterator_next (wpAny_call_entry F.slot_tuple_iterator_next hi.typeIs F.entry_tuple_iterator_next ?_ (F.args_tuple_iterator_next_1 _)))
  show wpAny _ _ (field (.ref it) 0 >>= _) _ _ s
  refine wpAny_bind (wpAny_field ho hd (x := .ref l) rfl ?_)
  show wpAny _ _ (if (Value.ref l == Value.none) = true then _ else _) _ _ s
  rw [if_neg (show ¬ ((Value.ref l == Value.none) = true) from Bool.false_ne_true)]
  show wpAny _ _ (field (.ref it) 1 >>= _) _ _ s
  refine wpAny_bind (wpAny_field ho hd (x := .int k 0) rfl ?_)
  show wpAny _ _ (seqItems? (.ref l) >>= _) _ _ s
  refine wpAny_bind (wpAny_seqItems hol hdl ?_)
  simp only [Int.toNat_natCast, hx]
  refine wpAny_bind (wpAny_rule (wpAny_bind (wpAny_setField ho hd (by simp) ?_)))
  show wpAny _ _ (newExc (.type "StopIteration") [] >>= _) _ _ _
  refine wpAny_bind ?_
  simp only [newExc, newTuple]
  refine wpAny_bind (wpAny_newObj_type ?_ (by size_fits))
  refine wpAny_bind (m := firstArgMember _ _) (wpAny_of_eq (a := Value.none) (by first | rfl | (simp only [firstArgMember]; rfl)) ?_)
  refine wpAny_newObj_type ?_ (by size_fits)
  simp only [raiseNew]
  refine wpAny_bind (wpAny_handled ?_)
  first | rw [show A.in1.handled = none from hh] | rw [hh]
  refine wpAny_bind (wpAny_pure (wpAny_throw ?_))
  exact hE _ _ (((Heap.SameBut.update ..).extBut.push _).push _) ⟨_, Heap.get?_push_size _ rfl, rfl⟩
end
theorem nx_tuple (it l : Addr) : Nx it l (fun k h => h.IsTupleIter it l k) (fun xs h => h.IsTuple l xs) where
  item := nextOf_tuple_item
  fin := nextOf_tuple_end
  mv := fun ⟨o, e, r⟩ f => ⟨o, f _ e, r⟩
  mvS := fun ⟨o, e, r⟩ f => ⟨o, f _ e, r⟩
  ob := fun ⟨o, e, _, d⟩ => ⟨o, e, fun v z => by rw [d] at z; cases z⟩
section
variable {z TI TO i1 i2 l1 l2 : Addr} {st1 st2 : Nat → Heap → Prop} {src1 src2 : Array Value → Heap → Prop} {prog : Program} {w : World} {A : Around} {E : Value → Shared → Prop} {s : Shared}
/-- a zip's draw -/
theorem zip_item (N1 : Nx i1 l1 st1 src1) (N2 : Nx i2 l2 st2 src2) {k1 k2 : Nat} {xs ys : Array Value} {x y a b : Value} {Q : Option Value → Shared → Prop} (D : ZipApart z TI TO i1 i2 l1 l2)
    (hz : IsZip s.heap z TI TO .none) (hTI : IsPair s.heap TI (.ref i1) (.ref i2)) (hTO : IsPair s.heap TO a b) (h1 : st1 k1 s.heap) (h2 : st2 k2 s.heap) (hl1 : src1 xs s.heap) (hl2 : src2 ys s.heap) (hx : xs[k1]? = some x) (hy : ys[k2]? = some y)
    (hQ : ∀ h', IsZip h' z TI TO (rawInt s.heap.objs.size) → IsPair h' TO x y → st1 (k1 + 1) h' → st2 (k2 + 1) h' → IsPair h' s.heap.objs.size x y →
      (∀ c o, c ≠ z → c ≠ TO → c ≠ i1 → c ≠ i2 → s.heap.get? c = some o → h'.get? c = some o) → Q (some (.ref s.heap.objs.size)) { s with heap := h' }) : wpAny (model prog w) A (pyNext (.ref z)) Q E s := by
  have hT : s.TypeIs (.ref z) "zip" := ⟨_, hz, rfl⟩
  unfold pyNext
  refine wpAny_bind (wpAny_attempt (wpAny_callSpecial?_slot (name := Str.ofString "__next__") hT F.slot_zip_next (wpAny_call_entry F.slot_zip_next hT F.entry_zip_next ?_ (F.args_zip_next_1 _))))
  show wpAny _ _ (field (.ref z) 2 >>= _) _ _ _
  refine wpAny_bind (wpAny_field hz rfl (x := .bool false) rfl ?_)
  show wpAny _ _ (field (.ref z) 3 >>= _) _ _ _
  refine wpAny_bind (wpAny_field hz rfl (x := .ref TI) rfl ?_)
  refine wpAny_bind (wpAny_seqItems hTI rfl ?_)
  show wpAny _ _ (Builtin.SmallTypes.ownedTupleIsFree (.ref z) >>= _) _ _ _
  refine wpAny_bind ?_
  unfold Builtin.SmallTypes.ownedTupleIsFree
  refine wpAny_bind (wpAny_field hz rfl (x := .none) rfl (wpAny_pure ?_))
  simp only [if_true]
  refine wpAny_bind (wpAny_rule ?_)
  refine wpAny_bind (wpAny_field hz rfl (x := .ref TO) rfl ?_)
  refine wpAny_bind (wpAny_setField_rec hz (by simp) fun g1 z1 b1 => ?_)
  replace z1 : IsZip g1 z TI TO .ellipsis := z1
  refine wpAny_bind ?_
  simp only [List.zipIdx_cons, List.zipIdx_nil, List.forIn_cons, List.forIn_nil]
  -- the first source
  refine wpAny_bind (wpAny_bind (wpAny_onRaise ?_))
  show wpAny _ _ (Builtin.SmallTypes.nextOf (.ref i1) >>= _) _ _ _
  refine wpAny_bind (N1.item (N1.mv h1 fun o e => b1.extBut _ _ D.i1z e) (N1.mvS hl1 fun o e => b1.extBut _ _ D.l1z e) hx fun g2 t2 b2 => wpAny_pure ?_)
  have p2 : IsPair g2 TO a b := b2.extBut _ _ D.TOi1 (b1.extBut _ _ D.TOz hTO)
  refine wpAny_bind (wpAny_seqItems p2 rfl ?_)
  refine wpAny_bind (wpAny_updateSeq_pair p2 fun g3 p3 b3 => ?_)
  replace p3 : IsPair g3 TO x b := p3
  refine wpAny_bind (wpAny_letGo (wpAny_pure ?_))
  -- the second one
  refine wpAny_bind (wpAny_bind (wpAny_onRaise ?_))
  show wpAny _ _ (Builtin.SmallTypes.nextOf (.ref i2) >>= _) _ _ _
  refine wpAny_bind (N2.item (N2.mv h2 fun o e => b3.extBut _ _ D.TOi2.symm (b2.extBut _ _ D.i12.symm (b1.extBut _ _ D.i2z e))) (N2.mvS hl2 fun o e => b3.extBut _ _ D.l2TO (b2.extBut _ _ D.l2i1 (b1.extBut _ _ D.l2z e))) hy fun g4 t4 b4 => wpAny_pure ?_)
  have p4 : IsPair g4 TO x b := b4.extBut _ _ D.TOi2 p3
  refine wpAny_bind (wpAny_seqItems p4 rfl ?_)
  refine wpAny_bind (wpAny_updateSeq_pair p4 fun g5 p5 b5 => ?_)
  replace p5 : IsPair g5 TO x y := p5
  refine wpAny_bind (wpAny_letGo (wpAny_pure (wpAny_pure ?_)))
  -- the pair that is handed out
  refine wpAny_bind (wpAny_seqItems p5 rfl ?_)
  refine wpAny_bind (wpAny_newTuple ?_)
  have hsz : g5.objs.size = s.heap.objs.size := by rw [b5.1, b4.1, b3.1, b2.1, b1.1]
  have z5 : IsZip g5 z TI TO .ellipsis := b5.extBut _ _ D.TOz.symm (b4.extBut _ _ D.i2z.symm (b3.extBut _ _ D.TOz.symm (b2.extBut _ _ D.i1z.symm z1)))
  have k5 : ∀ c o, c ≠ z → c ≠ TO → c ≠ i1 → c ≠ i2 → s.heap.get? c = some o → g5.get? c = some o := fun c o c1 c2 c3 c4 e => b5.extBut _ _ c2 (b4.extBut _ _ c4 (b3.extBut _ _ c2 (b2.extBut _ _ c3 (b1.extBut _ _ c1 e))))
  have s1 : st1 (k1 + 1) g5 := N1.mv t2 fun o e => b5.extBut _ _ D.TOi1.symm (b4.extBut _ _ D.i12 (b3.extBut _ _ D.TOi1.symm e))
  have s2 : st2 (k2 + 1) g5 := N2.mv t4 fun o e => b5.extBut _ _ D.TOi2.symm e
  have zlt : z < g5.objs.size := Heap.lt_size z5
  show wpAny _ _ (Builtin.SmallTypes.ownedTupleHandOut (.ref z) (.ref g5.objs.size) >>= _) _ _ _
  refine wpAny_bind ?_
  unfold Builtin.SmallTypes.ownedTupleHandOut
  have z6 : IsZip (g5.push { cls := .type "tuple", data := .seq #[x, y] }) z TI TO .ellipsis := Heap.get?_push_of_some _ z5
  refine wpAny_bind (wpAny_setField_rec z6 (by simp) fun g7 z7 b7 => ?_)
  replace z7 : IsZip g7 z TI TO (rawInt g5.objs.size) := z7
  refine wpAny_setField_rec z7 (by simp) fun g8 z8 b8 => ?_
  replace z8 : IsZip g8 z TI TO (rawInt g5.objs.size) := z8
  have up : ∀ c o, c ≠ z → g5.get? c = some o → g8.get? c = some o := fun c o c1 e => b8.extBut _ _ c1 (b7.extBut _ _ c1 (Heap.get?_push_of_some _ e))
  have p8 : IsPair g8 g5.objs.size x y := b8.extBut _ _ (Nat.ne_of_gt zlt) (b7.extBut _ _ (Nat.ne_of_gt zlt) (Heap.get?_push_size _ rfl))
  rw [hsz] at z8 p8
  refine wpAny_pure ⟨_, rfl, wpAny_pure ?_⟩
  show Q (some (.ref g5.objs.size)) _
  rw [hsz]
  exact hQ g8 z8 (up _ _ D.TOz p5) (N1.mv s1 fun o e => up _ o D.i1z e) (N2.mv s2 fun o e => up _ o D.i2z e) p8 fun c o c1 c2 c3 c4 e => up c o c1 (k5 c o c1 c2 c3 c4 e)
/-- .. and its end -/
theorem zip_end (N1 : Nx i1 l1 st1 src1) (N2 : Nx i2 l2 st2 src2) {k1 k2 : Nat} {xs ys : Array Value} {a b : Value} {Q : Option Value → Shared → Prop} (hh : A.handled = none) (D : ZipApart z TI TO i1 i2 l1 l2)
    (hz : IsZip s.heap z TI TO .none) (hTI : IsPair s.heap TI (.ref i1) (.ref i2)) (hTO : IsPair s.heap TO a b) (h1 : st1 k1 s.heap) (h2 : st2 k2 s.heap) (hl1 : src1 xs s.heap) (hl2 : src2 ys s.heap) (hend : xs[k1]? = none ∨ ys[k2]? = none)
    (hQ : ∀ h', (∀ c o, c ≠ z → c ≠ TO → c ≠ i1 → c ≠ i2 → s.heap.get? c = some o → h'.get? c = some o) → Q none { s with heap := h' }) : wpAny (model prog w) A (pyNext (.ref z)) Q E s := by
  have hT : s.TypeIs (.ref z) "zip" := ⟨_, hz, rfl⟩
  unfold pyNext
  have fin : ∀ (h' : Heap) (e : Addr), (∀ c o, c ≠ z → c ≠ TO → c ≠ i1 → c ≠ i2 → s.heap.get? c = some o → h'.get? c = some o) → (∃ o, h'.get? e = some o ∧ o.cls = .type "StopIteration") →
      wpAny (model prog w) A (isInstance (.ref e) (.type "StopIteration") >>= fun b => if b = true then pure none else throw (.ref e)) Q E { s with heap := h' } := fun h' e hk ⟨o, ho, hc⟩ =>
    wpAny_bind (wpAny_isInstance (T := "StopIteration") (b := true) ⟨o, ho, hc⟩ isSubtype_stop (wpAny_pure (hQ _ hk)))
  refine wpAny_bind (wpAny_attempt (wpAny_callSpecial?_slot (name := Str.ofString "__next__") hT F.slot_zip_next (wpAny_call_entry F.slot_zip_next hT F.entry_zip_next ?_ (F.args_zip_next_1 _))))
  show wpAny _ _ (field (.ref z) 2 >>= _) _ _ _
  refine wpAny_bind (wpAny_field hz rfl (x := .bool false) rfl ?_)
  show wpAny _ _ (field (.ref z) 3 >>= _) _ _ _
  refine wpAny_bind (wpAny_field hz rfl (x := .ref TI) rfl ?_)
  refine wpAny_bind (wpAny_seqItems hTI rfl ?_)
  show wpAny _ _ (Builtin.SmallTypes.ownedTupleIsFree (.ref z) >>= _) _ _ _
  refine wpAny_bind ?_
  unfold Builtin.SmallTypes.ownedTupleIsFree
  refine wpAny_bind (wpAny_field hz rfl (x := .none) rfl (wpAny_pure ?_))
  simp only [if_true]
  refine wpAny_bind (wpAny_rule ?_)
  refine wpAny_bind (wpAny_field hz rfl (x := .ref TO) rfl ?_)
  refine wpAny_bind (wpAny_setField_rec hz (by simp) fun g1 z1 b1 => ?_)
  replace z1 : IsZip g1 z TI TO .ellipsis := z1
  refine wpAny_bind ?_
  simp only [List.zipIdx_cons, List.zipIdx_nil, List.forIn_cons, List.forIn_nil]
  refine wpAny_bind (wpAny_bind (wpAny_onRaise ?_))
  show wpAny _ _ (Builtin.SmallTypes.nextOf (.ref i1) >>= _) _ _ _
  have u1 := N1.mv h1 fun o e => b1.extBut _ _ D.i1z e
  have v1 := N1.mvS hl1 fun o e => b1.extBut _ _ D.l1z e
  cases hx : xs[k1]? with
  | none =>
    refine wpAny_bind (N1.fin hh u1 v1 hx fun g2 e b2 he => ?_)
    obtain ⟨oe, hoe, hce⟩ := he
    have z2 : IsZip g2 z TI TO .ellipsis := b2 _ _ D.i1z.symm z1
    have ez : e ≠ z := fun x => by subst x; rw [z2] at hoe; cases hoe; simp at hce
    exact wpAny_setField_rec z2 (by simp) fun g3 _ b3 => fin g3 e (fun c o c1 _ c3 _ x => b3.extBut _ _ c1 (b2 _ _ c3 (b1.extBut _ _ c1 x))) ⟨oe, b3.extBut _ _ ez hoe, hce⟩
  | some x =>
    have hy : ys[k2]? = none := by
      rcases hend with h | h
      · rw [hx] at h; cases h
      · exact h
    refine wpAny_bind (N1.item u1 v1 hx fun g2 t2 b2 => wpAny_pure ?_)
    have p2 : IsPair g2 TO a b := b2.extBut _ _ D.TOi1 (b1.extBut _ _ D.TOz hTO)
    refine wpAny_bind (wpAny_seqItems p2 rfl ?_)
    refine wpAny_bind (wpAny_updateSeq_pair p2 fun g3 p3 b3 => ?_)
    refine wpAny_bind (wpAny_letGo (wpAny_pure ?_))
    refine wpAny_bind (wpAny_bind (wpAny_onRaise ?_))
    show wpAny _ _ (Builtin.SmallTypes.nextOf (.ref i2) >>= _) _ _ _
    refine wpAny_bind (N2.fin hh (N2.mv h2 fun o e => b3.extBut _ _ D.TOi2.symm (b2.extBut _ _ D.i12.symm (b1.extBut _ _ D.i2z e))) (N2.mvS hl2 fun o e => b3.extBut _ _ D.l2TO (b2.extBut _ _ D.l2i1 (b1.extBut _ _ D.l2z e))) hy fun g4 e b4 he => ?_)
    obtain ⟨oe, hoe, hce⟩ := he
    have z4 : IsZip g4 z TI TO .ellipsis := b4 _ _ D.i2z.symm (b3.extBut _ _ D.TOz.symm (b2.extBut _ _ D.i1z.symm z1))
    have ez : e ≠ z := fun x => by subst x; rw [z4] at hoe; cases hoe; simp at hce
    exact wpAny_setField_rec z4 (by simp) fun g5 _ b5 => fin g5 e (fun c o c1 c2 c3 c4 x => b5.extBut _ _ c1 (b4 _ _ c4 (b3.extBut _ _ c2 (b2.extBut _ _ c3 (b1.extBut _ _ c1 x))))) ⟨oe, b5.extBut _ _ ez hoe, hce⟩
end
section
variable {X : Cx} {pins : List (Addr × Obj)} {σ : St} {H : Hp} {s : Shared} {h' : Heap}
/-- untracked records of ours (iterators) have turned, a new object is laid and tracked -/
theorem Inv.turnedNew {t' : Nat} {ts : List Addr} {a : Addr} {o : HO} (I : Inv X pins σ H s) (k : ∀ b u, b ∉ ts → s.heap.get? b = some u → h'.get? b = some u) (f : ∀ b ∈ ts, FpOk X pins H b) (hp : s.heap.objs.size ≤ a)
    (new : ObjOk X.prog X.w (upd H a o) h' a o) : Inv X pins σ (upd H a o) { s with heap := h', toks := t' } := by
  have nt : ∀ b u, H b = some u → b ∉ ts := fun b u e z => by have := (f b z).1; rw [e] at this; cases this
  have na : ∀ b u, s.heap.get? b = some u → b ≠ a := fun b u e => Nat.ne_of_lt (Nat.lt_of_lt_of_le (Heap.lt_size e) hp)
  have ha : H a = none := I.hok.fresh hp
  refine I.step (g' := s.gens) (d' := s.drawn) (ch := ts) (fun b hb => ⟨(f b hb).2.2.2.1, (f b hb).2.1, (f b hb).2.2.2.2.1, (f b hb).2.2.2.2.2⟩) (fun b u _ _ hc e _ => k b u hc e) (fun b u _ _ hc e _ => ⟨u.slots, k b u hc e⟩)
    (fun b u _ e n => by rw [upd_ne (na b u e)]; exact n) (fun b u hc e => ⟨u, k b u hc e⟩) (fun b xs e => by rw [upd_ne (ne_of_none e ha)]; exact e) (fun b u xs e => by rw [upd_ne (ne_of_none e ha)]; exact e)
    (fun b ps e => ⟨#[], by rw [upd_ne (ne_of_none e ha), e]; simp⟩) (fun m hm => ?_) (fun b u e => ?_) I.bare
  · obtain ⟨ob, es, ep, ho, r⟩ := hm
    exact ⟨ob, es, ep, k _ ob (fun z => (f _ z).2.1 rfl) ho, r⟩
  · by_cases hb : b = a
    · subst hb
      rw [upd_same] at e
      cases e
      exact new
    · rw [upd_ne hb] at e
      refine (I.hok b u e).stay (fun c v hc q => k c v ?_ q) (fun c q => by rw [upd_ne (ne_of_none q ha)]; exact q) fun c xs q => by rw [upd_ne (ne_of_none q ha)]; exact q
      rcases hc with rfl | hc
      · exact nt _ _ e
      · exact nt _ _ hc
/-- untracked records of ours have turned -/
theorem Inv.turnedL {t' : Nat} {ts : List Addr} (I : Inv X pins σ H s) (k : ∀ b u, b ∉ ts → s.heap.get? b = some u → h'.get? b = some u) (f : ∀ b ∈ ts, FpOk X pins H b) : Inv X pins σ H { s with heap := h', toks := t' } := by
  have nt : ∀ b u, H b = some u → b ∉ ts := fun b u e z => by have := (f b z).1; rw [e] at this; cases this
  refine I.step (g' := s.gens) (d' := s.drawn) (ch := ts) (fun b hb => ⟨(f b hb).2.2.2.1, (f b hb).2.1, (f b hb).2.2.2.2.1, (f b hb).2.2.2.2.2⟩) (fun b u _ _ hc e _ => k b u hc e) (fun b u _ _ hc e _ => ⟨u.slots, k b u hc e⟩)
    (fun b u _ e n => n) (fun b u hc e => ⟨u, k b u hc e⟩) (fun b xs e => e) (fun b u xs e => e) (fun b ps e => ⟨#[], by rw [e]; simp⟩) (fun m hm => ?_) (fun b u e => ?_) I.bare
  · obtain ⟨ob, es, ep, ho, r⟩ := hm
    exact ⟨ob, es, ep, k _ ob (fun z => (f _ z).2.1 rfl) ho, r⟩
  · refine (I.hok b u e).stay (fun c v hc q => k c v ?_ q) (fun c q => q) fun c xs q => q
    rcases hc with rfl | hc
    · exact nt _ _ e
    · exact nt _ _ hc
end
/-! ### zip(list, tuple) is made -/
/-! ### reversed(list) -/
def Itv (K : PySem.W.Frag) (a : Addr) (n : Nat) : It :=
  ⟨fun i H => ∃ xs x, SqL K H a xs ∧ xs.length = n ∧ i < n ∧ xs[n - 1 - i]? = some x, fun i H x H' => H' = H ∧ ∀ xs, SqL K H a xs → xs[n - 1 - i]? = some x, fun i _ => i = n⟩
theorem turn_rev {P : Program} {w : World} {K : PySem.W.Frag} {tg : Expr} (a it : Addr) (n : Nat) : Turn P w K tg (Itv K a n) [it] it (fun i h => h.IsRevIter it a ((n : Int) - 1 - (i : Int))) where
  mem := by simp
  obj := fun i h st b hb => by
    have e : b = it := by simpa using hb
    subst e
    obtain ⟨o, e, c, d⟩ := st
    exact ⟨o, e, fun v z => by rw [d] at z; cases z⟩
  keep := fun i h h' st k => st.at fun o e => k it (by simp) o e
  item := by
    intro X hP hw hK hc i pins s σ H E I hf st hg
    subst hP hw hK
    obtain ⟨xs, x, hq, hn, hi, hx⟩ := hg
    obtain ⟨its, rv, p, hz⟩ := I.list hq
    obtain ⟨u, hu, ru⟩ := rv.get hx
    obtain ⟨f0, f1, f2, f3, f4, f5⟩ := hf it (by simp)
    have e1 : (n : Int) - 1 - (i : Int) = ((n - 1 - i : Nat) : Int) := by omega
    rw [e1] at st
    refine wpAny_pyNext_rev_item st p.isList (x := u) (by simpa using hu) fun h' st' sb => ?_
    have I1 : Inv X pins σ H { s with heap := h' } := I.turned (t' := s.toks) (fun b o hb e => (sb.2 b hb).trans e) f0 f1 f3 f4 f5
    have e2 : ((n - 1 - i : Nat) : Int) - 1 = (n : Int) - 1 - ((i + 1 : Nat) : Int) := by omega
    rw [e2] at st'
    obtain ⟨o, e, c, d⟩ := id st'
    exact ⟨u, rfl, go_of (s := { s with heap := h' }) e c d (by decide) ⟨x, H, I1, ru, ⟨rfl, fun ys hy => by rw [I.list_inj hy hq]; exact hx⟩, st', fun b hb => (hf b hb).1⟩⟩
  done := by
    intro X hP hw hK hc i pins s σ H E I hf st hg
    subst hP hw hK
    have hi : i = n := hg
    subst hi
    obtain ⟨f0, f1, f2, f3, f4, f5⟩ := hf it (by simp)
    have e1 : (i : Int) - 1 - (i : Int) = -1 := by omega
    rw [e1] at st
    exact wpAny_pyNext_rev_end (I.ok.hd hc) st fun h' eb => ⟨rfl, I.turned (t' := s.toks) (fun b o hb e => eb b o hb e) f0 f1 f3 f4 f5⟩
  self := fun _ _ _ _ _ st h => wpAny_pyIter_revIter st h
def iRev (K : PySem.W.Frag) (ta : TA) : TI := fun σ H R => ta σ H fun vs H1 => ∃ a xs, vs = [.ref a] ∧ SqL K H1 a xs ∧ R (Itv K a xs.length) H1
theorem pi_rev {X : Cx} {tg : Expr} {a : Expr} {ta : TA} {p pos : Pos} (hg : Gl X "reversed") (hm : X.mg "reversed" = none) (ha : PA X [a] ta) (hs : starEach [a] X.env = [(false, eval a X.env)] := by rfl) :
    PI X tg (.Call (.Name "reversed" p) [a] [] pos) (iRev X.K ta) := by
  intro pins s σ H R I h
  refine Call_ (ld_blt I hg hm boot_reversed (PyProof.Rows.callWith_type1 (thn (ha pos pins s σ H _ I h) fun us s1 ⟨vs, H1, I1, r1, q1⟩ => ?_) hs rfl))
  obtain ⟨l, xs, e, hq, q⟩ := q1
  subst e
  obtain ⟨u, rfl, ru⟩ := vals1 r1
  cases ru
  obtain ⟨its, rv, p1, _⟩ := I1.list hq
  have en : (its.toArray.size : Int) - 1 = (xs.length : Int) - 1 - ((0 : Nat) : Int) := by rw [List.size_toArray, ← rv.length]; omega
  refine call_reversed_list p1.isList ?_
  rw [en]
  have st : (s1.heap.push (revObj l ((xs.length : Int) - 1 - ((0 : Nat) : Int)))).IsRevIter s1.heap.objs.size l ((xs.length : Int) - 1 - ((0 : Nat) : Int)) := ⟨_, Heap.get?_push_size _ rfl, rfl, rfl⟩
  refine wpAny_pyIter_revIter (s := { s1 with heap := s1.heap.push (revObj l ((xs.length : Int) - 1 - ((0 : Nat) : Int))) }) st ?_
  refine ⟨_, [s1.heap.objs.size], _, _, H1, rfl, I1.kept (t' := s1.toks) fun b o e => Heap.get?_push_of_some _ e, turn_rev l _ xs.length, st, fun b hb => ?_, q⟩
  have e : b = s1.heap.objs.size := by simpa using hb
  subst e
  exact I1.fpOk (Nat.le_refl _) (I1.hok.fresh (Nat.le_refl _))
theorem for_rev {K : PySem.W.Frag} {a : Addr} {xs : List V} {g : TG} {tb : TS} {D : Ends} {σ : St} {H : Hp} (Pv : Nat → St → Hp → Prop) (h0 : Pv 0 σ H) (hl : ∀ i σ H, Pv i σ H → SqL K H a xs)
    (hs : ∀ i x σ H, i < xs.length → xs[xs.length - 1 - i]? = some x → Pv i σ H → g x σ H fun σ2 H2 => tb { D with nx := Pv (i + 1), ct := Pv (i + 1), bk := D.nx } σ2 H2) (hd : ∀ σ H, Pv xs.length σ H → D.nx σ H) :
    ∃ W : Nat → Nat → St → Hp → Prop, (∃ m, W 0 m σ H) ∧ ∀ i m σ H, W i m σ H →
      ((Itv K a xs.length).stop i H ∧ D.nx σ H) ∨ ((Itv K a xs.length).go i H ∧ ∃ N : St → Hp → Prop, (∀ σ' H', N σ' H' → ∃ m', m' < m ∧ W (i + 1) m' σ' H') ∧ ∀ x H', (Itv K a xs.length).yld i H x H' → g x σ H' fun σ2 H2 => tb { D with nx := N, ct := N, bk := D.nx } σ2 H2) := by
  refine ⟨fun i m σ H => m = xs.length - i ∧ i ≤ xs.length ∧ Pv i σ H, ⟨xs.length, by simp, Nat.zero_le _, h0⟩, ?_⟩
  rintro i m σ H ⟨rfl, hi, p⟩
  have q := hl i σ H p
  by_cases hlt : i < xs.length
  · refine .inr ⟨⟨xs, xs[xs.length - 1 - i], q, rfl, hlt, List.getElem?_eq_getElem _⟩, Pv (i + 1), fun σ' H' p' => ⟨xs.length - (i + 1), by omega, rfl, hlt, p'⟩, fun x H' y => ?_⟩
    obtain ⟨e, y⟩ := y
    subst e
    exact hs i x σ _ hlt (y xs q) p
  · have e : i = xs.length := by omega
    subst e
    exact .inl ⟨rfl, hd σ H p⟩
end L2

/-! MY RULES: a list comprehension of one clause, with no test or one. -/
namespace L2
open PySem PySem.Spec PyProof.Rows
/-- what the comprehension's own scope and the cells that it takes over must be -/
structure ClOk (X : Cx) (scope : Scope) (cl : List (Str × Addr)) : Prop where
  eq : closureFor scope X.env = pure cl
  sub : ∀ x c, cl.lookup x = some c → X.env.cells.lookup x = some c
  has : ∀ x, ((relabel scope X.env).names.lookup x = some .cell ∨ (relabel scope X.env).names.lookup x = some .free) → ∃ c, cl.lookup x = some c
  kind : scope.kind = .function
  ncell : ∀ y ∈ scope.names, y.2 ≠ .cell
  names : ∀ y ∈ scope.names, y.2 = .local → scope.names.lookup y.1 = some .local
/-- the block's context: its names, its own dict at C, the state at its entry, the iterator that it walks -/
def blk (X : Cx) (N' : List Str) (scope : Scope) (cl : List (Str × Addr)) (C : Addr) (s₀ : Shared) (H₀ : Hp) (fp : List Addr) : Cx :=
  { X with N := N', s₀ := s₀, H₀ := H₀, env := compEnvC scope cl C X.env, outer := X.stack, ex := fp, fn := fun _ => false, pn := [], xe := fun _ _ => False }
/-- the names' values at the block's entry: those that are taken over -/
def blkSt (ix : List (Option Nat)) (σ : St) : St := ix.map fun o => o.bind fun j => (σ[j]?).bind id
section
variable {X : Cx} {pins : List (Addr × Obj)} {σ : St} {H : Hp} {s : Shared} {N' : List Str} {scope : Scope} {cl : List (Str × Addr)} {fp : List Addr} {ix : List (Option Nat)}
/-- which outer slots stand for the names that are taken over -/
def IxOk (X : Cx) (N' : List Str) (scope : Scope) (ix : List (Option Nat)) : Prop :=
  ix.length = N'.length ∧ ∀ i j : Nat, ix[i]? = some (some j) → ∃ x, N'[i]? = some x ∧ X.N[j]? = some x ∧ (X.env.scope.names.lookup x = some .cell ∨ X.env.scope.names.lookup x = some .free) ∧
    ((relabel scope X.env).names.lookup x = some .cell ∨ (relabel scope X.env).names.lookup x = some .free)
theorem blk_ok (I : Inv X pins σ H s) (ck : ClOk X scope cl) (f : ∀ b ∈ fp, FpOk X pins H b) (hlt : ∀ b ∈ fp, b < s.heap.objs.size) : (blk X N' scope cl s.heap.objs.size s H fp).Ok where
  mod := I.ok.mod
  kind := ck.kind
  glob := I.ok.glob
  blt := I.ok.blt
  above := Nat.le_refl _
  inj := fun x y c h1 h2 => I.ok.inj x y c (ck.sub x c h1) (ck.sub y c h2)
  has := fun x h => ck.has x h
  cab := fun x c h => by cases h
  hd := I.ok.hd
  frames := I.ok.frames
  stk := .inl rfl
  exf := fun b hb => ⟨Nat.ne_of_lt (hlt b hb), fun x c h => (f b hb).2.2.2.2.1 x c (ck.sub x c h)⟩
  bs := I.bs
  bsz := Nat.le_trans I.ok.bsz I.sz
  noex := fun b o e hb => by
    rcases (f b hb).2.2.2.1 with z | z
    · exact I.ok.noex b o e z
    · exact absurd (Nat.lt_of_lt_of_le (Heap.lt_size (I.ok.bs b o e).1) z) (Nat.lt_irrefl _)
  exfs := fun b hb hs => by
    rcases List.mem_cons.mp (I.stkSub b hs) with z | z
    · exact (f b hb).2.1 z
    · exact (f b hb).2.2.1 z
  funs := I.stack
  frf := I.stkFree
theorem blk_start (I : Inv X pins σ H s) (ck : ClOk X scope cl) (io : IxOk X N' scope ix) (f : ∀ b ∈ fp, FpOk X pins H b) (hlt : ∀ b ∈ fp, b < s.heap.objs.size) {h' : Heap} {m : Str → Option Value} {t' : Nat}
    (hn : h'.Ns s.heap.objs.size m) (k : ∀ b o, s.heap.get? b = some o → h'.get? b = some o) : Inv (blk X N' scope cl s.heap.objs.size s H fp) [] (blkSt ix σ) H { s with heap := h', toks := t' } := by
  have cl' : ∀ x c, cl.lookup x = some c → ∃ v, s.heap.IsCell c v := fun x c h => I.cell x c (ck.sub x c h)
  refine ⟨blk_ok I ck f hlt, rfl, I.bare, Un.kept k, ⟨m, hn, fun i x v e1 e2 e3 => ?_⟩, fun x c e => ?_, I.hok.fresh (Nat.le_refl _), fun x c e => I.freeC x c (ck.sub x c e), (fun p hp => by cases hp), I.hok.kept k, ?_⟩
  · unfold blkSt at e2
    rw [List.getElem?_map] at e2
    cases hi : ix[i]? with
    | none => rw [hi] at e2; cases e2
    | some o =>
      rw [hi] at e2
      cases o with
      | none => cases Option.some.inj e2
      | some j =>
        have e2' : (σ[j]?).bind id = some v := Option.some.inj e2
        obtain ⟨x', n1, n2, k1, k2⟩ := io.2 i j hi
        have ex : x' = x := Option.some.inj (n1.symm.trans e1)
        subst ex
        have es : σ[j]? = some (some v) := by
          cases q : σ[j]? with
          | none => rw [q] at e2'; cases e2'
          | some w =>
            rw [q] at e2'
            exact congrArg some e2'
        obtain ⟨m0, _, hl⟩ := I.loc
        obtain ⟨u, ru, lo⟩ := hl j x' v n2 es (k1.elim (fun z => .inr (.inl z)) fun z => .inr (.inr z))
        refine ⟨u, ru, .inr ⟨k2, ?_⟩⟩
        obtain ⟨c, hc⟩ := ck.has x' k2
        refine ⟨c, hc, ?_⟩
        rcases lo with ⟨z, _⟩ | ⟨_, c', hc', ic⟩
        · exfalso
          have z' : X.env.scope.names.lookup x' = some .local := z
          rcases k1 with k1 | k1 <;> (rw [z'] at k1; cases k1)
        · have ec : c' = c := Option.some.inj (hc'.symm.trans (ck.sub x' c hc))
          subst ec
          obtain ⟨o, ho, hd⟩ := ic
          exact ⟨o, k _ _ ho, hd⟩
  · obtain ⟨v, o, ho, hd⟩ := cl' x c e
    exact ⟨v, o, k _ _ ho, hd⟩
  · unfold blkSt
    rw [List.length_map]
    exact io.1
/-- behind the block: the frame's own words stand again -/
theorem blk_end (I : Inv X pins σ H s) (f : ∀ b ∈ fp, FpOk X pins H b) {σ' : St} {H' : Hp} {s' : Shared} {pl : List (Addr × Obj)} (J : Inv (blk X N' scope cl s.heap.objs.size s H fp) pl σ' H' s') {h' : Heap} (sb : Heap.SameBut s.heap.objs.size s'.heap h') :
    Inv X pins σ H' { s' with heap := h' } := by
  have nC : ∀ b o, s.heap.get? b = some o → b ≠ s.heap.objs.size := fun b o e => Nat.ne_of_lt (Heap.lt_size e)
  have hC : H' s.heap.objs.size = none := J.free
  have u : Un (frs X.stack) fp H H' s.heap s'.heap := J.base
  refine I.call' (ch := fp) (s' := { s' with heap := h' }) J.os ⟨fun b o e n hb hx => (sb.2 b (nC b o e)).trans (u.keep b o e n hb hx), fun b o e n hb hx => ?_, u.free, fun b o e hx => ?_, u.tups, u.frzs, u.tbls⟩ (fun b o e => ?_) J.bare
    (fun b hb => ⟨(f b hb).2.2.2.1, (f b hb).2.1, (f b hb).2.2.2.2.1, (f b hb).2.2.2.2.2⟩)
  · obtain ⟨sl, q⟩ := u.slot b o e n hb hx
    exact ⟨sl, (sb.2 b (nC b o e)).trans q⟩
  · obtain ⟨o', q⟩ := u.there b o e hx
    exact ⟨o', (sb.2 b (nC b o e)).trans q⟩
  · refine (J.hok b o e).stay (fun c v hc q => (sb.2 c ?_).trans q) (fun c q => q) fun c xs q => q
    rcases hc with rfl | hc
    · exact ne_of_none e hC
    · exact ne_of_none hc hC
end
/-- what the one knows the other one knows too -/
def StKeep : St → St → Prop
  | [], _ => True
  | none :: r, _ :: r' => StKeep r r'
  | none :: r, [] => StKeep r []
  | some v :: r, w :: r' => w = some v ∧ StKeep r r'
  | some _ :: _, [] => False
theorem StKeep.get : ∀ {a b : St}, StKeep a b → ∀ (j : Nat) v, a[j]? = some (some v) → b[j]? = some (some v)
  | [], _, _, _, _, e => by simp at e
  | none :: r, _ :: r', h, 0, v, e => by simp at e
  | none :: r, _ :: r', h, j + 1, v, e => by simpa using StKeep.get (a := r) (b := r') h j v (by simpa using e)
  | none :: r, [], h, 0, v, e => by simp at e
  | none :: r, [], h, j + 1, v, e => by have := StKeep.get (a := r) (b := []) h j v (by simpa using e); simp at this
  | some w :: r, _ :: r', h, 0, v, e => by
    have e' : w = v := by simpa using e
    subst e'
    simpa using h.1
  | some _ :: r, _ :: r', h, j + 1, v, e => by simpa using StKeep.get (a := r) (b := r') h.2 j v (by simpa using e)
section
variable {X : Cx}
/-- [elt for tg in iter]: D the list that grows -/
def tComp (ix : List (Option Nat)) (wi : TI) (g : TG) (te : TE) : TE := fun σ H Q => wi σ H fun J H1 => ∀ D, H1 D = none → ∃ W : Nat → Nat → Hp → Prop, (∃ m, W 0 m (upd H1 D (.lst []))) ∧ ∀ i m H2, W i m H2 →
  (J.stop i H2 ∧ Q (.ref D) H2) ∨ (J.go i H2 ∧ ∃ N : VK, (∀ y H5, N y H5 → ∃ xs, H5 D = some (.lst xs) ∧ xs.length < sizeLine ∧ ∃ m', m' < m ∧ W (i + 1) m' (upd H5 D (.lst (xs ++ [y])))) ∧ ∀ x H3, J.yld i H2 x H3 → g x (blkSt ix σ) H3 fun σ4 H4 => StKeep (blkSt ix σ) σ4 ∧ te σ4 H4 N)
theorem pe_comp {elt iter tg : Expr} {scope : Scope} {pos : Pos} {N' : List Str} {ix : List (Option Nat)} {cl : List (Str × Addr)} {wi : TI} {g : TG} {te : TE} (hc : X.calm = true) (ck : ClOk X scope cl) (io : IxOk X N' scope ix) (hi : PI X tg iter wi)
    (hg : ∀ C s₀ H₀ fp, PG (blk X N' scope cl C s₀ H₀ fp) tg g) (he : ∀ C s₀ H₀ fp, PE (blk X N' scope cl C s₀ H₀ fp) elt te) (hs : ∀ x, foldedSetIterable iter X.env x = pure x := by intro _; rfl) :
    PE X (.ListComp elt [⟨tg, iter, [], 0⟩] scope pos) (tComp ix wi g te) := by
  intro pins s σ H Q I h
  rw [eval_ListComp]
  refine wpAny_comprehension_free (use := none) rfl hs ck.eq ck.kind ck.names (thn (hi pins s σ H _ I h) fun xv s1 h1 => thn h1 fun itv s2 h2 => ?_)
  obtain ⟨it, fp, tn, J, H1, rfl, I1, T, st1, f1, R⟩ := h2
  -- the list
  refine wpAny_newObj_type ?_
  have hD : H1 s2.heap.objs.size = none := I1.hok.fresh (Nat.le_refl _)
  obtain ⟨W, ⟨m0, w0⟩, turn⟩ := R _ hD
  have hfD : ∀ b ∈ fp, b < s2.heap.objs.size := fun b hb => let ⟨o, e, _⟩ := T.obj _ _ st1 b hb; Heap.lt_size e
  have I2 : Inv X pins σ (upd H1 s2.heap.objs.size (.lst [])) { s2 with heap := s2.heap.push { cls := .type "list", data := .seq ([] : List Value).toArray }, toks := s2.toks } := I1.lnew (its := []) .nil (Nat.zero_le _)
  have f2 : ∀ b ∈ fp, FpOk X pins (upd H1 s2.heap.objs.size (.lst [])) b := fun b hb => ⟨by rw [upd_ne (Nat.ne_of_lt (hfD b hb))]; exact (f1 b hb).1, (f1 b hb).2⟩
  have lt2 : ∀ b ∈ fp, b < (s2.heap.push { cls := .type "list", data := .seq ([] : List Value).toArray }).objs.size := fun b hb => by rw [Heap.size_push]; exact Nat.lt_succ_of_lt (hfD b hb)
  -- the block's own dict
  refine wpAny_newFunctionEnv ck.ncell (by intro y hy; simp at hy) (fun h3 hns sb3 => ?_) ck.kind
  dsimp only at hns sb3 ⊢
  have k3 : ∀ b o, (s2.heap.push { cls := .type "list", data := .seq ([] : List Value).toArray }).get? b = some o → h3.get? b = some o := fun b o e => (sb3.2 b (Nat.ne_of_lt (Heap.lt_size e))).trans (Heap.get?_push_of_some _ e)
  generalize hs2 : ({ s2 with heap := s2.heap.push { cls := .type "list", data := .seq ([] : List Value).toArray }, toks := s2.toks } : Shared) = s3 at I2
  have e3 : s2.heap.push { cls := .type "list", data := .seq ([] : List Value).toArray } = s3.heap := by rw [← hs2]
  rw [e3] at hns k3 lt2
  have I3 := blk_start (N' := N') (ix := ix) I2 ck io f2 lt2 (h' := h3) (t' := s2.toks + ([] : List (Str × Value)).length) hns k3
  have e4 : ({ s3 with heap := h3, toks := s2.toks + ([] : List (Str × Value)).length } : Shared) = { s2 with heap := h3, toks := s2.toks + ([] : List (Str × Value)).length } := by rw [← hs2]
  rw [e4] at I3
  have st3 : tn 0 h3 := T.keep _ _ _ st1 fun b hb o e => k3 b o (by rw [← e3]; exact Heap.get?_push_of_some _ e)
  have loop : ∀ s4 : Shared, s4 = { s2 with heap := h3, toks := s2.toks + ([] : List (Str × Value)).length } →
      codeAny (model X.prog X.w) X.A (.compLoop (.ListComp elt [⟨tg, iter, [], 0⟩] scope pos) 0 (.ref it) (.ref s2.heap.objs.size) (compEnvC scope cl s3.heap.objs.size X.env))
        (compPost (model X.prog X.w) X.A X.xe none (EP X pins σ Q) (.ref s2.heap.objs.size) s3.heap.objs.size) s4 := by
    rintro s4 rfl
    have stat : ∀ {H' : Hp}, (∀ b ∈ fp, H' b = none) → ∀ b ∈ fp, FpOk (blk X N' scope cl s3.heap.objs.size s3 (upd H1 s2.heap.objs.size (.lst [])) fp) [] H' b := fun hn b hb =>
      ⟨hn b hb, Nat.ne_of_lt (lt2 b hb), fun hs => I3.ok.exfs b hb hs, .inl hb, fun x c e => (f2 b hb).2.2.2.2.1 x c (ck.sub x c e), (fun p hp => by cases hp)⟩
    refine codeAny_loop rfl (fun n s' => ∃ i σ' H', Inv (blk X N' scope cl s3.heap.objs.size s3 (upd H1 s2.heap.objs.size (.lst [])) fp) [] σ' H' s' ∧ (∀ (j : Nat) v, (blkSt ix σ)[j]? = some (some v) → σ'[j]? = some (some v)) ∧ tn i s'.heap ∧ (∀ b ∈ fp, H' b = none) ∧ W i n H')
      (fun n s' hI => ?_) m0 ⟨0, _, _, I3, fun _ _ z => z, st3, fun b hb => (f2 b hb).1, w0⟩
    obtain ⟨i, σ5, H5, I5, wk, st5, fr5, w5⟩ := hI
    show wpAny _ _ ((compTurn (.ListComp elt [⟨tg, iter, [], 0⟩] scope pos) 0 (.ref it) (.ref s2.heap.objs.size) (compEnvC scope cl s3.heap.objs.size X.env)).onRaise (fun x => do noteFrame x (compEnvC scope cl s3.heap.objs.size X.env); theTreesLotGoes x)) _ _ s'
    refine wpAny_noted ?_
    rw [compTurn_list1]
    refine wpAny_bind (wpAny_standAt ?_)
    rcases turn i n H5 w5 with ⟨stop, qn⟩ | ⟨go, NN, hNN, step⟩
    · refine wpAny_bind (wpAny_mono (T.done (blk X N' scope cl s3.heap.objs.size s3 (upd H1 s2.heap.objs.size (.lst [])) fp) rfl rfl rfl hc i [] s' σ5 H5 (fun _ _ => False) I5 (stat fr5) st5 stop) (fun r s6 h6 => ?_) fun _ _ z => z.elim)
      obtain ⟨rfl, I6⟩ := h6
      refine wpAny_pure ?_
      obtain ⟨mm, hm, _⟩ := id I6.loc
      exact ⟨mm, hm, fun h' sb => ⟨.ref s2.heap.objs.size, H5, blk_end I2 f2 I6 sb, rfl, qn⟩⟩
    · refine wpAny_bind (wpAny_mono (T.item (blk X N' scope cl s3.heap.objs.size s3 (upd H1 s2.heap.objs.size (.lst [])) fp) rfl rfl rfl hc i [] s' σ5 H5 (fun _ _ => False) I5 (stat fr5) st5 go) (fun r s6 h6 => ?_) fun _ _ z => z.elim)
      obtain ⟨u, rfl, h6⟩ := h6
      refine wpAny_bind (wpAny_mono h6 (fun _ s7 h7 => ?_) fun _ _ z => z.elim)
      obtain ⟨x, H7, I7, r7, y7, st7, fr7⟩ := h7
      have I7w : Inv (blk X N' scope cl s3.heap.objs.size s3 (upd H1 s2.heap.objs.size (.lst [])) fp) [] (blkSt ix σ) H7 s7 := I7.weak (by rw [I7.len]; unfold blkSt; rw [List.length_map]; exact io.1) wk
      have I7p := I7w.pinned (stat fr7) (T.obj _ _ st7)
      refine wpAny_bind (wpAny_mono (hg _ _ _ _ _ s7 _ H7 x u _ I7p r7 (step x H7 y7)) (fun _ s8 h8 => ?_) fun _ _ z => z.elim)
      obtain ⟨σ8, H8, I8, kp8, q8⟩ := h8
      refine wpAny_bind (wpAny_bind (wpAny_mono (he _ _ _ _ _ s8 σ8 H8 _ I8 q8) (fun yv s9 h9 => ?_) fun _ _ z => z.elim))
      obtain ⟨y, H9, I9, r9, n9⟩ := h9
      obtain ⟨xs, hx9, hz9, m', hm', w9⟩ := hNN _ _ n9
      refine wpAny_bind (wpAny_mono (mt_append (X := blk X N' scope cl s3.heap.objs.size s3 (upd H1 s2.heap.objs.size (.lst [])) fp) _ s9 σ8 H9 (.ref s2.heap.objs.size) [y] (.ref s2.heap.objs.size) [yv] (fun _ H' => W (i + 1) m' H') I9 rfl (.cons r9 .nil) ⟨_, xs, y, rfl, rfl, hx9, hz9, w9⟩) (fun _ s10 h10 => ?_) fun _ _ z => z.elim)
      obtain ⟨_, H10, I10, _, w10⟩ := h10
      refine wpAny_pure (wpAny_pure ⟨rfl, m', hm', i + 1, σ8, H10, I10.unpinned, ?_, T.keep _ _ _ st7 fun b hb o e => (I10.pin (b, o) (List.mem_append_right _ (List.mem_append_right _ (mem_pinsAt hb e)))).1, fun b hb => ?_, w10⟩)
      · exact kp8.get
      · obtain ⟨o, e, d⟩ := T.obj _ _ st7 b hb
        exact (I10.pin (b, o) (List.mem_append_right _ (List.mem_append_right _ (mem_pinsAt hb e)))).2.1
  have e5 : s3.heap.objs.size = (s2.heap.push { cls := .type "list", data := .seq ([] : List Value).toArray }).objs.size := by rw [e3]
  rw [e5] at loop
  exact codeAny_compStart_list (loop _ rfl) (T.self X.A 0 _ _ _ st3 (loop _ rfl))
end
end L2

/-! MY RULES: a method by the object's own class; data (ints, texts, tuples, lists within one another) and their ==; texts; comprehensions over lists and tuples. -/
namespace L2
open PySem PySem.Spec PyProof.Rows
/-! ### o.m(..), the class and the method found where the object stands -/
section
variable {X : Cx} {m : Str} {pos apos : Pos} {e o : Expr} {es : List Expr} {ta : TE} {t : TA}
end
/-! ### data -/
mutual
inductive Rep (H : Hp) : V → PyData → Prop
  | non : Rep H .non .none
  | bl (b : Bool) : Rep H (.bl b) (.bool b)
  | int (i : Int) : Rep H (.int i) (.int i)
  | str (x : Str) : Rep H (.str x) (.str x)
  | lst {p : Addr} {xs : List V} {ds : List PyData} : H p = some (.lst xs) → Reps H xs ds → Rep H (.ref p) (.list ds)
  | tup {p : Addr} {xs : List V} {ds : List PyData} : H p = some (.tup xs) → Reps H xs ds → Rep H (.ref p) (.tuple ds)
inductive Reps (H : Hp) : List V → List PyData → Prop
  | nil : Reps H [] []
  | cons {v : V} {vs : List V} {d : PyData} {ds : List PyData} : Rep H v d → Reps H vs ds → Reps H (v :: vs) (d :: ds)
end
mutual
theorem Rep.imp {H H' : Hp} (f : ∀ p o, H p = some o → H' p = some o) : ∀ {v : V} {d : PyData}, Rep H v d → Rep H' v d
  | _, _, .non => .non
  | _, _, .bl b => .bl b
  | _, _, .int i => .int i
  | _, _, .str x => .str x
  | _, _, .lst e r => .lst (f _ _ e) (Reps.imp f r)
  | _, _, .tup e r => .tup (f _ _ e) (Reps.imp f r)
theorem Reps.imp {H H' : Hp} (f : ∀ p o, H p = some o → H' p = some o) : ∀ {vs : List V} {ds : List PyData}, Reps H vs ds → Reps H' vs ds
  | _, _, .nil => .nil
  | _, _, .cons a r => .cons (Rep.imp f a) (Reps.imp f r)
end
theorem Rep.same {H H' : Hp} {v : V} {d : PyData} (h : Rep H v d) (s : Same H H') : Rep H' v d := h.imp s
theorem Reps.same {H H' : Hp} {v : List V} {d : List PyData} (h : Reps H v d) (s : Same H H') : Reps H' v d := h.imp s
theorem Reps.len {H : Hp} : ∀ {vs : List V} {ds : List PyData}, Reps H vs ds → vs.length = ds.length
  | _, _, .nil => rfl
  | _, _, .cons _ r => by rw [List.length_cons, List.length_cons, Reps.len r]
theorem Reps.snoc {H : Hp} {v : V} {d : PyData} (a : Rep H v d) : ∀ {vs : List V} {ds : List PyData}, Reps H vs ds → Reps H (vs ++ [v]) (ds ++ [d])
  | _, _, .nil => .cons a .nil
  | _, _, .cons b r => .cons b (Reps.snoc a r)
theorem Reps.strs {H : Hp} : ∀ xs : List Str, Reps H (xs.map V.str) (xs.map PyData.str)
  | [] => .nil
  | x :: r => .cons (.str x) (Reps.strs r)
section
variable {X : Cx} {pins : List (Addr × Obj)} {σ : St} {H : Hp} {s : Shared}
mutual
theorem rep_reads (I : Inv X pins σ H s) : ∀ {v : V} {d : PyData} {u : Value}, Rep H v d → RelV v u → ∃ as, Reads s.heap u d as
  | _, _, u, .non, r => by cases (show u = Value.none from r); exact ⟨_, .none⟩
  | _, _, u, .bl b, r => by cases (show u = Value.bool b from r); exact ⟨_, .bool b⟩
  | _, _, u, .int i, r => by obtain ⟨t, q⟩ := (show ∃ t, u = Value.int i t from r); cases q; exact ⟨_, .int i t⟩
  | _, _, u, .str x, r => by obtain ⟨t, q⟩ := (show ∃ t, u = Value.str x t from r); cases q; exact ⟨_, .str x t⟩
  | _, _, u, @Rep.lst _ p xs ds e q, r => by
    cases (show u = Value.ref p from r)
    obtain ⟨_, its, n, rv, ho⟩ := (show ObjOk X.prog X.w H s.heap p (.lst xs) from I.hok p _ e)
    obtain ⟨as, z⟩ := reps_reads I q rv
    exact ⟨_, Reads.list ho rfl rfl (by simpa using z)⟩
  | _, _, u, @Rep.tup _ p xs ds e q, r => by
    cases (show u = Value.ref p from r)
    obtain ⟨_, its, rv, o, ho, hc, n, hd⟩ := (show ObjOk X.prog X.w H s.heap p (.tup xs) from I.hok p _ e)
    obtain ⟨as, z⟩ := reps_reads I q rv
    exact ⟨_, Reads.tuple ho hc hd (by simpa using z)⟩
theorem reps_reads (I : Inv X pins σ H s) : ∀ {vs : List V} {ds : List PyData} {us : List Value}, Reps H vs ds → Vals vs us → ∃ as, ReadsAll s.heap us ds as
  | _, _, _, .nil, .nil => ⟨_, .nil⟩
  | _, _, _, .cons a r, .cons q rv => by
    obtain ⟨as, z⟩ := rep_reads I a q
    obtain ⟨bs, y⟩ := reps_reads I r rv
    exact ⟨_, .cons z y⟩
end
end
/-- == and != of data -/
def rEqD (neg : Bool) : R2 := fun x y H Q => ∃ d e, Rep H x d ∧ Rep H y e ∧ SeqAt.shaped d = true ∧ SeqAt.shaped e = true ∧ Q (.bl (if neg then !PyData.eqv d e else PyData.eqv d e)) H
section
variable {X : Cx}
theorem op_eqD (hu : X.A.units + 64 < cLine) : OpR X (compareOp .Eq) (rEqD false) := by
  intro pins s σ H x y v u Q I rx ry h
  obtain ⟨d, e, h1, h2, s1, s2, q⟩ := h
  obtain ⟨as, r1⟩ := rep_reads I h1 rx
  obtain ⟨bs, r2⟩ := rep_reads I h2 ry
  exact eq_dataH r1 r2 s1 s2 hu ⟨.bl (PyData.eqv d e), H, I, rfl, q⟩
theorem op_neD (hu : X.A.units + 64 < cLine) : OpR X (compareOp .NotEq) (rEqD true) := by
  intro pins s σ H x y v u Q I rx ry h
  obtain ⟨d, e, h1, h2, s1, s2, q⟩ := h
  obtain ⟨as, r1⟩ := rep_reads I h1 rx
  obtain ⟨bs, r2⟩ := rep_reads I h2 ry
  exact ne_dataH r1 r2 s1 s2 hu ⟨.bl (!PyData.eqv d e), H, I, rfl, q⟩
/-! ### texts -/
end
/-! ### comprehensions -/
theorem clok_none {X : Cx} {scope : Scope} (hk : scope.kind = .function) (hn : ∀ y ∈ scope.names, y.2 ≠ .free ∧ y.2 ≠ .cell) (hl : ∀ y ∈ scope.names, y.2 = .local → scope.names.lookup y.1 = some .local) : ClOk X scope [] where
  eq := closureFor_none fun y hy => (hn y hy).1
  sub := fun x c h => by cases h
  has := fun x h => by
    exfalso
    have e : (relabel scope X.env).names = scope.names := map_eq_self fun y hy => by
      obtain ⟨n, k⟩ := y
      have z := (hn _ hy).1
      have z' : (k == NameKind.free) = false := by simpa using z
      simp [z']
    rw [e] at h
    have mem : ∀ {k : NameKind}, scope.names.lookup x = some k → (x, k) ∈ scope.names := fun {k} q => by
      generalize scope.names = l at q
      induction l with
      | nil => cases q
      | cons a r ih =>
        obtain ⟨n, k'⟩ := a
        rw [List.lookup_cons] at q
        split at q
        · rename_i hb
          have hb' : x = n := by simpa using hb
          cases q
          subst hb'
          exact .head _
        · exact .tail _ (ih q)
    rcases h with h | h
    · exact (hn _ (mem h)).2 rfl
    · exact (hn _ (mem h)).1 rfl
  kind := hk
  ncell := fun y hy => (hn y hy).2
  names := hl
theorem ixok_none {X : Cx} {N' : List Str} {scope : Scope} {n : Nat} (h : n = N'.length) : IxOk X N' scope (List.replicate n none) := ⟨by rw [List.length_replicate]; exact h, fun i j e => by
  rw [List.getElem?_replicate] at e
  split at e <;> cases e⟩
section
variable {K : PySem.W.Frag} {a D : Addr} {xs : List V} {g : TG} {te : TE} {Q : VK} {σ₀ : St} {H : Hp}
theorem comp_list (Pv : Nat → List V → Hp → Prop) (h0 : Pv 0 [] (upd H D (.lst []))) (hl : ∀ i ys H, Pv i ys H → SqL K H a xs)
    (hs : ∀ i x ys H, xs[i]? = some x → Pv i ys H → g x σ₀ H fun σ4 H4 => StKeep σ₀ σ4 ∧ te σ4 H4 fun y H5 => H5 D = some (.lst ys) ∧ ys.length < sizeLine ∧ Pv (i + 1) (ys ++ [y]) (upd H5 D (.lst (ys ++ [y])))) (hd : ∀ ys H, Pv xs.length ys H → Q (.ref D) H) :
    ∃ W : Nat → Nat → Hp → Prop, (∃ m, W 0 m (upd H D (.lst []))) ∧ ∀ i m H2, W i m H2 →
      ((Itl K a).stop i H2 ∧ Q (.ref D) H2) ∨ ((Itl K a).go i H2 ∧ ∃ N : VK, (∀ y H5, N y H5 → ∃ xs, H5 D = some (.lst xs) ∧ xs.length < sizeLine ∧ ∃ m', m' < m ∧ W (i + 1) m' (upd H5 D (.lst (xs ++ [y])))) ∧
        ∀ x H3, (Itl K a).yld i H2 x H3 → g x σ₀ H3 fun σ4 H4 => StKeep σ₀ σ4 ∧ te σ4 H4 N) := by
  refine ⟨fun i m H => m = xs.length - i ∧ i ≤ xs.length ∧ ∃ ys, Pv i ys H, ⟨xs.length, by simp, Nat.zero_le _, [], h0⟩, ?_⟩
  rintro i m H2 ⟨rfl, hi, ys, p⟩
  have q := hl i ys H2 p
  by_cases hlt : i < xs.length
  · refine .inr ⟨⟨xs, xs[i], q, by simp [hlt]⟩, fun y H5 => H5 D = some (.lst ys) ∧ ys.length < sizeLine ∧ Pv (i + 1) (ys ++ [y]) (upd H5 D (.lst (ys ++ [y]))), fun y H5 n => ⟨ys, n.1, n.2.1, xs.length - (i + 1), by omega, rfl, hlt, _, n.2.2⟩, fun x H3 z => ?_⟩
    obtain ⟨e, z⟩ := z
    subst e
    exact hs i x ys _ (z xs q) p
  · have e : i = xs.length := by omega
    subst e
    exact .inl ⟨⟨xs, q, Nat.le_refl _⟩, hd ys H2 p⟩
theorem comp_tup (Pv : Nat → List V → Hp → Prop) (h0 : Pv 0 [] (upd H D (.lst []))) (hl : ∀ i ys H, Pv i ys H → SqT K H a xs)
    (hs : ∀ i x ys H, xs[i]? = some x → Pv i ys H → g x σ₀ H fun σ4 H4 => StKeep σ₀ σ4 ∧ te σ4 H4 fun y H5 => H5 D = some (.lst ys) ∧ ys.length < sizeLine ∧ Pv (i + 1) (ys ++ [y]) (upd H5 D (.lst (ys ++ [y])))) (hd : ∀ ys H, Pv xs.length ys H → Q (.ref D) H) :
    ∃ W : Nat → Nat → Hp → Prop, (∃ m, W 0 m (upd H D (.lst []))) ∧ ∀ i m H2, W i m H2 →
      ((Itt K a).stop i H2 ∧ Q (.ref D) H2) ∨ ((Itt K a).go i H2 ∧ ∃ N : VK, (∀ y H5, N y H5 → ∃ xs, H5 D = some (.lst xs) ∧ xs.length < sizeLine ∧ ∃ m', m' < m ∧ W (i + 1) m' (upd H5 D (.lst (xs ++ [y])))) ∧
        ∀ x H3, (Itt K a).yld i H2 x H3 → g x σ₀ H3 fun σ4 H4 => StKeep σ₀ σ4 ∧ te σ4 H4 N) := by
  refine ⟨fun i m H => m = xs.length - i ∧ i ≤ xs.length ∧ ∃ ys, Pv i ys H, ⟨xs.length, by simp, Nat.zero_le _, [], h0⟩, ?_⟩
  rintro i m H2 ⟨rfl, hi, ys, p⟩
  have q := hl i ys H2 p
  by_cases hlt : i < xs.length
  · refine .inr ⟨⟨xs, xs[i], q, by simp [hlt]⟩, fun y H5 => H5 D = some (.lst ys) ∧ ys.length < sizeLine ∧ Pv (i + 1) (ys ++ [y]) (upd H5 D (.lst (ys ++ [y]))), fun y H5 n => ⟨ys, n.1, n.2.1, xs.length - (i + 1), by omega, rfl, hlt, _, n.2.2⟩, fun x H3 z => ?_⟩
    obtain ⟨e, z⟩ := z
    subst e
    exact hs i x ys _ (z xs q) p
  · have e : i = xs.length := by omega
    subst e
    exact .inl ⟨⟨xs, q, Nat.le_refl _⟩, hd ys H2 p⟩
end
end L2

/-! MY RULES: a comprehension that takes one name over; range(a, b, c). -/
namespace L2
open PySem PySem.Spec PyProof.Rows
theorem lookup_mem {x : Str} {k : NameKind} : ∀ {l : List (Str × NameKind)}, l.lookup x = some k → (x, k) ∈ l
  | [], q => by cases q
  | (n, k') :: r, q => by
    rw [List.lookup_cons] at q
    split at q
    · rename_i hb
      have hb' : x = n := by simpa using hb
      cases q
      subst hb'
      exact .head _
    · exact .tail _ (lookup_mem q)
theorem clok_one {X : Cx} {scope : Scope} {x : Str} {c : Addr} (he : closureFor scope X.env = pure [(x, c)]) (hc : X.env.cells.lookup x = some c) (hk : scope.kind = .function) (hn : ∀ y ∈ scope.names, y.2 ≠ .cell ∧ (y.2 = .free → y.1 = x))
    (hl : ∀ y ∈ scope.names, y.2 = .local → scope.names.lookup y.1 = some .local) : ClOk X scope [(x, c)] where
  eq := he
  sub := fun y d h => by
    rw [List.lookup_cons] at h
    split at h
    · rename_i hb
      have hb' : y = x := by simpa using hb
      cases h
      subst hb'
      exact hc
    · cases h
  has := fun y h => by
    have key : y = x := by
      have m : ∃ k, (y, k) ∈ (relabel scope X.env).names ∧ (k = .cell ∨ k = .free) := h.elim (fun z => ⟨_, lookup_mem z, .inl rfl⟩) fun z => ⟨_, lookup_mem z, .inr rfl⟩
      obtain ⟨k, hm, hk⟩ := m
      obtain ⟨⟨n, k0⟩, h0, e⟩ := List.mem_map.mp hm
      dsimp only at e
      by_cases hf : k0 = .free
      · have en : n = y := by
          split at e
          · exact congrArg Prod.fst e
          · exact congrArg Prod.fst e
        rw [← en]
        exact (hn _ h0).2 hf
      · have hb : (k0 == NameKind.free) = false := by simpa using hf
        simp only [hb, Bool.false_and, Bool.false_eq_true, if_false] at e
        have e2 : k0 = k := congrArg Prod.snd e
        subst e2
        rcases hk with hk | hk
        · exact absurd hk (hn _ h0).1
        · exact absurd hk hf
    subst key
    exact ⟨c, by simp [List.lookup_cons]⟩
  kind := hk
  ncell := fun y hy => (hn y hy).1
  names := hl
theorem ixok_last {X : Cx} {N0 : List Str} {x : Str} {scope : Scope} {j : Nat} (hN : X.N[j]? = some x) (h1 : X.env.scope.names.lookup x = some .cell ∨ X.env.scope.names.lookup x = some .free)
    (h2 : (relabel scope X.env).names.lookup x = some .cell ∨ (relabel scope X.env).names.lookup x = some .free) : IxOk X (N0 ++ [x]) scope (List.replicate N0.length none ++ [some j]) := by
  refine ⟨by simp, fun i k e => ?_⟩
  by_cases hi : i < N0.length
  · rw [List.getElem?_append_left (by simpa using hi), List.getElem?_replicate] at e
    split at e <;> cases e
  · have hi' : i = N0.length := by
      have := (List.getElem?_eq_some_iff.mp e).1
      simp at this
      omega
    subst hi'
    rw [List.getElem?_append_right (by simp)] at e
    have ek : j = k := by simpa using e
    subst ek
    exact ⟨x, by simp, hN, h1, h2⟩
/-! ### range(a, b, c) -/
end L2

/-! MY RULES: a part of the heap; data in a part; lookups of attributes; what is walked may be a list or a tuple. -/
set_option linter.all false
namespace L2
open PySem PySem.Spec PyProof.Rows
/-! ### heaps -/
theorem same_fresh {H H' : Hp} {l : Addr} {o : HO} (s : Same H H') (hl : H l = none) : Same H (upd H' l o) := fun b u e => by
  rw [upd_ne (ne_of_none e hl)]
  exact s b u e
theorem same_new {H : Hp} {l : Addr} {o : HO} (hl : H l = none) : Same H (upd H l o) := same_fresh (Same.refl H) hl
theorem same_made {H : Hp} {x dx : Addr} {o u v : HO} (hx : H x = none) (hd : H dx = none) : Same H (upd (upd (upd H dx o) x u) x v) := same_fresh (same_fresh (same_new hd) hx) hx
theorem line_le {n : Nat} (h : n ≤ 1000000) : n ≤ sizeLine := by rw [sizeLine_eq]; omega
theorem line_lt {n : Nat} (h : n ≤ 1000000) : n < sizeLine := by rw [sizeLine_eq]; omega
theorem Paired.snoc {α β : Type} {F : α → β → Prop} {a : α} {b : β} (h : F a b) : ∀ {xs : List α} {ys : List β}, Paired F xs ys → Paired F (xs ++ [a]) (ys ++ [b])
  | _, _, .nil => .cons h .nil
  | _, _, .cons r t => .cons r (Paired.snoc h t)
/-- the part of the heap that S says -/
noncomputable def restr (S : Addr → Prop) (H : Hp) : Hp := fun a => @ite _ (S a) (Classical.propDecidable _) (H a) none
theorem restr_in {S : Addr → Prop} {H : Hp} {a : Addr} (h : S a) : restr S H a = H a := by unfold restr; rw [if_pos h]
theorem restr_out {S : Addr → Prop} {H : Hp} {a : Addr} (h : ¬ S a) : restr S H a = none := by unfold restr; rw [if_neg h]
theorem restr_some {S : Addr → Prop} {H : Hp} {a : Addr} {o : HO} (h : restr S H a = some o) : S a ∧ H a = some o := by
  by_cases hs : S a
  · rw [restr_in hs] at h; exact ⟨hs, h⟩
  · rw [restr_out hs] at h; cases h
theorem restr_mk {S : Addr → Prop} {H : Hp} {a : Addr} {o : HO} (hs : S a) (h : H a = some o) : restr S H a = some o := by rw [restr_in hs]; exact h
theorem restr_same {S : Addr → Prop} {H H' : Hp} (s : Same H H') : Same (restr S H) (restr S H') := fun b o e => restr_mk (restr_some e).1 (s _ _ (restr_some e).2)
theorem restr_imp {S S' : Addr → Prop} {H H' : Hp} (s : Same H H') (h : ∀ a o, H a = some o → S a → S' a) : Same (restr S H) (restr S' H') := fun b o e => restr_mk (h _ _ (restr_some e).2 (restr_some e).1) (s _ _ (restr_some e).2)
theorem restr_upd {S : Addr → Prop} {H H' : Hp} {l : Addr} {o : HO} (s : Same (restr S H) (restr S H')) (h : ¬ S l) : Same (restr S H) (restr S (upd H' l o)) := fun b u e => by
  have q := restr_some (s _ _ e)
  have hne : b ≠ l := fun z => h (by rw [← z]; exact q.1)
  exact restr_mk q.1 (by rw [upd_ne hne]; exact q.2)
/-! ### data -/
mutual
theorem Rep.imp2 {H H' : Hp} (f : ∀ p xs, H p = some (.lst xs) → H' p = some (.lst xs)) (g : ∀ p xs, H p = some (.tup xs) → H' p = some (.tup xs)) : ∀ {v : V} {d : PyData}, Rep H v d → Rep H' v d
  | _, _, .non => .non
  | _, _, .bl b => .bl b
  | _, _, .int i => .int i
  | _, _, .str x => .str x
  | _, _, .lst e r => .lst (f _ _ e) (Reps.imp2 f g r)
  | _, _, .tup e r => .tup (g _ _ e) (Reps.imp2 f g r)
theorem Reps.imp2 {H H' : Hp} (f : ∀ p xs, H p = some (.lst xs) → H' p = some (.lst xs)) (g : ∀ p xs, H p = some (.tup xs) → H' p = some (.tup xs)) : ∀ {vs : List V} {ds : List PyData}, Reps H vs ds → Reps H' vs ds
  | _, _, .nil => .nil
  | _, _, .cons a r => .cons (Rep.imp2 f g a) (Reps.imp2 f g r)
end
section
variable {G : Hp} {v : V} {vs : List V} {d : PyData} {ds : List PyData}
theorem rep_lst (h : Rep G v (.list ds)) : ∃ p xs, v = .ref p ∧ G p = some (.lst xs) ∧ Reps G xs ds := by
  cases h with
  | lst e r => exact ⟨_, _, rfl, e, r⟩
theorem rep_int {x : Int} (h : Rep G v (.int x)) : v = .int x := by cases h; rfl
end
mutual
def cnt : PyData → Nat
  | .none => 1
  | .bool _ => 1
  | .int _ => 1
  | .str _ => 1
  | .list xs => cntAll xs + 1
  | .tuple xs => cntAll xs + 1
  | .dict _ => 1
def cntAll : List PyData → Nat
  | [] => 0
  | x :: xs => cnt x + cntAll xs
end
theorem cnt_pos (d : PyData) : 1 ≤ cnt d := by cases d <;> simp [cnt]
theorem cnt_len : ∀ ds : List PyData, ds.length ≤ cntAll ds
  | [] => by simp [cntAll]
  | d :: r => by
    have := cnt_len r
    have := cnt_pos d
    simp only [cntAll, List.length_cons]
    omega
theorem cnt_at : ∀ {ds : List PyData} {i : Nat} {d : PyData}, ds[i]? = some d → cnt d ≤ cntAll ds ∧ PyData.depth d ≤ PyData.depthAll ds
  | [], _, _, e => by simp at e
  | d :: r, 0, _, e => by
    simp at e; subst e
    simp only [cntAll, PyData.depthAll]
    omega
  | x :: r, i + 1, d, e => by
    have := cnt_at (ds := r) (i := i) (d := d) (by simpa using e)
    simp only [cntAll, PyData.depthAll]
    omega
theorem Reps.get2 {H : Hp} : ∀ {vs : List V} {ds : List PyData} {i : Nat} {v : V}, Reps H vs ds → vs[i]? = some v → ∃ d, ds[i]? = some d ∧ Rep H v d
  | _, _, _, _, .nil, e => by simp at e
  | _, _, 0, _, .cons a _, e => by simp at e; subst e; exact ⟨_, rfl, a⟩
  | _, _, i + 1, v, .cons _ r, e => by
    obtain ⟨d, h1, h2⟩ := Reps.get2 (i := i) (v := v) r (by simpa using e)
    exact ⟨d, by simpa using h1, h2⟩
/-! ### attributes -/
theorem lk0 {k : Str} {v : V} {r : List (Str × V)} : List.lookup k ((k, v) :: r) = some v := by simp [List.lookup_cons]
theorem lk1 {k j : Str} {v : V} {r : List (Str × V)} {o : Option V} (h : (k == j) = false) (e : List.lookup k r = o) : List.lookup k ((j, v) :: r) = o := by
  rw [List.lookup_cons, h]
  exact e
theorem putF_nil {f : Str} {v : V} : putF f v [] = [(f, v)] := rfl
theorem putF_ne {f g : Str} {v x : V} {r : List (Str × V)} (h : ¬ g = f) : putF f v ((g, x) :: r) = (g, x) :: putF f v r := by rw [putF, if_neg h]
/-! ### a test that is known -/
theorem iteNo {c A B : Prop} [Decidable c] (hc : ¬ c) (h : B) : if decide c = true then A else B := by
  rw [decide_eq_false hc]
  exact iteF h
theorem iteYes {c A B : Prop} [Decidable c] (hc : c) (h : A) : if decide c = true then A else B := by
  rw [decide_eq_true hc]
  exact iteT h
theorem iteD {c A B : Prop} [Decidable c] (h1 : c → A) (h2 : ¬ c → B) : if decide c = true then A else B :=
  ite2 (fun h => h1 (of_decide_eq_true h)) (fun h => h2 fun hc => h (decide_eq_true hc))
theorem iteND {c A B : Prop} [Decidable c] (h1 : ¬ c → A) (h2 : c → B) : if (!decide c) = true then A else B :=
  ite2 (fun h => h1 fun hc => by rw [decide_eq_true hc] at h; cases h) (fun h => h2 (by
    by_cases hc : c
    · exact hc
    · rw [decide_eq_false hc] at h; exact absurd rfl h))
/-! ### a list or a tuple is walked -/
section
variable {X : Cx}
theorem pi_seq {tg l : Expr} {tl : TE} (hl : PE X l tl) : PI X tg l (fun σ H R => iList X.K tl σ H R ∨ iTup X.K tl σ H R) := fun pins s σ H R I h => h.elim (pi_list hl pins s σ H R I) (pi_tup hl pins s σ H R I)
end
/-! ### atI -/
theorem at_mapV {α : Type} {f : α → V} {xs : List α} {i : Int} (h0 : 0 ≤ i) (h1 : i < xs.length) : ∃ x, xs[i.toNat]? = some x ∧ atI (xs.map f) i = some (f x) := by
  obtain ⟨n, rfl⟩ := Int.eq_ofNat_of_zero_le h0
  have hn : n < xs.length := by omega
  exact ⟨xs[n], by simp [hn], atI_nat (by simp [hn])⟩
/-! ### comprehensions: the end is said of the heap alone -/
section
variable {K : PySem.W.Frag} {a D : Addr} {xs : List V} {g : TG} {te : TE} {QD : Hp → Prop} {σ₀ : St} {H : Hp}
theorem comp_listQ (Pv : Nat → List V → Hp → Prop) (h0 : Pv 0 [] (upd H D (.lst []))) (hl : ∀ i ys H, Pv i ys H → SqL K H a xs)
    (hs : ∀ i x ys H, xs[i]? = some x → Pv i ys H → g x σ₀ H fun σ4 H4 => StKeep σ₀ σ4 ∧ te σ4 H4 fun y H5 => H5 D = some (.lst ys) ∧ ys.length < sizeLine ∧ Pv (i + 1) (ys ++ [y]) (upd H5 D (.lst (ys ++ [y])))) (hd : ∀ ys H, Pv xs.length ys H → QD H) :
    ∃ W : Nat → Nat → Hp → Prop, (∃ m, W 0 m (upd H D (.lst []))) ∧ ∀ i m H2, W i m H2 →
      ((Itl K a).stop i H2 ∧ QD H2) ∨ ((Itl K a).go i H2 ∧ ∃ N : VK, (∀ y H5, N y H5 → ∃ xs, H5 D = some (.lst xs) ∧ xs.length < sizeLine ∧ ∃ m', m' < m ∧ W (i + 1) m' (upd H5 D (.lst (xs ++ [y])))) ∧
        ∀ x H3, (Itl K a).yld i H2 x H3 → g x σ₀ H3 fun σ4 H4 => StKeep σ₀ σ4 ∧ te σ4 H4 N) := comp_list (Q := fun _ H => QD H) Pv h0 hl hs hd
theorem comp_tupQ (Pv : Nat → List V → Hp → Prop) (h0 : Pv 0 [] (upd H D (.lst []))) (hl : ∀ i ys H, Pv i ys H → SqT K H a xs)
    (hs : ∀ i x ys H, xs[i]? = some x → Pv i ys H → g x σ₀ H fun σ4 H4 => StKeep σ₀ σ4 ∧ te σ4 H4 fun y H5 => H5 D = some (.lst ys) ∧ ys.length < sizeLine ∧ Pv (i + 1) (ys ++ [y]) (upd H5 D (.lst (ys ++ [y])))) (hd : ∀ ys H, Pv xs.length ys H → QD H) :
    ∃ W : Nat → Nat → Hp → Prop, (∃ m, W 0 m (upd H D (.lst []))) ∧ ∀ i m H2, W i m H2 →
      ((Itt K a).stop i H2 ∧ QD H2) ∨ ((Itt K a).go i H2 ∧ ∃ N : VK, (∀ y H5, N y H5 → ∃ xs, H5 D = some (.lst xs) ∧ xs.length < sizeLine ∧ ∃ m', m' < m ∧ W (i + 1) m' (upd H5 D (.lst (xs ++ [y])))) ∧
        ∀ x H3, (Itt K a).yld i H2 x H3 → g x σ₀ H3 fun σ4 H4 => StKeep σ₀ σ4 ∧ te σ4 H4 N) := comp_tup (Q := fun _ H => QD H) Pv h0 hl hs hd
end
/-! ### isinstance of an own class -/
end L2

/-! MY RULES: dict(d), for k in d, == and != of two dicts that hold the same, a comprehension with a test. -/
set_option linter.all false
namespace L2
open PySem PySem.Spec PyProof.Rows
section
variable {X : Cx}
/-! ### frozen while it is walked -/
theorem is_kV {P : Program} {w : World} {k : Key} {u : Value} (h : (mixKind P w).is k u = true) : RelV (kV k) u := by
  rcases keyIs_shape (show keyIs k u = true from h) with ⟨i, t, rfl, rfl⟩ | ⟨x, t, rfl, rfl⟩
  · exact ⟨t, rfl⟩
  · exact ⟨t, rfl⟩
theorem KV.at {kvs : List (Key × V)} {vs : List (Key × Value)} : KV kvs vs → ∀ {i : Nat} {k : Key} {v : V}, kvs[i]? = some (k, v) → ∃ u, vs[i]? = some (k, u) ∧ RelV v u := by
  intro r
  unfold KV at r
  induction r with
  | nil => intro i k v e; simp at e
  | @cons p q ps qs h t ih =>
    intro i k v e
    cases i with
    | zero =>
      simp at e
      subst e
      obtain ⟨h1, h2⟩ := h
      obtain ⟨q1, q2⟩ := q
      cases h1
      exact ⟨q2, rfl, h2⟩
    | succ j =>
      obtain ⟨u, e1, e2⟩ := ih (i := j) (by simpa using e)
      exact ⟨u, by simpa using e1, e2⟩
end
theorem same_thaw {H H2 : Hp} {a : Addr} {o : Obj} {u : HO} (ha : H a = some u) (s : Same (upd H a (.frz o u)) H2) : Same H (upd H2 a u) := fun b v e => by
  by_cases hb : b = a
  · subst hb
    rw [ha] at e
    cases e
    exact upd_same
  · rw [upd_ne hb]
    exact s b v (by rw [upd_ne hb]; exact e)
/-! ### two dicts that hold the same -/
section
variable {X : Cx}
end
end L2

/-! MY RULES: for k, v in d.items() with d of either kind of keys, d.setdefault, for c in text. -/
set_option linter.all false
set_option maxRecDepth 100000
namespace L2
open PySem PySem.Spec PyProof.Rows
section
variable {prog : Program} {w : World} {A : Around} {E : Value → Shared → Prop} {s : Shared}
theorem items_iter {v d : Addr} {od : Obj} {es : Array DictEntry} {ep : Nat} {Q : Value → Shared → Prop} (h1 : s.heap.IsItemsView v d) (h2 : s.heap.get? d = some od) (h3 : od.data = .dict es ep)
    (q : Q (.ref s.heap.objs.size) { s with heap := s.heap.push { cls := .type "dict_itemiterator", data := .fields #[.none, .bool false, .ref d, .int 0 0, .int es.size 0, .int ep 0, .none, .none] } }) :
    wpAny (model prog w) A (pyIter (.ref v)) Q E s := by
  obtain ⟨ov, g1, g2, g3⟩ := id h1
  refine wpAny_pyIter_slot h1.typeIs F.slot_dict_items_iter (wpAny_call_entry F.slot_dict_items_iter h1.typeIs F.entry_dict_items_iter ?_ (F.args_dict_items_iter_1 _)); unfold Builtin.«dict_items.__iter__»
  refine wpAny_bind (wpAny_pure (wpAny_bind ?_)); unfold Builtin.Dict_items.dictOf
  refine wpAny_bind (wpAny_field g1 g3 (x := .ref d) rfl (wpAny_pure (wpAny_bind ?_))); unfold Builtin.Dict_items.newIterator
  refine wpAny_bind (wpAny_dictEntries h2 h3 (wpAny_bind (wpAny_dictEpoch h2 h3 ?_)))
  simp only [show Builtin.Dict_items.ownsTuple "dict_itemiterator" = true by decide, if_true]
  refine wpAny_newObj_type (wpAny_pure ⟨_, rfl, "dict_itemiterator", _, ⟨_, Heap.get?_push_size _ rfl, rfl⟩, F.slot_dict_itemiterator_next.lookup, ?_⟩) (by
    simp only [sizeOk, Builtin.Dict_items.ownedTupleFields, List.size_toArray, List.length_append, List.length_cons, List.length_nil, sizeLine_eq]
    omega)
  simpa [rawInt, Builtin.Dict_items.ownedTupleFields] using q
theorem items_next {it d : Addr} {i n ep : Nat} {od : Obj} {es : Array DictEntry} {e : DictEntry} {x y : Value} {Q : Option Value → Shared → Prop}
    (h1 : IsItemIter s.heap it d i n ep x y) (h2 : s.heap.get? d = some od) (h3 : od.data = .dict es ep) (h4 : es.size = n) (h5 : es[i]? = some e)
    (q : ∀ h', IsItemIterOut h' it d (i + 1) n ep e.key e.val s.heap.objs.size → h'.get? s.heap.objs.size = some { cls := .type "tuple", data := .seq #[e.key, e.val] } →
      (∀ c u, c ≠ it → s.heap.get? c = some u → h'.get? c = some u) → Q (some (.ref s.heap.objs.size)) { s with heap := h' }) :
    wpAny (model prog w) A (pyNext (.ref it)) Q E s := by
  obtain ⟨hp, g, dr, tk, os⟩ := s
  have ty : Shared.TypeIs ⟨hp, g, dr, tk, os⟩ (.ref it) "dict_itemiterator" := ⟨_, h1, rfl⟩
  unfold pyNext
  refine wpAny_bind (wpAny_attempt (wpAny_callSpecial?_slot (name := Str.ofString "__next__") ty F.slot_dict_itemiterator_next (wpAny_call_entry F.slot_dict_itemiterator_next ty F.entry_dict_itemiterator_next ?_ (F.args_dict_itemiterator_next_1 _))))
  refine wpAny_bind (wpAny_pure (wpAny_bind (wpAny_bind ?_)))
  refine wpAny_bind (wpAny_typeNameOfWhole_itemiter ty (wpAny_pure (wpAny_bind (wpAny_fieldsOf h1 rfl ?_))))
  simp only [show Builtin.Dict_items.ownsTuple "dict_itemiterator" = true by decide, if_true]
  show wpAny _ _ (ite ((Value.ref d == Value.none) = true) _ _) _ _ _; rw [if_neg (show ¬ ((Value.ref d == Value.none) = true) from Bool.false_ne_true)]
  refine wpAny_bind (wpAny_pure (wpAny_bind (wpAny_dictEntries h2 h3 ?_)))
  rw [if_neg (by rw [h4]; simp)]
  refine wpAny_bind (wpAny_pure (wpAny_bind (wpAny_dictEpoch h2 h3 ?_)))
  rw [if_neg (by simp)]
  obtain ⟨lt, ee⟩ := Array.getElem?_eq_some_iff.mp h5
  refine wpAny_pure ?_
  simp only [show ¬ ((i : Int) < 0) from by omega, if_false, Int.toNat_natCast, h5]
  refine wpAny_bind (wpAny_bind (wpAny_typeNameOfWhole_itemiter ty (wpAny_pure (wpAny_bind (wpAny_isOneOf_itemiter ty ?_)))))
  show wpAny _ _ (setField (.ref it) 3 (rawInt ((i : Int) + 1)) >>= _) _ _ (⟨hp, g, dr, tk, os⟩ : Shared)
  refine wpAny_bind (wpAny_setField_rec h1 (by simp) fun k1 e1 s1 => ?_)
  replace s1 : Heap.SameBut it hp k1 := s1
  replace e1 : IsItemIter k1 it d (i + 1) n ep x y := by
    have z : ((i + 1 : Nat) : Int) = (i : Int) + 1 := by omega
    unfold IsItemIter
    rw [z]
    simpa [rawInt] using e1
  have ty1 : Shared.TypeIs ⟨k1, g, dr, tk, os⟩ (.ref it) "dict_itemiterator" := ⟨_, e1, rfl⟩
  refine wpAny_bind (wpAny_holding (wpAny_bind (wpAny_isOneOf_itemiter ty1 (wpAny_bind (wpAny_isOneOf_itemiter ty1 ?_)))))
  show wpAny _ _ (Builtin.Dict_items.pairFromOwner (.ref it) 6 e.key e.val) _ _ (⟨k1, g, dr, tk, os⟩ : Shared)
  unfold Builtin.Dict_items.pairFromOwner; refine wpAny_bind (wpAny_newTuple ?_)
  have z1 : k1.objs.size = hp.objs.size := s1.1
  have li : it < hp.objs.size := Heap.lt_size h1
  have e2 : IsItemIter (k1.push { cls := .type "tuple", data := .seq #[e.key, e.val] }) it d (i + 1) n ep x y := Heap.get?_push_of_some _ e1
  have t2 : (k1.push { cls := .type "tuple", data := .seq #[e.key, e.val] }).get? hp.objs.size = some { cls := .type "tuple", data := .seq #[e.key, e.val] } := by rw [← z1]; exact Heap.get?_push_size _ rfl
  have m2 : ∀ b o, b ≠ it → hp.get? b = some o → (k1.push { cls := .type "tuple", data := .seq #[e.key, e.val] }).get? b = some o := fun b o hb z => Heap.get?_push_of_some _ (s1.extBut b o hb z)
  generalize k1.push { cls := .type "tuple", data := .seq #[e.key, e.val] } = k2 at e2 t2 m2
  show wpAny _ _ (Builtin.Dict_items.ownedTupleIsFree (.ref it) >>= _) _ _ (⟨k2, g, dr, tk, os⟩ : Shared)
  rw [z1]
  clear e1 s1 ty1 z1 k1
  refine wpAny_bind ?_; unfold Builtin.Dict_items.ownedTupleIsFree
  refine wpAny_bind (wpAny_field e2 rfl (x := .none) rfl (wpAny_pure ?_))
  simp only [if_true]
  refine wpAny_bind (wpAny_field e2 rfl (x := x) rfl (wpAny_bind (wpAny_field e2 rfl (x := y) rfl (wpAny_bind (wpAny_setField_rec e2 (by simp) fun k3 e3 s3 => ?_)))))
  replace s3 : Heap.SameBut it k2 k3 := s3
  replace e3 : IsItemIter k3 it d (i + 1) n ep e.key y := e3
  refine wpAny_bind (wpAny_setField_rec e3 (by simp) fun k4 e4 s4 => ?_)
  replace s4 : Heap.SameBut it k3 k4 := s4
  replace e4 : IsItemIter k4 it d (i + 1) n ep e.key e.val := e4
  refine wpAny_bind (wpAny_setField_rec e4 (by simp) fun k5 e5 s5 => ?_)
  replace s5 : Heap.SameBut it k4 k5 := s5
  replace e5 : IsItemIterOut k5 it d (i + 1) n ep e.key e.val hp.objs.size := e5
  refine wpAny_bind (wpAny_setField_rec e5 (by simp) fun k6 e6 s6 => ?_)
  replace s6 : Heap.SameBut it k5 k6 := s6
  replace e6 : IsItemIterOut k6 it d (i + 1) n ep e.key e.val hp.objs.size := e6
  have all : ∀ b o, b ≠ it → k2.get? b = some o → k6.get? b = some o := fun b o hb z => s6.extBut b o hb (s5.extBut b o hb (s4.extBut b o hb (s3.extBut b o hb z)))
  exact wpAny_bind (wpAny_letGo (wpAny_pure (wpAny_pure ⟨_, rfl, wpAny_pure (q k6 e6 (all _ _ (Nat.ne_of_gt li) t2) fun b o hb z => all b o hb (m2 b o hb z))⟩)))
theorem items_end {it d : Addr} {i n ep : Nat} {od : Obj} {es : Array DictEntry} {x y : Value} {Q : Option Value → Shared → Prop} (hh : A.handled = none)
    (h1 : IsItemIter s.heap it d i n ep x y) (h2 : s.heap.get? d = some od) (h3 : od.data = .dict es ep) (h4 : es.size = n) (h5 : n ≤ i)
    (q : ∀ h', Heap.ExtBut it s.heap h' → Q none { s with heap := h' }) : wpAny (model prog w) A (pyNext (.ref it)) Q E s := by
  have ty : s.TypeIs (.ref it) "dict_itemiterator" := ⟨_, h1, rfl⟩
  unfold pyNext
  refine wpAny_bind (wpAny_attempt (wpAny_callSpecial?_slot (name := Str.ofString "__next__") ty F.slot_dict_itemiterator_next (wpAny_call_entry F.slot_dict_itemiterator_next ty F.entry_dict_itemiterator_next ?_ (F.args_dict_itemiterator_next_1 _))))
  refine wpAny_bind (wpAny_pure (wpAny_bind (wpAny_bind ?_)))
  refine wpAny_bind (wpAny_typeNameOfWhole_itemiter ty (wpAny_pure (wpAny_bind (wpAny_fieldsOf h1 rfl ?_))))
  simp only [show Builtin.Dict_items.ownsTuple "dict_itemiterator" = true by decide, if_true]
  show wpAny _ _ (ite ((Value.ref d == Value.none) = true) _ _) _ _ _; rw [if_neg (show ¬ ((Value.ref d == Value.none) = true) from Bool.false_ne_true)]
  refine wpAny_bind (wpAny_pure (wpAny_bind (wpAny_dictEntries h2 h3 ?_)))
  rw [if_neg (by rw [h4]; simp)]
  refine wpAny_bind (wpAny_pure (wpAny_bind (wpAny_dictEpoch h2 h3 ?_)))
  rw [if_neg (by simp)]
  refine wpAny_pure ?_
  simp only [show ¬ ((i : Int) < 0) from by omega, if_false, Int.toNat_natCast, Array.getElem?_eq_none (show es.size ≤ i by omega)]
  refine wpAny_bind (wpAny_bind (wpAny_typeNameOfWhole_itemiter ty (wpAny_pure ?_)))
  show wpAny _ _ (setField (.ref it) 2 .none >>= _) _ _ _
  refine wpAny_bind (wpAny_setField h1 rfl (by simp) ?_)
  show wpAny _ _ (newExc (.type "StopIteration") [] >>= _) _ _ (_ : Shared)
  refine wpAny_bind ?_
  simp only [newExc, newTuple]
  refine wpAny_bind (wpAny_newObj_type (wpAny_bind (m := firstArgMember _ _) (wpAny_of_eq (a := Value.none) (by first | rfl | (simp only [firstArgMember]; rfl)) (wpAny_newObj_type ?_ (by size_fits)))) (by size_fits))
  simp only [raiseNew]
  refine wpAny_bind (wpAny_handled ?_)
  rw [show A.in1.handled = none from hh]
  refine wpAny_bind (wpAny_pure (wpAny_throw ?_))
  refine wpAny_bind (wpAny_isInstance (T := "StopIteration") (b := true) ⟨_, Heap.get?_push_size _ rfl, rfl⟩ isSubtype_stop (wpAny_pure ?_))
  exact q _ (((Heap.SameBut.update ..).extBut.push _).push _)
theorem entry_iiter : entryFor table "dict_itemiterator.__iter__" = some Builtin.«dict_keyiterator.__iter__» := entryFor_alias (id' := "dict_keyiterator.__iter__") (by kernel_rfl) rfl (by decide +kernel) (by kernel_rfl)
theorem items_self {it d : Addr} {i n ep : Nat} {x y : Value} {Q : Value → Shared → Prop} (st : IsItemIter s.heap it d i n ep x y) (h : Q (.ref it) s) : wpAny (model prog w) A (pyIter (.ref it)) Q E s := by
  have ty : s.TypeIs (.ref it) "dict_itemiterator" := ⟨_, st, rfl⟩
  refine wpAny_pyIter_slot ty F.slot_dict_itemiterator_iter (wpAny_call_entry F.slot_dict_itemiterator_iter ty entry_iiter ?_ (F.args_dict_itemiterator_iter_1 _)); show wpAny _ _ (ret (.ref it)) _ _ s
  exact wpAny_pure ⟨_, rfl, "dict_itemiterator", _, ty, F.slot_dict_itemiterator_next.lookup, h⟩
/-- d.items(), the dict known by its type alone -/
theorem items_view (d : Addr) (hd : (d == sysModules) = false) :
    MeetsIn prog w (Builtin.«dict.items» ⟨[.ref d], []⟩) (fun _ R s => s.TypeIs (.ref d) "dict" ∧ R (.ok (.ret (.ref s.heap.objs.size))) { s with heap := s.heap.push { cls := .type "dict_items", data := .fields #[.ref d] } }) :=
  .of_wp fun A R s ⟨ty, q⟩ => by
    unfold Builtin.«dict.items»; refine wpAny_bind ?_; unfold Builtin.Dict.noArgs
    refine wpAny_bind (wpAny_notOrdered_dict ty ?_); show wpAny _ _ (pure d) _ _ s
    refine wpAny_pure ?_; show wpAny _ _ (Builtin.Dict.showsAll d >>= _) _ _ s
    unfold Builtin.Dict.showsAll; rw [if_neg (by rw [hd]; exact Bool.false_ne_true)]
    exact wpAny_bind (wpAny_pure (wpAny_bind (wpAny_newObj_type (wpAny_pure ⟨_, rfl, q⟩))))
end
section
variable {X : Cx}
/-- a dict of either kind of keys -/
def isD (u : HO) : Prop := (∃ kvs, u = .dK kvs) ∨ ∃ kvs, u = .dT kvs
/-- the view that d.items() gives -/
def viewO (v d : Addr) : HO := .ext fun h => h.IsItemsView v d
theorem viewO_ok {P : Program} {w : World} {H : Hp} {h : Heap} {v d : Addr} (e : h.IsItemsView v d) : ObjOk P w H h v (viewO v d) :=
  ⟨e, let ⟨o, e1, _⟩ := e; ⟨o, e1⟩, fun h1 h2 ⟨o, e1, e2⟩ k => ⟨o, k o e1, e2⟩⟩
theorem isD_obj {P : Program} {w : World} {H : Hp} {h : Heap} {a : Addr} {u : HO} (hu : isD u) (x : ObjOk P w H h a u) : (a == sysModules) = false ∧ ∃ o es ep, h.get? a = some o ∧ o.ExactDict ∧ o.data = .dict es ep := by
  rcases hu with ⟨kvs, rfl⟩ | ⟨kvs, rfl⟩
  · obtain ⟨hz, hs, vs, rel, o, es, ep, ho, hx, hd, r⟩ := x
    exact ⟨hs, o, es, ep, ho, hx, hd⟩
  · obtain ⟨hz, hs, vs, rel, o, es, ep, ho, hx, hd, r⟩ := x
    exact ⟨hs, o, es, ep, ho, hx, hd⟩
def rItems : V → List V → Hp → VK → Prop := fun x vs H Q => ∃ a u, x = .ref a ∧ vs = [] ∧ H a = some u ∧ isD u ∧ ∀ p, H p = none → Q (.ref p) (upd H p (viewO p a))
theorem mt_items : MtR X "dict.items" rItems := by
  intro pins s σ H x xs v us Q I rx rv h
  obtain ⟨a, u, rfl, rfl, ha, hu, q⟩ := h
  cases rx
  cases rv
  obtain ⟨hs, o, es, ep, ho, hx, hd⟩ := isD_obj hu (I.hok a u ha)
  have ty : s.TypeIs (.ref a) "dict" := ⟨o, ho, hx.1⟩
  refine call_meetsIn PySem.F.slot_dict_items ty PySem.F.entry_dict_items (PySem.F.args_dict_items_1 _) (items_view a hs) ⟨ty, ?_⟩
  exact ⟨.ref s.heap.objs.size, _, I.laid (t' := s.toks) (o := viewO s.heap.objs.size a) (fun b u e => Heap.get?_push_of_some _ e) (Nat.le_refl _) (viewO_ok ⟨_, Heap.get?_push_size _ rfl, rfl, rfl⟩), rfl, q _ (I.hok.fresh (Nat.le_refl _))⟩
/-! ### frozen and thawed, either kind -/
theorem Inv.frozenD {pins : List (Addr × Obj)} {σ : St} {H : Hp} {s : Shared} {a : Addr} {o : Obj} {u : HO} (I : Inv X pins σ H s) (ha : H a = some u) (hu : isD u) (ho : s.heap.get? a = some o) : Inv X pins σ (upd H a (.frz o u)) s := by
  have nt : ∀ b xs, H b = some (.tup xs) → upd H a (.frz o u) b = some (.tup xs) := fun b xs q => by
    rw [upd_ne (ne_of q ha (by rcases hu with ⟨_, rfl⟩ | ⟨_, rfl⟩ <;> intro z <;> cases z))]; exact q
  have no : ∀ b, H b = some (.own a) → upd H a (.frz o u) b = some (.own a) := fun b q => by
    rw [upd_ne (ne_of q ha (by rcases hu with ⟨_, rfl⟩ | ⟨_, rfl⟩ <;> intro z <;> cases z))]; exact q
  have new : ObjOk X.prog X.w (upd H a (.frz o u)) s.heap a (.frz o u) := ⟨ho, (I.hok a u ha).stay (fun _ _ _ q => q) no nt⟩
  exact I.write (t' := s.toks) (h' := s.heap) (e := a) (by rw [ha]; rcases hu with ⟨_, rfl⟩ | ⟨_, rfl⟩ <;> trivial) (.inl rfl) (fun _ _ _ e => e) ⟨o, ho⟩ new
theorem Inv.thawD {pins : List (Addr × Obj)} {σ : St} {H : Hp} {s : Shared} {a : Addr} {o : Obj} {u : HO} (I : Inv X pins σ H s) (ha : H a = some (.frz o u)) (hu : isD u) (h0 : ∀ o' u', X.H₀ a ≠ some (.frz o' u')) : Inv X pins σ (upd H a u) s := by
  have nf : ∀ b, H b = none → upd H a u b = none := fun b e => by rw [upd_ne (fun z => by subst z; rw [ha] at e; cases e)]; exact e
  have nt : ∀ b xs, H b = some (.tup xs) → upd H a u b = some (.tup xs) := fun b xs q => by rw [upd_ne (ne_of q ha (by intro z; cases z))]; exact q
  have no : ∀ b c, H b = some (.own c) → upd H a u b = some (.own c) := fun b c q => by rw [upd_ne (ne_of q ha (by intro z; cases z))]; exact q
  refine ⟨I.ok, I.os, I.bare, ⟨I.base.keep, I.base.slot, fun b ob e n hx => nf b (I.base.free b ob e n hx), I.base.there, fun b xs e => nt b xs (I.base.tups b xs e), fun b ob u' e => ?_, fun b ps e => ?_⟩, I.loc, I.cell, nf _ I.free, fun x c e => nf _ (I.freeC x c e),
    fun p hp => ⟨(I.pin p hp).1, nf _ (I.pin p hp).2.1, (I.pin p hp).2.2⟩, fun b v e => ?_, I.len⟩
  · have q := I.base.frzs b ob u' e
    rw [upd_ne (fun z => by subst z; exact h0 _ _ e)]; exact q
  · obtain ⟨more, q⟩ := I.base.tbls b ps e
    exact ⟨more, by rw [upd_ne (ne_of q ha (by intro z; cases z))]; exact q⟩
  · by_cases hb : b = a
    · subst hb
      rw [upd_same] at e
      cases e
      obtain ⟨_, q⟩ := (show ObjOk X.prog X.w H s.heap b (.frz o u) from I.hok b _ ha)
      exact q.stay (fun _ _ _ q => q) (fun c q => no c b q) fun c xs q => nt c xs q
    · rw [upd_ne hb] at e
      exact (I.hok b v e).stay (fun _ _ _ q => q) (fun c q => no c b q) fun c xs q => nt c xs q
def tThawD (X : Cx) (t : TS) : TS := fun D σ H => ∃ a o u, H a = some (.frz o u) ∧ isD u ∧ (∀ o' u', X.H₀ a ≠ some (.frz o' u')) ∧ t D σ (upd H a u)
theorem pss_thawD {sts : List Stmt} {t : TS} (h : PSs X sts t) : PSs X sts (tThawD X t) := by
  intro pins s σ H D I hw
  obtain ⟨a, o, u, ha, hu, h0, q⟩ := hw
  exact h pins s σ _ D (I.thawD ha hu h0) q
/-! ### for k, v in d.items() -/
/-- what the entries give, in order: key and value -/
abbrev Ents (es : Array DictEntry) (L : List (V × V)) : Prop := Paired (fun (e : DictEntry) (p : V × V) => RelV p.1 e.key ∧ RelV p.2 e.val) es.toList L
def Iti (a : Addr) (o : Obj) (u : HO) (L : List (V × V)) : It :=
  ⟨fun i H => H a = some (.frz o u) ∧ i < L.length, fun i H x H' => ∃ k v p, L[i]? = some (k, v) ∧ H p = none ∧ x = .ref p ∧ H' = upd H p (.tup [k, v]), fun i H => H a = some (.frz o u) ∧ i = L.length⟩
theorem paired_len {α β : Type} {F : α → β → Prop} : ∀ {l : List α} {m : List β}, Paired F l m → l.length = m.length
  | _, _, .nil => rfl
  | _, _, .cons _ t => by simp [paired_len t]
theorem paired_at {α β : Type} {F : α → β → Prop} : ∀ {l : List α} {m : List β}, Paired F l m → ∀ {i : Nat} {y : β}, m[i]? = some y → ∃ x, l[i]? = some x ∧ F x y
  | _, _, .nil, i, y, e => by simp at e
  | _, _, .cons r t, 0, y, e => by simp at e; subst e; exact ⟨_, rfl, r⟩
  | _, _, .cons r t, i + 1, y, e => by
    obtain ⟨x, e1, e2⟩ := paired_at t (i := i) (by simpa using e)
    exact ⟨x, by simpa using e1, e2⟩
theorem turn_items {P : Program} {w : World} {K : PySem.W.Frag} {elts : List Expr} {kk : Nat} {pos : Pos} (it a : Addr) (o : Obj) (u : HO) (L : List (V × V)) (es : Array DictEntry) (ep : Nat) (ho : o.data = .dict es ep) (rl : Ents es L) :
    Turn P w K (.Tuple elts kk pos) (Iti a o u L) [it] it (fun i h => ∃ x y, IsItemIter h it a i es.size ep x y) where
  mem := by simp
  obj := fun i h st b hb => by
    have e : b = it := by simpa using hb
    subst e
    obtain ⟨x, y, e⟩ := st
    exact ⟨_, e, fun v z => by cases (show Data.fields _ = Data.cell v from z)⟩
  keep := fun i h h' st k => let ⟨x, y, e⟩ := st; ⟨x, y, k it (by simp) _ e⟩
  item := by
    intro X hP hw hK hc i pins s σ H E I hf st hg
    subst hP hw hK
    obtain ⟨ha, hi⟩ := hg
    obtain ⟨x, y, st⟩ := st
    have hl : es.size = L.length := by have := paired_len rl; simpa using this
    obtain ⟨⟨k, v⟩, hkv⟩ : ∃ p, L[i]? = some p := ⟨L[i], by simp [hi]⟩
    obtain ⟨e, he, r1, r2⟩ := paired_at rl hkv
    obtain ⟨hob, _⟩ := (show ObjOk X.prog X.w H s.heap a (.frz o u) from I.hok a _ ha)
    refine items_next st hob ho rfl (e := e) (by simpa using he) fun h' z1 z2 kp => ?_
    refine ⟨_, rfl, wpAny_letOwnedTupleGo_items (s := { s with heap := h' }) z1 fun g zg sb => ?_⟩
    have nz : s.heap.objs.size ≠ it := Nat.ne_of_gt (Heap.lt_size st)
    have I1 : Inv X pins σ (upd H s.heap.objs.size (.tup [k, v])) { s with heap := g, toks := s.toks } := I.turnedNew (ts := [it]) (fun c o hc e => by
      have hc' : c ≠ it := by simpa using hc
      exact sb.extBut _ _ hc' (kp c o hc' e)) hf (Nat.le_refl _) ⟨by show 2 ≤ sizeLine; decide, [e.key, e.val], .cons r1 (.cons r2 .nil), ⟨_, sb.extBut _ _ nz z2, rfl, _, rfl⟩⟩
    refine ⟨.ref s.heap.objs.size, _, I1, rfl, ⟨k, v, _, hkv, I.hok.fresh (Nat.le_refl _), rfl, rfl⟩, ⟨_, _, zg⟩, fun c hc => ?_⟩
    have hcn : c = it := by simpa using hc
    subst hcn
    rw [upd_ne nz.symm]
    exact (hf c hc).1
  done := by
    intro X hP hw hK hc i pins s σ H E I hf st hg
    subst hP hw hK
    obtain ⟨ha, hi⟩ := hg
    obtain ⟨x, y, st⟩ := st
    have hl : es.size = L.length := by have := paired_len rl; simpa using this
    obtain ⟨hob, _⟩ := (show ObjOk X.prog X.w H s.heap a (.frz o u) from I.hok a _ ha)
    obtain ⟨f0, f1, f2, f3, f4, f5⟩ := hf it (by simp)
    exact items_end (I.ok.hd hc) st hob ho rfl (by omega) fun h' eb => ⟨rfl, I.turned (t' := s.toks) (fun b ob hb e => eb b ob hb e) f0 f1 f3 f4 f5⟩
  self := fun _ _ s _ _ st h => by
    obtain ⟨x, y, st⟩ := st
    exact items_self st h
end
end L2

/-! MY RULES: for k, v in d.items() (the loop), d.setdefault(k, v), for c in text. -/
set_option linter.all false
namespace L2
open PySem PySem.Spec PyProof.Rows
section
/-- the keys of a dict of tuples as the walk hands them out, with their values -/
abbrev KL (H : Hp) (kvs : List (List Key × V)) (L : List (V × V)) : Prop := Paired (fun (p : List Key × V) (q : V × V) => ∃ b, q.1 = .ref b ∧ H b = some (.tup (p.1.map kV)) ∧ q.2 = p.2) kvs L
theorem paired_of {α β : Type} {F : α → β → Prop} : ∀ {l : List α} {m : List β}, l.length = m.length → (∀ (i : Nat) (x : α) (y : β), l[i]? = some x → m[i]? = some y → F x y) → Paired F l m
  | [], [], _, _ => .nil
  | [], _ :: _, e, _ => by simp at e
  | _ :: _, [], e, _ => by simp at e
  | x :: l, y :: m, e, h => .cons (h 0 x y rfl rfl) (paired_of (by simpa using e) fun i a b p q => h (i + 1) a b (by simpa using p) (by simpa using q))
theorem ents_k {P : Program} {w : World} {kvs : List (Key × V)} {vs : List (Key × Value)} {es : Array DictEntry} (r : KV kvs vs) (p : Pairs (mixKind P w) es.toList vs) : Ents es (kvs.map fun q => (kV q.1, q.2)) := by
  refine paired_of (by rw [p.length, List.length_map]; exact r.length.symm) fun i e y he hy => ?_
  rw [List.getElem?_map] at hy
  obtain ⟨⟨k, v⟩, hk, rfl⟩ := Option.map_eq_some_iff.mp hy
  obtain ⟨u, hu, ru⟩ := r.at hk
  obtain ⟨h1, h2⟩ := p.get? he hu
  subst h2
  exact ⟨is_kV h1, ru⟩
theorem ents_t {P : Program} {w : World} {H : Hp} : ∀ {kvs : List (List Key × V)} {xs : List (List Key × Addr × Value)}, KT H kvs xs →
    ∃ L, Paired (fun (e : DictEntry) (p : V × V) => RelV p.1 e.key ∧ RelV p.2 e.val) (xs.map (entryOfKey (tupleKind (mixKind P w)))) L ∧ KL H kvs L
  | _, _, .nil => ⟨[], .nil, .nil⟩
  | _, _, @Paired.cons _ _ _ p q _ _ h t => by
    obtain ⟨L, h1, h2⟩ := ents_t (P := P) (w := w) t
    exact ⟨(.ref q.2.1, p.2) :: L, .cons ⟨rfl, h.2.2⟩ h1, .cons ⟨q.2.1, rfl, h.2.1, rfl⟩ h2⟩
def iItems (tl : TE) : TI := fun σ H R => tl σ H fun x H1 => ∃ v a u, x = .ref v ∧ H1 v = some (viewO v a) ∧ H1 a = some u ∧
  ((∃ kvs, u = .dK kvs ∧ ∀ o, R (Iti a o u (kvs.map fun q => (kV q.1, q.2))) (upd H1 a (.frz o u))) ∨ ∃ kvs, u = .dT kvs ∧ ∀ o L, KL H1 kvs L → R (Iti a o u L) (upd H1 a (.frz o u)))
theorem pi_items {X : Cx} {l : Expr} {tl : TE} {elts : List Expr} {kk : Nat} {pos : Pos} (hl : PE X l tl) : PI X (.Tuple elts kk pos) l (iItems tl) := by
  intro pins s σ H R I h
  refine thn (hl pins s σ H _ I h) fun y s1 ⟨x, H1, I1, rx, v, a, u, ex, hv, ha, q⟩ => ?_
  subst ex
  cases rx
  obtain ⟨vw, _⟩ := (show ObjOk X.prog X.w H1 s1.heap v (viewO v a) from I1.hok v _ hv)
  have go : ∀ (o : Obj) (es : Array DictEntry) (ep : Nat) (L : List (V × V)), s1.heap.get? a = some o → o.data = .dict es ep → isD u → Ents es L → R (Iti a o u L) (upd H1 a (.frz o u)) →
      wpAny (model X.prog X.w) X.A (pyIter (.ref v)) (PIE X pins σ (.Tuple elts kk pos) R) X.xe s1 := by
    intro o es ep L ho hd hu rl qq
    refine items_iter vw ho hd ?_
    have I2 : Inv X pins σ H1 { s1 with heap := s1.heap.push { cls := .type "dict_itemiterator", data := .fields #[.none, .bool false, .ref a, .int 0 0, .int es.size 0, .int ep 0, .none, .none] }, toks := s1.toks } := I1.kept fun b ob e => Heap.get?_push_of_some _ e
    have I3 := I2.frozenD ha hu (Heap.get?_push_of_some _ ho)
    refine ⟨_, [s1.heap.objs.size], _, _, _, rfl, I3, turn_items _ a o u L es ep hd rl, ⟨.none, .none, Heap.get?_push_size _ rfl⟩, fun b hb => ?_, qq⟩
    have e : b = s1.heap.objs.size := by simpa using hb
    subst e
    refine I1.fpOk (Nat.le_refl _) ?_
    rw [upd_ne (Nat.ne_of_gt (I1.hok.lt ha))]
    exact I1.hok.fresh (Nat.le_refl _)
  rcases q with ⟨kvs, rfl, q⟩ | ⟨kvs, rfl, q⟩
  · obtain ⟨hz, hs, vs, rel, o, es, ep, ho, hx, hd, _, r, _⟩ := dk_of I1.hok ha
    exact go o es ep _ ho hd (.inl ⟨_, rfl⟩) (ents_k rel r) (q o)
  · obtain ⟨hz, hs, xs, rel, o, es, ep, ho, hx, hd, he, _⟩ := (show ObjOk X.prog X.w H1 s1.heap a (.dT kvs) from I1.hok a _ ha)
    obtain ⟨L, h1, h2⟩ := ents_t (P := X.prog) (w := X.w) rel
    exact go o es ep L ho hd (.inr ⟨_, rfl⟩) (by unfold Ents; rw [he]; exact h1) (q o L h2)
theorem for_items {a : Addr} {o : Obj} {u : HO} {L : List (V × V)} {g : TG} {tb : TS} {D : Ends} {σ : St} {H : Hp} (Pv : Nat → St → Hp → Prop) (h0 : Pv 0 σ H) (hl : ∀ i σ H, Pv i σ H → H a = some (.frz o u))
    (hs : ∀ i k v p σ H, L[i]? = some (k, v) → H p = none → Pv i σ H → g (.ref p) σ (upd H p (.tup [k, v])) fun σ2 H2 => tb { D with nx := Pv (i + 1), ct := Pv (i + 1), bk := D.nx } σ2 H2) (hd : ∀ σ H, Pv L.length σ H → D.nx σ H) :
    ∃ W : Nat → Nat → St → Hp → Prop, (∃ m, W 0 m σ H) ∧ ∀ i m σ H, W i m σ H →
      ((Iti a o u L).stop i H ∧ D.nx σ H) ∨ ((Iti a o u L).go i H ∧ ∃ N : St → Hp → Prop, (∀ σ' H', N σ' H' → ∃ m', m' < m ∧ W (i + 1) m' σ' H') ∧ ∀ x H', (Iti a o u L).yld i H x H' → g x σ H' fun σ2 H2 => tb { D with nx := N, ct := N, bk := D.nx } σ2 H2) := by
  refine ⟨fun i m σ H => m = L.length - i ∧ i ≤ L.length ∧ Pv i σ H, ⟨L.length, by simp, Nat.zero_le _, h0⟩, ?_⟩
  rintro i m σ H ⟨rfl, hi, p⟩
  by_cases hlt : i < L.length
  · refine .inr ⟨⟨hl i σ H p, hlt⟩, Pv (i + 1), fun σ' H' p' => ⟨L.length - (i + 1), by omega, rfl, hlt, p'⟩, fun x H' y => ?_⟩
    obtain ⟨k, v, q, e1, e2, rfl, rfl⟩ := y
    exact hs i k v q σ _ e1 e2 p
  · have e : i = L.length := by omega
    subst e
    exact .inl ⟨⟨hl _ σ H p, rfl⟩, hd σ H p⟩
/-! ### d.setdefault(k, v) -/
/-! ### for c in text -/
/-! ### a rule that may go either way -/
end
end L2

/-! MY RULES: a dict's keys stand apart; a copy laid key by key. -/
set_option linter.all false
namespace L2
open PySem PySem.Spec PyProof.Rows
section
variable {X : Cx}
def Apart (H : Hp) : Prop := (∀ a kvs, H a = some (.dK kvs) → (kvs.map (·.1)).Nodup) ∧ ∀ a kvs, H a = some (.dT kvs) → (kvs.map (·.1)).Nodup
theorem kv_keys {kvs : List (Key × V)} {vs : List (Key × Value)} (r : KV kvs vs) : kvs.map (·.1) = vs.map (·.1) := by
  unfold KV at r
  induction r with
  | nil => rfl
  | cons h t ih => rw [List.map_cons, List.map_cons, ih, h.1]
theorem kt_keys {H : Hp} {kvs : List (List Key × V)} {xs : List (List Key × Addr × Value)} (r : KT H kvs xs) : kvs.map (·.1) = xs.map (·.1) := by
  induction r with
  | nil => rfl
  | cons h t ih => rw [List.map_cons, List.map_cons, ih, h.1]
theorem Inv.apart {pins : List (Addr × Obj)} {σ : St} {H : Hp} {s : Shared} (I : Inv X pins σ H s) : Apart H := by
  refine ⟨fun a kvs e => ?_, fun a kvs e => ?_⟩
  · obtain ⟨_, _, vs, rel, o, es, ep, _, _, _, _, _, n⟩ := dk_of I.hok e
    rw [kv_keys rel]
    exact n
  · obtain ⟨_, _, xs, rel, o, es, ep, _, _, _, _, n⟩ := (show ObjOk X.prog X.w H s.heap a (.dT kvs) from I.hok a _ e)
    rw [kt_keys rel]
    exact n
theorem pss_know {sts : List Stmt} {t : TS} (h : PSs X sts t) : PSs X sts (fun D σ H => Apart H → t D σ H) := fun pins s σ H D I q => h pins s σ H D I (q I.apart)
theorem put_next {κ : Type} [DecidableEq κ] {kvs : List (κ × V)} {i : Nat} {k : κ} {v : V} (n : (kvs.map (·.1)).Nodup) (h : kvs[i]? = some (k, v)) (ws : List (κ × V)) (e : ws.map (·.1) = (kvs.take i).map (·.1)) (u : V) : putK ws k u = ws ++ [(k, u)] := by
  unfold putK
  rw [if_neg]
  intro a
  obtain ⟨p, hp, ek⟩ := List.any_eq_true.mp a
  have ek : p.1 = k := by simpa using ek
  have hm : k ∈ ws.map (·.1) := List.mem_map.mpr ⟨p, hp, ek⟩
  rw [e] at hm
  obtain ⟨q, hq, eq⟩ := List.mem_map.mp hm
  obtain ⟨j, hj, ej⟩ := List.mem_iff_getElem.mp hq
  have hji : j < i := by have := List.length_take_le i kvs; omega
  rw [List.getElem_take] at ej
  obtain ⟨hi, ei⟩ := List.getElem?_eq_some_iff.mp h
  have hjl : j < kvs.length := by omega
  have h1 : (kvs.map fun x => x.1)[j]? = some k := by rw [List.getElem?_map, List.getElem?_eq_getElem hjl, ej]; exact congrArg some eq
  have h2 : (kvs.map fun x => x.1)[i]? = some k := by rw [List.getElem?_map, h]; rfl
  obtain ⟨l1, e1⟩ := List.getElem?_eq_some_iff.mp h1
  obtain ⟨l2, e2⟩ := List.getElem?_eq_some_iff.mp h2
  have : j = i := (List.getElem_inj n).mp (e1.trans e2.symm)
  omega
end
end L2

/-! MY RULES: a comprehension that takes several names over, dict(list of pairs), == and != of dicts that hold the same data. -/
set_option linter.all false
set_option maxRecDepth 100000
namespace L2
open PySem PySem.Spec PyProof.Rows
section
variable {prog : Program} {w : World} {K : Type} [DecidableEq K] {knd : KeyKind prog w K} {A : Around} {R : Result → Shared → Prop} {I l d : Addr} {items : Array Value} {rs : List (K × Value)} {h₀ : Heap} {g : Array GenState} {dr : Drawn} {os : OsState}
end
end L2
namespace L2
open PySem PySem.Spec PyProof.Rows
/-! ### a comprehension that takes several names over -/
def CellsIn (env : Env) : List (Str × Addr) → Prop
  | [] => True
  | p :: r => env.cells.lookup p.1 = some p.2 ∧ CellsIn env r
theorem CellsIn.get {env : Env} : ∀ {cl : List (Str × Addr)}, CellsIn env cl → ∀ {x : Str} {c : Addr}, cl.lookup x = some c → env.cells.lookup x = some c
  | [], _, _, _, h => by cases h
  | (y, d) :: r, h, x, c, e => by
    rw [List.lookup_cons] at e
    split at e
    · rename_i hb
      have hb' : x = y := by simpa using hb
      cases e
      subst hb'
      exact h.1
    · exact CellsIn.get h.2 e
theorem lookup_of_mem {x : Str} : ∀ {cl : List (Str × Addr)}, x ∈ cl.map (·.1) → ∃ c, cl.lookup x = some c
  | [], h => by cases h
  | (y, d) :: r, h => by
    rw [List.lookup_cons]
    cases hb : (x == y) with
    | true => exact ⟨d, rfl⟩
    | false =>
      have hne : x ≠ y := by simpa using hb
      rcases List.mem_cons.mp h with e | e
      · exact absurd e hne
      · exact lookup_of_mem e
theorem clok_many {X : Cx} {scope : Scope} {cl : List (Str × Addr)} {xs : List Str} (he : closureFor scope X.env = pure cl) (hc : CellsIn X.env cl) (hx : cl.map (·.1) = xs) (hk : scope.kind = .function) (hn : ∀ y ∈ scope.names, y.2 ≠ .cell ∧ (y.2 = .free → y.1 ∈ xs))
    (hl : ∀ y ∈ scope.names, y.2 = .local → scope.names.lookup y.1 = some .local) : ClOk X scope cl where
  eq := he
  sub := fun y d h => hc.get h
  has := fun y h => by
    have key : y ∈ xs := by
      have m : ∃ k, (y, k) ∈ (relabel scope X.env).names ∧ (k = .cell ∨ k = .free) := h.elim (fun z => ⟨_, lookup_mem z, .inl rfl⟩) fun z => ⟨_, lookup_mem z, .inr rfl⟩
      obtain ⟨k, hm, hk⟩ := m
      obtain ⟨⟨n, k0⟩, h0, e⟩ := List.mem_map.mp hm
      dsimp only at e
      by_cases hf : k0 = .free
      · have en : n = y := by
          split at e
          · exact congrArg Prod.fst e
          · exact congrArg Prod.fst e
        rw [← en]
        exact (hn _ h0).2 hf
      · have hb : (k0 == NameKind.free) = false := by simpa using hf
        simp only [hb, Bool.false_and, Bool.false_eq_true, if_false] at e
        have e2 : k0 = k := congrArg Prod.snd e
        subst e2
        rcases hk with hk | hk
        · exact absurd hk (hn _ h0).1
        · exact absurd hk hf
    rw [← hx] at key
    exact lookup_of_mem key
  kind := hk
  ncell := fun y hy => (hn y hy).1
  names := hl
def FreeOk (X : Cx) (scope : Scope) : List Str → List Nat → Prop
  | [], [] => True
  | x :: xs, j :: js => (X.N[j]? = some x ∧ (X.env.scope.names.lookup x = some .cell ∨ X.env.scope.names.lookup x = some .free) ∧ ((relabel scope X.env).names.lookup x = some .cell ∨ (relabel scope X.env).names.lookup x = some .free)) ∧ FreeOk X scope xs js
  | _, _ => False
theorem FreeOk.get {X : Cx} {scope : Scope} : ∀ {xs : List Str} {js : List Nat}, FreeOk X scope xs js → xs.length = js.length ∧ ∀ (i j : Nat), js[i]? = some j → ∃ x, xs[i]? = some x ∧ X.N[j]? = some x ∧ (X.env.scope.names.lookup x = some .cell ∨ X.env.scope.names.lookup x = some .free) ∧ ((relabel scope X.env).names.lookup x = some .cell ∨ (relabel scope X.env).names.lookup x = some .free)
  | [], [], _ => ⟨rfl, fun i j e => by simp at e⟩
  | x :: xs, j :: js, h => by
    obtain ⟨e, f⟩ := FreeOk.get h.2
    refine ⟨by simp [e], fun i k ek => ?_⟩
    cases i with
    | zero => simp at ek; subst ek; exact ⟨x, rfl, h.1⟩
    | succ i => exact f i k (by simpa using ek)
  | [], _ :: _, h => h.elim
  | _ :: _, [], h => h.elim
theorem ixok_many {X : Cx} {N0 xs : List Str} {js : List Nat} {scope : Scope} (h : FreeOk X scope xs js) : IxOk X (N0 ++ xs) scope (List.replicate N0.length none ++ js.map some) := by
  obtain ⟨hl, hf⟩ := h.get
  refine ⟨by simp [hl], fun i k e => ?_⟩
  by_cases hi : i < N0.length
  · rw [List.getElem?_append_left (by simpa using hi), List.getElem?_replicate] at e
    split at e <;> cases e
  · rw [List.getElem?_append_right (by simpa using hi), List.length_replicate, List.getElem?_map] at e
    obtain ⟨j, ej, ek⟩ := Option.map_eq_some_iff.mp e
    cases ek
    obtain ⟨x, h1, h2, h3, h4⟩ := hf _ _ ej
    exact ⟨x, by rw [List.getElem?_append_right (by omega)]; exact h1, h2, h3, h4⟩
/-! ### dict(l), l a list of pairs -/
section
variable {X : Cx}
/-! ### two dicts that hold the same data -/
end
end L2

/-! MY RULES: zip(list, list), a comprehension over anything, promises joined, dicts laid pair by pair. -/
set_option linter.all false
set_option maxRecDepth 100000
namespace L2
open PySem PySem.Spec PyProof.Rows
/-! ### zip(list, tuple) is made -/
/-! ### a comprehension over anything -/
section
variable {D : Addr} {g : TG} {te : TE} {QD : Hp → Prop} {σ₀ : St} {H : Hp}
theorem comp_genQ {J : It} (n : Nat) (Pv : Nat → List V → Hp → Prop) (h0 : Pv 0 [] (upd H D (.lst []))) (hgo : ∀ i ys H, i < n → Pv i ys H → J.go i H) (hst : ∀ ys H, Pv n ys H → J.stop n H)
    (hs : ∀ i ys H, i < n → Pv i ys H → ∀ x H3, J.yld i H x H3 → g x σ₀ H3 fun σ4 H4 => StKeep σ₀ σ4 ∧ te σ4 H4 fun y H5 => H5 D = some (.lst ys) ∧ ys.length < sizeLine ∧ Pv (i + 1) (ys ++ [y]) (upd H5 D (.lst (ys ++ [y])))) (hd : ∀ ys H, Pv n ys H → QD H) :
    ∃ W : Nat → Nat → Hp → Prop, (∃ m, W 0 m (upd H D (.lst []))) ∧ ∀ i m H2, W i m H2 →
      (J.stop i H2 ∧ QD H2) ∨ (J.go i H2 ∧ ∃ N : VK, (∀ y H5, N y H5 → ∃ xs, H5 D = some (.lst xs) ∧ xs.length < sizeLine ∧ ∃ m', m' < m ∧ W (i + 1) m' (upd H5 D (.lst (xs ++ [y])))) ∧
        ∀ x H3, J.yld i H2 x H3 → g x σ₀ H3 fun σ4 H4 => StKeep σ₀ σ4 ∧ te σ4 H4 N) := by
  refine ⟨fun i m H => m = n - i ∧ i ≤ n ∧ ∃ ys, Pv i ys H, ⟨n, by simp, Nat.zero_le _, [], h0⟩, ?_⟩
  rintro i m H2 ⟨rfl, hi, ys, p⟩
  by_cases hlt : i < n
  · exact .inr ⟨hgo i ys H2 hlt p, fun y H5 => H5 D = some (.lst ys) ∧ ys.length < sizeLine ∧ Pv (i + 1) (ys ++ [y]) (upd H5 D (.lst (ys ++ [y]))), fun y H5 z => ⟨ys, z.1, z.2.1, n - (i + 1), by omega, rfl, hlt, _, z.2.2⟩, fun x H3 z => hs i ys H2 hlt p x H3 z⟩
  · have e : i = n := by omega
    subst e
    exact .inl ⟨hst ys H2 p, hd ys H2 p⟩
end
/-! ### within a comprehension: the rules by the text's own K -/
/-! ### own classes and built-in ones; promises joined -/
theorem isi_bt {K : PySem.W.Frag} {C : Addr} {U : String} {b : Bool} (h : PySem.W.mroIn K C (.type U) = some b) (hm : PySem.W.kitMeta U = true) : ∀ u, RelV (.ty U) u → PySem.W.kitOne K (.ref C) u = some b := by
  intro u z
  cases (show u = Value.type U from z)
  unfold PySem.W.kitOne
  rw [if_neg (show ¬ (Value.ref C == Value.type U) = true from Bool.false_ne_true)]
  show (if PySem.W.kitMeta U = true then PySem.W.subIn K (.ref C) (.type U) else none) = some b
  rw [if_pos hm]
  exact h
theorem FnOk.or {P : Program} {w : World} {K : PySem.W.Frag} {mg : Str → Option Value} {base : Heap} {CX : CXT} {k : Nat} {f : Addr} {fd : FuncData} {ps : List Str} {sp sp' : Sp} (F : FnOk P w K mg base CX k f fd ps sp) (F' : FnOk P w K mg base CX k f fd ps sp') :
    FnOk P w K mg base CX k f fd ps (fun vs H Q E => sp vs H Q E ∨ sp' vs H Q E) :=
  ⟨fun vs H Q E q => q.elim (F.len vs H Q E) (F'.len vs H Q E), fun A outer s H args us vs Q E hr he hb hv q => q.elim (F.run A outer s H args us vs Q E hr he hb hv) (F'.run A outer s H args us vs Q E hr he hb hv)⟩
/-! ### dicts laid pair by pair -/
theorem putK_mem {kvs : List (Key × V)} {k : Key} {v : V} {p : Key × V} (h : p ∈ putK kvs k v) : p ∈ kvs ∨ p = (k, v) := by
  unfold putK at h
  split at h
  · obtain ⟨q, hq, e⟩ := List.mem_map.mp h
    split at e
    · rename_i ek
      exact .inr (by rw [← e, ek])
    · exact .inl (e ▸ hq)
  · rcases List.mem_append.mp h with h | h
    · exact .inl h
    · exact .inr (by simpa using h)
end L2

/-! MY RULES: name = [..], where the store is exchanged with the letting go of the comprehension's own names. -/
set_option linter.all false
set_option maxRecDepth 100000
namespace L2
open PySem PySem.Spec PyProof.Rows
section
variable {X : Cx}
theorem ps_setC {i₀ : Nat} {x₀ : Str} {pos₀ spos : Pos} {elt iter tg : Expr} {scope : Scope} {pos : Pos} {N' : List Str} {ix : List (Option Nat)} {cl : List (Str × Addr)} {wi : TI} {g : TG} {te : TE} (hN₀ : X.N.Nodup) (hi₀ : X.N[i₀]? = some x₀) (hx₀ : Loc X.env.scope x₀) (hc : X.calm = true) (ck : ClOk X scope cl) (io : IxOk X N' scope ix) (hi : PI X tg iter wi)
    (hg : ∀ C s₀ H₀ fp, PG (blk X N' scope cl C s₀ H₀ fp) tg g) (he : ∀ C s₀ H₀ fp, PE (blk X N' scope cl C s₀ H₀ fp) elt te) (hs : ∀ x, foldedSetIterable iter X.env x = pure x := by intro _; rfl)
    (hsw : swapsWith (.ListComp elt [⟨tg, iter, [], 0⟩] scope pos) (some (.Name x₀ pos₀)) spos.line X.env = pure true := by rfl) (hf₀ : X.fn x₀ = true ∨ X.env.scope.names.lookup x₀ = some .local := by first | exact .inl rfl | exact .inr rfl | assumption) :
    PS X (.Assign [.Name x₀ pos₀] (.ListComp elt [⟨tg, iter, [], 0⟩] scope pos) spos) (tAsg (tComp ix wi g te) (gName i₀)) := by
  intro pins s σ H D₀ I h
  rw [exec_Assign_Name_used _ _ _ _ hsw]
  refine wpAny_bind (wpAny_standAt (wpAny_bind ?_))
  show wpAny _ X.A (do let _ ← comprehension (.ListComp elt [⟨tg, iter, [], 0⟩] scope pos) scope X.env _ (newList []) false (eval iter X.env) (some (assign (.Name x₀ pos₀) X.env))) _ _ s
  refine wpAny_bind (wpAny_mono (wpAny_comprehension_free (use := some (assign (.Name x₀ pos₀) X.env)) (Q := fun _ s' => ∃ σ' H', Inv X pins σ' H' s' ∧ D₀.nx σ' H') rfl hs ck.eq ck.kind ck.names (thn (hi pins s σ H _ I h) fun xv s1 h1 => thn h1 fun itv s2 h2 => ?_)) (fun _ s' hq => wpAny_pure (wpAny_pure hq)) fun _ _ e => e)
  obtain ⟨it, fp, tn, J, H1, rfl, I1, T, st1, f1, R⟩ := h2
  -- the list
  refine wpAny_newObj_type ?_
  have hD : H1 s2.heap.objs.size = none := I1.hok.fresh (Nat.le_refl _)
  obtain ⟨W, ⟨m0, w0⟩, turn⟩ := R _ hD
  have hfD : ∀ b ∈ fp, b < s2.heap.objs.size := fun b hb => let ⟨o, e, _⟩ := T.obj _ _ st1 b hb; Heap.lt_size e
  have I2 : Inv X pins σ (upd H1 s2.heap.objs.size (.lst [])) { s2 with heap := s2.heap.push { cls := .type "list", data := .seq ([] : List Value).toArray }, toks := s2.toks } := I1.lnew (its := []) .nil (Nat.zero_le _)
  have f2 : ∀ b ∈ fp, FpOk X pins (upd H1 s2.heap.objs.size (.lst [])) b := fun b hb => ⟨by rw [upd_ne (Nat.ne_of_lt (hfD b hb))]; exact (f1 b hb).1, (f1 b hb).2⟩
  have lt2 : ∀ b ∈ fp, b < (s2.heap.push { cls := .type "list", data := .seq ([] : List Value).toArray }).objs.size := fun b hb => by rw [Heap.size_push]; exact Nat.lt_succ_of_lt (hfD b hb)
  -- the block's own dict
  refine wpAny_newFunctionEnv ck.ncell (by intro y hy; simp at hy) (fun h3 hns sb3 => ?_) ck.kind
  dsimp only at hns sb3 ⊢
  have k3 : ∀ b o, (s2.heap.push { cls := .type "list", data := .seq ([] : List Value).toArray }).get? b = some o → h3.get? b = some o := fun b o e => (sb3.2 b (Nat.ne_of_lt (Heap.lt_size e))).trans (Heap.get?_push_of_some _ e)
  generalize hs2 : ({ s2 with heap := s2.heap.push { cls := .type "list", data := .seq ([] : List Value).toArray }, toks := s2.toks } : Shared) = s3 at I2
  have e3 : s2.heap.push { cls := .type "list", data := .seq ([] : List Value).toArray } = s3.heap := by rw [← hs2]
  rw [e3] at hns k3 lt2
  have I3 := blk_start (N' := N') (ix := ix) I2 ck io f2 lt2 (h' := h3) (t' := s2.toks + ([] : List (Str × Value)).length) hns k3
  have e4 : ({ s3 with heap := h3, toks := s2.toks + ([] : List (Str × Value)).length } : Shared) = { s2 with heap := h3, toks := s2.toks + ([] : List (Str × Value)).length } := by rw [← hs2]
  rw [e4] at I3
  have st3 : tn 0 h3 := T.keep _ _ _ st1 fun b hb o e => k3 b o (by rw [← e3]; exact Heap.get?_push_of_some _ e)
  have loop : ∀ s4 : Shared, s4 = { s2 with heap := h3, toks := s2.toks + ([] : List (Str × Value)).length } →
      codeAny (model X.prog X.w) X.A (.compLoop (.ListComp elt [⟨tg, iter, [], 0⟩] scope pos) 0 (.ref it) (.ref s2.heap.objs.size) (compEnvC scope cl s3.heap.objs.size X.env))
        (compPost (model X.prog X.w) X.A X.xe (some (assign (.Name x₀ pos₀) X.env)) (fun _ s' => ∃ σ' H', Inv X pins σ' H' s' ∧ D₀.nx σ' H') (.ref s2.heap.objs.size) s3.heap.objs.size) s4 := by
    rintro s4 rfl
    have stat : ∀ {H' : Hp}, (∀ b ∈ fp, H' b = none) → ∀ b ∈ fp, FpOk (blk X N' scope cl s3.heap.objs.size s3 (upd H1 s2.heap.objs.size (.lst [])) fp) [] H' b := fun hn b hb =>
      ⟨hn b hb, Nat.ne_of_lt (lt2 b hb), fun hs => I3.ok.exfs b hb hs, .inl hb, fun x c e => (f2 b hb).2.2.2.2.1 x c (ck.sub x c e), (fun p hp => by cases hp)⟩
    refine codeAny_loop rfl (fun n s' => ∃ i σ' H', Inv (blk X N' scope cl s3.heap.objs.size s3 (upd H1 s2.heap.objs.size (.lst [])) fp) [] σ' H' s' ∧ (∀ (j : Nat) v, (blkSt ix σ)[j]? = some (some v) → σ'[j]? = some (some v)) ∧ tn i s'.heap ∧ (∀ b ∈ fp, H' b = none) ∧ W i n H')
      (fun n s' hI => ?_) m0 ⟨0, _, _, I3, fun _ _ z => z, st3, fun b hb => (f2 b hb).1, w0⟩
    obtain ⟨i, σ5, H5, I5, wk, st5, fr5, w5⟩ := hI
    show wpAny _ _ ((compTurn (.ListComp elt [⟨tg, iter, [], 0⟩] scope pos) 0 (.ref it) (.ref s2.heap.objs.size) (compEnvC scope cl s3.heap.objs.size X.env)).onRaise (fun x => do noteFrame x (compEnvC scope cl s3.heap.objs.size X.env); theTreesLotGoes x)) _ _ s'
    refine wpAny_noted ?_
    rw [compTurn_list1]
    refine wpAny_bind (wpAny_standAt ?_)
    rcases turn i n H5 w5 with ⟨stop, qn⟩ | ⟨go, NN, hNN, step⟩
    · refine wpAny_bind (wpAny_mono (T.done (blk X N' scope cl s3.heap.objs.size s3 (upd H1 s2.heap.objs.size (.lst [])) fp) rfl rfl rfl hc i [] s' σ5 H5 (fun _ _ => False) I5 (stat fr5) st5 stop) (fun r s6 h6 => ?_) fun _ _ z => z.elim)
      obtain ⟨rfl, I6⟩ := h6
      refine wpAny_pure ?_
      obtain ⟨mm, hm, _⟩ := id I6.loc
      have fC : FpOk X pins H5 s3.heap.objs.size := I2.fpOk (Nat.le_refl _) I6.free
      have Io : Inv X pins σ H5 s6 := blk_end I2 f2 I6 (Heap.SameBut.refl _ _)
      show wpAny _ X.A (assign (.Name x₀ pos₀) X.env (.ref s2.heap.objs.size)) _ _ s6
      refine wpAny_assign_Name (store_ok2 Io hN₀ hi₀ hx₀ (v := .ref s2.heap.objs.size) rfl (fun s7 I7 sb7 => ?_) hf₀)
      obtain ⟨a, sb, ha⟩ := sb7
      have ca : s3.heap.objs.size ≠ a := by
        rcases ha with ha | ha
        · rw [ha]; exact fC.2.1
        · exact fun z => fC.2.2.2.2.1 _ _ ha z.symm
      obtain ⟨oC, es, ep, ho, r⟩ := hm
      exact ⟨mm, ⟨oC, es, ep, (sb.2 _ ca).trans ho, r⟩, fun h' sb' => ⟨_, H5, I7.turned (t' := s7.toks) (fun b o hb e => (sb'.2 b hb).trans e) fC.1 fC.2.1 fC.2.2.2.1 fC.2.2.2.2.1 fC.2.2.2.2.2, qn⟩⟩
    · refine wpAny_bind (wpAny_mono (T.item (blk X N' scope cl s3.heap.objs.size s3 (upd H1 s2.heap.objs.size (.lst [])) fp) rfl rfl rfl hc i [] s' σ5 H5 (fun _ _ => False) I5 (stat fr5) st5 go) (fun r s6 h6 => ?_) fun _ _ z => z.elim)
      obtain ⟨u, rfl, h6⟩ := h6
      refine wpAny_bind (wpAny_mono h6 (fun _ s7 h7 => ?_) fun _ _ z => z.elim)
      obtain ⟨x, H7, I7, r7, y7, st7, fr7⟩ := h7
      have I7w : Inv (blk X N' scope cl s3.heap.objs.size s3 (upd H1 s2.heap.objs.size (.lst [])) fp) [] (blkSt ix σ) H7 s7 := I7.weak (by rw [I7.len]; unfold blkSt; rw [List.length_map]; exact io.1) wk
      have I7p := I7w.pinned (stat fr7) (T.obj _ _ st7)
      refine wpAny_bind (wpAny_mono (hg _ _ _ _ _ s7 _ H7 x u _ I7p r7 (step x H7 y7)) (fun _ s8 h8 => ?_) fun _ _ z => z.elim)
      obtain ⟨σ8, H8, I8, kp8, q8⟩ := h8
      refine wpAny_bind (wpAny_bind (wpAny_mono (he _ _ _ _ _ s8 σ8 H8 _ I8 q8) (fun yv s9 h9 => ?_) fun _ _ z => z.elim))
      obtain ⟨y, H9, I9, r9, n9⟩ := h9
      obtain ⟨xs, hx9, hz9, m', hm', w9⟩ := hNN _ _ n9
      refine wpAny_bind (wpAny_mono (mt_append (X := blk X N' scope cl s3.heap.objs.size s3 (upd H1 s2.heap.objs.size (.lst [])) fp) _ s9 σ8 H9 (.ref s2.heap.objs.size) [y] (.ref s2.heap.objs.size) [yv] (fun _ H' => W (i + 1) m' H') I9 rfl (.cons r9 .nil) ⟨_, xs, y, rfl, rfl, hx9, hz9, w9⟩) (fun _ s10 h10 => ?_) fun _ _ z => z.elim)
      obtain ⟨_, H10, I10, _, w10⟩ := h10
      refine wpAny_pure (wpAny_pure ⟨rfl, m', hm', i + 1, σ8, H10, I10.unpinned, ?_, T.keep _ _ _ st7 fun b hb o e => (I10.pin (b, o) (List.mem_append_right _ (List.mem_append_right _ (mem_pinsAt hb e)))).1, fun b hb => ?_, w10⟩)
      · exact kp8.get
      · obtain ⟨o, e, d⟩ := T.obj _ _ st7 b hb
        exact (I10.pin (b, o) (List.mem_append_right _ (List.mem_append_right _ (mem_pinsAt hb e)))).2.1
  have e5 : s3.heap.objs.size = (s2.heap.push { cls := .type "list", data := .seq ([] : List Value).toArray }).objs.size := by rw [e3]
  rw [e5] at loop
  exact codeAny_compStart_list (loop _ rfl) (T.self X.A 0 _ _ _ st3 (loop _ rfl))
end
end L2

/-! MY RULES: an exception of one's own class without fields: raised, through the defs that it leaves. -/
set_option linter.all false
set_option maxRecDepth 100000
namespace L2
open PySem PySem.Spec PyProof.Rows

/-! ### an exception behind a call: where it flies, what it leaves as it was -/
def CXF (P : Program) (w : World) : CXT := fun outer H s E e s' =>
  ∃ (ea C : Addr) (a0 : Value) (H' : Hp) (B : Heap), e = .ref ea ∧ s'.os = s.os ∧ AllBare s'.gens ∧ Un (frs outer) [] H H' s.heap s'.heap ∧ HOk P w H' s'.heap ∧
    (∀ b o, s.heap.get? b = some o → b ∉ frs outer → ∃ o', B.get? b = some o') ∧ (∀ b o, H' b = some o → ∃ o', B.get? b = some o') ∧
    Heap.FlyingW B outer ea (.ref C) a0 s'.heap ∧ E (.ref C) none H'

section
variable {X : Cx} {pins : List (Addr × Obj)} {σ : St} {H1 H' : Hp} {s1 : Shared} {B h1 h' : Heap}
theorem fly_ok {P : Program} {w : World} (ok : HOk P w H' h1) (b2 : ∀ b o, H' b = some o → ∃ o', B.get? b = some o') (hst : B.StaysIn h1) (hst' : B.StaysIn h') : HOk P w H' h' := fun a o e =>
  (ok a o e).stay (fun b u hb q => by
    have : ∃ o', B.get? b = some o' := by
      rcases hb with rfl | hb
      · exact b2 _ _ e
      · exact b2 _ _ hb
    obtain ⟨o', eB⟩ := this
    have z := hst b o' eB
    rw [q] at z
    cases z
    exact hst' b u eB) (fun _ q => q) fun _ _ q => q
end

/-! ### out of a def -/
section
variable {P : Program} {w : World} {K : PySem.W.Frag} {mg : Str → Option Value} {base : Heap} {N : List Str} {qual : Str} {scope : Scope} {f : Addr} {cd : Value} {A : Around} {outer : List Env} {s : Shared} {H : Hp} {E : XK}
end

/-! ### the class -/
/-! ### raise C(..) -/
end L2

/-! MY RULES: try: .. except C as e: .. around one call. -/
set_option linter.all false
set_option maxRecDepth 100000
namespace L2
open PySem PySem.Spec PyProof.Rows

/-! ### within an except suite -/
section
variable {X : Cx} {pins : List (Addr × Obj)} {σ : St} {H H1 : Hp} {s s1 : Shared} {ea C : Addr} {a0 : Value} {B : Heap}
/-! ### the name that the clause bound goes -/
/-! ### the exception that was caught, tracked -/
/-! ### the flight, seen from the frame that catches -/
structure Flown (X : Cx) (pins : List (Addr × Obj)) (σ : St) (H1 : Hp) (s1 : Shared) (H : Hp) (B : Heap) (ea C : Addr) (a0 : Value) (s : Shared) : Prop where
  i1 : Inv X pins σ H1 s1
  os : s.os = s1.os
  bare : AllBare s.gens
  un : Un (frs X.stack) [] H1 H s1.heap s.heap
  hok : HOk X.prog X.w H s.heap
  b1 : ∀ b o, s1.heap.get? b = some o → b ∉ frs X.stack → ∃ o', B.get? b = some o'
  b2 : ∀ b o, H b = some o → ∃ o', B.get? b = some o'
  fl : Heap.FlyingW B X.stack ea (.ref C) a0 s.heap
theorem Flown.step (F : Flown X pins σ H1 s1 H B ea C a0 s) {h' : Heap} (fl' : Heap.FlyingW B X.stack ea (.ref C) a0 h') (up : s.heap.UpToSlots h') : Flown X pins σ H1 s1 H B ea C a0 { s with heap := h' } := by
  have no : ∀ b : Addr, b ∉ ([] : List Addr) := fun b => by simp
  have u := F.un
  have slot : ∀ b o, s1.heap.get? b = some o → H1 b = none → b ∈ frs X.stack → ∃ sl, h'.get? b = some { o with slots := sl } := fun b o e n hb => by
    obtain ⟨sl, e1⟩ := u.slot b o e n hb (no b)
    obtain ⟨_, of, ho, hd⟩ := F.i1.stack.mem hb
    rw [e] at ho
    cases ho
    obtain ⟨sl3, e3⟩ := up b _ e1 hd
    exact ⟨sl3, e3⟩
  refine ⟨F.i1, F.os, F.bare, ⟨fun b o e n hb _ => ?_, fun b o e n hb _ => slot b o e n hb, u.free, fun b o e _ => ?_, u.tups, u.frzs, u.tbls⟩, fly_ok F.hok F.b2 F.fl.1 fl'.1, F.b1, F.b2, fl'⟩
  · have e2 := u.keep b o e n hb (no b)
    obtain ⟨o', eB⟩ := F.b1 b o e hb
    have e3 := F.fl.1 b o' eB
    rw [e2] at e3
    cases e3
    exact fl'.1 b o eB
  · by_cases hb : b ∈ frs X.stack
    · obtain ⟨sl, q⟩ := slot b o e (F.i1.stkFree b hb) hb
      exact ⟨_, q⟩
    · obtain ⟨o', eB⟩ := F.b1 b o e hb
      exact ⟨o', fl'.1 b o' eB⟩
theorem Flown.no (F : Flown X pins σ H1 s1 H B ea C a0 s) : H ea = none := by
  cases q : H ea with
  | none => rfl
  | some o =>
    obtain ⟨o', eB⟩ := F.b2 ea o q
    rw [F.fl.2.1] at eB
    cases eB
end

/-! ### the clauses -/
/-- the clauses hs take an exception of the class at C -/
def PH (X : Cx) (hs : List ExceptHandler) (C : Addr) (th : Addr → TS) : Prop :=
  ∀ (pins : List (Addr × Obj)) (σ : St) (H1 : Hp) (s1 : Shared) (H : Hp) (B : Heap) (ea : Addr) (a0 : Value) (s : Shared) (D : Ends), Flown X pins σ H1 s1 H B ea C a0 s → th ea D σ H → wpAny (model X.prog X.w) X.A (handleBy (.ref ea) X.env hs) (SP X pins D) X.xe s
section
variable {X : Cx} {C C' : Addr} {y n : Str} {yp hpos : Pos} {b₀ : Stmt} {suite : List Stmt} {rest : List ExceptHandler} {th : Addr → TS} {i : Nat}
end

/-! ### a call that may throw -/
abbrev TX := St → Hp → VK → XK → Prop
def PX (X : Cx) (e : Expr) (t : TX) : Prop :=
  ∀ (pins : List (Addr × Obj)) (s : Shared) (σ : St) (H : Hp) (Q : VK) (E : XK), Inv X pins σ H s → t σ H Q E →
    wpAny (model X.prog X.w) X.A (eval e X.env) (EP X pins σ Q) (fun e s' => ∃ H1 s1, Inv X pins σ H1 s1 ∧ CXF X.prog X.w X.stack H1 s1 E e s') s
section
variable {X : Cx} {k : Nat} {f : Addr} {fd : FuncData} {ps : List Str} {sp : Sp} {x : Str} {p pos : Pos} {e : Expr} {es : List Expr} {t : TA}
end

/-! ### try -/
section
variable {X : Cx} {hs : List ExceptHandler} {h₀ : ExceptHandler} {e : Expr} {tx : TX} {pos epos npos : Pos} {i : Nat} {n : Str}
/-- what is wanted of an exception of the body: the clauses take it, and go on as they are read -/
def xTry (X : Cx) (hs : List ExceptHandler) (D : Ends) (σ : St) : XK := fun c _ H2 => ∃ (C : Addr) (th : Addr → TS), c = .ref C ∧ PH X hs C th ∧ ∀ ea, H2 ea = none → th ea D σ H2
theorem try_caught {pins : List (Addr × Obj)} {σ : St} {D : Ends} {H1 : Hp} {s1 s' : Shared} {ev : Value} (hst : X.stack = X.env :: X.outer ∧ X.env.frame = some X.env.locals) (I1 : Inv X pins σ H1 s1)
    (hc : CXF X.prog X.w X.stack H1 s1 (xTry X (h₀ :: hs) D σ) ev s') :
    wpAny (model X.prog X.w) X.A (noteFrame ev X.env) (fun _ s₂ => wpAny (model X.prog X.w) X.A (setFlight ev none) (fun _ s₃ => wpAny (model X.prog X.w) X.A (handleBy ev X.env (h₀ :: hs)) (SP X pins D) X.xe s₃) X.xe s₂) X.xe s' := by
  obtain ⟨ea, C, a0, H', B, rfl, os, bare, un, hok, b1, b2, fl, q⟩ := hc
  obtain ⟨C', th, hC, hP, q⟩ := q
  cases hC
  have F : Flown X pins σ H1 s1 H' B ea C a0 s' := ⟨I1, os, bare, un, hok, b1, b2, fl⟩
  have hfr : X.A.frames = some (X.env :: X.outer) := by
    rw [← hst.1]
    exact I1.ok.frames
  have fl0 : Heap.FlyingW B (X.env :: X.outer) ea (.ref C) a0 s'.heap := by
    rw [← hst.1]
    exact fl
  refine wpAny_looks_onW hfr hst.2 fl0 fun h4 held up4 => ?_
  refine wpAny_landsW held fun h5 fl5 up5 => ?_
  have fl5' : Heap.FlyingW B X.stack ea (.ref C) a0 h5 := by
    rw [hst.1]
    exact fl5
  exact hP pins σ H1 s1 H' B ea a0 _ D (F.step fl5' (up4.trans up5)) (q ea F.no)
/-- try: n = f(..) except .. -/
def tTryA (X : Cx) (hs : List ExceptHandler) (tx : TX) (i : Nat) : TS := fun D σ H => tx σ H (fun v H1 => D.nx (σ.set i (some v)) H1) (xTry X hs D σ)
theorem ps_tryA (hst : X.stack = X.env :: X.outer ∧ X.env.frame = some X.env.locals) (he : PX X e tx) (hN : X.N.Nodup) (hi : X.N[i]? = some n) (hx : Loc X.env.scope n)
    (hs' : swapsWith e (some (.Name n npos)) epos.line X.env = pure false := by rfl) (hf : X.fn n = true ∨ X.env.scope.names.lookup n = some .local := by first | exact .inl rfl | exact .inr rfl | assumption) :
    PS X (.Try [.Assign [.Name n npos] e epos] (h₀ :: hs) [] [] pos) (tTryA X (h₀ :: hs) tx i) := by
  intro pins s σ H D I h
  refine wpAny_Try_except (wpAny_mono (Q := fun f s1 => f = .next ∧ ∃ σ' H', Inv X pins σ' H' s1 ∧ D.nx σ' H') (E := fun e s' => ∃ H1 s1, Inv X pins σ H1 s1 ∧ CXF X.prog X.w X.stack H1 s1 (xTry X (h₀ :: hs) D σ) e s') ?_ (fun f s1 q => ?_) fun ev s1 ⟨H1, s2, I1, hc⟩ => try_caught hst I1 hc)
  · refine wpAny_execs_cons (wpAny_Assign_Name (thn (he pins s σ H _ _ I h) fun v s1 ⟨y, H1, I1, r1, q1⟩ => ?_) hs')
    exact store_ok I1 hN hi hx r1 (fun s2 I2 => wpAny_execs_nil ⟨rfl, _, H1, I2, q1⟩) hf
  · obtain ⟨rfl, q⟩ := q
    exact wpAny_execs_nil q
end

/-! ### a def whose exceptions may leave -/
section
variable {P : Program} {w : World} {K : PySem.W.Frag} {mg : Str → Option Value} {base : Heap}
end

/-! ### names of the top that are no defs and no classes -/
theorem pe_globE {X : Cx} {x : Str} {v : V} {pos : Pos} (h : ∃ u, X.mg x = some u ∧ RelV v u) (hg : Gl X x) (hd : (x == ("__debug__" : Str)) = false := by decide) : PE X (.Name x pos) (tC v) := by
  obtain ⟨u, hm, r⟩ := h
  exact fun _ _ _ H _ I q => ld_glob I hg hm ⟨v, H, I, r, q⟩ hd
end L2

/-! MY RULES: for k, x in enumerate(list); all(list of bools). -/
set_option linter.all false
set_option maxRecDepth 100000
namespace L2
open PySem PySem.Spec PyProof.Rows
/-- enumerate over a list: the i-th pair is a new tuple -/
def ItEn (K : PySem.W.Frag) (a : Addr) : It :=
  ⟨fun i H => ∃ xs x, SqL K H a xs ∧ xs[i]? = some x,
   fun i H v H' => ∃ p, H p = none ∧ v = .ref p ∧ ∃ x, (∀ xs, SqL K H a xs → xs[i]? = some x) ∧ H' = upd H p (.tup [.int (i : Nat), x]),
   fun i H => ∃ xs, SqL K H a xs ∧ xs.length ≤ i⟩
def EnSt (e it a : Addr) (i : Nat) (h : Heap) : Prop := (∃ old, IsEnum h e it (i : Nat) old) ∧ h.IsListIter it a i
theorem turn_enum {P : Program} {w : World} {K : PySem.W.Frag} {elts : List Expr} {kk : Nat} {pos : Pos} {e it a : Addr} (ne : e ≠ it) : Turn P w K (.Tuple elts kk pos) (ItEn K a) [e, it] e (EnSt e it a) where
  mem := by simp
  obj := fun i h st c hc => by
    obtain ⟨⟨old, h1⟩, h2⟩ := st
    simp only [List.mem_cons, List.not_mem_nil, or_false] at hc
    rcases hc with rfl | rfl
    · exact ⟨_, h1, fun v z => by cases (show Data.fields _ = Data.cell v from z)⟩
    · obtain ⟨o, ho, _, hd⟩ := h2
      exact ⟨o, ho, fun v z => by rw [hd] at z; cases z⟩
  keep := fun i h h' st k => by
    obtain ⟨⟨old, h1⟩, h2⟩ := st
    exact ⟨⟨old, k e (by simp) _ h1⟩, h2.at fun o z => k it (by simp) o z⟩
  item := by
    intro X hP hw hK hc i pins s σ H E I hf st hg
    subst hP hw hK
    obtain ⟨xs, x, hq, hx⟩ := hg
    obtain ⟨its, rv, p1, _⟩ := I.list hq
    obtain ⟨u, hu, ru⟩ := rv.get hx
    obtain ⟨⟨old, h1⟩, h2⟩ := st
    refine wpAny_pyNext_enum_item h1 h2 p1.isList (x := u) (by simpa using hu) ne fun h' z1 z2 z3 z4 kp => ?_
    refine ⟨_, rfl, wpAny_letOwnedTupleGo_enum (s := { s with heap := h', toks := s.toks + 1 }) z1 fun g zg sb => ?_⟩
    have nz : s.heap.objs.size ≠ e := Nat.ne_of_gt (Heap.lt_size h1)
    have n2 : it < s.heap.objs.size := let ⟨_, q, _⟩ := h2; Heap.lt_size q
    have tq : g.get? s.heap.objs.size = some { cls := .type "tuple", data := .seq #[.int i s.toks, u] } := sb.extBut _ _ nz z3
    have I1 : Inv X pins σ (upd H s.heap.objs.size (.tup [.int (i : Nat), x])) { s with heap := g, toks := s.toks + 1 } := I.turnedNew (ts := [e, it]) (fun c o hc q => by
      simp only [List.mem_cons, List.not_mem_nil, or_false, not_or] at hc
      exact sb.extBut _ _ hc.1 (kp c o hc.1 hc.2 q)) hf (Nat.le_refl _) ⟨by show 2 ≤ sizeLine; decide, [.int i s.toks, u], .cons ⟨_, rfl⟩ (.cons ru .nil), ⟨_, tq, rfl, _, rfl⟩⟩
    refine ⟨.ref s.heap.objs.size, _, I1, rfl, ⟨_, I.hok.fresh (Nat.le_refl _), rfl, x, fun zs hz => by rw [I.list_inj hz hq]; exact hx, rfl⟩, ⟨⟨_, zg⟩, z2.at fun o q => sb.extBut _ _ ne.symm q⟩, fun c hc => ?_⟩
    have hcn : c ≠ s.heap.objs.size := by
      simp only [List.mem_cons, List.not_mem_nil, or_false] at hc
      rcases hc with rfl | rfl
      · exact nz.symm
      · exact Nat.ne_of_lt n2
    rw [upd_ne hcn]
    exact (hf c hc).1
  done := by
    intro X hP hw hK hc i pins s σ H E I hf st hg
    subst hP hw hK
    obtain ⟨xs, hq, hx⟩ := hg
    obtain ⟨its, rv, p1, _⟩ := I.list hq
    have e1 := rv.length
    obtain ⟨⟨old, h1⟩, h2⟩ := st
    refine wpAny_pyNext_enum_end (I.ok.hd hc) h1 h2 p1.isList (by simp; omega) fun h' kp => ⟨rfl, ?_⟩
    exact I.turnedL (t' := s.toks) (ts := [e, it]) (fun c o hc q => by
      simp only [List.mem_cons, List.not_mem_nil, or_false, not_or] at hc
      exact kp c o hc.2 q) hf
  self := fun _ _ _ _ _ st h => by
    obtain ⟨⟨old, h1⟩, _⟩ := st
    exact wpAny_pyIter_enum h1 h
def iEnum (K : PySem.W.Frag) (ta : TA) : TI := fun σ H R => ta σ H fun vs H1 => ∃ a xs, vs = [.ref a] ∧ SqL K H1 a xs ∧ R (ItEn K a) H1
theorem pi_enum {X : Cx} {elts : List Expr} {kk : Nat} {tpos : Pos} {a : Expr} {ta : TA} {p pos : Pos} (hg : Gl X "enumerate") (hm : X.mg "enumerate" = none) (ha : PA X [a] ta) (hs : starEach [a] X.env = [(false, eval a X.env)] := by rfl) :
    PI X (.Tuple elts kk tpos) (.Call (.Name "enumerate" p) [a] [] pos) (iEnum X.K ta) := by
  intro pins s σ H R I h
  refine Call_ (ld_blt I hg hm boot_enumerate (PyProof.Rows.callWith_type1 (thn (ha pos pins s σ H _ I h) fun us s1 ⟨vs, H1, I1, r1, q1⟩ => ?_) (by rw [hs]; rfl) (by rfl)))
  obtain ⟨l, xs, e, hq, q⟩ := q1
  subst e
  obtain ⟨u, rfl, ru⟩ := vals1 r1
  cases ru
  obtain ⟨its, rv, p1, _⟩ := I1.list hq
  refine call_enumerate_list p1.isList fun h' z1 z2 z3 kp => wpAny_pyIter_enum z1 ?_
  have I2 : Inv X pins σ H1 { s1 with heap := h' } := I1.kept (t' := s1.toks) kp
  refine ⟨_, [s1.heap.objs.size + 1, s1.heap.objs.size], _, _, H1, rfl, I2, turn_enum (Nat.ne_of_gt (Nat.lt_succ_self _)), ⟨⟨_, z1⟩, z2⟩, fun c hc => ?_, q⟩
  have hle : s1.heap.objs.size ≤ c := by
    simp only [List.mem_cons, List.not_mem_nil, or_false] at hc
    rcases hc with rfl | rfl
    · exact Nat.le_succ _
    · exact Nat.le_refl _
  exact I1.fpOk hle (I1.hok.fresh hle)
/-- over a list that the body leaves as it is -/
theorem for_enum {K : PySem.W.Frag} {a : Addr} {xs : List V} {g : TG} {tb : TS} {D : Ends} {σ : St} {H : Hp} (Pv : Nat → St → Hp → Prop) (h0 : Pv 0 σ H) (hl : ∀ i σ H, Pv i σ H → SqL K H a xs)
    (hs : ∀ i x σ H p, xs[i]? = some x → Pv i σ H → H p = none → g (.ref p) σ (upd H p (.tup [.int (i : Nat), x])) fun σ2 H2 => tb { D with nx := Pv (i + 1), ct := Pv (i + 1), bk := D.nx } σ2 H2) (hd : ∀ σ H, Pv xs.length σ H → D.nx σ H) :
    ∃ W : Nat → Nat → St → Hp → Prop, (∃ m, W 0 m σ H) ∧ ∀ i m σ H, W i m σ H →
      ((ItEn K a).stop i H ∧ D.nx σ H) ∨ ((ItEn K a).go i H ∧ ∃ N : St → Hp → Prop, (∀ σ' H', N σ' H' → ∃ m', m' < m ∧ W (i + 1) m' σ' H') ∧ ∀ x H', (ItEn K a).yld i H x H' → g x σ H' fun σ2 H2 => tb { D with nx := N, ct := N, bk := D.nx } σ2 H2) := by
  refine ⟨fun i m σ H => m = xs.length - i ∧ i ≤ xs.length ∧ Pv i σ H, ⟨xs.length, by simp, Nat.zero_le _, h0⟩, ?_⟩
  rintro i m σ H ⟨rfl, hi, p⟩
  have q := hl i σ H p
  by_cases hlt : i < xs.length
  · refine .inr ⟨⟨xs, _, q, List.getElem?_eq_getElem hlt⟩, Pv (i + 1), fun σ' H' p' => ⟨xs.length - (i + 1), by omega, rfl, hlt, p'⟩, fun v H' y => ?_⟩
    obtain ⟨c, hc, rfl, x, f, rfl⟩ := y
    exact hs i x σ H c (f xs q) p hc
  · have e : i = xs.length := by omega
    subst e
    exact .inl ⟨⟨xs, q, Nat.le_refl _⟩, hd σ H p⟩
end L2

/-! MY RULES: a zip's draws where what it gave out lives on, dict(zip(list, tuple)). -/
set_option linter.all false
set_option maxRecDepth 100000
namespace L2
open PySem PySem.Spec PyProof.Rows
abbrev IsZipB (h : Heap) (z TI TO : Addr) (f0 : Value) (b : Bool) : Prop :=
  h.get? z = some { cls := .type "zip", dict := none, data := .fields #[f0, .bool b, .bool false, .ref TI, .ref TO], slots := #[] }
section
variable {prog : Program} {w : World} {A : Around} {E : Value → Shared → Prop} {s : Shared}
theorem wpAny_alive {a : Addr} {Q : Option Obj → Shared → Prop} (h : Q (s.heap.get? a) s) : wpAny (model prog w) A (loadIfAlive a) Q E s := fun Γ p _ => by
  show PySem.Sem.wp _ Γ (.loadIfAlive a .pure) _ _ p s
  rw [PySem.Sem.wp]
  exact h
/-- what the zip gave out still lives -/
theorem zip_notFree {z TI TO p : Addr} {o : Obj} {b : Bool} {Q : Bool → Shared → Prop} (hz : IsZipB s.heap z TI TO (rawInt (p : Int)) b) (hp : s.heap.get? p = some o)
    (q : ∀ h', IsZipB h' z TI TO (rawInt (p : Int)) true → Heap.SameBut z s.heap h' → Q false { s with heap := h' }) : wpAny (model prog w) A (Builtin.SmallTypes.ownedTupleIsFree (.ref z)) Q E s := by
  unfold Builtin.SmallTypes.ownedTupleIsFree
  refine wpAny_bind (wpAny_field hz rfl (x := rawInt (p : Int)) rfl ?_)
  show wpAny _ _ (loadIfAlive (Int.toNat (p : Int)) >>= _) _ _ _
  refine wpAny_bind (wpAny_alive ?_)
  rw [Int.toNat_natCast, hp]
  show wpAny _ _ (field (.ref z) 1 >>= _) _ _ _
  refine wpAny_bind (wpAny_field hz rfl (x := .bool b) rfl ?_)
  cases b with
  | true =>
    show wpAny _ _ (pure false) _ _ _
    exact wpAny_pure (q s.heap hz ⟨rfl, fun _ _ => rfl⟩)
  | false =>
    show wpAny _ _ (setField (.ref z) 1 (.bool true) >>= _) _ _ _
    refine wpAny_bind (wpAny_setField_rec hz (by simp) fun g1 z1 b1 => ?_)
    exact wpAny_pure (q g1 z1 b1)
end
section
variable {z TI TO i1 i2 l1 l2 : Addr} {st1 st2 : Nat → Heap → Prop} {src1 src2 : Array Value → Heap → Prop} {prog : Program} {w : World} {A : Around} {E : Value → Shared → Prop} {s : Shared}
/-- a zip's draw, what it gave out before lives on -/
theorem zip_more (N1 : Nx i1 l1 st1 src1) (N2 : Nx i2 l2 st2 src2) {k1 k2 : Nat} {xs ys : Array Value} {x y : Value} {p : Addr} {o : Obj} {b : Bool} {Q : Option Value → Shared → Prop} (D : ZipApart z TI TO i1 i2 l1 l2)
    (hz : IsZipB s.heap z TI TO (rawInt (p : Int)) b) (hp : s.heap.get? p = some o) (hTI : IsPair s.heap TI (.ref i1) (.ref i2)) (h1 : st1 k1 s.heap) (h2 : st2 k2 s.heap) (hl1 : src1 xs s.heap) (hl2 : src2 ys s.heap) (hx : xs[k1]? = some x) (hy : ys[k2]? = some y)
    (hQ : ∀ h', IsZipB h' z TI TO (rawInt (p : Int)) true → st1 (k1 + 1) h' → st2 (k2 + 1) h' → IsPair h' s.heap.objs.size x y →
      (∀ c o, c ≠ z → c ≠ i1 → c ≠ i2 → s.heap.get? c = some o → h'.get? c = some o) → Q (some (.ref s.heap.objs.size)) { s with heap := h' }) : wpAny (model prog w) A (pyNext (.ref z)) Q E s := by
  have hT : s.TypeIs (.ref z) "zip" := ⟨_, hz, rfl⟩
  unfold pyNext
  refine wpAny_bind (wpAny_attempt (wpAny_callSpecial?_slot (name := Str.ofString "__next__") hT F.slot_zip_next (wpAny_call_entry F.slot_zip_next hT F.entry_zip_next ?_ (F.args_zip_next_1 _))))
  show wpAny _ _ (field (.ref z) 2 >>= _) _ _ _
  refine wpAny_bind (wpAny_field hz rfl (x := .bool false) rfl ?_)
  show wpAny _ _ (field (.ref z) 3 >>= _) _ _ _
  refine wpAny_bind (wpAny_field hz rfl (x := .ref TI) rfl ?_)
  refine wpAny_bind (wpAny_seqItems hTI rfl ?_)
  show wpAny _ _ (Builtin.SmallTypes.ownedTupleIsFree (.ref z) >>= _) _ _ _
  refine wpAny_bind (zip_notFree hz hp fun g1 z1 b1 => ?_)
  simp only [Bool.false_eq_true, if_false]
  refine wpAny_bind ?_
  simp only [← Array.forIn_toList, List.forIn_cons, List.forIn_nil]
  refine wpAny_bind (wpAny_bind (wpAny_holding ?_))
  show wpAny _ _ (Builtin.SmallTypes.nextOf (.ref i1) >>= _) _ _ _
  refine wpAny_bind (N1.item (N1.mv h1 fun o e => b1.extBut _ _ D.i1z e) (N1.mvS hl1 fun o e => b1.extBut _ _ D.l1z e) hx fun g2 t2 b2 => wpAny_pure (wpAny_pure ?_))
  refine wpAny_bind (wpAny_bind (wpAny_holding ?_))
  show wpAny _ _ (Builtin.SmallTypes.nextOf (.ref i2) >>= _) _ _ _
  refine wpAny_bind (N2.item (N2.mv h2 fun o e => b2.extBut _ _ D.i12.symm (b1.extBut _ _ D.i2z e)) (N2.mvS hl2 fun o e => b2.extBut _ _ D.l2i1 (b1.extBut _ _ D.l2z e)) hy fun g3 t3 b3 => wpAny_pure (wpAny_pure (wpAny_pure ?_)))
  have hsz : g3.objs.size = s.heap.objs.size := by rw [b3.1, b2.1, b1.1]
  have zlt : z < g3.objs.size := by rw [hsz]; exact Heap.lt_size hz
  show wpAny _ _ (newTuple [x, y] >>= _) _ _ _
  refine wpAny_bind (wpAny_newTuple ?_)
  have z3 : IsZipB g3 z TI TO (rawInt (p : Int)) true := b3.extBut _ _ D.i2z.symm (b2.extBut _ _ D.i1z.symm z1)
  have k3 : ∀ c o, c ≠ z → c ≠ i1 → c ≠ i2 → s.heap.get? c = some o → g3.get? c = some o := fun c o c1 c3 c4 e => b3.extBut _ _ c4 (b2.extBut _ _ c3 (b1.extBut _ _ c1 e))
  have u1 : st1 (k1 + 1) g3 := N1.mv t2 fun o e => b3.extBut _ _ D.i12 e
  have pr : IsPair (g3.push { cls := .type "tuple", data := .seq #[x, y] }) g3.objs.size x y := Heap.get?_push_size _ rfl
  rw [hsz] at pr
  refine wpAny_pure ⟨_, rfl, wpAny_pure ?_⟩
  show Q (some (.ref g3.objs.size)) _
  rw [hsz]
  exact hQ _ (Heap.get?_push_of_some _ z3) (N1.mv u1 fun o e => Heap.get?_push_of_some _ e) (N2.mv t3 fun o e => Heap.get?_push_of_some _ e) pr fun c o c1 c3 c4 e => Heap.get?_push_of_some _ (k3 c o c1 c3 c4 e)
/-- .. and its end -/
theorem zip_fin (N1 : Nx i1 l1 st1 src1) (N2 : Nx i2 l2 st2 src2) {k1 k2 : Nat} {xs ys : Array Value} {p : Addr} {o : Obj} {b : Bool} {Q : Option Value → Shared → Prop} (hh : A.handled = none) (D : ZipApart z TI TO i1 i2 l1 l2)
    (hz : IsZipB s.heap z TI TO (rawInt (p : Int)) b) (hp : s.heap.get? p = some o) (hTI : IsPair s.heap TI (.ref i1) (.ref i2)) (h1 : st1 k1 s.heap) (h2 : st2 k2 s.heap) (hl1 : src1 xs s.heap) (hl2 : src2 ys s.heap) (hend : xs[k1]? = none ∨ ys[k2]? = none)
    (hQ : ∀ h', (∀ c o, c ≠ z → c ≠ i1 → c ≠ i2 → s.heap.get? c = some o → h'.get? c = some o) → Q none { s with heap := h' }) : wpAny (model prog w) A (pyNext (.ref z)) Q E s := by
  have hT : s.TypeIs (.ref z) "zip" := ⟨_, hz, rfl⟩
  unfold pyNext
  have fin : ∀ (h' : Heap) (e : Addr), (∀ c o, c ≠ z → c ≠ i1 → c ≠ i2 → s.heap.get? c = some o → h'.get? c = some o) → (∃ o, h'.get? e = some o ∧ o.cls = .type "StopIteration") →
      wpAny (model prog w) A (isInstance (.ref e) (.type "StopIteration") >>= fun b => if b = true then pure none else throw (.ref e)) Q E { s with heap := h' } := fun h' e hk ⟨o, ho, hc⟩ =>
    wpAny_bind (wpAny_isInstance (T := "StopIteration") (b := true) ⟨o, ho, hc⟩ isSubtype_stop (wpAny_pure (hQ _ hk)))
  refine wpAny_bind (wpAny_attempt (wpAny_callSpecial?_slot (name := Str.ofString "__next__") hT F.slot_zip_next (wpAny_call_entry F.slot_zip_next hT F.entry_zip_next ?_ (F.args_zip_next_1 _))))
  show wpAny _ _ (field (.ref z) 2 >>= _) _ _ _
  refine wpAny_bind (wpAny_field hz rfl (x := .bool false) rfl ?_)
  show wpAny _ _ (field (.ref z) 3 >>= _) _ _ _
  refine wpAny_bind (wpAny_field hz rfl (x := .ref TI) rfl ?_)
  refine wpAny_bind (wpAny_seqItems hTI rfl ?_)
  show wpAny _ _ (Builtin.SmallTypes.ownedTupleIsFree (.ref z) >>= _) _ _ _
  refine wpAny_bind (zip_notFree hz hp fun g1 z1 b1 => ?_)
  simp only [Bool.false_eq_true, if_false]
  refine wpAny_bind ?_
  simp only [← Array.forIn_toList, List.forIn_cons, List.forIn_nil]
  refine wpAny_bind (wpAny_bind (wpAny_holding ?_))
  show wpAny _ _ (Builtin.SmallTypes.nextOf (.ref i1) >>= _) _ _ _
  have u1 := N1.mv h1 fun o e => b1.extBut _ _ D.i1z e
  have v1 := N1.mvS hl1 fun o e => b1.extBut _ _ D.l1z e
  cases hx : xs[k1]? with
  | none =>
    refine wpAny_bind (N1.fin hh u1 v1 hx fun g2 e b2 he => ?_)
    exact fin g2 e (fun c o c1 c3 _ x => b2 _ _ c3 (b1.extBut _ _ c1 x)) he
  | some x =>
    have hy : ys[k2]? = none := by
      rcases hend with h | h
      · rw [hx] at h; cases h
      · exact h
    refine wpAny_bind (N1.item u1 v1 hx fun g2 t2 b2 => wpAny_pure (wpAny_pure ?_))
    refine wpAny_bind (wpAny_bind (wpAny_holding ?_))
    show wpAny _ _ (Builtin.SmallTypes.nextOf (.ref i2) >>= _) _ _ _
    refine wpAny_bind (N2.fin hh (N2.mv h2 fun o e => b2.extBut _ _ D.i12.symm (b1.extBut _ _ D.i2z e)) (N2.mvS hl2 fun o e => b2.extBut _ _ D.l2i1 (b1.extBut _ _ D.l2z e)) hy fun g4 e b4 he => ?_)
    exact fin g4 e (fun c o c1 c3 c4 x => b4 _ _ c4 (b2.extBut _ _ c3 (b1.extBut _ _ c1 x))) he
end
section
variable {z TI TO i1 i2 a b d : Addr} {prog : Program} {w : World} {A : Around} {E : Value → Shared → Prop} {s : Shared}
end
section
variable {prog : Program} {w : World} {K : Type} [DecidableEq K] {knd : KeyKind prog w K} {A : Around} {R : Result → Shared → Prop} {z TI TO i1 i2 a b d : Addr} {xs ys : Array Value} {rs : List (K × Value)} {h₀ : Heap} {g : Array GenState} {dr : Drawn} {os : OsState}
end
end L2

/-! MY RULES: list(zip(tuple, list)), whole. -/
set_option linter.all false
set_option maxRecDepth 100000
set_option maxHeartbeats 4000000
namespace L2
open PySem PySem.Spec PyProof.Rows
/-! ### zip(tuple, list) is made -/
abbrev zqH1 (h : Heap) (l1 : Addr) : Heap := h.push { cls := .type "tuple_iterator", data := .fields #[.ref l1, .int 0 0] }
abbrev zqH2 (h : Heap) (l1 l2 : Addr) : Heap := (zqH1 h l1).push { cls := .type "list_iterator", data := .fields #[.ref l2, .int 0 0] }
abbrev zqH3 (h : Heap) (l1 l2 : Addr) : Heap := (zqH2 h l1 l2).push { cls := .type "tuple", data := .seq #[.ref h.objs.size, .ref (zqH1 h l1).objs.size] }
abbrev zqH4 (h : Heap) (l1 l2 : Addr) : Heap := (zqH3 h l1 l2).push { cls := .type "tuple", data := .seq #[.none, .none] }
abbrev zqH5 (h : Heap) (l1 l2 : Addr) : Heap := (zqH4 h l1 l2).push { cls := .type "zip", data := .fields #[.none, .bool false, .bool false, .ref (zqH2 h l1 l2).objs.size, .ref (zqH3 h l1 l2).objs.size] }
theorem meets_zip_tl (l1 l2 : Addr) (xs ys : Array Value) : Meets (Builtin.«zip.__new__» ⟨[.type "zip", .ref l1, .ref l2], []⟩) (fun _ R s => s.heap.IsTuple l1 xs ∧ s.heap.IsList l2 ys ∧
    R (.ok (.ret (.ref (zqH4 s.heap l1 l2).objs.size))) { s with heap := zqH5 s.heap l1 l2 }) :=
  .of_wp fun prog w A R s h => by
    obtain ⟨hp, g, d, tk, os⟩ := s; obtain ⟨hl1, hl2, h⟩ := h
    have hsub := sub_zip
    have hL1 : Heap.IsTuple (Shared.heap ⟨hp, g, d, tk, os⟩) l1 xs := hl1
    have hL2 : Heap.IsList (Shared.heap ⟨hp.push { cls := .type "tuple_iterator", data := .fields #[.ref l1, .int 0 0] }, g, d, tk, os⟩) l2 ys := Heap.IsList.push hl2 _
    wp_walk using wpAny_pyIter_tuple hL1, wpAny_pyIter_list hL2
    exact ⟨_, rfl, h⟩
/-- how a zip of a tuple and a list stands before the i-th draw of a list's making -/
def ZQ (z TI TO i1 i2 a b d : Addr) (i : Nat) (h : Heap) : Prop := IsPair h TI (.ref i1) (.ref i2) ∧ h.IsTupleIter i1 a i ∧ h.IsListIter i2 b i ∧
  ((IsZip h z TI TO .none ∧ ∃ u v, IsPair h TO u v) ∨ ∃ (p : Addr) (o : Obj) (bb : Bool), IsZipB h z TI TO (rawInt (p : Int)) bb ∧ h.get? p = some o ∧ p ≠ z ∧ p ≠ i1 ∧ p ≠ i2 ∧ p ≠ d)
theorem call_zip_tl {prog : Program} {w : World} {A : Around} {E : Value → Shared → Prop} {s : Shared} {l1 l2 d : Addr} {xs ys : Array Value} {Q : Value → Shared → Prop} (hl1 : s.heap.IsTuple l1 xs) (hl2 : s.heap.IsList l2 ys)
    (h : ∀ h', IsZip h' (s.heap.objs.size + 4) (s.heap.objs.size + 2) (s.heap.objs.size + 3) .none → ZQ (s.heap.objs.size + 4) (s.heap.objs.size + 2) (s.heap.objs.size + 3) s.heap.objs.size (s.heap.objs.size + 1) l1 l2 d 0 h' → (∀ c o, s.heap.get? c = some o → h'.get? c = some o) → Q (.ref (s.heap.objs.size + 4)) { s with heap := h' }) :
    wpAny (model prog w) A (call (.type "zip") [.ref l1, .ref l2]) Q E s := by
  refine callType_new F.called_zip (by decide) (F.typeCall_zip_2 _ _) (F.newCall_zip_2 _ _) (fun obj => F.args_object_init_3 obj _ _) F.entry_zip_new (meets_zip_tl l1 l2 xs ys) ⟨hl1, hl2, ?_⟩
  have z1 : (zqH1 s.heap l1).objs.size = s.heap.objs.size + 1 := Heap.size_push ..
  have z2 : (zqH2 s.heap l1 l2).objs.size = s.heap.objs.size + 2 := by rw [Heap.size_push, z1]
  have z3 : (zqH3 s.heap l1 l2).objs.size = s.heap.objs.size + 3 := by rw [Heap.size_push, z2]
  have z4 : (zqH4 s.heap l1 l2).objs.size = s.heap.objs.size + 4 := by rw [Heap.size_push, z3]
  have q5 : (zqH5 s.heap l1 l2).get? (zqH4 s.heap l1 l2).objs.size = some _ := Heap.get?_push_size _ rfl
  have q4 : (zqH5 s.heap l1 l2).get? (zqH3 s.heap l1 l2).objs.size = some _ := Heap.get?_push_of_some _ (Heap.get?_push_size _ rfl)
  have q3 : (zqH5 s.heap l1 l2).get? (zqH2 s.heap l1 l2).objs.size = some _ := Heap.get?_push_of_some _ (Heap.get?_push_of_some _ (Heap.get?_push_size _ rfl))
  have q2 : (zqH5 s.heap l1 l2).get? (zqH1 s.heap l1).objs.size = some _ := Heap.get?_push_of_some _ (Heap.get?_push_of_some _ (Heap.get?_push_of_some _ (Heap.get?_push_size _ rfl)))
  have q1 : (zqH5 s.heap l1 l2).get? s.heap.objs.size = some _ := Heap.get?_push_of_some _ (Heap.get?_push_of_some _ (Heap.get?_push_of_some _ (Heap.get?_push_of_some _ (Heap.get?_push_size _ rfl))))
  show _ ∧ _
  rw [z2, z3, z4] at q5
  rw [z1, z2] at q3
  rw [z3] at q4
  rw [z1] at q2
  rw [z4]
  exact ⟨⟨_, q5, rfl⟩, h _ q5 ⟨q3, ⟨_, q1, rfl, rfl⟩, ⟨_, q2, rfl, rfl⟩, .inl ⟨q5, _, _, q4⟩⟩ fun c o x => Heap.get?_push_of_some _ (Heap.get?_push_of_some _ (Heap.get?_push_of_some _ (Heap.get?_push_of_some _ (Heap.get?_push_of_some _ x))))⟩
theorem ZQ.at {z TI TO i1 i2 a b d : Addr} {i : Nat} {h h' : Heap} (x : ZQ z TI TO i1 i2 a b d i h) (nz : z ≠ d) (n1 : TI ≠ d) (n2 : TO ≠ d) (n3 : i1 ≠ d) (n4 : i2 ≠ d) (f : ∀ c o, c ≠ d → h.get? c = some o → h'.get? c = some o) : ZQ z TI TO i1 i2 a b d i h' := by
  obtain ⟨h1, h2, h3, h4⟩ := x
  refine ⟨f _ _ n1 h1, (nx_tuple i1 a).mv h2 fun o e => f _ _ n3 e, (nx_list i2 b).mv h3 fun o e => f _ _ n4 e, ?_⟩
  rcases h4 with ⟨h4, u, v, h5⟩ | ⟨p, o, bb, h4, h5, m1, m2, m3, m4⟩
  · exact .inl ⟨f _ _ nz h4, u, v, f _ _ n2 h5⟩
  · exact .inr ⟨p, o, bb, f _ _ nz h4, f _ _ m4 h5, m1, m2, m3, m4⟩
section
variable {z TI TO i1 i2 a b d : Addr} {prog : Program} {w : World} {A : Around} {E : Value → Shared → Prop} {s : Shared}
theorem zq_next {i : Nat} {xs ys : Array Value} {x y : Value} {Q : Option Value → Shared → Prop} (D : ZipApart z TI TO i1 i2 a b) (ld : d < s.heap.objs.size) (hz : ZQ z TI TO i1 i2 a b d i s.heap) (hl : s.heap.IsTuple a xs) (ht : s.heap.IsList b ys) (hx : xs[i]? = some x) (hy : ys[i]? = some y)
    (hQ : ∀ h', ZQ z TI TO i1 i2 a b d (i + 1) h' → IsPair h' s.heap.objs.size x y → (∀ c o, c ≠ z → c ≠ TO → c ≠ i1 → c ≠ i2 → s.heap.get? c = some o → h'.get? c = some o) → Q (some (.ref s.heap.objs.size)) { s with heap := h' }) :
    wpAny (model prog w) A (pyNext (.ref z)) Q E s := by
  obtain ⟨h1, h2, h3, h4⟩ := hz
  have n4 : i1 < s.heap.objs.size := let ⟨_, e, _⟩ := (nx_tuple i1 a).ob h2; Heap.lt_size e
  have n5 : i2 < s.heap.objs.size := let ⟨_, e, _⟩ := (nx_list i2 b).ob h3; Heap.lt_size e
  rcases h4 with ⟨h4, u, v, h5⟩ | ⟨p, o, bb, h4, h5, m1, m2, m3, m4⟩
  · have nz : z < s.heap.objs.size := Heap.lt_size h4
    refine zip_item (nx_tuple i1 a) (nx_list i2 b) D h4 h1 h5 h2 h3 hl ht hx hy fun h' z1 z2 z3 z4 z5 kp => ?_
    exact hQ h' ⟨kp _ _ D.TIz D.TITO D.TIi1 D.TIi2 h1, z3, z4, .inr ⟨s.heap.objs.size, _, false, z1, z5, Nat.ne_of_gt nz, Nat.ne_of_gt n4, Nat.ne_of_gt n5, Nat.ne_of_gt ld⟩⟩ z5 kp
  · refine zip_more (nx_tuple i1 a) (nx_list i2 b) D h4 h5 h1 h2 h3 hl ht hx hy fun h' z1 z3 z4 z5 kp => ?_
    exact hQ h' ⟨kp _ _ D.TIz D.TIi1 D.TIi2 h1, z3, z4, .inr ⟨p, o, true, z1, kp _ _ m1 m2 m3 h5, m1, m2, m3, m4⟩⟩ z5 fun c o c1 _ c3 c4 e => kp c o c1 c3 c4 e
theorem zq_end {i : Nat} {xs ys : Array Value} {Q : Option Value → Shared → Prop} (hh : A.handled = none) (D : ZipApart z TI TO i1 i2 a b) (hz : ZQ z TI TO i1 i2 a b d i s.heap) (hl : s.heap.IsTuple a xs) (ht : s.heap.IsList b ys) (he : xs[i]? = none ∨ ys[i]? = none)
    (hQ : ∀ h', (∀ c o, c ≠ z → c ≠ TO → c ≠ i1 → c ≠ i2 → s.heap.get? c = some o → h'.get? c = some o) → Q none { s with heap := h' }) : wpAny (model prog w) A (pyNext (.ref z)) Q E s := by
  obtain ⟨h1, h2, h3, h4⟩ := hz
  rcases h4 with ⟨h4, u, v, h5⟩ | ⟨p, o, bb, h4, h5, m1, m2, m3, m4⟩
  · exact zip_end (nx_tuple i1 a) (nx_list i2 b) hh D h4 h1 h5 h2 h3 hl ht he hQ
  · exact zip_fin (nx_tuple i1 a) (nx_list i2 b) hh D h4 h5 h1 h2 h3 hl ht he fun h' kp => hQ h' fun c o c1 _ c3 c4 e => kp c o c1 c3 c4 e
end
theorem zip_no_len : typeLookup (.type "zip") "__len__" = pure none := by rw [typeLookup_type, builtinLookup_eq_fast]; kernel_rfl
theorem zip_no_hint : typeLookup (.type "zip") "__length_hint__" = pure none := by rw [typeLookup_type, builtinLookup_eq_fast]; kernel_rfl
/-- the pairs laid so far -/
def PsAt (H : Hp) (ps : List Addr) (us ws : List V) : Prop := ∀ (i : Nat) (p : Addr), ps[i]? = some p → ∃ u w, us[i]? = some u ∧ ws[i]? = some w ∧ H p = some (.tup [u, w])
theorem same_seqT {K : PySem.W.Frag} {H H' : Hp} {a : Addr} {xs : List V} (e : Same H H') (h : SqT K H a xs) : SqT K H' a xs := by
  rcases h with (h | ⟨o, h⟩) | h
  · exact .inl (.inl (e _ _ h))
  · exact .inl (.inr ⟨o, e _ _ h⟩)
  · exact .inr h
section
variable {X : Cx}
theorem zq_loop {A : Around} {pins : List (Addr × Obj)} {σ : St} {R : Result → Shared → Prop} {z TI TO i1 i2 a b S : Addr} {us ws : List V} {H1 : Hp} (hh : A.handled = none) (D : ZipApart z TI TO i1 i2 a b) (nz : z ≠ S) (n1 : TI ≠ S) (n2 : TO ≠ S) (n3 : i1 ≠ S) (n4 : i2 ≠ S)
    (hf : ∀ c ∈ [z, TI, TO, i1, i2], ∀ H' : Hp, H' c = none → FpOk X pins H' c) (hlt0 : ∀ c ∈ [z, TI, TO, i1, i2], c < S) (hlen : us.length = ws.length) (hsz : us.length ≤ sizeLine) (hT : SqT X.K H1 a us) (hL : SqL X.K H1 b ws) (hS0 : H1 S = none)
    (fin : ∀ (s' : Shared) (H2 : Hp) (ps : List Addr), Inv X pins σ H2 s' → Same H1 H2 → H2 S = some (.lst (ps.map V.ref)) → ps.length = us.length → PsAt H2 ps us ws → R (.ok (.ret .none)) s') :
    ∀ (k i : Nat) (s : Shared) (H2 : Hp) (ps : List Addr), us.length - i = k → i ≤ us.length → ZQ z TI TO i1 i2 a b S i s.heap → Inv X pins σ H2 s → (∀ c ∈ [z, TI, TO, i1, i2], H2 c = none) → Same H1 H2 → H2 S = some (.lst (ps.map V.ref)) → ps.length = i → PsAt H2 ps us ws →
      codeAny (model X.prog X.w) A (.builtin "list.extend.loop" ⟨[.ref S, .ref z, .none], []⟩) R s := by
  intro k
  induction k with
  | zero =>
    intro i s H2 ps hk hi hz I fr sm hS hl hP
    have hin : i = us.length := by omega
    obtain ⟨its, rv, p1, _⟩ := I.tuple (same_seqT sm hT)
    obtain ⟨its2, rv2, p2, _⟩ := I.list (sm.seq hL)
    have e1 := rv.length
    refine codeAny_builtin PySem.F.entry_extend_loop ?_
    rw [Around.under_plainId PySem.F.plain_extend_loop _]
    show wpAny _ A.in1 (pyNext (.ref z) >>= _) _ _ _
    refine wpAny_bind (zq_end (by simpa using hh) D hz (show s.heap.IsTuple a its.toArray from p1) p2.isList (.inl (by rw [hin]; simp; omega)) fun h' kp => ?_)
    refine wpAny_pure (fin _ H2 ps (I.turnedL (t' := s.toks) (ts := [z, TI, TO, i1, i2]) (fun c o hc e => ?_) fun c hc => hf c hc H2 (fr c hc)) sm hS (by omega) hP)
    simp only [List.mem_cons, List.not_mem_nil, or_false, not_or] at hc
    exact kp c o hc.1 hc.2.2.1 hc.2.2.2.1 hc.2.2.2.2 e
  | succ k ih =>
    intro i s H2 ps hk hi hz I fr sm hS hl hP
    have hlt : i < us.length := by omega
    obtain ⟨its, rv, p1, _⟩ := I.tuple (same_seqT sm hT)
    obtain ⟨its2, rv2, p2, _⟩ := I.list (sm.seq hL)
    obtain ⟨u, hu⟩ : ∃ u, us[i]? = some u := ⟨us[i], List.getElem?_eq_getElem hlt⟩
    obtain ⟨w, hw⟩ : ∃ w, ws[i]? = some w := ⟨ws[i], List.getElem?_eq_getElem (by omega)⟩
    obtain ⟨x, hx, rx⟩ := rv.get hu
    obtain ⟨y, hy, ry⟩ := rv2.get hw
    obtain ⟨sI, sn, sr, sg, sz⟩ := I.lst hS
    have lS : S < s.heap.objs.size := Heap.lt_size sg
    refine codeAny_builtin PySem.F.entry_extend_loop ?_
    rw [Around.under_plainId PySem.F.plain_extend_loop _]
    show wpAny _ A.in1 (pyNext (.ref z) >>= _) _ _ _
    refine wpAny_bind (zq_next D lS hz (show s.heap.IsTuple a its.toArray from p1) p2.isList (x := x) (by simpa using hx) (y := y) (by simpa using hy) fun h' zq pr kp => ?_)
    have lz : ∀ c ∈ [z, TI, TO, i1, i2], c < s.heap.objs.size := fun c hc => Nat.lt_trans (hlt0 c hc) lS
    have I1 : Inv X pins σ (upd H2 s.heap.objs.size (.tup [u, w])) { s with heap := h', toks := s.toks } := I.turnedNew (ts := [z, TI, TO, i1, i2]) (fun c o hc e => by
      simp only [List.mem_cons, List.not_mem_nil, or_false, not_or] at hc
      exact kp c o hc.1 hc.2.2.1 hc.2.2.2.1 hc.2.2.2.2 e) (fun c hc => hf c hc H2 (fr c hc)) (Nat.le_refl _) ⟨by show 2 ≤ sizeLine; decide, [x, y], .cons rx (.cons ry .nil), ⟨_, pr, rfl, _, rfl⟩⟩
    have nS : S ≠ s.heap.objs.size := Nat.ne_of_lt lS
    have hS1 : upd H2 s.heap.objs.size (.tup [u, w]) S = some (.lst (ps.map V.ref)) := by rw [upd_ne nS]; exact hS
    have sg1 : h'.get? S = some { cls := .type "list", data := .seq sI.toArray sn } := kp S _ nz.symm n2.symm n3.symm n4.symm sg
    have eS := sr.length
    rw [List.length_map, hl] at eS
    have hN : H2 s.heap.objs.size = none := I.hok.fresh (Nat.le_refl _)
    have I2 : Inv X pins σ (upd (upd H2 s.heap.objs.size (.tup [u, w])) S (.lst ((ps ++ [s.heap.objs.size]).map V.ref))) { s with heap := h'.update S (Obj.mapSeq (·.push (Value.ref s.heap.objs.size))), toks := s.toks } :=
      I1.lset (its' := sI ++ [Value.ref s.heap.objs.size]) hS1 sg1 (by simp) (by rw [List.map_append]; exact sr.append (.cons rfl .nil)) (by rw [List.length_map, List.length_append, List.length_singleton, hl]; omega)
    have up : ∀ c o, c ≠ S → h'.get? c = some o → (h'.update S (Obj.mapSeq (·.push (Value.ref s.heap.objs.size)))).get? c = some o := fun c o hc e => (Heap.get?_update_other _ _ (Ne.symm hc)).trans e
    have sm2 : Same H1 (upd (upd H2 s.heap.objs.size (.tup [u, w])) S (.lst ((ps ++ [s.heap.objs.size]).map V.ref))) := same_fresh (sm.trans (same_new hN)) hS0
    show wpAny _ A.in1 (updateSeq S (·.push (Value.ref s.heap.objs.size)) >>= _) _ _ _
    refine wpAny_bind (wpAny_updateSeq sg1 rfl (wpAny_pure ⟨plainId_quiet PySem.F.plain_extend_loop _, ih (i + 1) _ _ (ps ++ [s.heap.objs.size]) (by omega) hlt (zq.at nz n1 n2 n3 n4 up) I2 (fun c hc => ?_) sm2 upd_same (by rw [List.length_append, hl]; rfl) ?_⟩) (by rw [List.size_toArray]; omega) (by show (sI.toArray.push _).size ≤ sizeLine + 1; rw [Array.size_push, List.size_toArray]; omega))
    · rw [upd_ne (Nat.ne_of_lt (hlt0 c hc)), upd_ne (Nat.ne_of_lt (lz c hc))]
      exact fr c hc
    · intro j p hj
      rcases Nat.lt_trichotomy j ps.length with h1 | h1 | h1
      · rw [List.getElem?_append_left h1] at hj
        obtain ⟨u', w', e1, e2, e3⟩ := hP j p hj
        refine ⟨u', w', e1, e2, ?_⟩
        rw [upd_ne (ne_of e3 hS (by intro z; cases z)), upd_ne (ne_of_none e3 hN)]
        exact e3
      · subst h1
        have hb : s.heap.objs.size = p := by simpa using hj
        subst hb
        refine ⟨u, w, by rw [hl]; exact hu, by rw [hl]; exact hw, ?_⟩
        rw [upd_ne nS.symm]
        exact upd_same
      · have hnone : (ps ++ [s.heap.objs.size])[j]? = none := List.getElem?_eq_none (by rw [List.length_append, List.length_singleton]; omega)
        rw [hnone] at hj; cases hj
def tLZ (K : PySem.W.Frag) (ta : TA) : TE := fun σ H Q => ta σ H fun vs H1 => ∃ t l us ws, vs = [.ref t, .ref l] ∧ SqT K H1 t us ∧ SqL K H1 l ws ∧ us.length = ws.length ∧ ∀ D ps H2, H1 D = none → Same H1 H2 → H2 D = some (.lst ((ps : List Addr).map V.ref)) → ps.length = us.length → PsAt H2 ps us ws → Q (.ref D) H2
theorem pe_listzip {a b : Expr} {ta : TA} {p1 p2 pos1 pos2 : Pos} (hc : X.calm = true) (hgd : Gl X "list") (hmd : X.mg "list" = none) (hgz : Gl X "zip") (hmz : X.mg "zip" = none) (ha : PA X [a, b] ta)
    (hs0 : starEach [.Call (.Name "zip" p2) [a, b] [] pos2] X.env = (false, eval (.Call (.Name "zip" p2) [a, b] [] pos2) X.env) :: starEach [] X.env := by rfl)
    (hs : starEach [a, b] X.env = [(false, eval a X.env), (false, eval b X.env)] := by rfl) (hs2 : starEach [b] X.env = [(false, eval b X.env)] := by rfl) :
    PE X (.Call (.Name "list" p1) [.Call (.Name "zip" p2) [a, b] [] pos2] [] pos1) (tLZ X.K ta) := by
  intro pins s σ H Q I h
  have hh : X.A.handled = none := I.ok.hd hc
  refine wpAny_Call_Name_kw (ld_blt I hgd hmd boot_list ?_)
  refine PyProof.Rows.callWith_type1 ?_ hs0 (by rfl)
  rw [hs0]
  show wpAny _ _ (spliced ((false, eval _ X.env) :: backTo pos1 (starEach [] X.env))) _ _ s
  refine Calls.spliced_cons ?_
  refine Call_ (ld_blt I hgz hmz boot_zip (PyProof.Rows.callWith_type1 (thn (ha pos2 pins s σ H _ I h) fun us s1 ⟨vs, H1, I1, r1, q1⟩ => ?_) (by rw [hs, hs2]) (by rw [hs2]; rfl)))
  obtain ⟨l1, l2, ks, ws, e, hq1, hq2, hle, q⟩ := q1
  subst e
  obtain ⟨u, u2, rfl, ru, ru2⟩ := vals2 r1
  cases ru
  cases ru2
  obtain ⟨its, rv, p1', zk⟩ := I1.tuple hq1
  obtain ⟨its2, rv2, p2', _⟩ := I1.list hq2
  have t1 : l1 < s1.heap.objs.size := p1'.lt
  have t2 : l2 < s1.heap.objs.size := let ⟨_, e, _⟩ := p2'.isList; Heap.lt_size e
  refine call_zip_tl (d := s1.heap.objs.size + 5) (show s1.heap.IsTuple l1 its.toArray from p1') p2'.isList fun h' hz zq kp => Calls.spliced_nil ?_
  have D := zipApart_new t1 t2
  have lz : s1.heap.objs.size + 4 < h'.objs.size := Heap.lt_size hz
  have zq : ZQ (s1.heap.objs.size + 4) (s1.heap.objs.size + 2) (s1.heap.objs.size + 3) s1.heap.objs.size (s1.heap.objs.size + 1) l1 l2 h'.objs.size 0 h' := by
    obtain ⟨g1, g2, g3, g4⟩ := zq
    refine ⟨g1, g2, g3, ?_⟩
    rcases g4 with g4 | ⟨p, o, bb, g4, g5, m1, m2, m3, m4⟩
    · exact .inl g4
    · exact .inr ⟨p, o, bb, g4, g5, m1, m2, m3, Nat.ne_of_lt (Heap.lt_size g5)⟩
  have I2 : Inv X pins σ H1 { s1 with heap := h' } := I1.kept (t' := s1.toks) kp
  refine callType_codes (Q₁ := fun obj s₁ => obj = .ref h'.objs.size ∧ s₁ = { s1 with heap := h'.push { cls := .type "list", data := .seq #[] } }) PySem.F.called_list (PySem.F.typeCall_list_1 _) PySem.F.entry_list_init (code_list_new (s := { s1 with heap := h' }) _ ⟨rfl, rfl⟩) ?_
  rintro obj s₁ ⟨rfl, rfl⟩
  have I3 : Inv X pins σ (upd H1 h'.objs.size (.lst [])) { s1 with heap := h'.push { cls := .type "list", data := .seq #[] }, toks := s1.toks } := I2.lnew (its := []) .nil (Nat.zero_le _)
  have hS : (h'.push { cls := .type "list", data := .seq #[] }).get? h'.objs.size = some { cls := .type "list", data := .seq #[] } := Heap.get?_push_size _ rfl
  have hle5 : ∀ c ∈ [s1.heap.objs.size + 4, s1.heap.objs.size + 2, s1.heap.objs.size + 3, s1.heap.objs.size, s1.heap.objs.size + 1], s1.heap.objs.size ≤ c ∧ c < h'.objs.size := fun c hc => by
    simp only [List.mem_cons, List.not_mem_nil, or_false] at hc
    rcases hc with rfl | rfl | rfl | rfl | rfl <;> exact ⟨by omega, by omega⟩
  have hH0 : H1 h'.objs.size = none := I2.hok.fresh (Nat.le_refl _)
  have ez : (h'.push { cls := .type "list", data := .seq #[] }).get? (s1.heap.objs.size + 4) = some _ := Heap.get?_push_of_some _ hz
  have hTz : Shared.TypeIs { s1 with heap := h'.push { cls := .type "list", data := .seq #[] } } (.ref (s1.heap.objs.size + 4)) "zip" := ⟨_, ez, rfl⟩
  refine ⟨⟨_, hS, rfl⟩, PySem.F.args_list_init_2 _ _, ?_⟩
  show wpAny _ _ (do let old ← Builtin.List.listItems (.ref h'.objs.size); Builtin.List.listUpdate (.ref h'.objs.size) (fun _ => #[]); letGo old.toList.reverse; Builtin.List.listExtendWith (.ref h'.objs.size) (.ref (s1.heap.objs.size + 4)) .none) _ _ _
  refine wpAny_bind ?_
  unfold Builtin.List.listItems
  refine wpAny_bind (wpAny_seqItems hS rfl (wpAny_pure ?_))
  show wpAny _ _ (updateSeq h'.objs.size (fun _ => #[]) >>= fun _ => letGo (#[] : Array Value).toList.reverse >>= fun _ => Builtin.List.listExtendWith (.ref h'.objs.size) (.ref (s1.heap.objs.size + 4)) .none) _ _ _
  refine wpAny_bind (wpAny_updateSeq hS rfl ?_)
  have J1 := I3.lset (t' := s1.toks) (its := []) (its' := []) (n := 0) (ys := []) (f := fun _ => #[]) upd_same hS rfl .nil (Nat.zero_le _)
  refine wpAny_bind (wpAny_letGo ?_)
  unfold Builtin.List.listExtendWith
  have oth : ∀ (h : Heap) (f : Array Value → Array Value) (b : Addr) (o : Obj), b ≠ h'.objs.size → h.get? b = some o → (h.update h'.objs.size (Obj.mapSeq f)).get? b = some o := fun h f b o hb e => (Heap.get?_update_other _ _ (Ne.symm hb)).trans e
  have nz : s1.heap.objs.size + 4 ≠ h'.objs.size := Nat.ne_of_lt lz
  have ez2 := oth _ (fun _ => #[]) _ _ nz ez
  have hT2 : Shared.TypeIs { s1 with heap := (h'.push { cls := .type "list", data := .seq #[] }).update h'.objs.size (Obj.mapSeq fun _ => #[]) } (.ref (s1.heap.objs.size + 4)) "zip" := ⟨_, ez2, rfl⟩
  refine wpAny_bind (wpAny_typeOf (T := "zip") hT2 ?_)
  have h1 : Builtin.List.listSameRef (.ref h'.objs.size) (.ref (s1.heap.objs.size + 4)) = false := by simp [Builtin.List.listSameRef, nz.symm]
  have h2 : (Value.type "zip" == Value.type "list") = false := by decide
  have h3 : (Value.type "zip" == Value.type "tuple") = false := by decide
  simp only [h1, h2, h3, Bool.or_false, Bool.false_eq_true, if_false]
  refine wpAny_bind (wpAny_pyIter_zip ez2 ?_)
  refine wpAny_bind (wpAny_holding ?_)
  unfold Builtin.List.listLengthHint
  refine wpAny_bind (wpAny_specialOf hT2 zip_no_len ?_)
  show wpAny _ _ (specialOf (Value.ref (s1.heap.objs.size + 4)) (Str.ofString "__length_hint__") >>= _) _ _ _
  refine wpAny_bind (wpAny_specialOf hT2 zip_no_hint ?_)
  refine wpAny_pure ?_
  show wpAny _ _ (rule "list.extend.makes-room" >>= fun _ => Builtin.List.listTouch (.ref h'.objs.size) >>= fun _ =>
    again (.builtin "list.extend.loop" ⟨[.ref h'.objs.size, .ref (s1.heap.objs.size + 4), .none], []⟩)) _ _ _
  refine wpAny_bind (wpAny_rule ?_)
  refine wpAny_bind ?_
  show wpAny _ _ (updateSeq h'.objs.size (·.push .none) >>= fun _ => updateSeq h'.objs.size (·.pop)) _ _ _
  obtain ⟨i1, n1, r1, g1, _⟩ := J1.lst upd_same
  have e1 : i1 = [] := by cases r1; rfl
  subst e1
  refine wpAny_bind (wpAny_updateSeq g1 rfl ?_)
  have J2 := J1.lset (t' := s1.toks) (its := []) (its' := [Value.none]) (ys := [.non]) (f := (·.push Value.none)) upd_same g1 rfl (.cons rfl .nil) (by decide)
  obtain ⟨i2, n2, r2, g2, _⟩ := J2.lst upd_same
  have e2 : i2.length = 1 := r2.length.symm
  refine wpAny_updateSeq g2 rfl ?_ (by rw [List.size_toArray, e2]; decide) (by rw [Array.size_pop, List.size_toArray, e2]; decide)
  have J3 := J2.lset (t' := s1.toks) (its := i2) (its' := []) (ys := []) (f := (·.pop)) upd_same g2 (by obtain ⟨x, rfl⟩ := List.length_eq_one_iff.mp e2; rfl) .nil (Nat.zero_le _)
  rw [upd_upd, upd_upd, upd_upd] at J3
  refine wpAny_pure ⟨plainId_quiet PySem.F.plain_extend_loop _, zq_loop (X := X) (pins := pins) (σ := σ) (H1 := H1) (us := ks) (ws := ws) (by simpa using hh) D nz (Nat.ne_of_lt (hle5 _ (by simp)).2) (Nat.ne_of_lt (hle5 _ (by simp)).2) (Nat.ne_of_lt (hle5 _ (by simp)).2) (Nat.ne_of_lt (hle5 _ (by simp)).2)
    (fun c hc H' hn => I1.fpOk (hle5 c hc).1 hn) (fun c hc => (hle5 c hc).2) hle zk hq1 hq2 hH0 (fun s' H2 ps I' sm hS' hl hP => ⟨rfl, .ref h'.objs.size, H2, I', rfl, q _ ps H2 hH0 sm hS' hl hP⟩) ks.length 0 _ _ [] (by omega) (Nat.zero_le _) (zq.at nz (Nat.ne_of_lt (hle5 _ (by simp)).2) (Nat.ne_of_lt (hle5 _ (by simp)).2) (Nat.ne_of_lt (hle5 _ (by simp)).2) (Nat.ne_of_lt (hle5 _ (by simp)).2) fun c o hc e => oth _ _ c o hc (oth _ _ c o hc (oth _ _ c o hc (Heap.get?_push_of_some _ e)))) J3 (fun c hc => ?_) (same_new hH0) upd_same rfl (fun j p hj => by simp at hj)⟩
  rw [upd_ne (Nat.ne_of_lt (hle5 c hc).2)]
  exact I1.hok.fresh (hle5 c hc).1
end
end L2

/-! MY RULES: list(range(..)), tuple(range(a, b)). -/
set_option linter.all false
set_option maxRecDepth 100000
set_option maxHeartbeats 4000000
namespace L2
open PySem PySem.Spec PyProof.Rows
theorem vals_from : ∀ (its : List Value) (lo : Int), (∀ (j : Nat) (v : Value), its[j]? = some v → ∃ t, v = .int (lo + j) t) → Vals ((List.range its.length).map fun (k : Nat) => V.int (lo + k)) its
  | [], _, _ => .nil
  | v :: r, lo, h => by
    rw [List.length_cons, List.range_succ_eq_map, List.map_cons, List.map_map]
    have t := vals_from r (lo + 1) fun j u hj => by
      obtain ⟨t, e⟩ := h (j + 1) u (by simpa using hj)
      exact ⟨t, by rw [e]; congr 1; omega⟩
    have e : ((fun (k : Nat) => V.int (lo + k)) ∘ Nat.succ) = fun (k : Nat) => V.int (lo + 1 + k) := by
      funext k
      show V.int (lo + ((k + 1 : Nat) : Int)) = V.int (lo + 1 + k)
      congr 1
      omega
    rw [e]
    exact .cons (h 0 v rfl) t
section
variable {prog : Program} {w : World} {A : Around} {E : Value → Shared → Prop} {s : Shared}
theorem collect_rng {Q : List Value → Shared → Prop} {r : Addr} {a b c : Int} {t u v : Tok} {n : Nat} (hh : A.handled = none) (hr : IsRange s.heap r a b c t u v) (hsmall : Builtin.Range.small a b c = true)
    (hn : Builtin.Range.rangeSize a b c = n) (hlen : n ≤ 2 ^ 24) (hQ : ∀ (h' : Heap) (tk : Nat) (acc : Array Value), (∀ b o, s.heap.get? b = some o → h'.get? b = some o) → ItemsOf (fun i v => ∃ t, v = .int (a + i * c) t) acc n → Q acc.toList { s with heap := h', toks := tk }) :
    wpAny (model prog w) A (collect (.ref r)) Q E s := by
  unfold collect
  refine wpAny_bind (wpAny_runValue (codeAny_builtin F.entry_proto_collect ?_))
  rw [Around.under_plainId F.plain_proto_collect _]
  show wpAny _ A.in1 (newList [] >>= fun l => again (.builtin "list.__iadd__" ⟨[l, .ref r], []⟩)) _ _ s
  refine wpAny_bind (wpAny_newObj_type ?_)
  refine wpAny_pure ⟨plainId_quiet F.plain_list_iadd _, codeAny_builtin F.entry_list_iadd ?_⟩
  rw [Around.under_plainId F.plain_list_iadd _]
  show wpAny _ A.in1 (Builtin.List.listExtendWith (.ref s.heap.objs.size) (.ref r) (.ref s.heap.objs.size)) _ _ _
  have hS : (s.heap.push { cls := .type "list", data := .seq ([] : List Value).toArray }).get? s.heap.objs.size = some { cls := .type "list", data := .seq #[] 0 } := Heap.get?_push_size _ rfl
  have fin' : ∀ (h' : Heap) (tk : Nat) (acc' : Array Value) (c' : Nat), (∀ b o, b ≠ s.heap.objs.size → (s.heap.push { cls := .type "list", data := .seq ([] : List Value).toArray }).get? b = some o → h'.get? b = some o) → h'.get? s.heap.objs.size = some { cls := .type "list", dict := none, data := .seq acc' c', slots := #[] } → ItemsOf (fun i v => ∃ t, v = .int (a + i * c) t) acc' n →
      wpAny (model prog w) A (match Value.ref s.heap.objs.size with
      | Value.ref a => do
        match (← load a).data with
          | Data.seq xs _ => pure xs.toList
          | _ => unsupported "internal:collect"
      | _ => unsupported "internal:collect") Q E { s with heap := h', toks := tk } := fun h' tk acc' c' kp hS' hacc => by
    show wpAny _ A (load s.heap.objs.size >>= _) _ _ _
    refine wpAny_bind (wpAny_load hS' ?_)
    exact wpAny_pure (hQ h' tk acc' (fun b o e => kp b o (Nat.ne_of_lt (Heap.lt_size e)) (Heap.get?_push_of_some _ e)) hacc)
  refine wpAny_mono (wpAny_extend_range (A := A) (R := fun r s' => ∃ (h' : Heap) (tk : Nat) (acc' : Array Value) (c' : Nat), r = .ok (.ret (.ref s.heap.objs.size)) ∧ s' = { s with heap := h', toks := tk } ∧ (∀ b o, b ≠ s.heap.objs.size → (s.heap.push { cls := .type "list", data := .seq ([] : List Value).toArray }).get? b = some o → h'.get? b = some o) ∧ h'.get? s.heap.objs.size = some { cls := .type "list", dict := none, data := .seq acc' c', slots := #[] } ∧ ItemsOf (fun i v => ∃ t, v = .int (a + i * c) t) acc' n)
    (s := { s with heap := s.heap.push { cls := .type "list", data := .seq ([] : List Value).toArray } }) hh (Heap.get?_push_of_some _ hr) hsmall hn hlen s.heap.objs.size _ 0 hS fun h' tk acc' c' kp hS' hacc => ⟨h', tk, acc', c', rfl, rfl, kp, hS', hacc⟩) (fun fin s' h => ?_) (fun e s' h => ?_)
  · cases fin with
    | done f =>
      obtain ⟨h', tk, acc', c', e, rfl, kp, hS', hacc⟩ := h
      cases e
      exact fin' h' tk acc' c' kp hS' hacc
    | again c' => exact ⟨h.1, codeAny_mono h.2 fun r s'' hr => by obtain ⟨h', tk, acc', c', rfl, rfl, kp, hS', hacc⟩ := hr; exact fin' h' tk acc' c' kp hS' hacc⟩
  · obtain ⟨_, _, _, _, e, _⟩ := h
    cases e
theorem tuple_new_rng {Q₁ : Value → Shared → Prop} {r : Addr} {a b c : Int} {t u v : Tok} {n : Nat} (hh : A.handled = none) (hr : IsRange s.heap r a b c t u v) (hsmall : Builtin.Range.small a b c = true)
    (hn : Builtin.Range.rangeSize a b c = n) (hlen : n ≤ 2 ^ 24)
    (h : ∀ (h' : Heap) (tk : Nat) (acc : Array Value), (∀ b o, s.heap.get? b = some o → h'.get? b = some o) → ItemsOf (fun i v => ∃ t, v = .int (a + i * c) t) acc n → Q₁ (.ref h'.objs.size) { s with heap := h'.push { cls := .type "tuple", data := .seq acc }, toks := tk }) (hsz : n ≤ sizeLine) :
    codeAny (model prog w) A (.call (.builtin "tuple.__new__") ⟨[.type "tuple", .ref r], []⟩) (wants Q₁ E) s := by
  refine codeAny_of_tree ?_
  show wpAny _ A.in1 (do checkBuiltinCall "tuple.__new__" ⟨[.type "tuple", .ref r], []⟩; again (.builtin "tuple.__new__" ⟨[.type "tuple", .ref r], []⟩)) _ _ s
  refine wpAny_bind (wpAny_of_eq (F.newCall_tuple_1 _) (wpAny_pure ⟨plainId_quiet F.plain_tuple_new _, codeAny_builtin F.entry_tuple_new ?_⟩))
  rw [Around.under_plainId F.plain_tuple_new _]
  have hsub := sub_tuple_self
  have hinit := init_tuple_lookup
  have hmh := madeHere_tuple
  have hTI : s.TypeIs (.ref r) "range" := ⟨_, hr, rfl⟩
  wp_walk using wpAny_typeOf hTI, collect_rng (by first | exact hh | simpa using hh) hr hsmall hn hlen
  intro h' tk acc kp hacc
  show wpAny _ _ (Builtin.Tuple.tupleExact acc.toList.toArray >>= fun v => ret v) _ _ _
  unfold Builtin.Tuple.tupleExact
  refine wpAny_bind (wpAny_newObj_type ?_ (by show acc.toList.toArray.size ≤ sizeLine; simp only [Array.toArray_toList]; rw [hacc.1]; exact hsz))
  refine wpAny_pure ?_
  have e : acc.toList.toArray = acc := by simp
  rw [e]
  exact h h' tk acc kp hacc
theorem call_tuple_rng {Q : Value → Shared → Prop} {r : Addr} {a b c : Int} {t u v : Tok} {n : Nat} (hh : A.handled = none) (hr : IsRange s.heap r a b c t u v) (hsmall : Builtin.Range.small a b c = true)
    (hn : Builtin.Range.rangeSize a b c = n) (hlen : n ≤ 2 ^ 24)
    (hQ : ∀ (h' : Heap) (tk : Nat) (acc : Array Value), (∀ b o, s.heap.get? b = some o → h'.get? b = some o) → ItemsOf (fun i v => ∃ t, v = .int (a + i * c) t) acc n → Q (.ref h'.objs.size) { s with heap := h'.push { cls := .type "tuple", data := .seq acc }, toks := tk }) (hsz : n ≤ sizeLine) :
    wpAny (model prog w) A (call (.type "tuple") [.ref r]) Q E s := by
  refine callType_codes (Q₁ := fun obj s₁ => s₁.TypeIs obj "tuple" ∧ Q obj s₁) F.called_tuple (F.typeCall_tuple_1 _) F.entry_object_init
    (tuple_new_rng (by first | exact hh | simpa using hh) hr hsmall hn hlen (fun h' tk acc kp hacc => ⟨⟨_, Heap.get?_push_size _ rfl, rfl⟩, hQ h' tk acc kp hacc⟩) hsz) fun obj s₁ h₁ => ?_
  exact ⟨h₁.1, F.args_object_init_2 obj _, object_init_meets F.called_tuple.init.lookup F.called_tuple.made (by decide) prog w A.in1 _ s₁ ⟨h₁.1, rfl, h₁.2⟩⟩
end
section
variable {X : Cx}
theorem rsize {lo hi : Int} : Builtin.Range.rangeSize lo hi 1 = (((hi - lo).toNat : Nat) : Int) := by rw [rangeSize_one]; split <;> omega
theorem list_rng {pins : List (Addr × Obj)} {σ : St} {H : Hp} {s : Shared} {Q : VK} {lo hi : Int} {t u v : Tok} {tk : Nat} (hh : X.A.handled = none) (I : Inv X pins σ H s) (h1 : -(2 ^ 62) ≤ lo) (h2 : lo < 2 ^ 62) (h3 : -(2 ^ 62) ≤ hi) (h4 : hi < 2 ^ 62) (h5 : hi - lo ≤ 1000000)
    (q : ∀ D, H D = none → Q (.ref D) (upd H D (.lst ((List.range (hi - lo).toNat).map fun (k : Nat) => .int (lo + k))))) : wpAny (model X.prog X.w) X.A (call (.type "list") [.ref s.heap.objs.size]) (EP X pins σ Q) X.xe { s with heap := s.heap.push { cls := .type "range", data := .fields #[.int lo t, .int hi u, .int 1 v] }, toks := tk } := by
  have I1 : Inv X pins σ H { s with heap := s.heap.push { cls := .type "range", data := .fields #[.int lo t, .int hi u, .int 1 v] }, toks := tk } := I.kept fun b o e => Heap.get?_push_of_some _ e
  refine call_list_range hh (IsRange.new ..) (small_one h1 h2 h3 h4) rsize (by omega) fun h' tk' acc' c' kp hD hacc => ?_
  have hl : acc'.toList.length = (hi - lo).toNat := by rw [Array.length_toList]; exact hacc.1
  have vs := vals_from acc'.toList lo fun j v hj => by
    obtain ⟨t, e⟩ := hacc.2 j v (by rw [← Array.getElem?_toList]; exact hj)
    exact ⟨t, by rw [e]; congr 1; omega⟩
  rw [hl] at vs
  refine ⟨.ref _, _, I1.laid (t' := tk') (o := .lst ((List.range (hi - lo).toNat).map fun (k : Nat) => .int (lo + k))) kp (Nat.le_refl _) ⟨?_, acc'.toList, c', vs, by simpa using hD⟩, rfl, q _ (I1.hok.fresh (Nat.le_refl _))⟩
  rw [List.length_map, List.length_range]
  exact line_le (by omega)
theorem tuple_rng {pins : List (Addr × Obj)} {σ : St} {H : Hp} {s : Shared} {Q : VK} {lo hi : Int} {t u v : Tok} {tk : Nat} (hh : X.A.handled = none) (I : Inv X pins σ H s) (h1 : -(2 ^ 62) ≤ lo) (h2 : lo < 2 ^ 62) (h3 : -(2 ^ 62) ≤ hi) (h4 : hi < 2 ^ 62) (h5 : hi - lo ≤ 1000000)
    (q : ∀ D, H D = none → Q (.ref D) (upd H D (.tup ((List.range (hi - lo).toNat).map fun (k : Nat) => .int (lo + k))))) : wpAny (model X.prog X.w) X.A (call (.type "tuple") [.ref s.heap.objs.size]) (EP X pins σ Q) X.xe { s with heap := s.heap.push { cls := .type "range", data := .fields #[.int lo t, .int hi u, .int 1 v] }, toks := tk } := by
  have I1 : Inv X pins σ H { s with heap := s.heap.push { cls := .type "range", data := .fields #[.int lo t, .int hi u, .int 1 v] }, toks := tk } := I.kept fun b o e => Heap.get?_push_of_some _ e
  have hz : (hi - lo).toNat ≤ sizeLine := line_le (by omega)
  refine call_tuple_rng hh (IsRange.new ..) (small_one h1 h2 h3 h4) rsize (by omega) (fun h' tk' acc kp hacc => ?_) hz
  have hl : acc.toList.length = (hi - lo).toNat := by rw [Array.length_toList]; exact hacc.1
  have vs := vals_from acc.toList lo fun j v hj => by
    obtain ⟨t, e⟩ := hacc.2 j v (by rw [← Array.getElem?_toList]; exact hj)
    exact ⟨t, by rw [e]; congr 1; omega⟩
  rw [hl] at vs
  have le : (s.heap.push { cls := .type "range", data := .fields #[.int lo t, .int hi u, .int 1 v] }).objs.size ≤ h'.objs.size := by
    have := Heap.lt_size (kp _ _ (Heap.get?_push_size s.heap rfl))
    rw [Heap.size_push]
    exact this
  refine ⟨.ref _, _, I1.laid (t' := tk') (o := .tup ((List.range (hi - lo).toNat).map fun (k : Nat) => .int (lo + k))) (fun b u e => Heap.get?_push_of_some _ (kp _ _ e)) le ⟨?_, acc.toList, vs, ⟨_, Heap.get?_push_size _ rfl, rfl, 0, by simp⟩⟩, rfl, q _ (I1.hok.fresh le)⟩
  rw [List.length_map, List.length_range]
  exact hz
def tLR1 (ta : TA) : TE := fun σ H Q => ta σ H fun vs H1 => ∃ j : Int, vs = [.int j] ∧ -(2 ^ 62) ≤ j ∧ j ≤ 1000000 ∧ ∀ D, H1 D = none → Q (.ref D) (upd H1 D (.lst ((List.range j.toNat).map fun (k : Nat) => .int (k : Int))))
def tLR2 (ta : TA) : TE := fun σ H Q => ta σ H fun vs H1 => ∃ i j : Int, vs = [.int i, .int j] ∧ (-(2 ^ 62) ≤ i ∧ i < 2 ^ 62 ∧ -(2 ^ 62) ≤ j ∧ j < 2 ^ 62 ∧ j - i ≤ 1000000) ∧ ∀ D, H1 D = none → Q (.ref D) (upd H1 D (.lst ((List.range (j - i).toNat).map fun (k : Nat) => .int (i + k))))
def tTR2 (ta : TA) : TE := fun σ H Q => ta σ H fun vs H1 => ∃ i j : Int, vs = [.int i, .int j] ∧ (-(2 ^ 62) ≤ i ∧ i < 2 ^ 62 ∧ -(2 ^ 62) ≤ j ∧ j < 2 ^ 62 ∧ j - i ≤ 1000000) ∧ ∀ D, H1 D = none → Q (.ref D) (upd H1 D (.tup ((List.range (j - i).toNat).map fun (k : Nat) => .int (i + k))))
theorem pe_listrange1 {a : Expr} {ta : TA} {p1 p2 pos1 pos2 : Pos} (hc : X.calm = true) (hgd : Gl X "list") (hmd : X.mg "list" = none) (hgz : Gl X "range") (hmz : X.mg "range" = none) (ha : PA X [a] ta)
    (hs0 : starEach [.Call (.Name "range" p2) [a] [] pos2] X.env = (false, eval (.Call (.Name "range" p2) [a] [] pos2) X.env) :: starEach [] X.env := by rfl)
    (hs : starEach [a] X.env = [(false, eval a X.env)] := by rfl) : PE X (.Call (.Name "list" p1) [.Call (.Name "range" p2) [a] [] pos2] [] pos1) (tLR1 ta) := by
  intro pins s σ H Q I h
  have hh : X.A.handled = none := I.ok.hd hc
  refine wpAny_Call_Name_kw (ld_blt I hgd hmd boot_list ?_)
  refine PyProof.Rows.callWith_type1 ?_ hs0 (by rfl)
  rw [hs0]
  show wpAny _ _ (spliced ((false, eval _ X.env) :: backTo pos1 (starEach [] X.env))) _ _ s
  refine Calls.spliced_cons ?_
  refine Call_ (ld_blt I hgz hmz boot_range (PyProof.Rows.callWith_type1 (thn (ha pos2 pins s σ H _ I h) fun us s1 ⟨vs, H1, I1, r1, q1⟩ => ?_) hs rfl))
  obtain ⟨j, e, q1, q2, q⟩ := q1
  subst e
  cases r1 with
  | cons r rr =>
    cases rr
    obtain ⟨t, rfl⟩ := r
    refine call_range_1 (Calls.spliced_nil (list_rng hh I1 (by omega) (by omega) q1 (by omega) (by omega) fun D hD => ?_))
    have := q D hD
    simpa using this
theorem pe_listrange2 {a b : Expr} {ta : TA} {p1 p2 pos1 pos2 : Pos} (hc : X.calm = true) (hgd : Gl X "list") (hmd : X.mg "list" = none) (hgz : Gl X "range") (hmz : X.mg "range" = none) (ha : PA X [a, b] ta)
    (hs0 : starEach [.Call (.Name "range" p2) [a, b] [] pos2] X.env = (false, eval (.Call (.Name "range" p2) [a, b] [] pos2) X.env) :: starEach [] X.env := by rfl)
    (hs : starEach [a, b] X.env = [(false, eval a X.env), (false, eval b X.env)] := by rfl) (hs2 : starEach [b] X.env = [(false, eval b X.env)] := by rfl) : PE X (.Call (.Name "list" p1) [.Call (.Name "range" p2) [a, b] [] pos2] [] pos1) (tLR2 ta) := by
  intro pins s σ H Q I h
  have hh : X.A.handled = none := I.ok.hd hc
  refine wpAny_Call_Name_kw (ld_blt I hgd hmd boot_list ?_)
  refine PyProof.Rows.callWith_type1 ?_ hs0 (by rfl)
  rw [hs0]
  show wpAny _ _ (spliced ((false, eval _ X.env) :: backTo pos1 (starEach [] X.env))) _ _ s
  refine Calls.spliced_cons ?_
  refine Call_ (ld_blt I hgz hmz boot_range (PyProof.Rows.callWith_type1 (thn (ha pos2 pins s σ H _ I h) fun us s1 ⟨vs, H1, I1, r1, q1⟩ => ?_) (by rw [hs, hs2]) (by rw [hs2]; rfl)))
  obtain ⟨i, j, e, ⟨q1, q2, q3, q4, q5⟩, q⟩ := q1
  subst e
  cases r1 with
  | cons r rr =>
    cases rr with
    | cons r' rr =>
      cases rr
      obtain ⟨t, rfl⟩ := r
      obtain ⟨t', rfl⟩ := r'
      exact call_range_2 (Calls.spliced_nil (list_rng hh I1 q1 q2 q3 q4 q5 q))
theorem pe_tuprange2 {a b : Expr} {ta : TA} {p1 p2 pos1 pos2 : Pos} (hc : X.calm = true) (hgd : Gl X "tuple") (hmd : X.mg "tuple" = none) (hgz : Gl X "range") (hmz : X.mg "range" = none) (ha : PA X [a, b] ta)
    (hs0 : starEach [.Call (.Name "range" p2) [a, b] [] pos2] X.env = (false, eval (.Call (.Name "range" p2) [a, b] [] pos2) X.env) :: starEach [] X.env := by rfl)
    (hs : starEach [a, b] X.env = [(false, eval a X.env), (false, eval b X.env)] := by rfl) (hs2 : starEach [b] X.env = [(false, eval b X.env)] := by rfl) : PE X (.Call (.Name "tuple" p1) [.Call (.Name "range" p2) [a, b] [] pos2] [] pos1) (tTR2 ta) := by
  intro pins s σ H Q I h
  have hh : X.A.handled = none := I.ok.hd hc
  refine wpAny_Call_Name_kw (ld_blt I hgd hmd boot_tuple ?_)
  refine PyProof.Rows.callWith_type1 ?_ hs0 (by rfl)
  rw [hs0]
  show wpAny _ _ (spliced ((false, eval _ X.env) :: backTo pos1 (starEach [] X.env))) _ _ s
  refine Calls.spliced_cons ?_
  refine Call_ (ld_blt I hgz hmz boot_range (PyProof.Rows.callWith_type1 (thn (ha pos2 pins s σ H _ I h) fun us s1 ⟨vs, H1, I1, r1, q1⟩ => ?_) (by rw [hs, hs2]) (by rw [hs2]; rfl)))
  obtain ⟨i, j, e, ⟨q1, q2, q3, q4, q5⟩, q⟩ := q1
  subst e
  cases r1 with
  | cons r rr =>
    cases rr with
    | cons r' rr =>
      cases rr
      obtain ⟨t, rfl⟩ := r
      obtain ⟨t', rfl⟩ := r'
      exact call_range_2 (Calls.spliced_nil (tuple_rng hh I1 q1 q2 q3 q4 q5 q))
end
theorem ext_tup (l : Addr) (items : Array Value) (n : Nat) (b : Addr) (items2 : Array Value) (n2 : Nat) (dd : Option Addr) (sl : Array (Option Value)) (hs0 : ¬(!items.isEmpty && Builtin.List.listTooLong (items.size + items2.size)) = true) (hs1 : items.size ≤ sizeLine) (hs2 : items.size + items2.size ≤ sizeLine + 1) :
    Meets (Builtin.«list.extend» ⟨[.ref l, .ref b], []⟩) (fun _ R s => s.heap.get? l = some { cls := .type "list", dict := none, data := .seq items n, slots := #[] } ∧ s.heap.get? b = some { cls := .type "tuple", dict := dd, data := .seq items2 n2, slots := sl } ∧ R (.ok (.ret Value.none)) { s with heap := s.heap.update l (Obj.mapSeq fun x => x ++ items2), toks := s.toks }) :=
  .of_wp fun prog w A R s h => by
    obtain ⟨hp, g, d, tk, os⟩ := s; obtain ⟨hl, hb, h⟩ := h; have f1 := AutoSeq1.idx_int; have f2 := AutoSeq1.sub_tuple_tuple; have f3 := AutoSeq1.sub_list_list; have f4 := AutoSeq1.sub_tuple_list; have f5 := AutoSeq1.sub_list_tuple
    have hz' : (items ++ items2).size ≤ sizeLine + 1 := by rw [Array.size_append]; exact hs2
    wp_walk using (wpAny_updateSeq hl rfl (hz := hs1) (_hz' := hz')), AutoSeq1.wpAny_loadPart' hl, AutoSeq1.wpAny_loadPart' hb; exact ⟨_, rfl, h⟩
def rExtendT : V → List V → Hp → VK → Prop := fun x vs H Q => ∃ l b xs zs, x = .ref l ∧ vs = [.ref b] ∧ H l = some (.lst xs) ∧ H b = some (.tup zs) ∧ xs.length + zs.length ≤ sizeLine ∧ Q .non (upd H l (.lst (xs ++ zs)))
theorem mt_extendT {X : Cx} : MtM X "list.extend" rExtendT := by
  intro pins s σ H x vs v us Q I rx rv h
  obtain ⟨l, b, xs, zs, rfl, rfl, hH, hB, hz, q⟩ := h
  cases rx
  obtain ⟨u, rfl, ru⟩ := rv.one
  cases ru
  obtain ⟨z, its, n, r, hl, e⟩ := I.lstM hH
  obtain ⟨z2, its2, r2, ⟨o, e2, hc, n2, hd⟩⟩ := I.hok b _ hB
  obtain ⟨oc, od, oda, osl⟩ := o
  have hc : oc = .type "tuple" := hc
  have hd : oda = .seq its2.toArray n2 := hd
  subst hc hd
  have hl2 := r2.length
  have hsz : its.toArray.size + its2.toArray.size ≤ sizeLine := by rw [List.size_toArray, List.size_toArray]; omega
  have hlong : ¬ (!its.toArray.isEmpty && Builtin.List.listTooLong (its.toArray.size + its2.toArray.size)) = true := by
    rw [notLongL hsz, Bool.and_false]
    exact Bool.false_ne_true
  refine call_meets F.slot_list_extend ⟨_, e, rfl⟩ F.entry_list_extend (F.args_list_extend_2 _ _)
    (ext_tup l its.toArray n b its2.toArray n2 od osl hlong (by rw [List.size_toArray]; omega) (by omega)) ⟨e, e2, ?_⟩
  refine ⟨.non, _, I.lset (its' := its ++ its2) hH e (by simp) (r.append r2) ?_, rfl, q⟩
  rw [List.length_append]
  omega
end L2

/-! MY RULES: t + u of tuples, either may be empty. -/
set_option linter.all false
set_option maxRecDepth 100000
set_option maxHeartbeats 2000000
namespace L2
open PySem PySem.Spec PyProof.Rows
section
variable {X : Cx}
def rCatT3 (K : PySem.W.Frag) : R2 := fun x y H Q => ∃ a b xs ys, x = .ref a ∧ y = .ref b ∧ SqT K H a xs ∧ SqT K H b ys ∧ xs.length + ys.length ≤ sizeLine ∧
  (xs = [] → Q (.ref b) H) ∧ (xs ≠ [] → ys = [] → Q (.ref a) H) ∧ (xs ≠ [] → ys ≠ [] → ∀ p, H p = none → Q (.ref p) (upd H p (.tup (xs ++ ys))))
theorem op_catT3 : OpR X (binaryOp .Add) (rCatT3 X.K) := by
  intro pins s σ H x y v u Q I rx ry h
  obtain ⟨a, b, xs, ys, rfl, rfl, ha, hb, hz, q1, q2, q3⟩ := h
  by_cases hx : xs = []
  · subst hx
    cases rx
    cases ry
    obtain ⟨its, r1, p1, _⟩ := I.tuple ha
    obtain ⟨its2, r2, p2, _⟩ := I.tuple hb
    have e1 : its = [] := r1.nil_iff.mpr rfl
    obtain ⟨⟨cls, dd, data, sl⟩, ho, hc, n, hd⟩ := id p1
    obtain ⟨⟨cls2, dd2, data2, sl2⟩, ho2, hc2, n2, hd2⟩ := id p2
    simp only at hc hd hc2 hd2
    subst hc hd hc2 hd2
    exact concat_meets ⟨_, ho, rfl⟩ ⟨_, ho2, rfl⟩ noFill_tuple_add seq_tuple_add PySem.F.slot_tuple_add PySem.F.entry_tuple_add (PySem.F.args_tuple_add_2 _ _)
      (tuple_addW0 a b its.toArray its2.toArray n n2 dd dd2 sl sl2 (by simp [e1])) ⟨ho, ho2, ⟨.ref b, H, I, rfl, q1 rfl⟩⟩
  · exact op_catT pins s σ H _ _ v u Q I rx ry ⟨a, b, xs, ys, rfl, rfl, ha, hb, hx, hz, fun z => q2 hx z, fun z => q3 hx z⟩
/-- the same, told in one word -/
def rCatT4 : R2 := fun x y H Q => ∃ a b xs ys, x = .ref a ∧ y = .ref b ∧ H a = some (.tup xs) ∧ H b = some (.tup ys) ∧ xs.length + ys.length ≤ sizeLine ∧ ∀ q H', Same H H' → H' q = some (.tup (xs ++ ys)) → Q (.ref q) H'
theorem op_catT4 : OpR X (binaryOp .Add) rCatT4 := fun pins s σ H x y v u Q I rx ry h => by
  obtain ⟨a, b, xs, ys, e1, e2, ha, hb, hz, q⟩ := h
  refine op_catT3 pins s σ H x y v u Q I rx ry ⟨a, b, xs, ys, e1, e2, SqT.of ha, SqT.of hb, hz, fun z => ?_, fun _ z => ?_, fun _ _ p hp => ?_⟩
  · subst z; exact q b H (Same.refl _) hb
  · subst z; exact q a H (Same.refl _) (by rw [List.append_nil]; exact ha)
  · exact q p _ (same_new hp) upd_same
end
end L2

/-! MY RULES: for k, x in enumerate(tuple); try round a call that throws nothing. -/
set_option linter.all false
set_option maxRecDepth 100000
set_option maxHeartbeats 2000000
namespace L2
open PySem PySem.Spec PyProof.Rows
open AutoSeq1 (wpAny_loadPart')
theorem draws_tuple {prog : Program} {w : World} {A : Around} (hh : A.handled = none) (it l : Addr) (hne : l ≠ it) (items : Array Value) :
    Draws prog w A it [it, l] items.size (fun i v => items[i]? = some v) (fun i h => h.IsTupleIter it l i ∧ h.IsTuple l items) where
  live := fun _ _ st => let ⟨o, ho, _⟩ := st.1; ⟨o, ho⟩
  frame := fun _ _ _ st hk => ⟨st.1.at fun o e => hk it (by simp) o e, st.2.at fun o e => hk l (by simp) o e⟩
  item := fun i s Q E hi st hQ => by
    refine nextOf_tuple_item st.1 st.2 (x := items[i]) (by simp [hi]) fun h' hit' hs' => ?_
    exact hQ _ h' s.toks (by simp [hi]) ⟨hit', st.2.extBut hs'.extBut hne⟩ hs'
  done := fun s Q E st hE => nextOf_tuple_end hh st.1 st.2 (by simp) hE
theorem meets_enumerate_newT (l : Addr) (items : Array Value) (n : Nat) (dct : Option Addr) (sl : Array (Option Value)) :
    Meets (Builtin.«enumerate.__new__» ⟨[.type "enumerate", .ref l], []⟩) (fun _ R s => s.heap.get? l = some { cls := .type "tuple", dict := dct, data := .seq items n, slots := sl } ∧
      R (.ok (.ret (.ref (s.heap.push { cls := .type "tuple_iterator", data := .fields #[.ref l, .int 0 0] }).objs.size)))
        { s with heap := (s.heap.push { cls := .type "tuple_iterator", data := .fields #[.ref l, .int 0 0] }).push { cls := .type "enumerate", data := .fields #[.none, .bool false, .ref s.heap.objs.size, rawInt 0, .none, .none] } }) :=
  .of_wp fun prog w A R s h => by
    obtain ⟨hp, g, d, tk, os⟩ := s; obtain ⟨hl, h⟩ := h
    have hsub := sub_enumerate
    have hL : Heap.IsTuple (Shared.heap ⟨hp, g, d, tk, os⟩) l items := ⟨_, hl, rfl, n, rfl⟩
    wp_walk using wpAny_loadPart' hl
    refine wpAny_stack_any fun st => wpAny_pure ?_
    split
    · rename_i c _ _ _ _ _
      cases (c == Value.type "enumerate")
      · wp_walk using wpAny_loadPart' hl, wpAny_pyIter_tuple hL
        exact ⟨_, rfl, h⟩
      · wp_walk using wpAny_loadPart' hl, wpAny_pyIter_tuple hL
        exact ⟨_, rfl, h⟩
    · wp_walk using wpAny_loadPart' hl, wpAny_pyIter_tuple hL
      exact ⟨_, rfl, h⟩
theorem call_enumerate_tuple {prog : Program} {w : World} {A : Around} {E : Value → Shared → Prop} {s : Shared} {l : Addr} {items : Array Value} {Q : Value → Shared → Prop} (hL : s.heap.IsTuple l items)
    (h : ∀ h', IsEnum h' (s.heap.objs.size + 1) s.heap.objs.size 0 .none → h'.IsTupleIter s.heap.objs.size l 0 → h'.objs.size = s.heap.objs.size + 2 →
      (∀ b o, s.heap.get? b = some o → h'.get? b = some o) → Q (.ref (s.heap.objs.size + 1)) { s with heap := h' }) :
    wpAny (model prog w) A (call (.type "enumerate") [.ref l]) Q E s := by
  obtain ⟨⟨c, dct, dt, sl⟩, hl, hc, n, hd⟩ := hL
  replace hc : c = .type "tuple" := hc
  replace hd : dt = .seq items n := hd
  subst hc hd
  refine callType_new F.called_enumerate (by decide) (F.typeCall_enumerate_1 _) (F.newCall_enumerate_1 _) (fun obj => F.args_object_init_2 obj _) F.entry_enumerate_new
    (meets_enumerate_newT l items n dct sl) ⟨hl, ?_⟩
  have hz : (s.heap.push { cls := .type "tuple_iterator", data := .fields #[.ref l, .int 0 0] }).objs.size = s.heap.objs.size + 1 := Heap.size_push ..
  show _ ∧ _
  rw [hz]
  have he : IsEnum ((s.heap.push { cls := .type "tuple_iterator", data := .fields #[.ref l, .int 0 0] }).push
      { cls := .type "enumerate", data := .fields #[.none, .bool false, .ref s.heap.objs.size, rawInt 0, .none, .none] }) (s.heap.objs.size + 1) s.heap.objs.size 0 .none := by
    have := Heap.get?_push_size (s.heap.push { cls := .type "tuple_iterator", data := .fields #[.ref l, .int 0 0] })
      (o := { cls := .type "enumerate", data := .fields #[.none, .bool false, .ref s.heap.objs.size, rawInt 0, .none, .none] }) rfl
    rw [hz] at this; exact this
  refine ⟨⟨_, he, rfl⟩, h _ he ⟨_, Heap.get?_push_of_some _ (Heap.get?_push_size _ rfl), rfl, rfl⟩ (by rw [Heap.size_push, hz]) fun b o x => Heap.get?_push_of_some _ (Heap.get?_push_of_some _ x)⟩
/-- enumerate over a tuple: the i-th pair is a new tuple -/
def ItEnT (K : PySem.W.Frag) (a : Addr) : It :=
  ⟨fun i H => ∃ xs x, SqT K H a xs ∧ xs[i]? = some x,
   fun i H v H' => ∃ p, H p = none ∧ v = .ref p ∧ ∃ x, (∀ xs, SqT K H a xs → xs[i]? = some x) ∧ H' = upd H p (.tup [.int (i : Nat), x]),
   fun i H => ∃ xs, SqT K H a xs ∧ xs.length = i⟩
def EnStT (e it a : Addr) (i : Nat) (h : Heap) : Prop := (∃ old, IsEnum h e it (i : Nat) old) ∧ h.IsTupleIter it a i
theorem turn_enumT {P : Program} {w : World} {K : PySem.W.Frag} {elts : List Expr} {kk : Nat} {pos : Pos} {e it a : Addr} (ne : e ≠ it) (na : a ≠ it) (nea : e ≠ a) : Turn P w K (.Tuple elts kk pos) (ItEnT K a) [e, it] e (EnStT e it a) where
  mem := by simp
  obj := fun i h st c hc => by
    obtain ⟨⟨old, h1⟩, h2⟩ := st
    simp only [List.mem_cons, List.not_mem_nil, or_false] at hc
    rcases hc with rfl | rfl
    · exact ⟨_, h1, fun v z => by cases (show Data.fields _ = Data.cell v from z)⟩
    · obtain ⟨o, ho, _, hd⟩ := h2
      exact ⟨o, ho, fun v z => by rw [hd] at z; cases z⟩
  keep := fun i h h' st k => by
    obtain ⟨⟨old, h1⟩, h2⟩ := st
    exact ⟨⟨old, k e (by simp) _ h1⟩, h2.at fun o z => k it (by simp) o z⟩
  item := by
    intro X hP hw hK hc i pins s σ H E I hf st hg
    subst hP hw hK
    obtain ⟨xs, x, hq, hx⟩ := hg
    obtain ⟨its, rv, p1, _⟩ := I.tuple hq
    obtain ⟨u, hu, ru⟩ := rv.get hx
    obtain ⟨⟨old, h1⟩, h2⟩ := st
    have hi : i < its.toArray.size := by simpa using (List.getElem?_eq_some_iff.mp hu).1
    refine wpAny_pyNext_enum_itemD (draws_tuple (by simpa using I.ok.hd hc) it a na its.toArray) h1 ⟨h2, p1⟩ hi ne (by simp [ne, nea]) fun y h' tk py z1 z2 z3 z4 kp => ?_
    have ey : u = y := by
      have h3 : its.toArray[i]? = some u := by simpa using hu
      rw [h3] at py
      exact Option.some.inj py
    subst ey
    refine ⟨_, rfl, wpAny_letOwnedTupleGo_enum (s := { s with heap := h', toks := tk + 1 }) z1 fun g zg sb => ?_⟩
    have nz : s.heap.objs.size ≠ e := Nat.ne_of_gt (Heap.lt_size h1)
    have n2 : it < s.heap.objs.size := let ⟨_, q, _⟩ := h2; Heap.lt_size q
    have tq : g.get? s.heap.objs.size = some { cls := .type "tuple", data := .seq #[.int i tk, u] } := sb.extBut _ _ nz z3
    have I1 : Inv X pins σ (upd H s.heap.objs.size (.tup [.int (i : Nat), x])) { s with heap := g, toks := tk + 1 } := I.turnedNew (ts := [e, it]) (fun c o hc q => by
      simp only [List.mem_cons, List.not_mem_nil, or_false, not_or] at hc
      exact sb.extBut _ _ hc.1 (kp c o hc.1 hc.2 q)) hf (Nat.le_refl _) ⟨by show 2 ≤ sizeLine; decide, [.int i tk, u], .cons ⟨_, rfl⟩ (.cons ru .nil), ⟨_, tq, rfl, _, rfl⟩⟩
    refine ⟨.ref s.heap.objs.size, _, I1, rfl, ⟨_, I.hok.fresh (Nat.le_refl _), rfl, x, fun zs hz => by rw [I.tuple_inj hz hq]; exact hx, rfl⟩, ⟨⟨_, zg⟩, z2.1.at fun o q => sb.extBut _ _ ne.symm q⟩, fun c hc => ?_⟩
    have hcn : c ≠ s.heap.objs.size := by
      simp only [List.mem_cons, List.not_mem_nil, or_false] at hc
      rcases hc with rfl | rfl
      · exact nz.symm
      · exact Nat.ne_of_lt n2
    rw [upd_ne hcn]
    exact (hf c hc).1
  done := by
    intro X hP hw hK hc i pins s σ H E I hf st hg
    subst hP hw hK
    obtain ⟨xs, hq, hx⟩ := hg
    obtain ⟨its, rv, p1, _⟩ := I.tuple hq
    have e1 := rv.length
    obtain ⟨⟨old, h1⟩, h2⟩ := st
    have ei : its.toArray.size = i := by simp; omega
    subst ei
    refine wpAny_pyNext_enum_endD (draws_tuple (by simpa using I.ok.hd hc) it a na its.toArray) h1 ⟨h2, p1⟩ fun h' kp => ⟨rfl, ?_⟩
    exact I.turnedL (t' := s.toks) (ts := [e, it]) (fun c o hc q => by
      simp only [List.mem_cons, List.not_mem_nil, or_false, not_or] at hc
      exact kp c o hc.2 q) hf
  self := fun _ _ _ _ _ st h => by
    obtain ⟨⟨old, h1⟩, _⟩ := st
    exact wpAny_pyIter_enum h1 h
def iEnumT (K : PySem.W.Frag) (ta : TA) : TI := fun σ H R => ta σ H fun vs H1 => ∃ a xs, vs = [.ref a] ∧ SqT K H1 a xs ∧ R (ItEnT K a) H1
theorem pi_enumT {X : Cx} {elts : List Expr} {kk : Nat} {tpos : Pos} {a : Expr} {ta : TA} {p pos : Pos} (hg : Gl X "enumerate") (hm : X.mg "enumerate" = none) (ha : PA X [a] ta) (hs : starEach [a] X.env = [(false, eval a X.env)] := by rfl) :
    PI X (.Tuple elts kk tpos) (.Call (.Name "enumerate" p) [a] [] pos) (iEnumT X.K ta) := by
  intro pins s σ H R I h
  refine Call_ (ld_blt I hg hm boot_enumerate (PyProof.Rows.callWith_type1 (thn (ha pos pins s σ H _ I h) fun us s1 ⟨vs, H1, I1, r1, q1⟩ => ?_) (by rw [hs]; rfl) (by rfl)))
  obtain ⟨l, xs, e, hq, q⟩ := q1
  subst e
  obtain ⟨u, rfl, ru⟩ := vals1 r1
  cases ru
  obtain ⟨its, rv, p1, _⟩ := I1.tuple hq
  have ll : l < s1.heap.objs.size := let ⟨_, q, _⟩ := p1; Heap.lt_size q
  refine call_enumerate_tuple p1 fun h' z1 z2 z3 kp => wpAny_pyIter_enum z1 ?_
  have I2 : Inv X pins σ H1 { s1 with heap := h' } := I1.kept (t' := s1.toks) kp
  refine ⟨_, [s1.heap.objs.size + 1, s1.heap.objs.size], _, _, H1, rfl, I2, turn_enumT (Nat.ne_of_gt (Nat.lt_succ_self _)) (Nat.ne_of_lt ll) (Nat.ne_of_gt (Nat.lt_succ_of_lt ll)), ⟨⟨_, z1⟩, z2⟩, fun c hc => ?_, q⟩
  have hle : s1.heap.objs.size ≤ c := by
    simp only [List.mem_cons, List.not_mem_nil, or_false] at hc
    rcases hc with rfl | rfl
    · exact Nat.le_succ _
    · exact Nat.le_refl _
  exact I1.fpOk hle (I1.hok.fresh hle)
/-- over a tuple -/
theorem for_enumT {K : PySem.W.Frag} {a : Addr} {xs : List V} {g : TG} {tb : TS} {D : Ends} {σ : St} {H : Hp} (Pv : Nat → St → Hp → Prop) (h0 : Pv 0 σ H) (hl : ∀ i σ H, Pv i σ H → SqT K H a xs)
    (hs : ∀ i x σ H p, xs[i]? = some x → Pv i σ H → H p = none → g (.ref p) σ (upd H p (.tup [.int (i : Nat), x])) fun σ2 H2 => tb { D with nx := Pv (i + 1), ct := Pv (i + 1), bk := D.nx } σ2 H2) (hd : ∀ σ H, Pv xs.length σ H → D.nx σ H) :
    ∃ W : Nat → Nat → St → Hp → Prop, (∃ m, W 0 m σ H) ∧ ∀ i m σ H, W i m σ H →
      ((ItEnT K a).stop i H ∧ D.nx σ H) ∨ ((ItEnT K a).go i H ∧ ∃ N : St → Hp → Prop, (∀ σ' H', N σ' H' → ∃ m', m' < m ∧ W (i + 1) m' σ' H') ∧ ∀ x H', (ItEnT K a).yld i H x H' → g x σ H' fun σ2 H2 => tb { D with nx := N, ct := N, bk := D.nx } σ2 H2) := by
  refine ⟨fun i m σ H => m = xs.length - i ∧ i ≤ xs.length ∧ Pv i σ H, ⟨xs.length, by simp, Nat.zero_le _, h0⟩, ?_⟩
  rintro i m σ H ⟨rfl, hi, p⟩
  have q := hl i σ H p
  by_cases hlt : i < xs.length
  · refine .inr ⟨⟨xs, _, q, List.getElem?_eq_getElem hlt⟩, Pv (i + 1), fun σ' H' p' => ⟨xs.length - (i + 1), by omega, rfl, hlt, p'⟩, fun v H' y => ?_⟩
    obtain ⟨c, hc, rfl, x, f, rfl⟩ := y
    exact hs i x σ H c (f xs q) p hc
  · have e : i = xs.length := by omega
    subst e
    exact .inl ⟨⟨xs, q, rfl⟩, hd σ H p⟩
/-! ### a call that throws nothing, as the body of a try -/
section
variable {X : Cx} {k : Nat} {f : Addr} {fd : FuncData} {ps : List Str} {sp : Sp} {x : Str} {p pos : Pos} {e : Expr} {es : List Expr} {t : TA}
def tCall0 (sp : Sp) (t : TA) : TX := fun σ H Q _ => t σ H fun vs H1 => sp vs H1 Q E0
theorem px_call0 (F : FnOk X.prog X.w X.K X.mg X.base CX0 k f fd ps sp) (hr : Room k X.A) (hg : Gl X x) (hm : X.mg x = some (.ref f)) (hk : PySem.W.keepIn X.K (.ref f) = true) (hb : Binds X.K fd ps [])
    (ha : PA X.nox (e :: es) t) (hdb : (x == ("__debug__" : Str)) = false := by decide) (he : starEach (e :: es) X.env = (false, eval e X.env) :: starEach es X.env := by rfl) (hpl : (backTo pos (starEach es X.env)).any (·.1) = false := by rfl) :
    PX X (.Call (.Name x p) (e :: es) [] pos) (tCall0 sp t) := by
  intro pins s σ H Q E I h
  refine wpAny_Call_Name_kw (ld_glob I hg hm ?_ hdb)
  have hA : wpAny (model X.prog X.w) X.A (spliced (backTo pos (starEach (e :: es) X.env))) (AP X pins σ fun vs H1 => sp vs H1 Q E0) (fun e s' => ∃ H1 s1, Inv X pins σ H1 s1 ∧ CXF X.prog X.w X.stack H1 s1 E e s') s :=
    wpAny_mono (ha pos pins s σ H _ (I.wish _) h) (fun us s1 ⟨vs, H1, I1, r, q⟩ => ⟨vs, H1, I1.unwish, r, q⟩) fun _ _ z => False.elim z
  refine PySem.W.callWith_K (h₀ := X.base) I.ok.mod.kin hk (thn hA fun us s1 ⟨vs, H1, I1, r, q⟩ => ⟨I1.kIn, ?_⟩) he hpl
  have hl : us.length = ps.length := by rw [← r.length]; exact F.len _ _ _ _ q
  have hb' := hb s1 us I1.kIn (by simpa using hl)
  rw [List.append_nil] at hb'
  refine wpAny_call (codeAny_mono (F.run X.A X.stack s1 H1 ⟨us, []⟩ us vs Q E0 hr I1.env0 hb' r q) fun r s' hq => ?_)
  cases r with
  | error e => exact False.elim hq
  | ok fl =>
    cases fl with
    | ret u => exact I1.after hq
    | next => exact False.elim hq
    | brk => exact False.elim hq
    | cont => exact False.elim hq
end
end L2

/-! MY RULES: the whole numbers of a script have at most 2 ** 20 bits; products of such ones. -/
set_option linter.all false
set_option maxRecDepth 100000
set_option maxHeartbeats 2000000
namespace L2
open PySem PySem.Spec PyProof.Rows PySem.W
theorem weight_each : ∀ {ns : List Int} {n : Int}, n ∈ ns → WData.weight (.int n) ≤ WData.weightAll (ns.map WData.int)
  | m :: r, n, h => by
    rw [List.map_cons, WData.weightAll]
    rcases List.mem_cons.mp h with rfl | h
    · omega
    · have := weight_each h
      omega
theorem script_bits {ns : List Int} (h : WData.layableAll [WData.list (ns.map WData.int)] = true) : ∀ n ∈ ns, n.natAbs.log2 < 2 ^ 20 := fun n hn => by
  have h1 : WData.layable (WData.list (ns.map WData.int)) = true := by simpa [WData.layableAll] using h
  unfold WData.layable at h1
  rw [Bool.and_eq_true] at h1
  have h2 := of_decide_eq_true h1.2
  rw [WData.weight] at h2
  have h3 := weight_each hn
  rw [WData.weight] at h3
  split at h3
  · rename_i z
    have : n = 0 := by simpa using z
    subst this
    decide
  · omega
theorem walk_ofB {l : PySem.W.OpenLaw} {n k : Nat} {q : Program} {loose : List Str} {XP : (Str → Option Value) → Heap → Prop} {YP : World → Heap → Prop} {d : DefRec} {K : Params → PySem.W.Frag} {CX : World → CXT} {sp : World → Sp} {x : Str}
    (hn : l.most = some n) (hn2 : n ≤ sizeLine) (hdf : d.params.defaults = []) (hr : Room k callerA)
    (hY : ∀ (w : World) (h : Heap), YP w h → (K w.params).In h)
    (F : ∀ (w : World) (mg : Str → Option Value) (fa : Addr) (h : Heap), (K w.params).In h → h.Ns mainGlobals mg → mg d.name = some (.ref fa) →
      ∃ fd : FuncData, (∀ (s : Shared) (u : Value), BindsTo s fd ⟨[u], []⟩ [(x, u)]) ∧
        ∀ base : Heap, (K w.params).In base → base.Ns mainGlobals mg → FnOk l.prog w (K w.params) mg base (CX w) k fa fd [x] (sp w))
    (hsp : ∀ (w : World) (H : Hp) (a : Addr) (ns : List Int), ns.length ≤ n → (∀ m ∈ ns, m.natAbs.log2 < 2 ^ 20) → SqL (K w.params) H a (ns.map V.int) → sp w [.ref a] H (fun v _ => v = .bl true) fun _ _ _ => False)
    (hCX : ∀ (w : World) (H : Hp) (s : Shared) (e : Value) (s' : Shared), CX w [] H s (fun _ _ _ => False) e s' → False) :
    PySem.W.WalkO q loose XP YP l.row.toRowW d [] (fun f vs => PySem.call f vs) := by
  intro w s₀ s₁ mg mb G Y fa o pm cd doc dV kV ho hd hcd hD hmg hg args vals as hpre hlay hrd hwl hlo
  obtain rfl : dV = .none := Dflts.none hD hdf
  obtain rfl : kV = .none := Dflts.noKw hD
  obtain ⟨a, vs, ns, rfl, rfl, hobj, hints, hlen⟩ := Att.script_of hn hpre hwl
  have bits := script_bits hlay
  have KX := hY w _ Y
  obtain ⟨fd, hb, hF⟩ := F w mg fa _ KX G.T.g hmg
  refine enter_call (codeAny_mono (law_call KX G.T.g G.T.b G.T.builtins G.T.nolimit hg hobj hints (Nat.le_trans hlen hn2) hr hF hb (fun H hO hS => hsp w H a ns hlen bits hS) fun H e s' => hCX w H s₁ e s') fun r s' hq => ?_)
  obtain ⟨rfl, h2, h3, h4⟩ := hq
  exact ⟨.inl ⟨.bool true, .bool true, [], rfl, fun _ => rfl, .bool true, Att.post_true l _, fun _ => ⟨List.Pairwise.nil, fun _ hm => (nomatch hm)⟩⟩, h2, h3, h4⟩
section
variable {X : Cx}
theorem bits_of {m n : Nat} (h : m.log2 < n) : m < 2 ^ n := by
  rcases Nat.eq_zero_or_pos m with h0 | h0
  · rw [h0]; exact Nat.two_pow_pos n
  · exact (Nat.log2_lt (by omega)).mp h
/-- a long factor, a middling one -/
def CMulL (i j : Int) : Prop := i.natAbs.log2 < 2 ^ 25 ∧ j.natAbs < 2 ^ 4000
theorem op_mulL : OpR X (binaryOp .Mult) (rI CMulL fun i j => .int (i * j)) := opI fun i j _ _ _ _ _ hc q =>
  mul_int q (IntMulOk.of_le (m := 2 ^ 25) (n := 4000) (intBits_le_iff.mpr (bits_of hc.1)) (intBits_le_iff.mpr hc.2) (by decide))
end
end L2

set_option Elab.async false
set_option linter.all false
set_option maxRecDepth 100000
set_option maxHeartbeats 4000000
namespace My
open PySem L2
/-! ### the data of k07 -/
/-! ### equal data are equal trees -/
/-! ### shape -/
/-! ### texts -/
/-! ### trees with their weight and depth -/
/-! ### good texts -/
/-! ### indexes -/
/-! ### how many pairs -/
/-! ### what a tree's tuple holds -/
section
variable {G : Hp} {v : V}
end
end My

namespace My
/-- the cells of one length more -/
def lenM (cs : List (List Int)) (n : Int) : List (List Int) := cs.flatMap fun c => (List.range n.toNat).map fun (k : Nat) => c ++ [(k : Int)]
def cellsM (ls : List Int) : List (List Int) := ls.foldl lenM [[]]
def prodL (ls : List Int) : Int := ls.foldl (· * ·) 1
theorem cellsM_snoc (ls : List Int) (n : Int) : cellsM (ls ++ [n]) = lenM (cellsM ls) n := by
  unfold cellsM; rw [List.foldl_append]; rfl
theorem prodL_snoc (ls : List Int) (n : Int) : prodL (ls ++ [n]) = prodL ls * n := by
  unfold prodL; rw [List.foldl_append]; rfl
theorem lenM_length (cs : List (List Int)) (n : Int) : (lenM cs n).length = cs.length * n.toNat := by
  induction cs with
  | nil => simp [lenM]
  | cons c r ih =>
    have : lenM (c :: r) n = ((List.range n.toNat).map fun (k : Nat) => c ++ [(k : Int)]) ++ lenM r n := by simp [lenM]
    rw [this, List.length_append, ih, List.length_map, List.length_range, List.length_cons, Nat.succ_mul]; omega
/-- the cell lies within the lengths -/
def Within (c ls : List Int) : Prop := c.length = ls.length ∧ ∀ (k : Nat) (x n : Int), c[k]? = some x → ls[k]? = some n → 0 ≤ x ∧ x < n
theorem Within.snoc {c ls : List Int} {n : Int} {k : Nat} (h : Within c ls) (hk : (k : Int) < n) : Within (c ++ [(k : Int)]) (ls ++ [n]) := by
  obtain ⟨hl, hw⟩ := h
  refine ⟨by simp [hl], fun i x m hx hm => ?_⟩
  by_cases hi : i < c.length
  · rw [List.getElem?_append_left hi] at hx
    rw [List.getElem?_append_left (by omega)] at hm
    exact hw i x m hx hm
  · have : i = c.length := by
      have := (List.getElem?_eq_some_iff.mp hx).1
      simp at this; omega
    subst this
    rw [List.getElem?_append_right (Nat.le_refl _)] at hx
    rw [hl, List.getElem?_append_right (Nat.le_refl _)] at hm
    simp at hx hm
    omega
theorem mem_lenM {cs : List (List Int)} {n : Int} {c : List Int} (h : c ∈ lenM cs n) : ∃ b ∈ cs, ∃ k : Nat, k < n.toNat ∧ c = b ++ [(k : Int)] := by
  unfold lenM at h
  obtain ⟨b, hb, h2⟩ := List.mem_flatMap.mp h
  obtain ⟨k, hk, e⟩ := List.mem_map.mp h2
  exact ⟨b, hb, k, List.mem_range.mp hk, e.symm⟩
theorem cells_within : ∀ (ls : List Int), ∀ c ∈ cellsM ls, Within c ls := by
  intro ls
  have key : ∀ (m : Nat) (ls : List Int), ls.length = m → ∀ c ∈ cellsM ls, Within c ls := by
    intro m
    induction m with
    | zero =>
      intro ls hl c hc
      have : ls = [] := List.length_eq_zero_iff.mp hl
      subst this
      have : c = [] := by simpa [cellsM] using hc
      subst this
      exact ⟨rfl, fun k x n hx _ => by simp at hx⟩
    | succ m ih =>
      intro ls hl c hc
      obtain ⟨init, n, rfl⟩ : ∃ init n, ls = init ++ [n] := ⟨ls.dropLast, ls.getLast (by intro e; simp [e] at hl), (List.dropLast_concat_getLast _).symm⟩
      rw [cellsM_snoc] at hc
      obtain ⟨b, hb, k, hk, rfl⟩ := mem_lenM hc
      exact (ih init (by simp at hl; omega) b hb).snoc (by omega)
  exact key _ ls rfl
theorem cells_length (ls : List Int) (h : ∀ n ∈ ls, 1 ≤ n) : ((cellsM ls).length : Int) = prodL ls ∧ 1 ≤ prodL ls := by
  have key : ∀ (m : Nat) (ls : List Int), ls.length = m → (∀ n ∈ ls, 1 ≤ n) → ((cellsM ls).length : Int) = prodL ls ∧ 1 ≤ prodL ls := by
    intro m
    induction m with
    | zero =>
      intro ls hl _
      have : ls = [] := List.length_eq_zero_iff.mp hl
      subst this
      simp [cellsM, prodL]
    | succ m ih =>
      intro ls hl hp
      obtain ⟨init, n, rfl⟩ : ∃ init n, ls = init ++ [n] := ⟨ls.dropLast, ls.getLast (by intro e; simp [e] at hl), (List.dropLast_concat_getLast _).symm⟩
      obtain ⟨h1, h2⟩ := ih init (by simp at hl; omega) fun n hn => hp n (by simp [hn])
      have h3 : 1 ≤ n := hp n (by simp)
      rw [cellsM_snoc, prodL_snoc, lenM_length]
      have e : ((n.toNat : Nat) : Int) = n := by omega
      refine ⟨by rw [Int.natCast_mul, h1, e], ?_⟩
      have := Int.mul_le_mul h2 h3 (by omega) (by omega)
      simpa using this
  exact key _ ls rfl h
/-- what the law's lengths keep to -/
structure GoodL (ls : List Int) : Prop where
  pos : ∀ n ∈ ls, 1 ≤ n ∧ n ≤ 60
  few : ls.length ≤ 8
  most : prodL ls ≤ 4000
theorem prod_take_le (ls : List Int) (h : ∀ n ∈ ls, 1 ≤ n) (i : Nat) : 1 ≤ prodL (ls.take i) ∧ prodL (ls.take i) ≤ prodL ls := by
  have a := (cells_length (ls.take i) fun n hn => h n (List.mem_of_mem_take hn)).2
  refine ⟨a, ?_⟩
  have b := (cells_length (ls.drop i) fun n hn => h n (List.mem_of_mem_drop hn)).2
  have gen : ∀ (ys : List Int) (x : Int), ys.foldl (· * ·) x = x * prodL ys := by
    intro ys
    induction ys with
    | nil => intro x; simp [prodL]
    | cons y r ih => intro x; simp only [prodL, List.foldl_cons] at ih ⊢; rw [ih, ih (1 * y), Int.one_mul, Int.mul_assoc]
  have e : prodL ls = prodL (ls.take i) * prodL (ls.drop i) := by
    have := gen (ls.drop i) (prodL (ls.take i))
    rw [← this]
    unfold prodL
    rw [← List.foldl_append, List.take_append_drop]
  rw [e]
  have := Int.mul_le_mul_of_nonneg_left b (show (0 : Int) ≤ prodL (ls.take i) by omega)
  simpa using this
theorem cellsM_take_succ {ls : List Int} {i : Nat} {n : Int} (h : ls[i]? = some n) : cellsM (ls.take (i + 1)) = lenM (cellsM (ls.take i)) n := by
  rw [List.take_add_one, h]; exact cellsM_snoc _ _
end My
namespace My
open PySem L2
/-! ### the cells by their places -/
/-! ### the order -/
structure Rw where
  own : List Str
  sums : List Str
  so : List Int
  ss : List Int
abbrev Stp := Int × Str × List Int × List Int
def stepsCell (k : Int) (ss : List Int) (c : List Int) : List Stp := if ss = [] then [(k, "set", c, [])] else (k, "start", c, []) :: (cellsM ss).map fun u => (k, "add", c, u)
def stepsLine (k : Int) (e : Rw) : List Stp := (cellsM e.so).flatMap (stepsCell k e.ss)
def lineAt (rows : List Rw) (k : Nat) : List Stp := match rows[k]? with
  | some e => stepsLine k e
  | none => []
def orderM (rows : List Rw) (i : Nat) : List Stp := (List.range i).flatMap (lineAt rows)
theorem orderM_succ {rows : List Rw} {i : Nat} {e : Rw} (h : rows[i]? = some e) : orderM rows (i + 1) = orderM rows i ++ stepsLine i e := by
  unfold orderM
  rw [List.range_succ, List.flatMap_append, List.flatMap_singleton]
  unfold lineAt
  rw [h]
theorem flat_le {α β : Type} {f : α → List β} {B : Nat} : ∀ {l : List α}, (∀ x ∈ l, (f x).length ≤ B) → (l.flatMap f).length ≤ l.length * B
  | [], _ => by simp
  | x :: r, h => by
    have h1 := h x (.head _)
    have h2 := flat_le (l := r) fun y hy => h y (.tail _ hy)
    rw [List.flatMap_cons, List.length_append, List.length_cons, Nat.add_mul]
    omega
/-- what a row keeps to -/
structure RwOk (e : Rw) : Prop where
  go : GoodL e.so
  gs : GoodL e.ss
  po : prodL e.so ≤ 150
  ps : prodL e.ss ≤ 150
  pp : prodL e.so * prodL e.ss ≤ 150
  lo : e.own.length = e.so.length
  ls : e.sums.length = e.ss.length
  pl : e.own.length + e.sums.length ≤ 8
theorem RwOk.cells {e : Rw} (h : RwOk e) : (cellsM e.so).length ≤ 150 ∧ (cellsM e.ss).length ≤ 150 := by
  have h1 := (cells_length e.so fun n hn => (h.go.pos n hn).1).1
  have h2 := (cells_length e.ss fun n hn => (h.gs.pos n hn).1).1
  have := h.po
  have := h.ps
  omega
theorem cell_le {k : Int} {e : Rw} (h : RwOk e) (c : List Int) : (stepsCell k e.ss c).length ≤ 151 := by
  have := h.cells.2
  unfold stepsCell
  split
  · simp
  · simp; omega
theorem line_le121 {k : Int} {e : Rw} (h : RwOk e) : (stepsLine k e).length ≤ 22650 := by
  have h1 := flat_le (l := cellsM e.so) (f := stepsCell k e.ss) (B := 151) fun c _ => cell_le h c
  have h2 := h.cells.1
  have : (cellsM e.so).length * 151 ≤ 150 * 151 := Nat.mul_le_mul_right _ h2
  unfold stepsLine
  omega
theorem part_le121 {k : Int} {e : Rw} (h : RwOk e) (j : Nat) : (((cellsM e.so).take j).flatMap (stepsCell k e.ss)).length ≤ 22650 := by
  have h1 := flat_le (l := (cellsM e.so).take j) (f := stepsCell k e.ss) (B := 151) fun c _ => cell_le h c
  have h2 := h.cells.1
  have h3 : ((cellsM e.so).take j).length ≤ 150 := by rw [List.length_take]; omega
  have : ((cellsM e.so).take j).length * 151 ≤ 150 * 151 := Nat.mul_le_mul_right _ h3
  omega
theorem order_le {rows : List Rw} (h : ∀ e ∈ rows, RwOk e) (i : Nat) : (orderM rows i).length ≤ i * 22650 := by
  have := flat_le (l := List.range i) (f := lineAt rows) (B := 22650) fun k _ => by
    unfold lineAt
    split
    · rename_i e he
      exact line_le121 (h e (List.mem_of_getElem? he))
    · simp
  rw [List.length_range] at this
  exact this
end My
namespace My
open PySem L2
/-- what a step keeps to -/
def StOk (s : Stp) : Prop := PyData.strOk s.2.1 = true ∧ s.2.2.1.length ≤ 8 ∧ s.2.2.2.length ≤ 8
theorem order_ok {rows : List Rw} (h : ∀ e ∈ rows, RwOk e) {i : Nat} : ∀ s ∈ orderM rows i, StOk s := by
  intro s hs
  unfold orderM at hs
  obtain ⟨k, _, hs⟩ := List.mem_flatMap.mp hs
  unfold lineAt at hs
  split at hs
  · rename_i e he
    have ok := h e (List.mem_of_getElem? he)
    have fo := ok.go.few
    have fs := ok.gs.few
    unfold stepsLine at hs
    obtain ⟨c, hc, hs⟩ := List.mem_flatMap.mp hs
    have lc := (cells_within _ c hc).1
    unfold stepsCell at hs
    split at hs
    · have e := List.mem_singleton.mp hs
      subst e
      exact ⟨(by show PyData.strOk ("set" : Str) = true; decide +kernel), by show c.length ≤ 8; omega, by simp⟩
    · rcases List.mem_cons.mp hs with e | hs
      · subst e
        exact ⟨(by show PyData.strOk ("start" : Str) = true; decide +kernel), by show c.length ≤ 8; omega, by simp⟩
      · obtain ⟨u, hu, e⟩ := List.mem_map.mp hs
        subst e
        have lu := (cells_within _ u hu).1
        exact ⟨(by show PyData.strOk ("add" : Str) = true; decide +kernel), by show c.length ≤ 8; omega, by show u.length ≤ 8; omega⟩
  · cases hs
end My

set_option Elab.async false
set_option linter.all false
namespace My
open PySem L2
/-! ### nests as trees: loops with a width and an outer, deeds -/
inductive Nd where
  | loop (n sz wd out : Int) (bd : List Nd)
  | deed (n k : Int) (w : Str) (cs us : List Int)
def setN (f : Int → Int) (n k : Int) : Int → Int := fun x => if x = n then k else f x
/-- the whole numbers from lo on, below hi -/
def iv (lo hi : Int) : List Int := (List.range (hi - lo).toNat).map fun (i : Nat) => lo + (i : Int)
theorem iv_nil {lo hi : Int} (h : hi ≤ lo) : iv lo hi = [] := by
  unfold iv
  rw [Int.toNat_of_nonpos (by omega)]
  rfl
theorem mem_iv {lo hi c : Int} : c ∈ iv lo hi ↔ lo ≤ c ∧ c < hi := by
  unfold iv
  rw [List.mem_map]
  constructor
  · rintro ⟨i, hi', rfl⟩
    have := List.mem_range.mp hi'
    omega
  · rintro ⟨h1, h2⟩
    exact ⟨(c - lo).toNat, List.mem_range.mpr (by omega), by omega⟩
theorem iv_app {a b c : Int} (h1 : a ≤ b) (h2 : b ≤ c) : iv a b ++ iv b c = iv a c := by
  unfold iv
  have e : (c - a).toNat = (b - a).toNat + (c - b).toNat := by omega
  rw [e, List.range_add, List.map_append, List.map_map]
  congr 1
  refine List.map_congr_left fun i _ => ?_
  show b + (i : Int) = a + (((b - a).toNat + i : Nat) : Int)
  omega
def cts (sz wd out : Int) (f : Int → Int) : List Int := if out = -1 then iv 0 sz else iv (f out * wd) (min (f out * wd + wd) sz)
mutual
def doN : Nd → (Int → Int) → List Stp
  | .deed _ k w cs us, f => [(k, w, cs.map f, us.map f)]
  | .loop n sz wd out bd, f => (cts sz wd out f).flatMap fun c => doL bd (setN f n c)
def doL : List Nd → (Int → Int) → List Stp
  | [], _ => []
  | x :: r, f => doN x f ++ doL r f
end
theorem doL_app : ∀ (a b : List Nd) (f : Int → Int), doL (a ++ b) f = doL a f ++ doL b f
  | [], b, f => by simp [doL]
  | x :: r, b, f => by rw [List.cons_append, doL, doL, doL_app r b f, List.append_assoc]
def ins (o w y : Int) : Int := if y = o then w else y
mutual
def renN (o w : Int) : Nd → Nd
  | .deed n k x cs us => .deed n k x (cs.map (ins o w)) (us.map (ins o w))
  | .loop n sz wd out bd => .loop n sz wd (ins o w out) (renL o w bd)
def renL (o w : Int) : List Nd → List Nd
  | [] => []
  | x :: r => renN o w x :: renL o w r
end
theorem renL_map (o w : Int) : ∀ l : List Nd, renL o w l = l.map (renN o w)
  | [] => rfl
  | x :: r => by rw [renL, renL_map o w r, List.map_cons]
mutual
def nmN : Nd → List Int
  | .deed .. => []
  | .loop n _ _ _ bd => n :: nmL bd
def nmL : List Nd → List Int
  | [] => []
  | x :: r => nmN x ++ nmL r
end
theorem nmL_app : ∀ (a b : List Nd), nmL (a ++ b) = nmL a ++ nmL b
  | [], b => by simp [nmL]
  | x :: r, b => by rw [List.cons_append, nmL, nmL, nmL_app r b, List.append_assoc]
mutual
theorem nm_renN (o w : Int) : ∀ x : Nd, nmN (renN o w x) = nmN x
  | .deed .. => by simp [renN, nmN]
  | .loop n sz wd out bd => by rw [renN, nmN, nmN, nm_renL o w bd]
theorem nm_renL (o w : Int) : ∀ l : List Nd, nmL (renL o w l) = nmL l
  | [] => by simp [renL, nmL]
  | x :: r => by rw [renL, nmL, nmL, nm_renN o w x, nm_renL o w r]
end
/-- what stands round a node: loops by their numbers and sizes -/
abbrev Rd := List (Int × Int)
mutual
/-- all is bound, and what counts within another loop begins within its own size -/
def wbN : Rd → Nd → Prop
  | b, .deed n k w cs us => (∀ x ∈ cs, ∃ s, (x, s) ∈ b) ∧ (∀ x ∈ us, ∃ s, (x, s) ∈ b) ∧ cs.length ≤ 100 ∧ us.length ≤ 100
  | b, .loop n sz wd out bd => (out = -1 ∨ ∃ s, (out, s) ∈ b ∧ (s - 1) * wd < sz ∧ 1 ≤ wd) ∧ 1 ≤ sz ∧ sz ≤ 60 ∧ 0 ≤ n ∧ (∀ s, (n, s) ∉ b) ∧ wbL ((n, sz) :: b) bd ∧ bd.length ≤ 100
def wbL : Rd → List Nd → Prop
  | _, [] => True
  | b, x :: r => wbN b x ∧ wbL b r
end
theorem wbL_app {b : Rd} : ∀ {l m : List Nd}, wbL b (l ++ m) ↔ wbL b l ∧ wbL b m
  | [], m => by simp [wbL]
  | x :: r, m => by rw [List.cons_append, wbL, wbL, wbL_app, and_assoc]
theorem wbL_mem {b : Rd} : ∀ {l : List Nd}, wbL b l → ∀ x ∈ l, wbN b x
  | x :: r, h, y, hy => by
    rw [wbL] at h
    rcases List.mem_cons.mp hy with rfl | hy
    · exact h.1
    · exact wbL_mem h.2 y hy
/-- names changed round: the pairs with the new name -/
def insB (o w : Int) (b : Rd) : Rd := b.map fun p => (ins o w p.1, p.2)
theorem mem_insB {o w x s : Int} {b : Rd} (h : (x, s) ∈ b) : (ins o w x, s) ∈ insB o w b := List.mem_map.mpr ⟨(x, s), h, rfl⟩
theorem ins_ne {o w y : Int} (h : y ≠ o) : ins o w y = y := if_neg h
theorem ins_eq {o w : Int} : ins o w o = w := if_pos rfl
mutual
theorem ren_doN {o w : Int} (ho : o ≠ -1) (hw : w ≠ -1) : ∀ (x : Nd) (b : Rd) (h h' : Int → Int), wbN b x → (∀ y s, (y, s) ∈ b → h' (ins o w y) = h y ∧ y ≠ -1) → (∀ m ∈ nmN x, m ≠ o ∧ m ≠ w) → doN (renN o w x) h' = doN x h
  | .deed n k v cs us, b, h, h', wb, hb, hm => by
    rw [wbN] at wb
    rw [renN, doN, doN, List.map_map, List.map_map]
    have e1 : cs.map (h' ∘ ins o w) = cs.map h := List.map_congr_left fun x hx => by
      obtain ⟨s, hs⟩ := wb.1 x hx
      exact (hb x s hs).1
    have e2 : us.map (h' ∘ ins o w) = us.map h := List.map_congr_left fun x hx => by
      obtain ⟨s, hs⟩ := wb.2.1 x hx
      exact (hb x s hs).1
    rw [e1, e2]
  | .loop n sz wd out bd, b, h, h', wb, hb, hm => by
    rw [wbN] at wb
    obtain ⟨hout, s1, s2, n0, nb, wbd, lbd⟩ := wb
    rw [nmN] at hm
    have hn := hm n (.head _)
    rw [renN, doN, doN]
    have ec : cts sz wd (ins o w out) h' = cts sz wd out h := by
      unfold cts
      rcases hout with rfl | ⟨s, hs, _⟩
      · rw [ins_ne (Ne.symm ho), if_pos rfl, if_pos rfl]
      · obtain ⟨e, ne⟩ := hb out s hs
        have ni : ins o w out ≠ -1 := by
          unfold ins
          split
          · exact hw
          · exact ne
        rw [if_neg ni, if_neg ne, e]
    rw [ec]
    congr 1
    funext c
    refine ren_doL ho hw bd _ _ _ wbd (fun y s hy => ?_) fun m hm' => hm m (.tail _ hm')
    unfold setN
    rcases List.mem_cons.mp hy with hy | hy
    · cases hy
      rw [ins_ne hn.1, if_pos rfl, if_pos rfl]
      exact ⟨rfl, by omega⟩
    · have yn : y ≠ n := fun z => nb s (by rw [← z]; exact hy)
      obtain ⟨e, ne⟩ := hb y s hy
      have ni : ins o w y ≠ n := by
        unfold ins
        split
        · exact fun z => hn.2 z.symm
        · exact yn
      rw [if_neg ni, if_neg yn]
      exact ⟨e, ne⟩
theorem ren_doL {o w : Int} (ho : o ≠ -1) (hw : w ≠ -1) : ∀ (l : List Nd) (b : Rd) (h h' : Int → Int), wbL b l → (∀ y s, (y, s) ∈ b → h' (ins o w y) = h y ∧ y ≠ -1) → (∀ m ∈ nmL l, m ≠ o ∧ m ≠ w) → doL (renL o w l) h' = doL l h
  | [], b, h, h', wb, hb, hm => by simp [renL, doL]
  | x :: r, b, h, h', wb, hb, hm => by
    rw [wbL] at wb
    rw [nmL] at hm
    rw [renL, doL, doL, ren_doN ho hw x b h h' wb.1 hb fun m hm' => hm m (List.mem_append_left _ hm'), ren_doL ho hw r b h h' wb.2 hb fun m hm' => hm m (List.mem_append_right _ hm')]
end
mutual
theorem ren_wbN {o w : Int} (ho : o ≠ -1) : ∀ (x : Nd) (b : Rd), wbN b x → (∀ m ∈ nmN x, m ≠ o ∧ m ≠ w) → wbN (insB o w b) (renN o w x)
  | .deed n k v cs us, b, wb, hm => by
    rw [wbN] at wb
    rw [renN, wbN]
    refine ⟨fun x hx => ?_, fun x hx => ?_, by rw [List.length_map]; exact wb.2.2.1, by rw [List.length_map]; exact wb.2.2.2⟩
    · obtain ⟨y, hy, rfl⟩ := List.mem_map.mp hx
      obtain ⟨s, hs⟩ := wb.1 y hy
      exact ⟨s, mem_insB hs⟩
    · obtain ⟨y, hy, rfl⟩ := List.mem_map.mp hx
      obtain ⟨s, hs⟩ := wb.2.1 y hy
      exact ⟨s, mem_insB hs⟩
  | .loop n sz wd out bd, b, wb, hm => by
    rw [wbN] at wb
    obtain ⟨hout, s1, s2, n0, nb, wbd, lbd⟩ := wb
    rw [nmN] at hm
    have hn := hm n (.head _)
    rw [renN, wbN]
    refine ⟨?_, s1, s2, n0, fun s hs => ?_, ?_, by rw [renL_map, List.length_map]; exact lbd⟩
    · rcases hout with rfl | ⟨s, hs, r⟩
      · exact .inl (ins_ne (Ne.symm ho))
      · exact .inr ⟨s, mem_insB hs, r⟩
    · obtain ⟨⟨y, s'⟩, hy, e⟩ := List.mem_map.mp hs
      injection e with e1 e2
      subst e2
      unfold ins at e1
      split at e1
      · exact hn.2 e1.symm
      · exact nb s' (by rw [← e1]; exact hy)
    · have := ren_wbL ho bd _ wbd fun m hm' => hm m (.tail _ hm')
      have e : insB o w ((n, sz) :: b) = (n, sz) :: insB o w b := by
        show (ins o w n, sz) :: insB o w b = _
        rw [ins_ne hn.1]
      rw [e] at this
      exact this
theorem ren_wbL {o w : Int} (ho : o ≠ -1) : ∀ (l : List Nd) (b : Rd), wbL b l → (∀ m ∈ nmL l, m ≠ o ∧ m ≠ w) → wbL (insB o w b) (renL o w l)
  | [], b, wb, hm => by simp [renL, wbL]
  | x :: r, b, wb, hm => by
    rw [wbL] at wb
    rw [nmL] at hm
    rw [renL, wbL]
    exact ⟨ren_wbN ho x b wb.1 fun m hm' => hm m (List.mem_append_left _ hm'), ren_wbL ho r b wb.2 fun m hm' => hm m (List.mem_append_right _ hm')⟩
end
mutual
/-- more may stand round -/
theorem wbN_more : ∀ (x : Nd) (b b' : Rd), wbN b x → (∀ p ∈ b, p ∈ b') → (∀ m ∈ nmN x, ∀ s, (m, s) ∉ b') → wbN b' x
  | .deed n k v cs us, b, b', wb, hb, hm => by
    rw [wbN] at wb ⊢
    refine ⟨fun x hx => ?_, fun x hx => ?_, wb.2.2⟩
    · obtain ⟨s, hs⟩ := wb.1 x hx
      exact ⟨s, hb _ hs⟩
    · obtain ⟨s, hs⟩ := wb.2.1 x hx
      exact ⟨s, hb _ hs⟩
  | .loop n sz wd out bd, b, b', wb, hb, hm => by
    rw [wbN] at wb ⊢
    obtain ⟨hout, s1, s2, n0, nb, wbd, lbd⟩ := wb
    rw [nmN] at hm
    refine ⟨hout.imp id fun ⟨s, hs, r⟩ => ⟨s, hb _ hs, r⟩, s1, s2, n0, hm n (.head _), ?_, lbd⟩
    by_cases hin : n ∈ nmL bd
    · exfalso
      exact nm_out bd _ wbd n hin sz (.head _)
    · refine wbL_more bd _ _ wbd (fun p hp => ?_) fun m hm' s hs => ?_
      · rcases List.mem_cons.mp hp with rfl | hp
        · exact .head _
        · exact .tail _ (hb p hp)
      · rcases List.mem_cons.mp hs with hs | hs
        · cases hs
          exact hin hm'
        · exact hm m (.tail _ hm') s hs
theorem wbL_more : ∀ (l : List Nd) (b b' : Rd), wbL b l → (∀ p ∈ b, p ∈ b') → (∀ m ∈ nmL l, ∀ s, (m, s) ∉ b') → wbL b' l
  | [], b, b', wb, hb, hm => by simp [wbL]
  | x :: r, b, b', wb, hb, hm => by
    rw [wbL] at wb ⊢
    rw [nmL] at hm
    exact ⟨wbN_more x b b' wb.1 hb fun m hm' => hm m (List.mem_append_left _ hm'), wbL_more r b b' wb.2 hb fun m hm' => hm m (List.mem_append_right _ hm')⟩
/-- loops within bear no number that stands round -/
theorem nm_outN : ∀ (x : Nd) (b : Rd), wbN b x → ∀ m ∈ nmN x, ∀ s, (m, s) ∉ b
  | .deed n k v cs us, b, wb, m, hm, s => by simp [nmN] at hm
  | .loop n sz wd out bd, b, wb, m, hm, s => by
    rw [wbN] at wb
    rw [nmN] at hm
    rcases List.mem_cons.mp hm with rfl | hm
    · exact wb.2.2.2.2.1 s
    · exact fun hs => nm_out bd _ wb.2.2.2.2.2.1 m hm s (.tail _ hs)
theorem nm_out : ∀ (l : List Nd) (b : Rd), wbL b l → ∀ m ∈ nmL l, ∀ s, (m, s) ∉ b
  | [], b, wb, m, hm, s => by simp [nmL] at hm
  | x :: r, b, wb, m, hm, s => by
    rw [wbL] at wb
    rw [nmL] at hm
    rcases List.mem_append.mp hm with hm | hm
    · exact nm_outN x b wb.1 m hm s
    · exact nm_out r b wb.2 m hm s
end
/-! ### tiles -/
theorem tiles {sz T : Int} (hT : 1 ≤ T) (hs : 0 ≤ sz) : ∀ k : Nat, ((List.range k).map fun (i : Nat) => (0 : Int) + (i : Int)).flatMap (fun v => iv (v * T) (min (v * T + T) sz)) = iv 0 (min ((k : Int) * T) sz)
  | 0 => by
    rw [iv_nil (by show min (((0 : Nat) : Int) * T) sz ≤ 0; rw [Int.natCast_zero, Int.zero_mul]; omega)]
    rfl
  | k + 1 => by
    rw [List.range_succ, List.map_append, List.flatMap_append, tiles hT hs k, List.map_singleton, List.flatMap_singleton, Int.zero_add]
    have e : ((k + 1 : Nat) : Int) * T = (k : Int) * T + T := by rw [Int.natCast_add, Int.add_mul, Int.natCast_one, Int.one_mul]
    rw [e]
    have hk : 0 ≤ (k : Int) * T := Int.mul_nonneg (by omega) (by omega)
    by_cases h : (k : Int) * T ≤ sz
    · rw [show min ((k : Int) * T) sz = (k : Int) * T by omega]
      exact iv_app hk (by omega)
    · rw [iv_nil (lo := (k : Int) * T) (by omega), List.append_nil]
      congr 1
      omega
theorem ceil_ge {sz T : Int} (hT : 1 ≤ T) : sz ≤ (sz + T - 1) / T * T := by
  have h1 := Int.emod_add_mul_ediv (sz + T - 1) T
  have h2 := Int.emod_lt_of_pos (sz + T - 1) (show 0 < T by omega)
  rw [Int.mul_comm T] at h1
  omega
theorem ceil_lt {sz T : Int} (hT : 1 ≤ T) : ((sz + T - 1) / T - 1) * T < sz := by
  have h1 := Int.emod_add_mul_ediv (sz + T - 1) T
  have h2 := Int.emod_nonneg (sz + T - 1) (show T ≠ 0 by omega)
  rw [Int.mul_comm T] at h1
  rw [Int.sub_mul, Int.one_mul]
  omega
theorem ceil_pos {sz T : Int} (hT : 1 ≤ T) (hs : 1 ≤ sz) : 1 ≤ (sz + T - 1) / T := by
  have := (Int.le_ediv_iff_mul_le (show 0 < T by omega) (a := 1) (b := sz + T - 1)).mpr (by omega)
  exact this
theorem ceil_le {sz T : Int} (hT : 1 ≤ T) (hs : 1 ≤ sz) : (sz + T - 1) / T ≤ sz := by
  have h1 := ceil_lt (sz := sz) hT
  have h2 := ceil_pos hT hs
  have h3 : ((sz + T - 1) / T - 1) * 1 ≤ ((sz + T - 1) / T - 1) * T := Int.mul_le_mul_of_nonneg_left hT (by omega)
  omega
theorem tiles_all {sz T : Int} (hT : 1 ≤ T) (hs : 1 ≤ sz) : (iv 0 ((sz + T - 1) / T)).flatMap (fun v => iv (v * T) (min (v * T + T) sz)) = iv 0 sz := by
  have hp := ceil_pos hT hs
  have hg := ceil_ge (sz := sz) hT
  have := tiles (sz := sz) hT (by omega) ((sz + T - 1) / T).toNat
  unfold iv at this ⊢
  rw [Int.sub_zero]
  rw [this]
  have e : ((((sz + T - 1) / T).toNat : Nat) : Int) = (sz + T - 1) / T := Int.toNat_of_nonneg (by omega)
  rw [e]
  have : min ((sz + T - 1) / T * T) sz = sz := by omega
  rw [this]
theorem flat_flat {α β γ : Type} (g : β → List γ) (f : α → List β) : ∀ l : List α, (l.flatMap f).flatMap g = l.flatMap fun a => (f a).flatMap g
  | [] => rfl
  | a :: r => by rw [List.flatMap_cons, List.flatMap_append, flat_flat g f r, List.flatMap_cons]
theorem flat_congr' {α β : Type} {f g : α → List β} : ∀ {l : List α}, (∀ x ∈ l, f x = g x) → l.flatMap f = l.flatMap g
  | [], _ => rfl
  | x :: r, h => by rw [List.flatMap_cons, List.flatMap_cons, h x (.head _), flat_congr' fun y hy => h y (.tail _ hy)]
/-- a loop cut in tiles -/
def cutN (T w : Int) : Nd → Nd
  | .loop n sz wd out bd => .loop n ((sz + T - 1) / T) wd out [.loop w sz T n (renL n w bd)]
  | x => x
theorem cut_doN {n sz wd w T : Int} {bd : List Nd} {b : Rd} (hT : 1 ≤ T) (wb : wbN b (.loop n sz wd (-1) bd)) (b0 : ∀ y s, (y, s) ∈ b → y ≠ -1) (hw : w ≠ -1) (hwn : w ≠ n) (hwb : ∀ s, (w, s) ∉ b) (hm : ∀ m ∈ nmL bd, m ≠ w) (f : Int → Int) : doN (cutN T w (.loop n sz wd (-1) bd)) f = doN (.loop n sz wd (-1) bd) f := by
  have wb' := wb
  rw [wbN] at wb
  obtain ⟨_, s1, s2, n0, nb, wbd, lbd⟩ := wb
  have nin : n ∉ nmL bd := fun z => nm_out bd _ wbd n z sz (.head _)
  rw [cutN, doN, doN]
  have c1 : ∀ g, cts ((sz + T - 1) / T) wd (-1) g = iv 0 ((sz + T - 1) / T) := fun g => if_pos rfl
  have c2 : cts sz wd (-1) f = iv 0 sz := if_pos rfl
  rw [c1, c2, ← tiles_all hT s1, flat_flat]
  refine flat_congr' fun v _ => ?_
  rw [doL, doL, List.append_nil, doN]
  have c3 : cts sz T n (setN f n v) = iv (v * T) (min (v * T + T) sz) := by
    unfold cts setN
    rw [if_neg (by omega), if_pos rfl]
  rw [c3]
  refine flat_congr' fun c _ => ?_
  refine ren_doL (by omega) hw bd _ _ _ wbd (fun y s hy => ?_) fun m hm' => ⟨fun z => nin (by rw [← z]; exact hm'), hm m hm'⟩
  rcases List.mem_cons.mp hy with hy | hy
  · cases hy
    rw [ins_eq]
    unfold setN
    rw [if_pos rfl, if_pos rfl]
    exact ⟨rfl, by omega⟩
  · have yn : y ≠ n := fun z => nb s (by rw [← z]; exact hy)
    have yw : y ≠ w := fun z => hwb s (by rw [← z]; exact hy)
    rw [ins_ne yn]
    unfold setN
    rw [if_neg yw, if_neg yn, if_neg yn]
    exact ⟨rfl, b0 y s hy⟩
theorem cut_wbN {n sz wd w T : Int} {bd : List Nd} {b : Rd} (hT : 1 ≤ T) (wb : wbN b (.loop n sz wd (-1) bd)) (w0 : 0 ≤ w) (hwn : w ≠ n) (hwb : ∀ s, (w, s) ∉ b) (hm : ∀ m ∈ nmL bd, m ≠ w) : wbN b (cutN T w (.loop n sz wd (-1) bd)) := by
  rw [wbN] at wb
  obtain ⟨_, s1, s2, n0, nb, wbd, lbd⟩ := wb
  have nin : n ∉ nmL bd := fun z => nm_out bd _ wbd n z sz (.head _)
  have h1 := ceil_pos hT s1
  have h2 := ceil_le hT s1
  rw [cutN, wbN]
  refine ⟨.inl rfl, h1, by omega, n0, nb, ?_, by simp⟩
  rw [wbL, wbN, wbL]
  refine ⟨⟨.inr ⟨_, .head _, ceil_lt hT, hT⟩, s1, s2, w0, fun s hs => ?_, ?_, by rw [renL_map, List.length_map]; exact lbd⟩, trivial⟩
  · rcases List.mem_cons.mp hs with hs | hs
    · cases hs
      exact hwn rfl
    · exact hwb s hs
  · have := ren_wbL (o := n) (w := w) (by omega) bd _ wbd fun m hm' => ⟨fun z => nin (by rw [← z]; exact hm'), hm m hm'⟩
    refine wbL_more _ _ _ this (fun p hp => ?_) fun m hm' s hs => ?_
    · obtain ⟨⟨y, s⟩, hy, rfl⟩ := List.mem_map.mp hp
      rcases List.mem_cons.mp hy with hy | hy
      · cases hy
        show (ins n w n, sz) ∈ _
        rw [ins_eq]
        exact .head _
      · have yn : y ≠ n := fun z => nb s (by rw [← z]; exact hy)
        show (ins n w y, s) ∈ _
        rw [ins_ne yn]
        exact .tail _ (.tail _ hy)
    · rw [nm_renL] at hm'
      rcases List.mem_cons.mp hs with hs | hs
      · cases hs
        exact hm w hm' rfl
      · rcases List.mem_cons.mp hs with hs | hs
        · cases hs
          exact nin hm'
        · exact nm_out bd _ wbd m hm' s (.tail _ hs)
/-! ### depth, outers -/
mutual
def dpN : Nd → Nat
  | .deed .. => 0
  | .loop _ _ _ _ bd => dpL bd + 1
def dpL : List Nd → Nat
  | [] => 0
  | x :: r => max (dpN x) (dpL r)
end
theorem dpL_app : ∀ (a b : List Nd), dpL (a ++ b) = max (dpL a) (dpL b)
  | [], b => by simp [dpL]
  | x :: r, b => by rw [List.cons_append, dpL, dpL, dpL_app r b, Nat.max_assoc]
mutual
theorem dp_renN (o w : Int) : ∀ x : Nd, dpN (renN o w x) = dpN x
  | .deed .. => by simp [renN, dpN]
  | .loop n sz wd out bd => by rw [renN, dpN, dpN, dp_renL o w bd]
theorem dp_renL (o w : Int) : ∀ l : List Nd, dpL (renL o w l) = dpL l
  | [] => by simp [renL, dpL]
  | x :: r => by rw [renL, dpL, dpL, dp_renN o w x, dp_renL o w r]
end
mutual
/-- a loop of these counts by itself -/
def oxN (L : List Int) : Nd → Prop
  | .deed .. => True
  | .loop n _ _ out bd => (n ∈ L → out = -1) ∧ oxL L bd
def oxL (L : List Int) : List Nd → Prop
  | [] => True
  | x :: r => oxN L x ∧ oxL L r
end
theorem oxL_app {L : List Int} : ∀ {a b : List Nd}, oxL L (a ++ b) ↔ oxL L a ∧ oxL L b
  | [], b => by simp [oxL]
  | x :: r, b => by rw [List.cons_append, oxL, oxL, oxL_app, and_assoc]
mutual
theorem ox_renN {L : List Int} {o w : Int} (ho : o ≠ -1) : ∀ x : Nd, oxN L x → oxN L (renN o w x)
  | .deed .., _ => by simp [renN, oxN]
  | .loop n sz wd out bd, h => by
    rw [oxN] at h
    rw [renN, oxN]
    exact ⟨fun z => by rw [h.1 z]; exact ins_ne (Ne.symm ho), ox_renL ho bd h.2⟩
theorem ox_renL {L : List Int} {o w : Int} (ho : o ≠ -1) : ∀ l : List Nd, oxL L l → oxL L (renL o w l)
  | [], _ => by simp [renL, oxL]
  | x :: r, h => by
    rw [oxL] at h
    rw [renL, oxL]
    exact ⟨ox_renN ho x h.1, ox_renL ho r h.2⟩
end
/-! ### places -/
def PathAt : List Nat → List Nd → Nd → Prop
  | [], _, _ => False
  | [p], l, x => l[p]? = some x
  | p :: q :: r, l, x => ∃ n sz wd out bd, l[p]? = some (.loop n sz wd out bd) ∧ PathAt (q :: r) bd x
/-- one node put in another's place -/
def repl : List Nat → List Nd → Nd → List Nd
  | [], l, _ => l
  | [p], l, y => l.take p ++ y :: l.drop (p + 1)
  | p :: q :: r, l, y => match l[p]? with
    | some (.loop n sz wd out bd) => l.take p ++ .loop n sz wd out (repl (q :: r) bd y) :: l.drop (p + 1)
    | _ => l
theorem cut_at {l : List Nd} {p : Nat} {x : Nd} (h : l[p]? = some x) : l = l.take p ++ x :: l.drop (p + 1) := by
  obtain ⟨hl, rfl⟩ := List.getElem?_eq_some_iff.mp h
  rw [← List.drop_eq_getElem_cons hl, List.take_append_drop]
theorem repl_cons {p q : Nat} {r : List Nat} {l bd : List Nd} {n sz wd out : Int} {y : Nd} (h : l[p]? = some (.loop n sz wd out bd)) : repl (p :: q :: r) l y = l.take p ++ .loop n sz wd out (repl (q :: r) bd y) :: l.drop (p + 1) := by
  rw [repl, h]
theorem doL_mid (a b : List Nd) (x : Nd) (f : Int → Int) : doL (a ++ x :: b) f = doL a f ++ (doN x f ++ doL b f) := by rw [doL_app, doL]
theorem nmL_mid (a b : List Nd) (x : Nd) : nmL (a ++ x :: b) = nmL a ++ (nmN x ++ nmL b) := by rw [nmL_app, nmL]
theorem repl_do {x y : Nd} (h : ∀ f, doN y f = doN x f) : ∀ {path : List Nat} {l : List Nd}, PathAt path l x → ∀ f, doL (repl path l y) f = doL l f
  | [p], l, hp, f => by
    have hp : l[p]? = some x := hp
    rw [repl, doL_mid, h, ← doL_mid, ← cut_at hp]
  | p :: q :: r, l, hp, f => by
    obtain ⟨n, sz, wd, out, bd, e, hq⟩ := hp
    rw [repl_cons e, doL_mid]
    have : doN (.loop n sz wd out (repl (q :: r) bd y)) f = doN (.loop n sz wd out bd) f := by
      rw [doN, doN]
      congr 1
      funext c
      exact repl_do h hq _
    rw [this, ← doL_mid, ← cut_at e]
theorem repl_len {y x : Nd} : ∀ {path : List Nat} {l : List Nd}, PathAt path l x → (repl path l y).length = l.length
  | [p], l, hp => by
    have hp : l[p]? = some x := hp
    have := (List.getElem?_eq_some_iff.mp hp).1
    rw [repl, List.length_append, List.length_cons, List.length_take, List.length_drop]
    omega
  | p :: q :: r, l, hp => by
    obtain ⟨n, sz, wd, out, bd, e, hq⟩ := hp
    have := (List.getElem?_eq_some_iff.mp e).1
    rw [repl_cons e, List.length_append, List.length_cons, List.length_take, List.length_drop]
    omega
theorem path_nm {x : Nd} : ∀ {path : List Nat} {l : List Nd}, PathAt path l x → ∀ m ∈ nmN x, m ∈ nmL l
  | [p], l, hp, m, hm => by
    rw [cut_at (show l[p]? = some x from hp), nmL_mid]
    exact List.mem_append_right _ (List.mem_append_left _ hm)
  | p :: q :: r, l, hp, m, hm => by
    obtain ⟨n, sz, wd, out, bd, e, hq⟩ := hp
    rw [cut_at e, nmL_mid, nmN]
    exact List.mem_append_right _ (List.mem_append_left _ (.tail _ (path_nm hq m hm)))
theorem repl_nm {x y : Nd} {w : Int} (h : ∀ m, m ∈ nmN y ↔ m ∈ nmN x ∨ m = w) : ∀ {path : List Nat} {l : List Nd}, PathAt path l x → ∀ m, m ∈ nmL (repl path l y) ↔ m ∈ nmL l ∨ m = w
  | [p], l, hp, m => by
    have hp : l[p]? = some x := hp
    have e1 : nmL l = nmL (l.take p) ++ (nmN x ++ nmL (l.drop (p + 1))) := by rw [← nmL_mid, ← cut_at hp]
    rw [repl, nmL_mid, e1]
    simp only [List.mem_append, h m]
    constructor
    · rintro (a | (a | a) | a)
      · exact .inl (.inl a)
      · exact .inl (.inr (.inl a))
      · exact .inr a
      · exact .inl (.inr (.inr a))
    · rintro ((a | a | a) | a)
      · exact .inl a
      · exact .inr (.inl (.inl a))
      · exact .inr (.inr a)
      · exact .inr (.inl (.inr a))
  | p :: q :: r, l, hp, m => by
    obtain ⟨n, sz, wd, out, bd, e, hq⟩ := hp
    have e1 : nmL l = nmL (l.take p) ++ ((n :: nmL bd) ++ nmL (l.drop (p + 1))) := by
      have := nmL_mid (l.take p) (l.drop (p + 1)) (.loop n sz wd out bd)
      rw [← cut_at e, nmN] at this
      exact this
    rw [repl_cons e, nmL_mid, nmN, e1]
    have ih := repl_nm h hq m
    simp only [List.mem_append, List.mem_cons, ih]
    constructor
    · rintro (a | (a | a | a) | a)
      · exact .inl (.inl a)
      · exact .inl (.inr (.inl (.inl a)))
      · exact .inl (.inr (.inl (.inr a)))
      · exact .inr a
      · exact .inl (.inr (.inr a))
    · rintro ((a | (a | a) | a) | a)
      · exact .inl a
      · exact .inr (.inl (.inl a))
      · exact .inr (.inl (.inr (.inl a)))
      · exact .inr (.inr a)
      · exact .inr (.inl (.inr (.inr a)))
theorem path_ox {L : List Int} {x : Nd} : ∀ {path : List Nat} {l : List Nd}, PathAt path l x → oxL L l → oxN L x
  | [p], l, hp, h => by
    rw [cut_at (show l[p]? = some x from hp), oxL_app, oxL] at h
    exact h.2.1
  | p :: q :: r, l, hp, h => by
    obtain ⟨n, sz, wd, out, bd, e, hq⟩ := hp
    rw [cut_at e, oxL_app, oxL, oxN] at h
    exact path_ox hq h.2.1.2
theorem repl_ox {L : List Int} {x y : Nd} (hy : oxN L y) : ∀ {path : List Nat} {l : List Nd}, PathAt path l x → oxL L l → oxL L (repl path l y)
  | [p], l, hp, h => by
    rw [cut_at (show l[p]? = some x from hp), oxL_app, oxL] at h
    rw [repl, oxL_app, oxL]
    exact ⟨h.1, hy, h.2.2⟩
  | p :: q :: r, l, hp, h => by
    obtain ⟨n, sz, wd, out, bd, e, hq⟩ := hp
    rw [cut_at e, oxL_app, oxL, oxN] at h
    rw [repl_cons e, oxL_app, oxL, oxN]
    exact ⟨h.1, ⟨h.2.1.1, repl_ox hy hq h.2.1.2⟩, h.2.2⟩
theorem dpL_mid (a b : List Nd) (x : Nd) : dpL (a ++ x :: b) = max (dpL a) (max (dpN x) (dpL b)) := by rw [dpL_app, dpL]
theorem repl_dp {x y : Nd} (h : dpN y ≤ dpN x + 1) : ∀ {path : List Nat} {l : List Nd}, PathAt path l x → dpL (repl path l y) ≤ dpL l + 1
  | [p], l, hp => by
    have e1 : dpL l = max (dpL (l.take p)) (max (dpN x) (dpL (l.drop (p + 1)))) := by rw [← dpL_mid, ← cut_at (show l[p]? = some x from hp)]
    rw [repl, dpL_mid, e1]
    omega
  | p :: q :: r, l, hp => by
    obtain ⟨n, sz, wd, out, bd, e, hq⟩ := hp
    have e1 : dpL l = max (dpL (l.take p)) (max (dpN (.loop n sz wd out bd)) (dpL (l.drop (p + 1)))) := by rw [← dpL_mid, ← cut_at e]
    have ih := repl_dp h hq
    rw [repl_cons e, dpL_mid, e1, dpN, dpN]
    omega
/-- what stands round the node at a place -/
theorem path_wb {x : Nd} : ∀ {path : List Nat} {l : List Nd} {b : Rd}, PathAt path l x → wbL b l → ∃ b' : Rd, wbN b' x ∧ (∀ y s, (y, s) ∈ b' → (y, s) ∈ b ∨ y ∈ nmL l) ∧ ∀ y, wbN b' y → (∀ m ∈ nmN y, ∀ s, (m, s) ∉ b') → wbL b (repl path l y)
  | [p], l, b, hp, h => by
    have e := cut_at (show l[p]? = some x from hp)
    rw [e, wbL_app, wbL] at h
    refine ⟨b, h.2.1, fun y s hy => .inl hy, fun y hy _ => ?_⟩
    rw [repl, wbL_app, wbL]
    exact ⟨h.1, hy, h.2.2⟩
  | p :: q :: r, l, b, hp, h => by
    obtain ⟨n, sz, wd, out, bd, e, hq⟩ := hp
    have e' := cut_at e
    rw [e', wbL_app, wbL, wbN] at h
    obtain ⟨h1, ⟨ho, s1, s2, n0, nb, wbd, lbd⟩, h3⟩ := h
    obtain ⟨b', w1, w2, w3⟩ := path_wb hq wbd
    refine ⟨b', w1, fun y s hy => ?_, fun y hy hm => ?_⟩
    · have e1 : nmL l = nmL (l.take p) ++ ((n :: nmL bd) ++ nmL (l.drop (p + 1))) := by
        have := nmL_mid (l.take p) (l.drop (p + 1)) (.loop n sz wd out bd)
        rw [← e', nmN] at this
        exact this
      rw [e1]
      rcases w2 y s hy with hy | hy
      · rcases List.mem_cons.mp hy with hy | hy
        · cases hy
          exact .inr (List.mem_append_right _ (List.mem_append_left _ (.head _)))
        · exact .inl hy
      · exact .inr (List.mem_append_right _ (List.mem_append_left _ (.tail _ hy)))
    · rw [repl_cons e, wbL_app, wbL, wbN]
      exact ⟨h1, ⟨ho, s1, s2, n0, nb, w3 y hy hm, by rw [repl_len hq]; exact lbd⟩, h3⟩
/-- what holds of a nest all along: L the loops that are cut -/
structure NsOkC (L : List Int) (fr : Int) (l : List Nd) (d : Nat) : Prop where
  wb : wbL [] l
  nm : ∀ m ∈ nmL l, 0 ≤ m ∧ m < fr
  ox : oxL L l
  sub : ∀ m ∈ L, m ∈ nmL l
  dp : dpL l ≤ d
  len : l.length ≤ 100
  f0 : 0 ≤ fr
theorem NsOkC.cut {L : List Int} {fr : Int} {l : List Nd} {d : Nat} (h : NsOkC L fr l d) {path : List Nat} {n sz wd out T : Int} {bd : List Nd} (hp : PathAt path l (.loop n sz wd out bd)) (hn : n ∈ L) (hT : 1 ≤ T) :
    out = -1 ∧ NsOkC L (fr + 1) (repl path l (cutN T fr (.loop n sz wd out bd))) (d + 1) ∧ ∀ f, doL (repl path l (cutN T fr (.loop n sz wd out bd))) f = doL l f := by
  have ox := path_ox hp h.ox
  rw [oxN] at ox
  have ho := ox.1 hn
  subst ho
  obtain ⟨b', w1, w2, w3⟩ := path_wb hp h.wb
  have inb : ∀ y s, (y, s) ∈ b' → y ∈ nmL l := fun y s hy => (w2 y s hy).resolve_left (by simp)
  have f0 := h.f0
  have hwb : ∀ s, (fr, s) ∉ b' := fun s hs => by have := h.nm fr (inb _ _ hs); omega
  have pn := path_nm hp
  rw [nmN] at pn
  have hwn : fr ≠ n := fun z => by have := h.nm n (pn n (.head _)); omega
  have hm : ∀ m ∈ nmL bd, m ≠ fr := fun m hm z => by have := h.nm m (pn m (.tail _ hm)); omega
  have nmc : ∀ m, m ∈ nmN (cutN T fr (.loop n sz wd (-1) bd)) ↔ m ∈ nmN (.loop n sz wd (-1) bd) ∨ m = fr := fun m => by
    rw [cutN, nmN, nmL, nmL, nmN, nmN, nm_renL, List.append_nil, List.mem_cons, List.mem_cons, List.mem_cons]
    constructor
    · rintro (a | a | a)
      · exact .inl (.inl a)
      · exact .inr a
      · exact .inl (.inr a)
    · rintro ((a | a) | a)
      · exact .inl a
      · exact .inr (.inr a)
      · exact .inr (.inl a)
  have rn := repl_nm nmc hp
  refine ⟨rfl, ⟨w3 _ (cut_wbN hT w1 f0 hwn hwb hm) fun m hm' s hs => ?_, fun m hm' => ?_, repl_ox ?_ hp h.ox, fun m hm' => (rn m).mpr (.inl (h.sub m hm')), ?_, by rw [repl_len hp]; exact h.len, by omega⟩, repl_do (cut_doN hT w1 (fun y s hy => ?_) (by omega) hwn hwb hm) hp⟩
  · rcases (nmc m).mp hm' with hm' | hm'
    · exact nm_outN _ _ w1 m hm' s hs
    · rw [hm'] at hs; exact hwb s hs
  · rcases (rn m).mp hm' with hm' | hm'
    · have := h.nm m hm'; omega
    · omega
  · rw [cutN, oxN, oxL, oxN, oxL]
    refine ⟨fun _ => rfl, ⟨fun z => ?_, ox_renL (by have := h.nm n (pn n (.head _)); omega) bd ox.2⟩, trivial⟩
    have := h.nm fr (h.sub fr z)
    omega
  · have := repl_dp (x := .loop n sz wd (-1) bd) (y := cutN T fr (.loop n sz wd (-1) bd)) (by rw [cutN, dpN, dpL, dpL, dpN, dp_renL, dpN]; omega) hp
    have := h.dp
    omega
  · have := h.nm y (inb y s hy)
    omega
/-! ### the first nest -/
def cellsR : List Int → List (List Int)
  | [] => [[]]
  | n :: ls => (List.range n.toNat).flatMap fun (k : Nat) => (cellsR ls).map fun c => (k : Int) :: c
theorem cells_from (ls : List Int) : ∀ cs : List (List Int), ls.foldl lenM cs = cs.flatMap fun c => (cellsR ls).map fun d => c ++ d := by
  induction ls with
  | nil => intro cs; simp [cellsR]
  | cons n r ih =>
    intro cs
    rw [List.foldl_cons, ih]
    unfold lenM
    rw [List.flatMap_assoc]
    congr 1
    funext c
    rw [List.flatMap_map]
    show _ = ((List.range n.toNat).flatMap fun (k : Nat) => (cellsR r).map fun c => (k : Int) :: c).map fun d => c ++ d
    rw [List.map_flatMap]
    congr 1
    funext k
    rw [List.map_map]
    apply List.map_congr_left
    intro d _
    simp
theorem cells_eq (ls : List Int) : cellsM ls = cellsR ls := by
  unfold cellsM
  rw [cells_from]
  simp
theorem cellsR_len : ∀ (ls : List Int), ∀ c ∈ cellsR ls, c.length = ls.length
  | [], c, h => by simp [cellsR] at h; subst h; rfl
  | n :: r, c, h => by
    simp only [cellsR, List.mem_flatMap, List.mem_map] at h
    obtain ⟨k, _, d, hd, rfl⟩ := h
    rw [List.length_cons, List.length_cons, cellsR_len r d hd]
def setAll (f : Int → Int) : List Int → List Int → (Int → Int)
  | n :: ns, c :: cs => setAll (setN f n c) ns cs
  | _, _ => f
theorem setAll_out {x : Int} : ∀ {ns cs : List Int} {f : Int → Int}, x ∉ ns → setAll f ns cs x = f x
  | [], _, f, _ => rfl
  | n :: ns, [], f, _ => rfl
  | n :: ns, c :: cs, f, h => by
    rw [List.mem_cons, not_or] at h
    show setAll (setN f n c) ns cs x = f x
    rw [setAll_out h.2]
    unfold setN
    rw [if_neg h.1]
theorem setAll_map : ∀ {ns cs : List Int} {f : Int → Int}, ns.Nodup → ns.length = cs.length → ns.map (setAll f ns cs) = cs
  | [], [], f, _, _ => rfl
  | [], _ :: _, f, _, h => by simp at h
  | _ :: _, [], f, _, h => by simp at h
  | n :: ns, c :: cs, f, nd, h => by
    rw [List.nodup_cons] at nd
    rw [List.map_cons]
    show setAll (setN f n c) ns cs n :: ns.map (setAll (setN f n c) ns cs) = c :: cs
    rw [setAll_out nd.1, setAll_map nd.2 (by simpa using h)]
    unfold setN
    rw [if_pos rfl]
/-- numbers from the fresh one on -/
def nums (fr : Int) (m : Nat) : List Int := (List.range m).map fun (j : Nat) => fr + j
theorem nums_len (fr : Int) (m : Nat) : (nums fr m).length = m := by simp [nums]
theorem mem_nums {fr x : Int} {m : Nat} (h : x ∈ nums fr m) : fr ≤ x ∧ x < fr + m := by
  obtain ⟨j, hj, rfl⟩ := List.mem_map.mp h
  have := List.mem_range.mp hj
  omega
theorem nums_nodup (fr : Int) (m : Nat) : (nums fr m).Nodup := by
  unfold nums
  rw [List.Nodup, List.pairwise_map]
  exact List.pairwise_lt_range.imp fun h => by omega
theorem zip_fst (fr : Int) (ls : List Int) : ((nums fr ls.length).zip ls).map (·.1) = nums fr ls.length := by
  show ((nums fr ls.length).zip ls).map Prod.fst = _
  rw [List.map_fst_zip (by rw [nums_len]; exact Nat.le_refl _)]
theorem zip_snd (fr : Int) (ls : List Int) : ((nums fr ls.length).zip ls).map (·.2) = ls := by
  show ((nums fr ls.length).zip ls).map Prod.snd = _
  rw [List.map_snd_zip (by rw [nums_len]; exact Nat.le_refl _)]
def loopsN : List (Int × Int) → List Nd → List Nd
  | [], l => l
  | p :: r, l => [.loop p.1 p.2 0 (-1) (loopsN r l)]
theorem iv_flat {β : Type} (n : Int) (g : Int → List β) : (iv 0 n).flatMap g = (List.range n.toNat).flatMap fun (k : Nat) => g (k : Int) := by
  unfold iv
  rw [Int.sub_zero, List.flatMap_map]
  congr 1
  funext k
  rw [Int.zero_add]
theorem loops_do (l : List Nd) : ∀ (ps : List (Int × Int)) (f : Int → Int), doL (loopsN ps l) f = (cellsR (ps.map (·.2))).flatMap fun c => doL l (setAll f (ps.map (·.1)) c)
  | [], f => by simp [loopsN, cellsR, setAll]
  | p :: r, f => by
    show doL [.loop p.1 p.2 0 (-1) (loopsN r l)] f = ((List.range p.2.toNat).flatMap fun (k : Nat) => (cellsR (r.map (·.2))).map fun c => (k : Int) :: c).flatMap fun c => doL l (setAll f (p.1 :: r.map (·.1)) c)
    have e : doL [.loop p.1 p.2 0 (-1) (loopsN r l)] f = (List.range p.2.toNat).flatMap fun (i : Nat) => doL (loopsN r l) (setN f p.1 i) := by
      rw [doL, doL, List.append_nil, doN]
      have : cts p.2 0 (-1) f = iv 0 p.2 := if_pos rfl
      rw [this, iv_flat]
    rw [e, List.flatMap_assoc]
    congr 1
    funext i
    rw [List.flatMap_map, loops_do l r]
    rfl
theorem loops_nm (l : List Nd) : ∀ ps : List (Int × Int), nmL (loopsN ps l) = ps.map (·.1) ++ nmL l
  | [] => by simp [loopsN]
  | p :: r => by
    show nmL [.loop p.1 p.2 0 (-1) (loopsN r l)] = _
    rw [nmL, nmL, nmN, loops_nm l r, List.append_nil, List.map_cons, List.cons_append]
theorem loops_dp (l : List Nd) : ∀ ps : List (Int × Int), dpL (loopsN ps l) = ps.length + dpL l
  | [] => by simp [loopsN]
  | p :: r => by
    show dpL [.loop p.1 p.2 0 (-1) (loopsN r l)] = _
    rw [dpL, dpL, dpN, loops_dp l r, List.length_cons]
    omega
theorem loops_ox {L : List Int} {l : List Nd} (h : oxL L l) : ∀ ps : List (Int × Int), oxL L (loopsN ps l)
  | [] => h
  | p :: r => by
    show oxL L [.loop p.1 p.2 0 (-1) (loopsN r l)]
    rw [oxL, oxL, oxN]
    exact ⟨⟨fun _ => rfl, loops_ox h r⟩, trivial⟩
theorem loops_len {l : List Nd} (h : l.length ≤ 100) : ∀ ps : List (Int × Int), (loopsN ps l).length ≤ 100
  | [] => h
  | p :: r => by show 1 ≤ 100; decide
theorem loops_wb {l : List Nd} (hl : l.length ≤ 100) : ∀ (ps : List (Int × Int)) (b : Rd), (∀ p ∈ ps, 1 ≤ p.2 ∧ p.2 ≤ 60 ∧ 0 ≤ p.1 ∧ ∀ s, (p.1, s) ∉ b) → (ps.map (·.1)).Nodup → wbL (ps.reverse ++ b) l → wbL b (loopsN ps l)
  | [], b, _, _, h => h
  | p :: r, b, hp, nd, h => by
    obtain ⟨p1, p2, p3, p4⟩ := hp p (.head _)
    rw [List.map_cons, List.nodup_cons] at nd
    show wbL b [.loop p.1 p.2 0 (-1) (loopsN r l)]
    rw [wbL, wbL, wbN]
    refine ⟨⟨.inl rfl, p1, p2, p3, p4, loops_wb hl r _ (fun q hq => ?_) nd.2 ?_, loops_len hl r⟩, trivial⟩
    · obtain ⟨q1, q2, q3, q4⟩ := hp q (.tail _ hq)
      refine ⟨q1, q2, q3, fun s hs => ?_⟩
      rcases List.mem_cons.mp hs with hs | hs
      · injection hs with e1 e2
        exact nd.1 (List.mem_map.mpr ⟨q, hq, e1⟩)
      · exact q4 s hs
    · rw [List.reverse_cons, List.append_assoc] at h
      exact h
/-- a line's nodes -/
def insideN (k : Int) (e : Rw) (fr : Int) : List Nd :=
  if e.ss = [] then [.deed (fr + e.so.length) k "set" (nums fr e.so.length) []]
  else .deed (fr + e.so.length) k "start" (nums fr e.so.length) [] :: loopsN ((nums (fr + e.so.length + 1) e.ss.length).zip e.ss) [.deed (fr + e.so.length + 1 + e.ss.length) k "add" (nums fr e.so.length) (nums (fr + e.so.length + 1) e.ss.length)]
def lineN (k : Int) (e : Rw) (fr : Int) : List Nd := loopsN ((nums fr e.so.length).zip e.so) (insideN k e fr)
/-- the loops of a line -/
def loopsL (e : Rw) (fr : Int) : List Int := nums fr e.so.length ++ nums (fr + e.so.length + 1) e.ss.length
/-- how many nodes a line has -/
def ninM (e : Rw) : Int := e.so.length + 1 + (if e.ss = [] then 0 else e.ss.length + 1)
theorem line_nm (k : Int) (e : Rw) (fr : Int) : nmL (lineN k e fr) = loopsL e fr := by
  unfold lineN loopsL
  rw [loops_nm, zip_fst]
  congr 1
  unfold insideN
  split
  · rename_i h
    rw [h]
    simp [nmL, nmN, nums]
  · rw [nmL, loops_nm, zip_fst]
    simp [nmL, nmN]
theorem line_dp (k : Int) (e : Rw) (fr : Int) : dpL (lineN k e fr) ≤ e.so.length + e.ss.length := by
  unfold lineN
  rw [loops_dp, List.length_zip, nums_len, Nat.min_self]
  have : dpL (insideN k e fr) ≤ e.ss.length := by
    unfold insideN
    split
    · simp [dpL, dpN]
    · rw [dpL, loops_dp, List.length_zip, nums_len, Nat.min_self]
      simp [dpL, dpN]
  omega
theorem line_ox (L : List Int) (k : Int) (e : Rw) (fr : Int) : oxL L (lineN k e fr) := by
  unfold lineN
  refine loops_ox ?_ _
  unfold insideN
  split
  · simp [oxL, oxN]
  · rw [oxL]
    exact ⟨by simp [oxN], loops_ox (by simp [oxL, oxN]) _⟩
theorem inside_len (k : Int) (e : Rw) (fr : Int) : (insideN k e fr).length ≤ 2 := by
  unfold insideN
  split
  · simp
  · cases h : (nums (fr + e.so.length + 1) e.ss.length).zip e.ss with
    | nil => simp [loopsN]
    | cons p r => simp [loopsN]
theorem line_len (k : Int) (e : Rw) (fr : Int) : (lineN k e fr).length ≤ 2 := by
  unfold lineN
  cases h : (nums fr e.so.length).zip e.so with
  | nil => exact inside_len k e fr
  | cons p r => show 1 ≤ 2; decide
theorem line_wb {k : Int} {e : Rw} {fr : Int} (f0 : 0 ≤ fr) (go : ∀ n ∈ e.so, 1 ≤ n ∧ n ≤ 60) (gs : ∀ n ∈ e.ss, 1 ≤ n ∧ n ≤ 60) (l1 : e.so.length ≤ 50) (l2 : e.ss.length ≤ 50) : wbL [] (lineN k e fr) := by
  have zin : ∀ (fr : Int) (ls : List Int) (x : Int), x ∈ nums fr ls.length → ∃ s, (x, s) ∈ ((nums fr ls.length).zip ls) := fun fr ls x hx => by
    have hm : x ∈ ((nums fr ls.length).zip ls).map (·.1) := by rw [zip_fst]; exact hx
    obtain ⟨⟨y, s⟩, hy, rfl⟩ := List.mem_map.mp hm
    exact ⟨s, hy⟩
  unfold lineN
  refine loops_wb (by have := inside_len k e fr; omega) _ _ (fun p hp => ?_) (by rw [zip_fst]; exact nums_nodup _ _) ?_
  · have h1 := List.of_mem_zip hp
    have h2 := mem_nums h1.1
    have h3 := go p.2 h1.2
    exact ⟨h3.1, h3.2, by omega, by simp⟩
  · rw [List.append_nil]
    have inC : ∀ x ∈ nums fr e.so.length, ∃ s, (x, s) ∈ ((nums fr e.so.length).zip e.so).reverse := fun x hx => by
      obtain ⟨s, hs⟩ := zin fr e.so x hx
      exact ⟨s, List.mem_reverse.mpr hs⟩
    unfold insideN
    split
    · rw [wbL, wbL, wbN]
      exact ⟨⟨inC, by simp, by rw [nums_len]; omega, by simp⟩, trivial⟩
    · rw [wbL, wbN]
      refine ⟨⟨inC, by simp, by rw [nums_len]; omega, by simp⟩, loops_wb (by simp) _ _ (fun p hp => ?_) (by rw [zip_fst]; exact nums_nodup _ _) ?_⟩
      · have h1 := List.of_mem_zip hp
        have h2 := mem_nums h1.1
        have h3 := gs p.2 h1.2
        refine ⟨h3.1, h3.2, by omega, fun s hs => ?_⟩
        have h4 := mem_nums (List.of_mem_zip (List.mem_reverse.mp hs)).1
        omega
      · rw [wbL, wbL, wbN]
        refine ⟨⟨fun x hx => ?_, fun x hx => ?_, by rw [nums_len]; omega, by rw [nums_len]; omega⟩, trivial⟩
        · obtain ⟨s, hs⟩ := inC x hx
          exact ⟨s, List.mem_append_right _ hs⟩
        · obtain ⟨s, hs⟩ := zin _ _ x hx
          exact ⟨s, List.mem_append_left _ (List.mem_reverse.mpr hs)⟩
theorem line_do (k : Int) (e : Rw) (fr : Int) (f : Int → Int) : doL (lineN k e fr) f = stepsLine k e := by
  unfold lineN stepsLine
  rw [loops_do, zip_fst, zip_snd, cells_eq]
  refine flat_congr' fun c hc => ?_
  have lc := cellsR_len _ _ hc
  have mc := setAll_map (cs := c) (f := f) (nums_nodup fr e.so.length) (by rw [nums_len, lc])
  unfold insideN stepsCell
  by_cases hs : e.ss = []
  · rw [if_pos hs, if_pos hs, doL, doL, doN, mc]
    rfl
  · rw [if_neg hs, if_neg hs, doL, doN, mc, loops_do, zip_fst, zip_snd, cells_eq]
    show (k, ("start" : Str), c, ([] : List Int).map _) :: _ = _
    congr 1
    have : ∀ l : List (List Int), (∀ u ∈ l, u.length = e.ss.length) → (l.flatMap fun u => doL [.deed (fr + e.so.length + 1 + e.ss.length) k "add" (nums fr e.so.length) (nums (fr + e.so.length + 1) e.ss.length)] (setAll (setAll f (nums fr e.so.length) c) (nums (fr + e.so.length + 1) e.ss.length) u)) = l.map fun u => (k, ("add" : Str), c, u) := by
      intro l
      induction l with
      | nil => intro _; rfl
      | cons u r ih =>
        intro h
        rw [List.flatMap_cons, List.map_cons, ih fun x hx => h x (.tail _ hx)]
        have mu := setAll_map (cs := u) (f := setAll f (nums fr e.so.length) c) (nums_nodup (fr + e.so.length + 1) e.ss.length) (by rw [nums_len, h u (.head _)])
        have mo : (nums fr e.so.length).map (setAll (setAll f (nums fr e.so.length) c) (nums (fr + e.so.length + 1) e.ss.length) u) = c := by
          rw [← mc]
          refine List.map_congr_left fun x hx => ?_
          rw [mc]
          refine setAll_out fun hy => ?_
          have h1 := mem_nums hx
          have h2 := mem_nums hy
          omega
        rw [doL, doL, doN, mo, mu]
        rfl
    exact this _ (cellsR_len _)
/-- the first nest of the first lines -/
def frM (rows : List Rw) : Nat → Int
  | 0 => 0
  | i + 1 => frM rows i + (match rows[i]? with | some e => ninM e | none => 0)
def nestM (rows : List Rw) : Nat → List Nd
  | 0 => []
  | i + 1 => nestM rows i ++ (match rows[i]? with | some e => lineN i e (frM rows i) | none => [])
def loopsM (rows : List Rw) : Nat → List Int
  | 0 => []
  | i + 1 => loopsM rows i ++ (match rows[i]? with | some e => loopsL e (frM rows i) | none => [])
theorem frM_succ {rows : List Rw} {i : Nat} {e : Rw} (h : rows[i]? = some e) : frM rows (i + 1) = frM rows i + ninM e := by rw [frM, h]
theorem nestM_succ {rows : List Rw} {i : Nat} {e : Rw} (h : rows[i]? = some e) : nestM rows (i + 1) = nestM rows i ++ lineN i e (frM rows i) := by rw [nestM, h]
theorem loopsM_succ {rows : List Rw} {i : Nat} {e : Rw} (h : rows[i]? = some e) : loopsM rows (i + 1) = loopsM rows i ++ loopsL e (frM rows i) := by rw [loopsM, h]
theorem nin_pos (e : Rw) : 1 ≤ ninM e ∧ (e.so.length : Int) + e.ss.length + 1 ≤ ninM e := by
  unfold ninM
  split
  · rename_i h
    rw [h]
    simp
    omega
  · omega
theorem first_ok {rows : List Rw} (hr : ∀ e ∈ rows, (∀ n ∈ e.so, 1 ≤ n ∧ n ≤ 60) ∧ (∀ n ∈ e.ss, 1 ≤ n ∧ n ≤ 60) ∧ e.so.length + e.ss.length ≤ 8) (hl : rows.length ≤ 50) : ∀ i, i ≤ rows.length → NsOkC (loopsM rows i) (frM rows i) (nestM rows i) 8 ∧ (∀ f, doL (nestM rows i) f = orderM rows i) ∧ nmL (nestM rows i) = loopsM rows i ∧ (nestM rows i).length ≤ 2 * i
  | 0, _ => ⟨⟨by simp [nestM, wbL], by simp [nestM, nmL], by simp [nestM, oxL], by simp [loopsM], by simp [nestM, dpL], by simp [nestM], by simp [frM]⟩, fun f => by simp [nestM, doL, orderM], by simp [nestM, nmL, loopsM], by simp [nestM]⟩
  | i + 1, hi => by
    obtain ⟨ok, hd, hn, hlen⟩ := first_ok hr hl i (by omega)
    have he : rows[i]? = some rows[i] := List.getElem?_eq_getElem (by omega)
    obtain ⟨go, gs, l8⟩ := hr _ (List.mem_of_getElem? he)
    have f0 := ok.f0
    have np := nin_pos rows[i]
    have ll := line_len i rows[i] (frM rows i)
    have ld := line_dp i rows[i] (frM rows i)
    rw [frM_succ he, nestM_succ he, loopsM_succ he]
    have nmE : nmL (nestM rows i ++ lineN i rows[i] (frM rows i)) = loopsM rows i ++ loopsL rows[i] (frM rows i) := by rw [nmL_app, hn, line_nm]
    refine ⟨⟨wbL_app.mpr ⟨ok.wb, line_wb f0 go gs (by omega) (by omega)⟩, fun m hm => ?_, oxL_app.mpr ⟨?_, line_ox _ _ _ _⟩, fun m hm => by rw [nmE]; exact hm, ?_, by rw [List.length_append]; omega, by omega⟩, fun f => ?_, nmE, by rw [List.length_append]; omega⟩
    · rw [nmE] at hm
      rcases List.mem_append.mp hm with hm | hm
      · have := ok.nm m (by rw [hn]; exact hm)
        omega
      · unfold loopsL at hm
        rcases List.mem_append.mp hm with hm | hm
        · have := mem_nums hm; omega
        · have := mem_nums hm; omega
    · exact nest_ox _ rows i
    · rw [dpL_app]
      have := ok.dp
      omega
    · rw [doL_app, hd, line_do, orderM_succ he]
where
  nest_ox (L : List Int) (rows : List Rw) : ∀ i, oxL L (nestM rows i)
    | 0 => by simp [nestM, oxL]
    | i + 1 => by
      rw [nestM]
      refine oxL_app.mpr ⟨nest_ox L rows i, ?_⟩
      split
      · exact line_ox _ _ _ _
      · simp [oxL]
end My

set_option Elab.async false
set_option linter.all false
set_option maxRecDepth 100000
set_option maxHeartbeats 4000000
namespace My
open PySem L2
def top (i : Nat) : Stmt := PySem.Challenge.pw_arrayloom_k59_cuts_keep_the_order.main.body.getD i (.Pass ⟨0, 0, 0, 0⟩)
abbrev s_copied : Stmt := top 5
abbrev s_copied_dict : Stmt := top 6
abbrev s_lengths_along : Stmt := top 8
abbrev s_is_loop : Stmt := top 12
abbrev s_body_of : Stmt := top 13
abbrev s_with_body : Stmt := top 14
abbrev s_first_nest : Stmt := top 15
abbrev s_nodes_in : Stmt := top 16
abbrev s_nodes_of : Stmt := top 17
abbrev s_numbers_from : Stmt := top 18
abbrev s_looped : Stmt := top 19
abbrev s_planned : Stmt := top 21
abbrev s_moved : Stmt := top 22
abbrev s_path_to : Stmt := top 23
abbrev s_moved_along : Stmt := top 24
abbrev s_moved_at : Stmt := top 25
abbrev s_cut_by : Stmt := top 27
abbrev s_renumbered : Stmt := top 29
abbrev s_renumbered_node : Stmt := top 30
abbrev s_instead_in : Stmt := top 31
abbrev s_instead : Stmt := top 32
abbrev s_Line_init : Stmt := inClass (top 34) 0
abbrev s_Cloth_init : Stmt := inClass (top 35) 0
abbrev s_steps_of : Stmt := top 37
abbrev s_do_body : Stmt := top 38
abbrev s_do_loop : Stmt := top 39
abbrev s_counts_of : Stmt := top 40
abbrev s_step_of : Stmt := top 41
abbrev s_counts_at : Stmt := top 42
abbrev s_Number_init : Stmt := inClass (top 45) 0
abbrev s_l_cell_at : Stmt := top 47
abbrev s_l_whole : Stmt := top 48
abbrev s_l_wholes : Stmt := top 49
abbrev s_l_is_step : Stmt := top 50
abbrev s_l_cells : Stmt := top 51
abbrev s_l_steps_by : Stmt := top 52
abbrev s_l_sides_by : Stmt := top 53
abbrev s_l_loops_of : Stmt := top 54
abbrev s_law : Stmt := top 55
/-- what isinstance asks of an own class -/
structure TyC (K : PySem.W.Frag) (C : Addr) : Prop where
  ha : PySem.W.findIn K (.ref C) "__class__" = some (some (.builtin "object.__class__"))
  hn : PySem.W.specialIn K (.builtin "object.__class__") "__get__" = some (some (.builtin "getset_descriptor.__get__"))
  htk : PySem.W.takesIn K (.builtin "object.__class__") = some true
  hm : PySem.W.mroIn K C (.type "object") = some true
structure Adr where
  C_LoomError : Addr
  C_NoMove : Addr
  C_Line : Addr
  C_Cloth : Addr
  C_Term : Addr
  C_Number : Addr
  f_copied : Addr
  d_copied : FuncData
  f_copied_dict : Addr
  d_copied_dict : FuncData
  f_lengths_along : Addr
  d_lengths_along : FuncData
  f_is_loop : Addr
  d_is_loop : FuncData
  f_body_of : Addr
  d_body_of : FuncData
  f_with_body : Addr
  d_with_body : FuncData
  f_first_nest : Addr
  d_first_nest : FuncData
  f_nodes_in : Addr
  d_nodes_in : FuncData
  f_nodes_of : Addr
  d_nodes_of : FuncData
  f_numbers_from : Addr
  d_numbers_from : FuncData
  f_looped : Addr
  d_looped : FuncData
  f_planned : Addr
  d_planned : FuncData
  f_moved : Addr
  d_moved : FuncData
  f_path_to : Addr
  d_path_to : FuncData
  f_moved_along : Addr
  d_moved_along : FuncData
  f_moved_at : Addr
  d_moved_at : FuncData
  f_cut_by : Addr
  d_cut_by : FuncData
  f_renumbered : Addr
  d_renumbered : FuncData
  f_renumbered_node : Addr
  d_renumbered_node : FuncData
  f_instead_in : Addr
  d_instead_in : FuncData
  f_instead : Addr
  d_instead : FuncData
  f_Line_init : Addr
  d_Line_init : FuncData
  f_Cloth_init : Addr
  d_Cloth_init : FuncData
  f_steps_of : Addr
  d_steps_of : FuncData
  f_do_body : Addr
  d_do_body : FuncData
  f_do_loop : Addr
  d_do_loop : FuncData
  f_counts_of : Addr
  d_counts_of : FuncData
  f_step_of : Addr
  d_step_of : FuncData
  f_counts_at : Addr
  d_counts_at : FuncData
  f_Number_init : Addr
  d_Number_init : FuncData
  f_l_cell_at : Addr
  d_l_cell_at : FuncData
  f_l_whole : Addr
  d_l_whole : FuncData
  f_l_wholes : Addr
  d_l_wholes : FuncData
  f_l_is_step : Addr
  d_l_is_step : FuncData
  f_l_cells : Addr
  d_l_cells : FuncData
  f_l_steps_by : Addr
  d_l_steps_by : FuncData
  f_l_sides_by : Addr
  d_l_sides_by : FuncData
  f_l_loops_of : Addr
  d_l_loops_of : FuncData
  f_law : Addr
  d_law : FuncData
structure Txt (K : PySem.W.Frag) (mg : Str → Option Value) (t : Adr) : Prop where
  F_copied : Fun K "copied" "copied" s_copied t.f_copied t.d_copied
  m_copied : mg "copied" = some (.ref t.f_copied)
  b_copied : Binds K t.d_copied ["value"] []
  F_copied_dict : Fun K "copied_dict" "copied_dict" s_copied_dict t.f_copied_dict t.d_copied_dict
  m_copied_dict : mg "copied_dict" = some (.ref t.f_copied_dict)
  b_copied_dict : Binds K t.d_copied_dict ["value"] []
  F_lengths_along : Fun K "lengths_along" "lengths_along" s_lengths_along t.f_lengths_along t.d_lengths_along
  m_lengths_along : mg "lengths_along" = some (.ref t.f_lengths_along)
  b_lengths_along : Binds K t.d_lengths_along ["axes", "lengths"] []
  F_is_loop : Fun K "is_loop" "is_loop" s_is_loop t.f_is_loop t.d_is_loop
  m_is_loop : mg "is_loop" = some (.ref t.f_is_loop)
  b_is_loop : Binds K t.d_is_loop ["node"] []
  F_body_of : Fun K "body_of" "body_of" s_body_of t.f_body_of t.d_body_of
  m_body_of : mg "body_of" = some (.ref t.f_body_of)
  b_body_of : Binds K t.d_body_of ["loop"] []
  F_with_body : Fun K "with_body" "with_body" s_with_body t.f_with_body t.d_with_body
  m_with_body : mg "with_body" = some (.ref t.f_with_body)
  b_with_body : Binds K t.d_with_body ["loop", "body"] []
  F_first_nest : Fun K "first_nest" "first_nest" s_first_nest t.f_first_nest t.d_first_nest
  m_first_nest : mg "first_nest" = some (.ref t.f_first_nest)
  b_first_nest : Binds K t.d_first_nest ["cloth"] []
  F_nodes_in : Fun K "nodes_in" "nodes_in" s_nodes_in t.f_nodes_in t.d_nodes_in
  m_nodes_in : mg "nodes_in" = some (.ref t.f_nodes_in)
  b_nodes_in : Binds K t.d_nodes_in ["line"] []
  F_nodes_of : Fun K "nodes_of" "nodes_of" s_nodes_of t.f_nodes_of t.d_nodes_of
  m_nodes_of : mg "nodes_of" = some (.ref t.f_nodes_of)
  b_nodes_of : Binds K t.d_nodes_of ["place", "line", "lengths", "fresh"] []
  F_numbers_from : Fun K "numbers_from" "numbers_from" s_numbers_from t.f_numbers_from t.d_numbers_from
  m_numbers_from : mg "numbers_from" = some (.ref t.f_numbers_from)
  b_numbers_from : Binds K t.d_numbers_from ["fresh", "axes"] []
  F_looped : Fun K "looped" "looped" s_looped t.f_looped t.d_looped
  m_looped : mg "looped" = some (.ref t.f_looped)
  b_looped : Binds K t.d_looped ["numbers", "sizes", "inside"] []
  F_planned : Fun K "planned" "planned" s_planned t.f_planned t.d_planned
  m_planned : mg "planned" = some (.ref t.f_planned)
  b_planned : Binds K t.d_planned ["cloth", "moves"] []
  F_moved : Fun K "moved" "moved" s_moved t.f_moved t.d_moved
  m_moved : mg "moved" = some (.ref t.f_moved)
  b_moved : Binds K t.d_moved ["nest", "move"] []
  F_path_to : Fun K "path_to" "path_to" s_path_to t.f_path_to t.d_path_to
  m_path_to : mg "path_to" = some (.ref t.f_path_to)
  b_path_to : Binds K t.d_path_to ["number", "body"] []
  F_moved_along : Fun K "moved_along" "moved_along" s_moved_along t.f_moved_along t.d_moved_along
  m_moved_along : mg "moved_along" = some (.ref t.f_moved_along)
  b_moved_along : Binds K t.d_moved_along ["path", "body", "move", "fresh"] []
  F_moved_at : Fun K "moved_at" "moved_at" s_moved_at t.f_moved_at t.d_moved_at
  m_moved_at : mg "moved_at" = some (.ref t.f_moved_at)
  b_moved_at : Binds K t.d_moved_at ["place", "body", "move", "fresh"] []
  F_cut_by : Fun K "cut_by" "cut_by" s_cut_by t.f_cut_by t.d_cut_by
  m_cut_by : mg "cut_by" = some (.ref t.f_cut_by)
  b_cut_by : Binds K t.d_cut_by ["tile", "loop", "fresh"] []
  F_renumbered : Fun K "renumbered" "renumbered" s_renumbered t.f_renumbered t.d_renumbered
  m_renumbered : mg "renumbered" = some (.ref t.f_renumbered)
  b_renumbered : Binds K t.d_renumbered ["body", "old", "new"] []
  F_renumbered_node : Fun K "renumbered_node" "renumbered_node" s_renumbered_node t.f_renumbered_node t.d_renumbered_node
  m_renumbered_node : mg "renumbered_node" = some (.ref t.f_renumbered_node)
  b_renumbered_node : Binds K t.d_renumbered_node ["node", "old", "new"] []
  F_instead_in : Fun K "instead_in" "instead_in" s_instead_in t.f_instead_in t.d_instead_in
  m_instead_in : mg "instead_in" = some (.ref t.f_instead_in)
  b_instead_in : Binds K t.d_instead_in ["numbers", "old", "new"] []
  F_instead : Fun K "instead" "instead" s_instead t.f_instead t.d_instead
  m_instead : mg "instead" = some (.ref t.f_instead)
  b_instead : Binds K t.d_instead ["number", "old", "new"] []
  F_Line_init : Fun K "__init__" "Line.__init__" s_Line_init t.f_Line_init t.d_Line_init
  b_Line_init : Binds K t.d_Line_init ["self", "name", "axes", "sums", "term"] []
  F_Cloth_init : Fun K "__init__" "Cloth.__init__" s_Cloth_init t.f_Cloth_init t.d_Cloth_init
  b_Cloth_init : Binds K t.d_Cloth_init ["self", "wheel", "lengths", "arrays", "tables", "lines", "outs"] []
  F_steps_of : Fun K "steps_of" "steps_of" s_steps_of t.f_steps_of t.d_steps_of
  m_steps_of : mg "steps_of" = some (.ref t.f_steps_of)
  b_steps_of : Binds K t.d_steps_of ["nest"] []
  F_do_body : Fun K "do_body" "do_body" s_do_body t.f_do_body t.d_do_body
  m_do_body : mg "do_body" = some (.ref t.f_do_body)
  b_do_body : Binds K t.d_do_body ["body", "counts", "steps"] []
  F_do_loop : Fun K "do_loop" "do_loop" s_do_loop t.f_do_loop t.d_do_loop
  m_do_loop : mg "do_loop" = some (.ref t.f_do_loop)
  b_do_loop : Binds K t.d_do_loop ["loop", "counts", "steps"] []
  F_counts_of : Fun K "counts_of" "counts_of" s_counts_of t.f_counts_of t.d_counts_of
  m_counts_of : mg "counts_of" = some (.ref t.f_counts_of)
  b_counts_of : Binds K t.d_counts_of ["size", "width", "outer", "counts"] []
  F_step_of : Fun K "step_of" "step_of" s_step_of t.f_step_of t.d_step_of
  m_step_of : mg "step_of" = some (.ref t.f_step_of)
  b_step_of : Binds K t.d_step_of ["deed", "counts"] []
  F_counts_at : Fun K "counts_at" "counts_at" s_counts_at t.f_counts_at t.d_counts_at
  m_counts_at : mg "counts_at" = some (.ref t.f_counts_at)
  b_counts_at : Binds K t.d_counts_at ["numbers", "counts"] []
  F_Number_init : Fun K "__init__" "Number.__init__" s_Number_init t.f_Number_init t.d_Number_init
  b_Number_init : Binds K t.d_Number_init ["self", "number"] []
  F_l_cell_at : Fun K "_law_cell_at" "_law_cell_at" s_l_cell_at t.f_l_cell_at t.d_l_cell_at
  m_l_cell_at : mg "_law_cell_at" = some (.ref t.f_l_cell_at)
  b_l_cell_at : Binds K t.d_l_cell_at ["_law_script", "_law_k"] []
  F_l_whole : Fun K "_law_whole" "_law_whole" s_l_whole t.f_l_whole t.d_l_whole
  m_l_whole : mg "_law_whole" = some (.ref t.f_l_whole)
  b_l_whole : Binds K t.d_l_whole ["_law_found"] []
  F_l_wholes : Fun K "_law_wholes" "_law_wholes" s_l_wholes t.f_l_wholes t.d_l_wholes
  m_l_wholes : mg "_law_wholes" = some (.ref t.f_l_wholes)
  b_l_wholes : Binds K t.d_l_wholes ["_law_found"] []
  F_l_is_step : Fun K "_law_is_step" "_law_is_step" s_l_is_step t.f_l_is_step t.d_l_is_step
  m_l_is_step : mg "_law_is_step" = some (.ref t.f_l_is_step)
  b_l_is_step : Binds K t.d_l_is_step ["_law_step"] []
  F_l_cells : Fun K "_law_cells" "_law_cells" s_l_cells t.f_l_cells t.d_l_cells
  m_l_cells : mg "_law_cells" = some (.ref t.f_l_cells)
  b_l_cells : Binds K t.d_l_cells ["_law_axes", "_law_lengths"] []
  F_l_steps_by : Fun K "_law_steps_by" "_law_steps_by" s_l_steps_by t.f_l_steps_by t.d_l_steps_by
  m_l_steps_by : mg "_law_steps_by" = some (.ref t.f_l_steps_by)
  b_l_steps_by : Binds K t.d_l_steps_by ["_law_k", "_law_own", "_law_sums", "_law_lengths"] []
  F_l_sides_by : Fun K "_law_sides_by" "_law_sides_by" s_l_sides_by t.f_l_sides_by t.d_l_sides_by
  m_l_sides_by : mg "_law_sides_by" = some (.ref t.f_l_sides_by)
  b_l_sides_by : Binds K t.d_l_sides_by ["_law_cell", "_law_axes", "_law_lengths"] []
  F_l_loops_of : Fun K "_law_loops_of" "_law_loops_of" s_l_loops_of t.f_l_loops_of t.d_l_loops_of
  m_l_loops_of : mg "_law_loops_of" = some (.ref t.f_l_loops_of)
  b_l_loops_of : Binds K t.d_l_loops_of ["_law_own", "_law_sums", "_law_behind"] []
  F_law : Fun K "law" "law" s_law t.f_law t.d_law
  m_law : mg "law" = some (.ref t.f_law)
  b_law : Binds K t.d_law ["_law_script"] []
  cn_NO_OUTER : ∃ u, mg "NO_OUTER" = some u ∧ RelV (.int (-1)) u
  cn_NO_WIDTH : ∃ u, mg "NO_WIDTH" = some u ∧ RelV (.int (0)) u
  m_Line : mg "Line" = some (.ref t.C_Line)
  m_Cloth : mg "Cloth" = some (.ref t.C_Cloth)
  m_Number : mg "Number" = some (.ref t.C_Number)
  cl_Cloth : Cls K t.C_Cloth
  mk_Cloth : Mk K t.C_Cloth t.f_Cloth_init
  na_Cloth_wheel : NoAttr K t.C_Cloth "wheel"
  na_Cloth_lengths : NoAttr K t.C_Cloth "lengths"
  na_Cloth_arrays : NoAttr K t.C_Cloth "arrays"
  na_Cloth_tables : NoAttr K t.C_Cloth "tables"
  na_Cloth_lines : NoAttr K t.C_Cloth "lines"
  na_Cloth_outs : NoAttr K t.C_Cloth "outs"
  ty_Cloth : TyC K t.C_Cloth
  cl_Line : Cls K t.C_Line
  mk_Line : Mk K t.C_Line t.f_Line_init
  na_Line_name : NoAttr K t.C_Line "name"
  na_Line_axes : NoAttr K t.C_Line "axes"
  na_Line_sums : NoAttr K t.C_Line "sums"
  na_Line_term : NoAttr K t.C_Line "term"
  ty_Line : TyC K t.C_Line
  mb_Line_list : PySem.W.mroIn K t.C_Line (.type "list") = some false
  mb_Line_tuple : PySem.W.mroIn K t.C_Line (.type "tuple") = some false
  mb_Line_dict : PySem.W.mroIn K t.C_Line (.type "dict") = some false
  cl_Number : Cls K t.C_Number
  mk_Number : Mk K t.C_Number t.f_Number_init
  na_Number_number : NoAttr K t.C_Number "number"
  ty_Number : TyC K t.C_Number
  z_isinstance : mg "isinstance" = none
  z_list : mg "list" = none
  z_tuple : mg "tuple" = none
  z_dict : mg "dict" = none
  z_enumerate : mg "enumerate" = none
  z_len : mg "len" = none
  z_range : mg "range" = none
  z_reversed : mg "reversed" = none
  z_zip : mg "zip" = none
  z_min : mg "min" = none
  z_bool : mg "bool" = none
  z_int : mg "int" = none
  z_str : mg "str" = none
theorem sc_copied : FnScope ["value"] ["value"] (defScope s_copied) := ⟨rfl, rfl, rfl, by decide +kernel, rfl, by decide +kernel, by decide +kernel⟩
theorem sc_copied_dict : FnScope ["value", "fresh", "key", "member"] ["value"] (defScope s_copied_dict) := ⟨rfl, rfl, rfl, by decide +kernel, rfl, by decide +kernel, by decide +kernel⟩
theorem sc_lengths_along : FnScope ["axes", "lengths"] ["axes", "lengths"] (defScope s_lengths_along) := ⟨rfl, rfl, rfl, by decide +kernel, rfl, by decide +kernel, by decide +kernel⟩
theorem sc_is_loop : FnScope ["node"] ["node"] (defScope s_is_loop) := ⟨rfl, rfl, rfl, by decide +kernel, rfl, by decide +kernel, by decide +kernel⟩
theorem sc_body_of : FnScope ["loop", "kind", "number", "size", "width", "outer", "body"] ["loop"] (defScope s_body_of) := ⟨rfl, rfl, rfl, by decide +kernel, rfl, by decide +kernel, by decide +kernel⟩
theorem sc_with_body : FnScope ["loop", "body", "kind", "number", "size", "width", "outer", "former"] ["loop", "body"] (defScope s_with_body) := ⟨rfl, rfl, rfl, by decide +kernel, rfl, by decide +kernel, by decide +kernel⟩
theorem sc_first_nest : FnScope ["cloth", "nodes", "fresh", "place", "line"] ["cloth"] (defScope s_first_nest) := ⟨rfl, rfl, rfl, by decide +kernel, rfl, by decide +kernel, by decide +kernel⟩
theorem sc_nodes_in : FnScope ["line"] ["line"] (defScope s_nodes_in) := ⟨rfl, rfl, rfl, by decide +kernel, rfl, by decide +kernel, by decide +kernel⟩
theorem sc_nodes_of : FnScope ["place", "line", "lengths", "fresh", "cell", "first", "inside", "turn", "add", "start"] ["place", "line", "lengths", "fresh"] (defScope s_nodes_of) := ⟨rfl, rfl, rfl, by decide +kernel, rfl, by decide +kernel, by decide +kernel⟩
theorem sc_numbers_from : FnScope ["fresh", "axes"] ["fresh", "axes"] (defScope s_numbers_from) := ⟨rfl, rfl, rfl, by decide +kernel, rfl, by decide +kernel, by decide +kernel⟩
theorem sc_looped : FnScope ["numbers", "sizes", "inside", "body", "number", "size"] ["numbers", "sizes", "inside"] (defScope s_looped) := ⟨rfl, rfl, rfl, by decide +kernel, rfl, by decide +kernel, by decide +kernel⟩
theorem sc_planned : FnScope ["cloth", "moves", "nest", "place", "move", "refusal"] ["cloth", "moves"] (defScope s_planned) := ⟨rfl, rfl, rfl, by decide +kernel, rfl, by decide +kernel, by decide +kernel⟩
theorem sc_moved : FnScope ["nest", "move", "fresh", "body", "path", "taken"] ["nest", "move"] (defScope s_moved) := ⟨rfl, rfl, rfl, by decide +kernel, rfl, by decide +kernel, by decide +kernel⟩
theorem sc_path_to : FnScope ["number", "body", "place", "node", "within"] ["number", "body"] (defScope s_path_to) := ⟨rfl, rfl, rfl, by decide +kernel, rfl, by decide +kernel, by decide +kernel⟩
theorem sc_moved_along : FnScope ["path", "body", "move", "fresh", "place", "loop", "inside"] ["path", "body", "move", "fresh"] (defScope s_moved_along) := ⟨rfl, rfl, rfl, by decide +kernel, rfl, by decide +kernel, by decide +kernel⟩
theorem sc_moved_at : FnScope ["place", "body", "move", "fresh", "loop", "behind", "form"] ["place", "body", "move", "fresh"] (defScope s_moved_at) := ⟨rfl, rfl, rfl, by decide +kernel, rfl, by decide +kernel, by decide +kernel⟩
theorem sc_cut_by : FnScope ["tile", "loop", "fresh", "kind", "number", "size", "width", "outer", "body", "beginnings", "within"] ["tile", "loop", "fresh"] (defScope s_cut_by) := ⟨rfl, rfl, rfl, by decide +kernel, rfl, by decide +kernel, by decide +kernel⟩
theorem sc_renumbered : FnScope ["body", "old", "new"] ["body", "old", "new"] (defScope s_renumbered) := ⟨rfl, rfl, rfl, by decide +kernel, rfl, by decide +kernel, by decide +kernel⟩
theorem sc_renumbered_node : FnScope ["node", "old", "new", "kind", "number", "size", "width", "outer", "body", "line", "word", "cell", "turn"] ["node", "old", "new"] (defScope s_renumbered_node) := ⟨rfl, rfl, rfl, by decide +kernel, rfl, by decide +kernel, by decide +kernel⟩
theorem sc_instead_in : FnScope ["numbers", "old", "new"] ["numbers", "old", "new"] (defScope s_instead_in) := ⟨rfl, rfl, rfl, by decide +kernel, rfl, by decide +kernel, by decide +kernel⟩
theorem sc_instead : FnScope ["number", "old", "new"] ["number", "old", "new"] (defScope s_instead) := ⟨rfl, rfl, rfl, by decide +kernel, rfl, by decide +kernel, by decide +kernel⟩
theorem sc_Line_init : FnScope ["self", "name", "axes", "sums", "term"] ["self", "name", "axes", "sums", "term"] (defScope s_Line_init) := ⟨rfl, rfl, rfl, by decide +kernel, rfl, by decide +kernel, by decide +kernel⟩
theorem sc_Cloth_init : FnScope ["self", "wheel", "lengths", "arrays", "tables", "lines", "outs"] ["self", "wheel", "lengths", "arrays", "tables", "lines", "outs"] (defScope s_Cloth_init) := ⟨rfl, rfl, rfl, by decide +kernel, rfl, by decide +kernel, by decide +kernel⟩
theorem sc_steps_of : FnScope ["nest", "steps"] ["nest"] (defScope s_steps_of) := ⟨rfl, rfl, rfl, by decide +kernel, rfl, by decide +kernel, by decide +kernel⟩
theorem sc_do_body : FnScope ["body", "counts", "steps", "node"] ["body", "counts", "steps"] (defScope s_do_body) := ⟨rfl, rfl, rfl, by decide +kernel, rfl, by decide +kernel, by decide +kernel⟩
theorem sc_do_loop : FnScope ["loop", "counts", "steps", "kind", "number", "size", "width", "outer", "body", "count"] ["loop", "counts", "steps"] (defScope s_do_loop) := ⟨rfl, rfl, rfl, by decide +kernel, rfl, by decide +kernel, by decide +kernel⟩
theorem sc_counts_of : FnScope ["size", "width", "outer", "counts", "begin"] ["size", "width", "outer", "counts"] (defScope s_counts_of) := ⟨rfl, rfl, rfl, by decide +kernel, rfl, by decide +kernel, by decide +kernel⟩
theorem sc_step_of : FnScope ["deed", "counts", "kind", "number", "line", "word", "cell", "turn"] ["deed", "counts"] (defScope s_step_of) := ⟨rfl, rfl, rfl, by decide +kernel, rfl, by decide +kernel, by decide +kernel⟩
theorem sc_counts_at : FnScope ["numbers", "counts"] ["numbers", "counts"] (defScope s_counts_at) := ⟨rfl, rfl, rfl, by decide +kernel, rfl, by decide +kernel, by decide +kernel⟩
theorem sc_Number_init : FnScope ["self", "number"] ["self", "number"] (defScope s_Number_init) := ⟨rfl, rfl, rfl, by decide +kernel, rfl, by decide +kernel, by decide +kernel⟩
theorem sc_l_cell_at : FnScope ["_law_script", "_law_k"] ["_law_script", "_law_k"] (defScope s_l_cell_at) := ⟨rfl, rfl, rfl, by decide +kernel, rfl, by decide +kernel, by decide +kernel⟩
theorem sc_l_whole : FnScope ["_law_found"] ["_law_found"] (defScope s_l_whole) := ⟨rfl, rfl, rfl, by decide +kernel, rfl, by decide +kernel, by decide +kernel⟩
theorem sc_l_wholes : FnScope ["_law_found", "_law_number"] ["_law_found"] (defScope s_l_wholes) := ⟨rfl, rfl, rfl, by decide +kernel, rfl, by decide +kernel, by decide +kernel⟩
theorem sc_l_is_step : FnScope ["_law_step"] ["_law_step"] (defScope s_l_is_step) := ⟨rfl, rfl, rfl, by decide +kernel, rfl, by decide +kernel, by decide +kernel⟩
theorem sc_l_cells : FnScope ["_law_axes", "_law_lengths", "_law_made", "_law_axis", "_law_longer", "_law_cell"] ["_law_axes", "_law_lengths"] (defScope s_l_cells) := ⟨rfl, rfl, rfl, by decide +kernel, rfl, by decide +kernel, by decide +kernel⟩
theorem sc_l_steps_by : FnScope ["_law_k", "_law_own", "_law_sums", "_law_lengths", "_law_steps", "_law_cell"] ["_law_k", "_law_own", "_law_sums", "_law_lengths"] (defScope s_l_steps_by) := ⟨rfl, rfl, rfl, by decide +kernel, rfl, by decide +kernel, by decide +kernel⟩
theorem sc_l_sides_by : FnScope ["_law_cell", "_law_axes", "_law_lengths", "_law_sides", "_law_worth", "_law_rest", "_law_axis"] ["_law_cell", "_law_axes", "_law_lengths"] (defScope s_l_sides_by) := ⟨rfl, rfl, rfl, by decide +kernel, rfl, by decide +kernel, by decide +kernel⟩
theorem sc_l_loops_of : FnScope ["_law_own", "_law_sums", "_law_behind", "_law_loops"] ["_law_own", "_law_sums", "_law_behind"] (defScope s_l_loops_of) := ⟨rfl, rfl, rfl, by decide +kernel, rfl, by decide +kernel, by decide +kernel⟩
theorem sc_law : FnScope ["_law_script", "_law_head", "_law_axes", "_law_lengths", "_law_k", "_law_arrays", "_law_lines", "_law_due", "_law_loops", "_law_behind", "_law_left", "_law_cell", "_law_own", "_law_sums", "_law_worth", "_law_more", "_law_cloth", "_law_moves", "_law_width", "_law_found", "_law_step"] ["_law_script"] (defScope s_law) := ⟨rfl, rfl, rfl, by decide +kernel, rfl, by decide +kernel, by decide +kernel⟩
theorem nd_comp_0 : (["member"] : List Str).Nodup := by decide +kernel
theorem nd_comp_1 : (["axis", "lengths"] : List Str).Nodup := by decide +kernel
theorem nd_comp_2 : (["node", "new", "old"] : List Str).Nodup := by decide +kernel
theorem nd_comp_3 : (["number", "new", "old"] : List Str).Nodup := by decide +kernel
theorem nd_comp_4 : (["number", "counts"] : List Str).Nodup := by decide +kernel
theorem nd_comp_5 : (["_law_count", "_law_cell"] : List Str).Nodup := by decide +kernel
theorem nd_comp_6 : (["_law_turn", "_law_cell", "_law_k"] : List Str).Nodup := by decide +kernel
theorem nd_comp_7 : (["_law_k", "_law_behind"] : List Str).Nodup := by decide +kernel
theorem nd_comp_8 : (["_law_k", "_law_behind"] : List Str).Nodup := by decide +kernel
theorem FnOk.none {P : Program} {w : World} {K : PySem.W.Frag} {mg : Str → Option Value} {base : Heap} {CX : CXT} {k : Nat} {f : Addr} {fd : FuncData} {ps : List Str} {sp : Sp} (h : ∀ vs H Q E, ¬ sp vs H Q E) : FnOk P w K mg base CX k f fd ps sp :=
  ⟨fun vs H Q E q => (h vs H Q E q).elim, fun _ _ _ H _ _ vs Q E _ _ _ _ q => (h vs H Q E q).elim⟩
/-! ### data -/
def encT (e : Str × List Str) : PyData := .tuple [.str e.1, .list (e.2.map PyData.str)]
def encTb (ts : List (Str × List Str)) : PyData := .list (ts.map encT)
def encS (xs : List Str) : PyData := .list (xs.map PyData.str)
def OkS (xs : List Str) : Prop := ∀ x ∈ xs, PyData.strOk x = true
theorem ds_strs : ∀ xs : List Str, PyData.depthAll (xs.map PyData.str) = 0 ∧ cntAll (xs.map PyData.str) = xs.length
  | [] => ⟨rfl, rfl⟩
  | x :: r => by
    obtain ⟨h2, h3⟩ := ds_strs r
    refine ⟨?_, ?_⟩
    · simp [PyData.depthAll, PyData.depth, h2]
    · simp [cntAll, cnt, h3]; omega
theorem lay_strs : ∀ {xs : List Str}, OkS xs → PyData.canLayAll0 (xs.map PyData.str) = true
  | [], _ => rfl
  | x :: r, h => by
    have h1 := lay_strs (xs := r) fun y hy => h y (.tail _ hy)
    simp [PyData.canLayAll0, PyData.canLay0, h1, h x (.head _)]
theorem encS_ok (xs : List Str) : (encS xs).depth ≤ 1 ∧ cnt (encS xs) ≤ 1 + xs.length := by
  obtain ⟨h2, h3⟩ := ds_strs xs
  refine ⟨?_, ?_⟩
  · simp [encS, PyData.depth, h2]
  · simp only [encS, cnt, h3]; omega
theorem encS_lay {xs : List Str} (h : OkS xs) : (encS xs).canLay0 = true := by simp [encS, PyData.canLay0, lay_strs h]
theorem ds_tb {n : Nat} : ∀ ts : List (Str × List Str), (∀ e ∈ ts, e.2.length ≤ n) → PyData.depthAll (ts.map encT) ≤ 2 ∧ cntAll (ts.map encT) ≤ ts.length * (n + 4)
  | [], _ => ⟨by simp [PyData.depthAll], by simp [cntAll]⟩
  | e :: r, h => by
    obtain ⟨h2, h3⟩ := ds_tb r fun x hx => h x (.tail _ hx)
    obtain ⟨g2, g3⟩ := ds_strs e.2
    have hl := h e (.head _)
    refine ⟨?_, ?_⟩
    · simp only [List.map_cons, encT, PyData.depthAll, PyData.depth, g2]
      omega
    · simp only [List.map_cons, encT, cntAll, cnt, g3, List.length_cons, Nat.add_mul, Nat.one_mul]
      omega
theorem encTb_ok {n : Nat} (ts : List (Str × List Str)) (h : ∀ e ∈ ts, e.2.length ≤ n) : (encTb ts).depth ≤ 3 ∧ cnt (encTb ts) ≤ 1 + ts.length * (n + 4) := by
  obtain ⟨h2, h3⟩ := ds_tb ts h
  refine ⟨?_, ?_⟩
  · simp only [encTb, PyData.depth]; omega
  · simp only [encTb, cnt]; omega
theorem lay_tb : ∀ {ts : List (Str × List Str)}, (∀ e ∈ ts, PyData.strOk e.1 = true ∧ OkS e.2) → PyData.canLayAll0 (ts.map encT) = true
  | [], _ => rfl
  | e :: r, h => by
    have h1 := lay_tb (ts := r) fun y hy => h y (.tail _ hy)
    have h2 := h e (.head _)
    simp [encT, PyData.canLayAll0, PyData.canLay0, h1, h2.1, lay_strs h2.2]
theorem encTb_lay {ts : List (Str × List Str)} (h : ∀ e ∈ ts, PyData.strOk e.1 = true ∧ OkS e.2) : (encTb ts).canLay0 = true := by simp [encTb, PyData.canLay0, lay_tb h]
theorem shaped_of {d : PyData} (h : d.canLay0 = true) (hd : d.depth ≤ 60) : SeqAt.shaped d = true := by
  unfold SeqAt.shaped
  rw [h, Bool.true_and]
  exact decide_eq_true (by omega)
theorem reps_strs {H : Hp} : ∀ {ys : List Str} {xs : List V}, Reps H xs (ys.map PyData.str) → xs = ys.map V.str
  | [], _, r => by cases r; rfl
  | y :: ys, _, r => by
    rw [List.map_cons] at r
    cases r with
    | cons a r =>
      cases a
      rw [List.map_cons, reps_strs r]
theorem rep_S {H : Hp} {v : V} {ys : List Str} (h : Rep H v (encS ys)) : ∃ p, v = .ref p ∧ H p = some (.lst (ys.map V.str)) := by
  obtain ⟨p, xs, rfl, e, r⟩ := rep_lst (show Rep H v (.list (ys.map PyData.str)) from h)
  rw [reps_strs r] at e
  exact ⟨p, rfl, e⟩
theorem S_rep {H : Hp} {p : Addr} {ys : List Str} (e : H p = some (.lst (ys.map V.str))) : Rep H (.ref p) (encS ys) := .lst e (Reps.strs ys)
theorem rep_T {H : Hp} {v : V} {e : Str × List Str} (h : Rep H v (encT e)) : ∃ b c, v = .ref b ∧ H b = some (.tup [.str e.1, .ref c]) ∧ H c = some (.lst (e.2.map V.str)) := by
  unfold encT at h
  cases h with
  | @tup b xs _ eb r =>
    cases r with
    | cons a r =>
      cases r with
      | cons a2 r =>
        cases r
        cases a
        obtain ⟨c, rfl, ec⟩ := rep_S a2
        exact ⟨b, c, rfl, eb, ec⟩
theorem T_rep {H : Hp} {b c : Addr} {e : Str × List Str} (eb : H b = some (.tup [.str e.1, .ref c])) (ec : H c = some (.lst (e.2.map V.str))) : Rep H (.ref b) (encT e) := .tup eb (.cons (.str _) (.cons (S_rep ec) .nil))
/-- one of a list of data -/
theorem reps_of {α : Type} {H : Hp} {f : α → PyData} {ts : List α} {xs : List V} (r : Reps H xs (ts.map f)) {i : Nat} {x : V} (hx : xs[i]? = some x) : ∃ e, ts[i]? = some e ∧ Rep H x (f e) := by
  obtain ⟨d, hd, rx⟩ := r.get2 hx
  rw [List.getElem?_map] at hd
  obtain ⟨e, he, rfl⟩ := Option.map_eq_some_iff.mp hd
  exact ⟨e, he, rx⟩
/-! ### objects -/
theorem pget {α β : Type} {F : α → β → Prop} : ∀ {l : List α} {m : List β}, Paired F l m → ∀ {i : Nat} {x : α}, l[i]? = some x → ∃ y, m[i]? = some y ∧ F x y
  | _, _, .nil, i, x, e => by simp at e
  | _, _, .cons r t, 0, x, e => by simp at e; subst e; exact ⟨_, rfl, r⟩
  | _, _, .cons r t, i + 1, x, e => by
    obtain ⟨y, e1, e2⟩ := pget t (i := i) (by simpa using e)
    exact ⟨y, by simpa using e1, e2⟩
theorem papp {α β : Type} {F : α → β → Prop} : ∀ {a c : List α} {b d : List β}, Paired F a b → Paired F c d → Paired F (a ++ c) (b ++ d)
  | _, _, _, _, .nil, h => h
  | _, _, _, _, .cons r t, h => .cons r (papp t h)
theorem get_map {α : Type} {f : α → V} {xs : List α} {i : Nat} {v : V} (h : (xs.map f)[i]? = some v) : ∃ x, xs[i]? = some x ∧ v = f x := by
  rw [List.getElem?_map] at h
  cases e : xs[i]? with
  | none => rw [e] at h; cases h
  | some x => rw [e] at h; exact ⟨x, rfl, (Option.some.inj h).symm⟩
/-- all tuples stay -/
def KT (H H' : Hp) : Prop := ∀ p xs, H p = some (.tup xs) → H' p = some (.tup xs)
theorem KT.same {H H' : Hp} (s : Same H H') : KT H H' := fun p xs e => s _ _ e
theorem KT.at {H : Hp} {l : Addr} {u o : HO} (e : H l = some u) (n : ∀ xs, u ≠ .tup xs) : KT H (upd H l o) := fun p xs z => by rw [upd_ne (ne_of z e (n xs).symm)]; exact z
theorem KT.trans {H H' H2 : Hp} (a : KT H H') (b : KT H' H2) : KT H H2 := fun p xs e => b _ _ (a _ _ e)
/-- a step -/
def StAt (H : Hp) (v : V) (s : Stp) : Prop := ∃ b c u, v = .ref b ∧ H b = some (.tup [.int s.1, .str s.2.1, .ref c, .ref u]) ∧ H c = some (.tup (s.2.2.1.map V.int)) ∧ H u = some (.tup (s.2.2.2.map V.int))
theorem StAt.kt {H H' : Hp} {v : V} {s : Stp} (h : StAt H v s) (k : KT H H') : StAt H' v s := by
  obtain ⟨b, c, u, rfl, h1, h2, h3⟩ := h
  exact ⟨b, c, u, rfl, k _ _ h1, k _ _ h2, k _ _ h3⟩
abbrev StsAt (H : Hp) (xs : List V) (os : List Stp) : Prop := Paired (StAt H) xs os
theorem StsAt.kt {H H' : Hp} {xs : List V} {os : List Stp} (h : StsAt H xs os) (k : KT H H') : StsAt H' xs os := Paired.mapP h fun _ _ z => z.kt k
/-- a line; its lists are not among M -/
def LineAt (A : Adr) (M : List Addr) (H : Hp) (v : V) (e : Rw) : Prop := ∃ (a dx c u : Addr) (n : V) (x : Str), v = .ref a ∧ H a = some (.ins A.C_Line dx [("name", .str x), ("axes", .ref c), ("sums", .ref u), ("term", n)]) ∧ c ∉ M ∧ H c = some (.lst (e.own.map V.str)) ∧ u ∉ M ∧ H u = some (.lst (e.sums.map V.str))
abbrev LinesAt (A : Adr) (M : List Addr) (H : Hp) (xs : List V) (rows : List Rw) : Prop := Paired (LineAt A M H) xs rows
theorem LineAt.imp {A : Adr} {M M' : List Addr} {H H' : Hp} {v : V} {e : Rw} (h : LineAt A M H v e) (f : ∀ a C dx fs, H a = some (.ins C dx fs) → H' a = some (.ins C dx fs)) (g : ∀ c xs, c ∉ M → H c = some (.lst xs) → c ∉ M' ∧ H' c = some (.lst xs)) : LineAt A M' H' v e := by
  obtain ⟨a, dx, c, u, n, x, rfl, e1, m1, e2, m2, e3⟩ := h
  exact ⟨a, dx, c, u, n, x, rfl, f _ _ _ _ e1, (g _ _ m1 e2).1, (g _ _ m1 e2).2, (g _ _ m2 e3).1, (g _ _ m2 e3).2⟩
theorem LineAt.same {A : Adr} {M : List Addr} {H H' : Hp} {v : V} {e : Rw} (h : LineAt A M H v e) (s : Same H H') : LineAt A M H' v e := h.imp (fun _ _ _ _ z => s _ _ z) fun _ _ y z => ⟨y, s _ _ z⟩
/-- the dict tells the sizes -/
abbrev Sz (lk : List (Key × V)) (ys : List Str) (ls : List Int) : Prop := Paired (fun (y : Str) (n : Int) => valV lk (Sum.inr y) = some (.int n)) ys ls
def Tot (lk : List (Key × V)) (rows : List Rw) : Prop := ∀ e ∈ rows, RwOk e ∧ Sz lk e.own e.so ∧ Sz lk e.sums e.ss ∧ OkS e.own ∧ OkS e.sums
end My

set_option Elab.async false
set_option linter.all false
set_option maxRecDepth 100000
set_option maxHeartbeats 4000000
namespace My
open PySem L2
local macro_rules | `(tactic| walk_at "lk") => `(tactic| first | with_reducible exact lk0 | (refine lk1 (by decide +kernel) ?_; walk_at "lk") | rfl)
def TupsAt (H : Hp) (ps : List Addr) (cs : List (List Int)) : Prop := Paired (fun (p : Addr) (c : List Int) => H p = some (.tup (c.map V.int))) ps cs
theorem TupsAt.imp {H H' : Hp} : ∀ {ps : List Addr} {cs : List (List Int)}, TupsAt H ps cs → (∀ p xs, H p = some (.tup xs) → H' p = some (.tup xs)) → TupsAt H' ps cs
  | _, _, .nil, _ => .nil
  | _, _, .cons r t, f => .cons (f _ _ r) (TupsAt.imp t f)
theorem TupsAt.same {H H' : Hp} {ps : List Addr} {cs : List (List Int)} (h : TupsAt H ps cs) (s : Same H H') : TupsAt H' ps cs := h.imp fun _ _ e => s _ _ e
theorem TupsAt.lst {H : Hp} {l : Addr} {xs ys : List V} {ps : List Addr} {cs : List (List Int)} (h : TupsAt H ps cs) (e : H l = some (.lst xs)) : TupsAt (upd H l (.lst ys)) ps cs :=
  h.imp fun p zs z => by rw [upd_ne (ne_of z e (by intro q; cases q))]; exact z
theorem TupsAt.snoc {H : Hp} {p : Addr} {c : List Int} (e : H p = some (.tup (c.map V.int))) : ∀ {ps : List Addr} {cs : List (List Int)}, TupsAt H ps cs → TupsAt H (ps ++ [p]) (cs ++ [c])
  | _, _, .nil => .cons e .nil
  | _, _, .cons r t => .cons r (TupsAt.snoc e t)
theorem TupsAt.len {H : Hp} : ∀ {ps : List Addr} {cs : List (List Int)}, TupsAt H ps cs → ps.length = cs.length
  | _, _, .nil => rfl
  | _, _, .cons _ t => by simp [TupsAt.len t]
theorem TupsAt.get {H : Hp} : ∀ {ps : List Addr} {cs : List (List Int)} {i : Nat} {p : Addr}, TupsAt H ps cs → ps[i]? = some p → ∃ c, cs[i]? = some c ∧ H p = some (.tup (c.map V.int))
  | _, _, _, _, .nil, e => by simp at e
  | _, _, 0, _, .cons r _, e => by simp at e; subst e; exact ⟨_, rfl, r⟩
  | _, _, i + 1, p, .cons _ t, e => by
    obtain ⟨c, h1, h2⟩ := TupsAt.get (i := i) (p := p) t (by simpa using e)
    exact ⟨c, by simpa using h1, h2⟩
structure CellsAt (H : Hp) (a : Addr) (cs : List (List Int)) : Prop where
  ex : ∃ ps : List Addr, H a = some (.lst (ps.map V.ref)) ∧ TupsAt H ps cs
def sp_init1 (K : PySem.W.Frag) (f : Str) : Sp := fun vs H Q _ => ∃ (p C dx : Addr) (v : V), vs = [.ref p, v] ∧ H p = some (.ins C dx []) ∧ Cls K C ∧ NoAttr K C f ∧ Q .non (upd H p (.ins C dx [(f, v)]))
def sp_cop (n : Nat) : Sp := fun vs H Q _ => ∃ (v : V) (d : PyData), vs = [v] ∧ Rep H v d ∧ PyData.depth d ≤ n ∧ cnt d ≤ 100000 ∧ ∀ (v' : V) (H' : Hp), Same H H' → Rep (restr (fun a => H a = none) H') v' d → Q v' H'
def sp_cpI (A : Adr) : Sp := fun vs H Q _ => ∃ (a dx : Addr) (fs : List (Str × V)), vs = [.ref a] ∧ H a = some (.ins A.C_Line dx fs) ∧ Q (.ref a) H
def sp_cpL (A : Adr) : Sp := fun vs H Q _ => ∃ (p : Addr) (xs : List V), vs = [.ref p] ∧ H p = some (.lst xs) ∧ xs.length ≤ 1000 ∧ (∀ x ∈ xs, ∃ a dx fs, x = .ref a ∧ H a = some (.ins A.C_Line dx fs)) ∧ ∀ (D : Addr) (H' : Hp), H D = none → Same H H' → H' D = some (.lst xs) → Q (.ref D) H'
/-- copied of a dict: ds are the data of its values -/
def sp_cd : Sp := fun vs H Q _ => ∃ (d : Addr) (kvs : List (Key × V)) (ds : List PyData), vs = [.ref d] ∧ H d = some (.dK kvs) ∧ kvs.length ≤ 100000 ∧ Paired (fun (a : Key × V) (x : PyData) => Rep H a.2 x ∧ PyData.depth x ≤ 1 ∧ cnt x ≤ 100000) kvs ds ∧
  ∀ (p : Addr) (kvs' : List (Key × V)) (H' : Hp), H p = none → Same H H' → H' p = some (.dK kvs') → kvs'.map (·.1) = kvs.map (·.1) → Paired (fun (b : Key × V) (x : PyData) => Rep (restr (fun a => H a = none) H') b.2 x) kvs' ds → Q (.ref p) H'
section
variable {P : Program} {w : World} {K : PySem.W.Frag} {mg : Str → Option Value} {base : Heap} {t : Adr}
theorem ok_Number_init (T : Txt K mg t) : FnOk P w K mg base CX0 1 t.f_Number_init t.d_Number_init ["self", "number"] (sp_init1 K "number") := by
  refine T.F_Number_init.ok sc_Number_init (fun vs H Q E h => ?_) (fun cdv A outer s H vs Q E hr h => ?_)
  · obtain ⟨p, C, dx, v, rfl, _⟩ := h
    rfl
  · obtain ⟨p, C, dx, v, rfl, hp, cl, na, k⟩ := h
    exact ⟨_, (pss_one (ps_fld (pv 0) (pv 1) rfl)), _, rfl, _, rfl, p, C, dx, [], rfl, hp, cl, na, (by decide), k⟩
/-! ### copied -/
theorem isi_no_list {T : String} (h : T = "NoneType" ∨ T = "bool" ∨ T = "int" ∨ T = "str" ∨ T = "tuple") : ∀ u, RelV (.ty "list") u → PySem.W.kitOne K (.type T) u = some false := by
  rcases h with rfl | rfl | rfl | rfl | rfl <;> exact isi_by (by decide +kernel) (by decide +kernel) (by decide +kernel)
theorem isi_no_tuple {T : String} (h : T = "NoneType" ∨ T = "bool" ∨ T = "int" ∨ T = "str") : ∀ u, RelV (.ty "tuple") u → PySem.W.kitOne K (.type T) u = some false := by
  rcases h with rfl | rfl | rfl | rfl <;> exact isi_by (by decide +kernel) (by decide +kernel) (by decide +kernel)
theorem isi_no_dict {T : String} (h : T = "NoneType" ∨ T = "bool" ∨ T = "int" ∨ T = "str") : ∀ u, RelV (.ty "dict") u → PySem.W.kitOne K (.type T) u = some false := by
  rcases h with rfl | rfl | rfl | rfl <;> exact isi_by (by decide +kernel) (by decide +kernel) (by decide +kernel)
theorem cop_step (T : Txt K mg t) {m n : Nat} {sp' : Sp} (G_copied : FnOk P w K mg base CX0 m t.f_copied t.d_copied ["value"] sp')
    (hs : ∀ (v : V) (d : PyData) (H : Hp) (Q : VK), Rep H v d → PyData.depth d + 1 ≤ n → cnt d ≤ 100000 → (∀ (v' : V) (H' : Hp), Same H H' → Rep (restr (fun a => H a = none) H') v' d → Q v' H') → sp' [v] H Q E0) :
    FnOk P w K mg base CX0 (m + 1) t.f_copied t.d_copied ["value"] (sp_cop n) := by
  refine T.F_copied.ok sc_copied (fun vs H Q E h => ?_) (fun cdv A outer s H vs Q E hr h => ?_)
  · obtain ⟨v, d, rfl, _⟩ := h
    rfl
  · obtain ⟨v, d, rfl, rp, hd, hc, k⟩ := h
    have G_copied_dict : FnOk P w K mg base CX0 0 t.f_copied_dict t.d_copied_dict ["value"] (fun _ _ _ _ => False) := FnOk.none fun _ _ _ _ h => h
    refine ⟨_, (pss_cons (ps_if (pt_val (pe_callB call_isinst (by rfl) T.z_isinstance PyProof.Rows.boot_isinstance (pa_cons (pv 0) (pa_cons (pe_bltn (v := V.ty "list") rfl T.z_list PyProof.Rows.boot_list rfl) pa_nil))))
        (pss_one (ps_ret (pe_comp (N' := ["member"]) (ix := (List.replicate 1 none)) rfl (clok_none rfl (by decide +kernel) (by decide +kernel)) (ixok_none rfl) (pi_seq (pv 0)) (fun _ _ _ _ => (pg_name (i := 0) nd_comp_0 rfl (Or.inl rfl) (Or.inr rfl))) (fun _ _ _ _ => (pe_call G_copied (hr.mono (by omega)) rfl T.m_copied T.F_copied.kp T.b_copied .nil pass0 (pa_cons (pv 0) pa_nil))))))
        pss_nil)
      (pss_cons (ps_if (pt_val (pe_callB call_isinst (by rfl) T.z_isinstance PyProof.Rows.boot_isinstance (pa_cons (pv 0) (pa_cons (pe_bltn (v := V.ty "tuple") rfl T.z_tuple PyProof.Rows.boot_tuple rfl) pa_nil))))
        (pss_one (ps_ret (pe_callTy call_tuple_of (by rfl) T.z_tuple PyProof.Rows.boot_tuple (pa_cons (pe_comp (N' := ["member"]) (ix := (List.replicate 1 none)) rfl (clok_none rfl (by decide +kernel) (by decide +kernel)) (ixok_none rfl) (pi_seq (pv 0)) (fun _ _ _ _ => (pg_name (i := 0) nd_comp_0 rfl (Or.inl rfl) (Or.inr rfl))) (fun _ _ _ _ => (pe_call G_copied (hr.mono (by omega)) rfl T.m_copied T.F_copied.kp T.b_copied .nil pass0 (pa_cons (pv 0) pa_nil)))) pa_nil))))
        pss_nil)
      (pss_cons (ps_if (pt_val (pe_callB call_isinst (by rfl) T.z_isinstance PyProof.Rows.boot_isinstance (pa_cons (pv 0) (pa_cons (pe_bltn (v := V.ty "dict") rfl T.z_dict PyProof.Rows.boot_dict rfl) pa_nil))))
        (pss_one (ps_ret (pe_call G_copied_dict (hr.mono (by omega)) rfl T.m_copied_dict T.F_copied_dict.kp T.b_copied_dict .nil pass0 (pa_cons (pv 0) pa_nil))))
        pss_nil)
      (pss_one (ps_ret (pv 0)))))), ?_⟩
    cases rp with
    | non =>
      refine ⟨_, rfl, _, _, _, _, rfl, .non, isi_no_list (.inl rfl), false, rfl, iteF ?_⟩
      refine ⟨_, rfl, _, _, _, _, rfl, .non, isi_no_tuple (.inl rfl), false, rfl, iteF ?_⟩
      exact ⟨_, rfl, _, _, _, _, rfl, .non, isi_no_dict (.inl rfl), false, rfl, iteF ⟨_, rfl, k _ _ (Same.refl _) .non⟩⟩
    | bl b =>
      refine ⟨_, rfl, _, _, _, _, rfl, .bl b, isi_no_list (.inr (.inl rfl)), false, rfl, iteF ?_⟩
      refine ⟨_, rfl, _, _, _, _, rfl, .bl b, isi_no_tuple (.inr (.inl rfl)), false, rfl, iteF ?_⟩
      exact ⟨_, rfl, _, _, _, _, rfl, .bl b, isi_no_dict (.inr (.inl rfl)), false, rfl, iteF ⟨_, rfl, k _ _ (Same.refl _) (.bl b)⟩⟩
    | int b =>
      refine ⟨_, rfl, _, _, _, _, rfl, .int b, isi_no_list (.inr (.inr (.inl rfl))), false, rfl, iteF ?_⟩
      refine ⟨_, rfl, _, _, _, _, rfl, .int b, isi_no_tuple (.inr (.inr (.inl rfl))), false, rfl, iteF ?_⟩
      exact ⟨_, rfl, _, _, _, _, rfl, .int b, isi_no_dict (.inr (.inr (.inl rfl))), false, rfl, iteF ⟨_, rfl, k _ _ (Same.refl _) (.int b)⟩⟩
    | str b =>
      refine ⟨_, rfl, _, _, _, _, rfl, .str b, isi_no_list (.inr (.inr (.inr (.inl rfl)))), false, rfl, iteF ?_⟩
      refine ⟨_, rfl, _, _, _, _, rfl, .str b, isi_no_tuple (.inr (.inr (.inr rfl))), false, rfl, iteF ?_⟩
      exact ⟨_, rfl, _, _, _, _, rfl, .str b, isi_no_dict (.inr (.inr (.inr rfl))), false, rfl, iteF ⟨_, rfl, k _ _ (Same.refl _) (.str b)⟩⟩
    | @lst p xs ds e r =>
      have hl1 := r.len
      have hl2 := cnt_len ds
      have hc' : cntAll ds + 1 ≤ 100000 := hc
      have hd' : PyData.depthAll ds + 1 ≤ n := hd
      refine ⟨_, rfl, _, _, _, _, rfl, .lst e, isi_same "list", true, rfl, iteT ?_⟩
      refine .inl ⟨_, rfl, p, rfl, ⟨_, SqL.of e⟩, fun D hD => ?_⟩
      refine comp_listQ (K := K) (a := p) (D := D) (xs := xs) (fun i ys H2 => Same H H2 ∧ H2 D = some (.lst ys) ∧ Reps (restr (fun a => H a = none ∧ a ≠ D) H2) ys (ds.take i) ∧ ys.length = i)
        ⟨same_new hD, upd_same, (by rw [List.take_zero]; exact .nil), rfl⟩ (fun i ys H2 ⟨s2, _⟩ => SqL.of (s2 _ _ e)) ?_ ?_
      · rintro i x ys H2 hx ⟨s2, hD2, rs, hyl⟩
        obtain ⟨d, hdi, rx⟩ := r.get2 hx
        obtain ⟨c1, c2⟩ := cnt_at hdi
        have hi : i < xs.length := (List.getElem?_eq_some_iff.mp hx).1
        refine ⟨True.intro, _, rfl, hs x d H2 _ (rx.same s2) (by omega) (by omega) fun v' H5 s5 rp5 => ?_⟩
        have hnS : ¬ (H D = none ∧ D ≠ D) := fun z => z.2 rfl
        refine ⟨s5 _ _ hD2, line_lt (by omega), same_fresh (s2.trans s5) hD, upd_same, ?_, by simp [hyl]⟩
        rw [List.take_add_one, hdi]
        show Reps _ (ys ++ [v']) (ds.take i ++ [d])
        refine (rs.same (restr_upd (restr_same s5) hnS)).snoc (rp5.same ((restr_imp (Same.refl _) fun a o _ ha => ⟨s2.free ha, fun z => ?_⟩).trans (restr_upd (Same.refl _) hnS)))
        subst z
        rw [hD2] at ha
        cases ha
      · rintro ys H2 ⟨s2, hD2, rs, hyl⟩
        refine k (.ref D) H2 s2 (.lst (restr_mk hD hD2) ?_)
        rw [hl1, List.take_length] at rs
        exact rs.same (restr_imp (Same.refl _) fun a o _ h => h.1)
    | @tup p xs ds e r =>
      have hl1 := r.len
      have hl2 := cnt_len ds
      have hc' : cntAll ds + 1 ≤ 100000 := hc
      have hd' : PyData.depthAll ds + 1 ≤ n := hd
      refine ⟨_, rfl, _, _, _, _, rfl, .tup e, isi_no_list (.inr (.inr (.inr (.inr rfl)))), false, rfl, iteF ?_⟩
      refine ⟨_, rfl, _, _, _, _, rfl, .tup e, isi_same "tuple", true, rfl, iteT ?_⟩
      refine .inr ⟨_, rfl, p, rfl, ⟨_, SqT.of e⟩, fun D hD => ?_⟩
      refine comp_tupQ (K := K) (a := p) (D := D) (xs := xs) (fun i ys H2 => Same H H2 ∧ H2 D = some (.lst ys) ∧ Reps (restr (fun a => H a = none ∧ a ≠ D) H2) ys (ds.take i) ∧ ys.length = i)
        ⟨same_new hD, upd_same, (by rw [List.take_zero]; exact .nil), rfl⟩ (fun i ys H2 ⟨s2, _⟩ => SqT.of (s2 _ _ e)) ?_ ?_
      · rintro i x ys H2 hx ⟨s2, hD2, rs, hyl⟩
        obtain ⟨d, hdi, rx⟩ := r.get2 hx
        obtain ⟨c1, c2⟩ := cnt_at hdi
        have hi : i < xs.length := (List.getElem?_eq_some_iff.mp hx).1
        refine ⟨True.intro, _, rfl, hs x d H2 _ (rx.same s2) (by omega) (by omega) fun v' H5 s5 rp5 => ?_⟩
        have hnS : ¬ (H D = none ∧ D ≠ D) := fun z => z.2 rfl
        refine ⟨s5 _ _ hD2, line_lt (by omega), same_fresh (s2.trans s5) hD, upd_same, ?_, by simp [hyl]⟩
        rw [List.take_add_one, hdi]
        show Reps _ (ys ++ [v']) (ds.take i ++ [d])
        refine (rs.same (restr_upd (restr_same s5) hnS)).snoc (rp5.same ((restr_imp (Same.refl _) fun a o _ ha => ⟨s2.free ha, fun z => ?_⟩).trans (restr_upd (Same.refl _) hnS)))
        subst z
        rw [hD2] at ha
        cases ha
      · rintro ys H2 ⟨s2, hD2, rs, hyl⟩
        refine ⟨D, ys, rfl, .inl ⟨SqL.of hD2, fun l hl => ?_⟩⟩
        refine k (.ref l) _ (s2.trans (same_new hl)) (.tup (restr_mk (s2.free hl) upd_same) ?_)
        rw [hl1, List.take_length] at rs
        exact rs.same ((restr_imp (Same.refl _) fun a o _ h => h.1).trans (restr_same (same_new hl)))
theorem ok_copied (T : Txt K mg t) : ∀ n : Nat, FnOk P w K mg base CX0 (n + 1) t.f_copied t.d_copied ["value"] (sp_cop n)
  | 0 => cop_step T (sp' := fun _ _ _ _ => False) (m := 0) (FnOk.none fun _ _ _ _ h => h) fun v d H Q _ h => absurd h (by omega)
  | n + 1 => cop_step T (ok_copied T n) fun v d H Q rp hd hc k => ⟨v, d, rfl, rp, by omega, hc, k⟩
theorem ok_copI (T : Txt K mg t) : FnOk P w K mg base CX0 1 t.f_copied t.d_copied ["value"] (sp_cpI t) := by
  refine T.F_copied.ok sc_copied (fun vs H Q E h => ?_) (fun cdv A outer s H vs Q E hr h => ?_)
  · obtain ⟨a, dx, fs, rfl, _⟩ := h
    rfl
  · obtain ⟨a, dx, fs, rfl, e, k⟩ := h
    have G_copied : FnOk P w K mg base CX0 0 t.f_copied t.d_copied ["value"] (fun _ _ _ _ => False) := FnOk.none fun _ _ _ _ h => h
    have ty : TyOf K H (.ref a) (.ref t.C_Line) := .ins e T.cl_Line T.ty_Line.ha T.ty_Line.hn T.ty_Line.htk T.ty_Line.hm
    have G_copied_dict : FnOk P w K mg base CX0 0 t.f_copied_dict t.d_copied_dict ["value"] (fun _ _ _ _ => False) := FnOk.none fun _ _ _ _ h => h
    refine ⟨_, (pss_cons (ps_if (pt_val (pe_callB call_isinst (by rfl) T.z_isinstance PyProof.Rows.boot_isinstance (pa_cons (pv 0) (pa_cons (pe_bltn (v := V.ty "list") rfl T.z_list PyProof.Rows.boot_list rfl) pa_nil))))
        (pss_one (ps_ret (pe_comp (N' := ["member"]) (ix := (List.replicate 1 none)) rfl (clok_none rfl (by decide +kernel) (by decide +kernel)) (ixok_none rfl) (pi_seq (pv 0)) (fun _ _ _ _ => (pg_name (i := 0) nd_comp_0 rfl (Or.inl rfl) (Or.inr rfl))) (fun _ _ _ _ => (pe_call G_copied (hr.mono (by omega)) rfl T.m_copied T.F_copied.kp T.b_copied .nil pass0 (pa_cons (pv 0) pa_nil))))))
        pss_nil)
      (pss_cons (ps_if (pt_val (pe_callB call_isinst (by rfl) T.z_isinstance PyProof.Rows.boot_isinstance (pa_cons (pv 0) (pa_cons (pe_bltn (v := V.ty "tuple") rfl T.z_tuple PyProof.Rows.boot_tuple rfl) pa_nil))))
        (pss_one (ps_ret (pe_callTy call_tuple_of (by rfl) T.z_tuple PyProof.Rows.boot_tuple (pa_cons (pe_comp (N' := ["member"]) (ix := (List.replicate 1 none)) rfl (clok_none rfl (by decide +kernel) (by decide +kernel)) (ixok_none rfl) (pi_seq (pv 0)) (fun _ _ _ _ => (pg_name (i := 0) nd_comp_0 rfl (Or.inl rfl) (Or.inr rfl))) (fun _ _ _ _ => (pe_call G_copied (hr.mono (by omega)) rfl T.m_copied T.F_copied.kp T.b_copied .nil pass0 (pa_cons (pv 0) pa_nil)))) pa_nil))))
        pss_nil)
      (pss_cons (ps_if (pt_val (pe_callB call_isinst (by rfl) T.z_isinstance PyProof.Rows.boot_isinstance (pa_cons (pv 0) (pa_cons (pe_bltn (v := V.ty "dict") rfl T.z_dict PyProof.Rows.boot_dict rfl) pa_nil))))
        (pss_one (ps_ret (pe_call G_copied_dict (hr.mono (by omega)) rfl T.m_copied_dict T.F_copied_dict.kp T.b_copied_dict .nil pass0 (pa_cons (pv 0) pa_nil))))
        pss_nil)
      (pss_one (ps_ret (pv 0)))))), ?_⟩
    refine ⟨_, rfl, _, _, _, _, rfl, ty, isi_bt T.mb_Line_list (by decide +kernel), false, rfl, iteF ?_⟩
    refine ⟨_, rfl, _, _, _, _, rfl, ty, isi_bt T.mb_Line_tuple (by decide +kernel), false, rfl, iteF ?_⟩
    exact ⟨_, rfl, _, _, _, _, rfl, ty, isi_bt T.mb_Line_dict (by decide +kernel), false, rfl, iteF ⟨_, rfl, k⟩⟩
theorem ok_copL (T : Txt K mg t) : FnOk P w K mg base CX0 2 t.f_copied t.d_copied ["value"] (sp_cpL t) := by
  have G_copied := ok_copI (P := P) (w := w) (base := base) T
  refine T.F_copied.ok sc_copied (fun vs H Q E h => ?_) (fun cdv A outer s H vs Q E hr h => ?_)
  · obtain ⟨p, xs, rfl, _⟩ := h
    rfl
  · obtain ⟨p, xs, rfl, e, hl, hx, k⟩ := h
    have G_copied_dict : FnOk P w K mg base CX0 0 t.f_copied_dict t.d_copied_dict ["value"] (fun _ _ _ _ => False) := FnOk.none fun _ _ _ _ h => h
    refine ⟨_, (pss_cons (ps_if (pt_val (pe_callB call_isinst (by rfl) T.z_isinstance PyProof.Rows.boot_isinstance (pa_cons (pv 0) (pa_cons (pe_bltn (v := V.ty "list") rfl T.z_list PyProof.Rows.boot_list rfl) pa_nil))))
        (pss_one (ps_ret (pe_comp (N' := ["member"]) (ix := (List.replicate 1 none)) rfl (clok_none rfl (by decide +kernel) (by decide +kernel)) (ixok_none rfl) (pi_seq (pv 0)) (fun _ _ _ _ => (pg_name (i := 0) nd_comp_0 rfl (Or.inl rfl) (Or.inr rfl))) (fun _ _ _ _ => (pe_call G_copied (hr.mono (by omega)) rfl T.m_copied T.F_copied.kp T.b_copied .nil pass0 (pa_cons (pv 0) pa_nil))))))
        pss_nil)
      (pss_cons (ps_if (pt_val (pe_callB call_isinst (by rfl) T.z_isinstance PyProof.Rows.boot_isinstance (pa_cons (pv 0) (pa_cons (pe_bltn (v := V.ty "tuple") rfl T.z_tuple PyProof.Rows.boot_tuple rfl) pa_nil))))
        (pss_one (ps_ret (pe_callTy call_tuple_of (by rfl) T.z_tuple PyProof.Rows.boot_tuple (pa_cons (pe_comp (N' := ["member"]) (ix := (List.replicate 1 none)) rfl (clok_none rfl (by decide +kernel) (by decide +kernel)) (ixok_none rfl) (pi_seq (pv 0)) (fun _ _ _ _ => (pg_name (i := 0) nd_comp_0 rfl (Or.inl rfl) (Or.inr rfl))) (fun _ _ _ _ => (pe_call G_copied (hr.mono (by omega)) rfl T.m_copied T.F_copied.kp T.b_copied .nil pass0 (pa_cons (pv 0) pa_nil)))) pa_nil))))
        pss_nil)
      (pss_cons (ps_if (pt_val (pe_callB call_isinst (by rfl) T.z_isinstance PyProof.Rows.boot_isinstance (pa_cons (pv 0) (pa_cons (pe_bltn (v := V.ty "dict") rfl T.z_dict PyProof.Rows.boot_dict rfl) pa_nil))))
        (pss_one (ps_ret (pe_call G_copied_dict (hr.mono (by omega)) rfl T.m_copied_dict T.F_copied_dict.kp T.b_copied_dict .nil pass0 (pa_cons (pv 0) pa_nil))))
        pss_nil)
      (pss_one (ps_ret (pv 0)))))), ?_⟩
    refine ⟨_, rfl, _, _, _, _, rfl, .lst e, isi_same "list", true, rfl, iteT ?_⟩
    refine .inl ⟨_, rfl, p, rfl, ⟨_, SqL.of e⟩, fun D hD => ?_⟩
    refine comp_listQ (K := K) (a := p) (D := D) (xs := xs) (fun i ys H2 => Same H H2 ∧ H2 D = some (.lst ys) ∧ ys = xs.take i)
      ⟨same_new hD, upd_same, rfl⟩ (fun i ys H2 ⟨s2, _⟩ => SqL.of (s2 _ _ e)) ?_ ?_
    · rintro i x ys H2 hxi ⟨s2, hD2, rfl⟩
      obtain ⟨a, dx, fs, rfl, ea⟩ := hx x (List.mem_of_getElem? hxi)
      have hlt : (xs.take i).length ≤ xs.length := by rw [List.length_take]; omega
      refine ⟨True.intro, _, rfl, a, dx, fs, rfl, s2 _ _ ea, hD2, line_lt (by omega), same_fresh s2 hD, upd_same, ?_⟩
      rw [List.take_add_one, hxi]
      rfl
    · rintro ys H2 ⟨s2, hD2, rfl⟩
      rw [List.take_length] at hD2
      exact k D H2 hD s2 hD2
theorem ok_copied_dict (T : Txt K mg t) : FnOk P w K mg base CX0 3 t.f_copied_dict t.d_copied_dict ["value"] sp_cd := by
  have G_copied := ok_copied (P := P) (w := w) (base := base) T 1
  refine T.F_copied_dict.ok sc_copied_dict (fun vs H Q E h => ?_) (fun cdv A outer s H vs Q E hr h => ?_)
  · obtain ⟨d, kvs, ds, rfl, _⟩ := h
    rfl
  · obtain ⟨d, kvs, ds, rfl, hd, hl, src, k⟩ := h
    have hu := hu_of hr
    refine ⟨_, (pss_know (pss_cons (ps_set (i := 1) sc_copied_dict.nd rfl (Or.inl rfl) pe_dnewK)
      (pss_cons (ps_for PassesOwn.never rfl (pi_items (pe_bm0 PySem.F.plainAttrs_dict PySem.F.slot_dict_items PySem.F.type_dict_items mt_items (pv 0))) (pg_tup (n := 2) rfl (pgs_cons (pg_name (i := 2) sc_copied_dict.nd rfl (Or.inl rfl) (Or.inl rfl)) (pgs_cons (pg_name (i := 3) sc_copied_dict.nd rfl (Or.inl rfl) (Or.inl rfl)) pgs_nil)))
        (pss_one (ps_dput hu (pv 1) (pv 2) (pe_call G_copied (hr.mono (by omega)) rfl T.m_copied T.F_copied.kp T.b_copied .nil pass0 (pa_cons (pv 3) pa_nil)) rfl)))
      (pss_thawD (pss_one (ps_ret (pv 1))))))), ?_⟩
    intro ap
    have nd := ap.1 d kvs hd
    refine fun p hp => ?_
    have dp : d ≠ p := ne_of_none hd hp
    have hd1 : upd H p (.dK []) d = some (.dK kvs) := by rw [upd_ne dp]; exact hd
    refine ⟨_, rfl, .inr (.inr (.inl ⟨rfl, .inl ⟨_, hd1⟩⟩)), d, _, rfl, rfl, hd1, .inl ⟨_, rfl⟩, fun vw hvw => ?_⟩
    have vp : p ≠ vw := ne_of_none upd_same hvw
    have dv : d ≠ vw := ne_of_none hd1 hvw
    refine ⟨vw, d, _, rfl, upd_same, (by rw [upd_ne dv]; exact hd1), .inl ⟨kvs, rfl, fun o => ?_⟩⟩
    have hv0 : H vw = none := by rw [upd_ne vp.symm] at hvw; exact hvw
    have g0 : Same (upd H d (.frz o (.dK kvs))) (upd (upd (upd H p (.dK [])) vw (viewO vw d)) d (.frz o (.dK kvs))) := fun b v e => by
      by_cases hb : b = d
      · subst hb; rw [upd_same] at e ⊢; exact e
      · rw [upd_ne hb] at e ⊢
        rw [upd_ne (ne_of_none e hv0), upd_ne (ne_of_none e hp)]; exact e
    have hpG : upd H d (.frz o (.dK kvs)) p = none := by rw [upd_ne dp.symm]; exact hp
    have nd0 : ∀ b, upd H d (.frz o (.dK kvs)) b = none → H b = none := fun b e => by
      by_cases hb : b = d
      · subst hb; rw [upd_same] at e; cases e
      · rw [upd_ne hb] at e; exact e
    refine for_items (L := kvs.map fun q => (kV q.1, q.2)) (fun i σ H4 => ∃ (o2 o3 : Option V) (ws : List (Key × V)), σ = [some (.ref d), some (.ref p), o2, o3] ∧ Same (upd H d (.frz o (.dK kvs))) H4 ∧ H4 p = some (.dK ws) ∧ ws.map (·.1) = (kvs.take i).map (·.1) ∧ Paired (fun (b : Key × V) (x : PyData) => Rep (restr (fun a => H a = none ∧ a ≠ p) H4) b.2 x) ws (ds.take i))
      ⟨none, none, [], rfl, g0, (by rw [upd_ne dp.symm, upd_ne vp, upd_same]), rfl, .nil⟩ (fun i σ H4 ⟨_, _, _, _, s4, _⟩ => s4 _ _ upd_same) ?_ ?_
    · rintro i kx vx q σ H4 hx hq ⟨o2, o3, ws, rfl, s4, h4, ks, cp⟩
      rw [List.getElem?_map] at hx
      obtain ⟨⟨k', v⟩, hk, e⟩ := Option.map_eq_some_iff.mp hx
      cases e
      obtain ⟨x, hxd, rv, dv1, cv1⟩ := pget src hk
      have sq : Same H4 (upd H4 q (.tup [kV k', v])) := same_new hq
      have rv4 : Rep (upd H4 q (.tup [kV k', v])) v x := (rv.imp2 (fun b ys z => s4 _ _ (by rw [upd_ne (ne_of z hd (by intro w; cases w))]; exact z)) fun b ys z => s4 _ _ (by rw [upd_ne (ne_of z hd (by intro w; cases w))]; exact z)).same sq
      refine ⟨q, _, rfl, SqT.of upd_same, rfl, _, _, rfl, _, _, rfl, rfl, _, rfl, v, x, rfl, rv4, dv1, cv1, fun v' H6 s6 r6 => ?_⟩
      have h6 := s6 _ _ (sq _ _ h4)
      have lw : ws.length = (kvs.take i).length := by have := congrArg List.length ks; simpa using this
      have lt2 : (kvs.take i).length ≤ kvs.length := by rw [List.length_take]; omega
      refine ⟨_, rfl, _, rfl, p, _, rfl, DPut.k (k := k') h6 (line_lt (by omega)), ?_⟩
      have hnS : ¬ (H p = none ∧ p ≠ p) := fun z => z.2 rfl
      refine ⟨_, _, _, rfl, same_fresh (s4.trans (sq.trans s6)) hpG, upd_same, ?_, ?_⟩
      · rw [put_next nd hk ws ks v', List.take_add_one, hk, List.map_append, List.map_append, ks]
        rfl
      · rw [put_next nd hk ws ks v', List.take_add_one, hxd]
        refine papp (Paired.mapP cp fun _ _ z => z.same (restr_upd (restr_same (sq.trans s6)) hnS)) (.cons (r6.same ((restr_imp (Same.refl _) fun a ob ea ha => ⟨?_, fun z => ?_⟩).trans (restr_upd (Same.refl _) hnS))) .nil)
        · exact nd0 a (s4.free (sq.free ha))
        · subst z
          rw [sq _ _ h4] at ha
          cases ha
    · rintro σ H4 ⟨o2, o3, ws, rfl, s4, h4, ks, cp⟩
      have ld := Paired.length src
      rw [List.length_map, List.take_length] at ks
      rw [List.length_map, ld, List.take_length] at cp
      have hd4 : H4 d = some (.frz o (.dK kvs)) := s4 _ _ upd_same
      refine ⟨d, o, _, hd4, .inl ⟨_, rfl⟩, (fun o' u' z => by have z : H d = some (.frz o' u') := z; rw [hd] at z; cases z), _, rfl, ?_⟩
      have hnd : ¬ (H d = none ∧ d ≠ p) := fun z => by rw [hd] at z; cases z.1
      exact k p ws _ hp (same_thaw hd s4) (by rw [upd_ne dp.symm]; exact h4) ks (Paired.mapP cp fun _ _ z => z.same ((restr_upd (Same.refl _) hnd).trans (restr_imp (Same.refl _) fun a ob _ h => h.1)))
theorem ok_copD (T : Txt K mg t) : FnOk P w K mg base CX0 4 t.f_copied t.d_copied ["value"] sp_cd := by
  have G_copied_dict := ok_copied_dict (P := P) (w := w) (base := base) T
  have G_copied : FnOk P w K mg base CX0 0 t.f_copied t.d_copied ["value"] (fun _ _ _ _ => False) := FnOk.none fun _ _ _ _ h => h
  refine T.F_copied.ok sc_copied (fun vs H Q E h => ?_) (fun cdv A outer s H vs Q E hr h => ?_)
  · obtain ⟨d, kvs, ds, rfl, _⟩ := h
    rfl
  · have h0 := h
    obtain ⟨d, kvs, ds, rfl, hd, _⟩ := h
    refine ⟨_, (pss_cons (ps_if (pt_val (pe_callB call_isinst (by rfl) T.z_isinstance PyProof.Rows.boot_isinstance (pa_cons (pv 0) (pa_cons (pe_bltn (v := V.ty "list") rfl T.z_list PyProof.Rows.boot_list rfl) pa_nil))))
        (pss_one (ps_ret (pe_comp (N' := ["member"]) (ix := (List.replicate 1 none)) rfl (clok_none rfl (by decide +kernel) (by decide +kernel)) (ixok_none rfl) (pi_seq (pv 0)) (fun _ _ _ _ => (pg_name (i := 0) nd_comp_0 rfl (Or.inl rfl) (Or.inr rfl))) (fun _ _ _ _ => (pe_call G_copied (hr.mono (by omega)) rfl T.m_copied T.F_copied.kp T.b_copied .nil pass0 (pa_cons (pv 0) pa_nil))))))
        pss_nil)
      (pss_cons (ps_if (pt_val (pe_callB call_isinst (by rfl) T.z_isinstance PyProof.Rows.boot_isinstance (pa_cons (pv 0) (pa_cons (pe_bltn (v := V.ty "tuple") rfl T.z_tuple PyProof.Rows.boot_tuple rfl) pa_nil))))
        (pss_one (ps_ret (pe_callTy call_tuple_of (by rfl) T.z_tuple PyProof.Rows.boot_tuple (pa_cons (pe_comp (N' := ["member"]) (ix := (List.replicate 1 none)) rfl (clok_none rfl (by decide +kernel) (by decide +kernel)) (ixok_none rfl) (pi_seq (pv 0)) (fun _ _ _ _ => (pg_name (i := 0) nd_comp_0 rfl (Or.inl rfl) (Or.inr rfl))) (fun _ _ _ _ => (pe_call G_copied (hr.mono (by omega)) rfl T.m_copied T.F_copied.kp T.b_copied .nil pass0 (pa_cons (pv 0) pa_nil)))) pa_nil))))
        pss_nil)
      (pss_cons (ps_if (pt_val (pe_callB call_isinst (by rfl) T.z_isinstance PyProof.Rows.boot_isinstance (pa_cons (pv 0) (pa_cons (pe_bltn (v := V.ty "dict") rfl T.z_dict PyProof.Rows.boot_dict rfl) pa_nil))))
        (pss_one (ps_ret (pe_call G_copied_dict (hr.mono (by omega)) rfl T.m_copied_dict T.F_copied_dict.kp T.b_copied_dict .nil pass0 (pa_cons (pv 0) pa_nil))))
        pss_nil)
      (pss_one (ps_ret (pv 0)))))), ?_⟩
    refine ⟨_, rfl, _, _, _, _, rfl, .dK hd, isi_by (by decide +kernel) (by decide +kernel) (by decide +kernel), false, rfl, iteF ?_⟩
    refine ⟨_, rfl, _, _, _, _, rfl, .dK hd, isi_by (by decide +kernel) (by decide +kernel) (by decide +kernel), false, rfl, iteF ?_⟩
    exact ⟨_, rfl, _, _, _, _, rfl, .dK hd, isi_same "dict", true, rfl, iteT ⟨_, rfl, h0⟩⟩
/-- copied of data, of a list of lines, of a dict -/
def sp_all (A : Adr) : Sp := fun vs H Q E => (sp_cop 1 vs H Q E ∨ sp_cpL A vs H Q E) ∨ sp_cd vs H Q E
theorem ok_cop (T : Txt K mg t) : FnOk P w K mg base CX0 4 t.f_copied t.d_copied ["value"] (sp_all t) := FnOk.or (FnOk.or ((ok_copied T 1).mono (by omega)) ((ok_copL T).mono (by omega))) (ok_copD T)
end
end My

set_option Elab.async false
set_option linter.all false
set_option maxRecDepth 100000
set_option maxHeartbeats 4000000
namespace My
open PySem L2
local macro_rules | `(tactic| walk_at "lk") => `(tactic| first | with_reducible exact lk0 | (refine lk1 (by decide +kernel) ?_; walk_at "lk") | rfl)
/-- all but p stays -/
def KB (p : Addr) (H H' : Hp) : Prop := ∀ b o, b ≠ p → H b = some o → H' b = some o
theorem KB.upd {p : Addr} {H H' : Hp} {o : HO} (k : KB p H H') : KB p H (upd H' p o) := fun b u hb e => by rw [upd_ne hb]; exact k b u hb e
theorem KB.refl {p : Addr} {H : Hp} : KB p H H := fun _ _ _ e => e
theorem KB.trans {p : Addr} {H H' H2 : Hp} (a : KB p H H') (b : KB p H' H2) : KB p H H2 := fun c o hc e => b c o hc (a c o hc e)
theorem KB.of {p : Addr} {H H' : Hp} (s : Same H H') : KB p H H' := fun b o _ e => s _ _ e
theorem KB.free {p b : Addr} {H H' : Hp} {u : HO} (k : KB p H H') (hp : H' p = some u) (hb : H' b = none) : H b = none := by
  cases e : H b with
  | none => rfl
  | some o =>
    have hne : b ≠ p := fun z => by subst z; rw [hp] at hb; cases hb
    rw [k b o hne e] at hb
    cases hb
theorem KB.same {p : Addr} {H H2 H' : Hp} (s : Same H H2) (k : KB p H2 H') (hp : H p = none) : Same H H' := fun b o e => k b o (ne_of_none e hp) (s _ _ e)
/-- the arrays: each with a list in S -/
abbrev AR (S : Addr → Prop) (H : Hp) (kvs : List (Key × V)) (es : List (Str × List Str)) : Prop := Paired (fun (p : Key × V) (e : Str × List Str) => p.1 = Sum.inr e.1 ∧ ∃ b, p.2 = .ref b ∧ S b ∧ H b = some (.lst (e.2.map V.str))) kvs es
theorem AR.imp {S S' : Addr → Prop} {H H' : Hp} {kvs : List (Key × V)} {es : List (Str × List Str)} (h : AR S H kvs es) (f : ∀ b xs, S b → H b = some (.lst xs) → S' b ∧ H' b = some (.lst xs)) : AR S' H' kvs es :=
  Paired.mapP h fun _ _ ⟨z1, b, z2, z3, z4⟩ => ⟨z1, b, z2, (f b _ z3 z4).1, (f b _ z3 z4).2⟩
theorem AR.same {S : Addr → Prop} {H H' : Hp} {kvs : List (Key × V)} {es : List (Str × List Str)} (h : AR S H kvs es) (s : Same H H') : AR S H' kvs es := h.imp fun b xs z e => ⟨z, s _ _ e⟩
theorem AR.src {S : Addr → Prop} {H : Hp} : ∀ {kvs : List (Key × V)} {es : List (Str × List Str)}, AR S H kvs es → (∀ e ∈ es, e.2.length ≤ 100) → Paired (fun (a : Key × V) (x : PyData) => Rep H a.2 x ∧ PyData.depth x ≤ 1 ∧ cnt x ≤ 100000) kvs (es.map fun e => encS e.2)
  | _, _, .nil, _ => .nil
  | _, _, @Paired.cons _ _ _ p e _ _ ⟨_, b, z2, _, z4⟩ t, h => by
    obtain ⟨c2, c3⟩ := encS_ok e.2
    have := h e (.head _)
    exact .cons ⟨by rw [z2]; exact S_rep z4, c2, (by show cnt (encS e.2) ≤ 100000; omega)⟩ (AR.src t fun x hx => h x (.tail _ hx))
theorem ar_of {S S' : Addr → Prop} {H H' : Hp} : ∀ {kvs kvs' : List (Key × V)} {es : List (Str × List Str)}, AR S H kvs es → kvs'.map (·.1) = kvs.map (·.1) → Paired (fun (b : Key × V) (x : PyData) => Rep (restr S' H') b.2 x) kvs' (es.map fun e => encS e.2) → AR S' H' kvs' es
  | _, [], _, .nil, _, _ => .nil
  | _, _ :: _, _, .nil, ks, _ => by cases ks
  | _, [], _, .cons _ _, ks, _ => by cases ks
  | _, q :: r, _, @Paired.cons _ _ _ p e _ _ ⟨z1, _⟩ t, ks, pr => by
    rw [List.map_cons, List.map_cons] at ks
    injection ks with k1 k2
    rw [List.map_cons] at pr
    cases pr with
    | cons a pr =>
      obtain ⟨b, e1, e2⟩ := rep_S a
      exact .cons ⟨k1.trans z1, b, e1, (restr_some e2).1, (restr_some e2).2⟩ (ar_of t k2 pr)
abbrev Ints' (kvs : List (Key × V)) (is : List Int) : Prop := Paired (fun (p : Key × V) (i : Int) => p.2 = .int i) kvs is
theorem ints_src {H : Hp} : ∀ {kvs : List (Key × V)} {is : List Int}, Ints' kvs is → Paired (fun (a : Key × V) (x : PyData) => Rep H a.2 x ∧ PyData.depth x ≤ 1 ∧ cnt x ≤ 100000) kvs (is.map PyData.int)
  | _, _, .nil => .nil
  | _, _, .cons a t => .cons ⟨by rw [a]; exact .int _, by simp [PyData.depth], by simp [cnt]⟩ (ints_src t)
theorem ints_of {S : Addr → Prop} {H : Hp} : ∀ {kvs kvs' : List (Key × V)} {is : List Int}, Ints' kvs is → kvs'.map (·.1) = kvs.map (·.1) → Paired (fun (b : Key × V) (x : PyData) => Rep (restr S H) b.2 x) kvs' (is.map PyData.int) → kvs' = kvs
  | _, [], _, .nil, _, _ => rfl
  | _, _ :: _, _, .nil, ks, _ => by cases ks
  | _, [], _, .cons _ _, ks, _ => by cases ks
  | _, q :: r, _, @Paired.cons _ _ _ p i _ _ a t, ks, pr => by
    rw [List.map_cons, List.map_cons] at ks
    injection ks with k1 k2
    rw [List.map_cons] at pr
    cases pr with
    | cons b pr =>
      rw [ints_of t k2 pr]
      have hb := rep_int b
      have : q = p := Prod.ext k1 (hb.trans a.symm)
      rw [this]
def sp_initLn (A : Adr) : Sp := fun vs H Q _ => ∃ (p dx l m : Addr) (n : V) (x : Str) (ys zs : List Str), vs = [.ref p, .str x, .ref l, .ref m, n] ∧ H p = some (.ins A.C_Line dx []) ∧ H l = some (.lst (ys.map V.str)) ∧ H m = some (.lst (zs.map V.str)) ∧ ys.length ≤ 1000 ∧ zs.length ≤ 1000 ∧
  ∀ (c u : Addr) (H' : Hp), H c = none → H u = none → H' p = some (.ins A.C_Line dx [("name", .str x), ("axes", .ref c), ("sums", .ref u), ("term", n)]) → H' c = some (.lst (ys.map V.str)) → H' u = some (.lst (zs.map V.str)) → KB p H H' → Q .non H'
/-- the fields of a cloth -/
abbrev clo (A : Adr) (dx : Addr) (wh : Int) (l a tb ln o : Addr) : HO := .ins A.C_Cloth dx [("wheel", .int wh), ("lengths", .ref l), ("arrays", .ref a), ("tables", .ref tb), ("lines", .ref ln), ("outs", .ref o)]
def sp_initC (A : Adr) : Sp := fun vs H Q _ => ∃ (p dx ld ad tl lv ol : Addr) (wh : Int) (lk ak : List (Key × V)) (is : List Int) (es : List (Str × List Str)) (tb os : List Str) (xs : List V) (S : Addr → Prop), vs = [.ref p, .int wh, .ref ld, .ref ad, .ref tl, .ref lv, .ref ol] ∧ H p = some (.ins A.C_Cloth dx []) ∧
  H ld = some (.dK lk) ∧ Ints' lk is ∧ lk.length ≤ 1000 ∧ H ad = some (.dK ak) ∧ AR S H ak es ∧ es.length ≤ 1000 ∧ (∀ e ∈ es, e.2.length ≤ 100) ∧ H tl = some (.lst (tb.map V.str)) ∧ tb.length ≤ 1000 ∧ H lv = some (.lst xs) ∧ xs.length ≤ 1000 ∧ (∀ x ∈ xs, ∃ a dx fs, x = .ref a ∧ a ≠ p ∧ H a = some (.ins A.C_Line dx fs)) ∧ H ol = some (.lst (os.map V.str)) ∧ os.length ≤ 1000 ∧
  ∀ (l' a' t' v' o' : Addr) (ak' : List (Key × V)) (H' : Hp), H' p = some (clo A dx wh l' a' t' v' o') → H l' = none → H' l' = some (.dK lk) → H a' = none → H' a' = some (.dK ak') → AR (fun b => H b = none) H' ak' es → H t' = none → H' t' = some (.lst (tb.map V.str)) → H v' = none → H' v' = some (.lst xs) → H o' = none → H' o' = some (.lst (os.map V.str)) → KB p H H' → Q .non H'
def sp_la : Sp := fun vs H Q _ => ∃ (l d : Addr) (ys : List Str) (lk : List (Key × V)) (ls : List Int), vs = [.ref l, .ref d] ∧ H l = some (.lst (ys.map V.str)) ∧ H d = some (.dK lk) ∧ Sz lk ys ls ∧ ys.length ≤ 1000 ∧ ∀ (q : Addr) (H' : Hp), H q = none → Same H H' → H' q = some (.lst (ls.map V.int)) → Q (.ref q) H'
section
variable {P : Program} {w : World} {K : PySem.W.Frag} {mg : Str → Option Value} {base : Heap} {t : Adr}
theorem ok_Line_init (T : Txt K mg t) : FnOk P w K mg base CX0 5 t.f_Line_init t.d_Line_init ["self", "name", "axes", "sums", "term"] (sp_initLn t) := by
  have G_copied := ok_cop (P := P) (w := w) (base := base) T
  refine T.F_Line_init.ok sc_Line_init (fun vs H Q E h => ?_) (fun cdv A outer s H vs Q E hr h => ?_)
  · obtain ⟨p, dx, l, m, n, x, ys, zs, rfl, _⟩ := h
    rfl
  · obtain ⟨p, dx, l, m, n, x, ys, zs, rfl, hp, hl, hm, ly, lz, k⟩ := h
    obtain ⟨c2, c3⟩ := encS_ok ys
    obtain ⟨d2, d3⟩ := encS_ok zs
    have lp : l ≠ p := ne_of hl hp (by intro z; cases z)
    have mp : m ≠ p := ne_of hm hp (by intro z; cases z)
    have e1 : ∀ v : V, putF "axes" v [("name", .str x)] = ([("name", .str x), ("axes", v)] : List (Str × V)) := fun v => by rw [putF_ne (by decide +kernel), putF_nil]
    have e2 : ∀ u v : V, putF "sums" v [("name", .str x), ("axes", u)] = ([("name", .str x), ("axes", u), ("sums", v)] : List (Str × V)) := fun u v => by rw [putF_ne (by decide +kernel), putF_ne (by decide +kernel), putF_nil]
    have e3 : ∀ u1 u v : V, putF "term" v [("name", .str x), ("axes", u1), ("sums", u)] = ([("name", .str x), ("axes", u1), ("sums", u), ("term", v)] : List (Str × V)) := fun u1 u v => by rw [putF_ne (by decide +kernel), putF_ne (by decide +kernel), putF_ne (by decide +kernel), putF_nil]
    refine ⟨_, (pss_cons (ps_fld (pv 0) (pv 1) rfl)
      (pss_cons (ps_fld (pv 0) (pe_call G_copied (hr.mono (by omega)) rfl T.m_copied T.F_copied.kp T.b_copied .nil pass0 (pa_cons (pv 2) pa_nil)) rfl)
      (pss_cons (ps_fld (pv 0) (pe_call G_copied (hr.mono (by omega)) rfl T.m_copied T.F_copied.kp T.b_copied .nil pass0 (pa_cons (pv 3) pa_nil)) rfl)
      (pss_one (ps_fld (pv 0) (pv 4) rfl))))), _, rfl, _, rfl, p, _, dx, [], rfl, hp, T.cl_Line, T.na_Line_name, (by decide), ?_⟩
    rw [putF_nil]
    have k1 : KB p H (upd H p (.ins t.C_Line dx [("name", .str x)])) := KB.refl.upd
    refine ⟨_, rfl, .inl (.inl ⟨.ref l, encS ys, rfl, S_rep (k1 _ _ lp hl), by omega, by omega, fun v' H2 s2 rp2 => ?_⟩)⟩
    have hp2 := s2 _ _ (upd_same (H := H) (a := p))
    obtain ⟨c, rfl, ec⟩ := rep_S rp2
    obtain ⟨hc1, ec⟩ := restr_some ec
    have hcn : H c = none := k1.free upd_same hc1
    have cp : c ≠ p := fun z => by subst z; rw [hp] at hcn; cases hcn
    refine ⟨_, rfl, p, _, dx, _, rfl, hp2, T.cl_Line, T.na_Line_axes, (by show 1 < 1000; decide), ?_⟩
    rw [e1]
    have k2 : KB p H (upd H2 p (.ins t.C_Line dx [("name", .str x), ("axes", .ref c)])) := (k1.trans (KB.of s2)).upd
    refine ⟨_, rfl, .inl (.inl ⟨.ref m, encS zs, rfl, S_rep (k2 _ _ mp hm), by omega, by omega, fun v'' H3 s3 rp3 => ?_⟩)⟩
    have hp3 := s3 _ _ (upd_same (H := H2) (a := p))
    obtain ⟨u, rfl, eu⟩ := rep_S rp3
    obtain ⟨hu1, eu⟩ := restr_some eu
    have hun : H u = none := k2.free upd_same hu1
    have up : u ≠ p := fun z => by subst z; rw [hp] at hun; cases hun
    refine ⟨_, rfl, p, _, dx, _, rfl, hp3, T.cl_Line, T.na_Line_sums, (by show 2 < 1000; decide), ?_⟩
    rw [e2]
    refine ⟨_, rfl, _, rfl, p, _, dx, _, rfl, upd_same, T.cl_Line, T.na_Line_term, (by show 3 < 1000; decide), ?_⟩
    show Q V.non (upd (upd H3 p _) p _)
    rw [upd_upd, e3]
    exact k c u _ hcn hun upd_same (by rw [upd_ne cp]; exact s3 _ _ (by rw [upd_ne cp]; exact ec)) (by rw [upd_ne up]; exact eu) (k2.trans (KB.of s3)).upd
theorem ok_Cloth_init (T : Txt K mg t) : FnOk P w K mg base CX0 5 t.f_Cloth_init t.d_Cloth_init ["self", "wheel", "lengths", "arrays", "tables", "lines", "outs"] (sp_initC t) := by
  have G_copied := ok_cop (P := P) (w := w) (base := base) T
  refine T.F_Cloth_init.ok sc_Cloth_init (fun vs H Q E h => ?_) (fun cdv A outer s H vs Q E hr h => ?_)
  · obtain ⟨p, dx, ld, ad, tl, lv, ol, wh, lk, ak, is, es, tb, os, xs, S, rfl, _⟩ := h
    rfl
  · obtain ⟨p, dx, ld, ad, tl, lv, ol, wh, lk, ak, is, es, tb, os, xs, S, rfl, hp, hld, il, ll, had, ar, les, les2, htl, ltb, hlv, lxs, hxs, hol, los, k⟩ := h
    have f1 : ∀ v : V, putF "lengths" v [("wheel", .int wh)] = ([("wheel", .int wh), ("lengths", v)] : List (Str × V)) := fun v => by rw [putF_ne (by decide +kernel), putF_nil]
    have f2 : ∀ u v : V, putF "arrays" v [("wheel", .int wh), ("lengths", u)] = ([("wheel", .int wh), ("lengths", u), ("arrays", v)] : List (Str × V)) := fun u v => by rw [putF_ne (by decide +kernel), putF_ne (by decide +kernel), putF_nil]
    have f3 : ∀ u1 u v : V, putF "tables" v [("wheel", .int wh), ("lengths", u1), ("arrays", u)] = ([("wheel", .int wh), ("lengths", u1), ("arrays", u), ("tables", v)] : List (Str × V)) := fun u1 u v => by rw [putF_ne (by decide +kernel), putF_ne (by decide +kernel), putF_ne (by decide +kernel), putF_nil]
    have f4 : ∀ u1 u2 u v : V, putF "lines" v [("wheel", .int wh), ("lengths", u1), ("arrays", u2), ("tables", u)] = ([("wheel", .int wh), ("lengths", u1), ("arrays", u2), ("tables", u), ("lines", v)] : List (Str × V)) := fun u1 u2 u v => by rw [putF_ne (by decide +kernel), putF_ne (by decide +kernel), putF_ne (by decide +kernel), putF_ne (by decide +kernel), putF_nil]
    have f5 : ∀ u1 u2 u3 u v : V, putF "outs" v [("wheel", .int wh), ("lengths", u1), ("arrays", u2), ("tables", u3), ("lines", u)] = ([("wheel", .int wh), ("lengths", u1), ("arrays", u2), ("tables", u3), ("lines", u), ("outs", v)] : List (Str × V)) := fun u1 u2 u3 u v => by rw [putF_ne (by decide +kernel), putF_ne (by decide +kernel), putF_ne (by decide +kernel), putF_ne (by decide +kernel), putF_ne (by decide +kernel), putF_nil]
    have np : ∀ {b : Addr} {u : HO}, H b = some u → (∀ C d fs, u ≠ .ins C d fs) → b ≠ p := fun e n z => by subst z; rw [hp] at e; cases e; exact n _ _ _ rfl
    have nn : ∀ {b : Addr}, H b = none → b ≠ p := fun e z => by subst z; rw [hp] at e; cases e
    refine ⟨_, (pss_cons (ps_fld (pv 0) (pv 1) rfl)
      (pss_cons (ps_fld (pv 0) (pe_call G_copied (hr.mono (by omega)) rfl T.m_copied T.F_copied.kp T.b_copied .nil pass0 (pa_cons (pv 2) pa_nil)) rfl)
      (pss_cons (ps_fld (pv 0) (pe_call G_copied (hr.mono (by omega)) rfl T.m_copied T.F_copied.kp T.b_copied .nil pass0 (pa_cons (pv 3) pa_nil)) rfl)
      (pss_cons (ps_fld (pv 0) (pe_call G_copied (hr.mono (by omega)) rfl T.m_copied T.F_copied.kp T.b_copied .nil pass0 (pa_cons (pv 4) pa_nil)) rfl)
      (pss_cons (ps_fld (pv 0) (pe_call G_copied (hr.mono (by omega)) rfl T.m_copied T.F_copied.kp T.b_copied .nil pass0 (pa_cons (pv 5) pa_nil)) rfl)
      (pss_one (ps_fld (pv 0) (pe_call G_copied (hr.mono (by omega)) rfl T.m_copied T.F_copied.kp T.b_copied .nil pass0 (pa_cons (pv 6) pa_nil)) rfl))))))), _, rfl, _, rfl, p, _, dx, [], rfl, hp, T.cl_Cloth, T.na_Cloth_wheel, (by decide), ?_⟩
    rw [putF_nil]
    obtain ⟨G0, hG0⟩ : ∃ G0, G0 = upd H p (.ins t.C_Cloth dx [("wheel", .int wh)]) := ⟨_, rfl⟩
    rw [← hG0]
    have p0 : G0 p = some (.ins t.C_Cloth dx [("wheel", .int wh)]) := by rw [hG0]; exact upd_same
    have k0 : KB p H G0 := by rw [hG0]; exact KB.refl.upd
    -- lengths
    refine ⟨_, rfl, .inr ⟨ld, lk, is.map PyData.int, rfl, k0 _ _ (np hld (by intros; intro z; cases z)) hld, by omega, ints_src il, fun l' lk' H1 hl' s1 h1 ks cp => ?_⟩⟩
    have ek := ints_of il ks cp
    subst ek
    have nl : H l' = none := k0.free p0 hl'
    refine ⟨_, rfl, p, _, dx, _, rfl, s1 _ _ p0, T.cl_Cloth, T.na_Cloth_lengths, (by show 1 < 1000; decide), ?_⟩
    rw [f1]
    obtain ⟨G1, hG1⟩ : ∃ G1, G1 = upd H1 p (.ins t.C_Cloth dx [("wheel", .int wh), ("lengths", .ref l')]) := ⟨_, rfl⟩
    rw [← hG1]
    have p1 : G1 p = some (.ins t.C_Cloth dx [("wheel", .int wh), ("lengths", .ref l')]) := by rw [hG1]; exact upd_same
    have k1 : KB p H G1 := by rw [hG1]; exact (k0.trans (KB.of s1)).upd
    have gl1 : G1 l' = some (.dK lk') := by rw [hG1, upd_ne (nn nl)]; exact h1
    -- arrays
    have ar1 : AR (fun b => S b) G1 ak es := ar.imp fun b ys z e => ⟨z, k1 _ _ (np e (by intros; intro z; cases z)) e⟩
    refine ⟨_, rfl, .inr ⟨ad, ak, _, rfl, k1 _ _ (np had (by intros; intro z; cases z)) had, by have := Paired.length ar; omega, ar1.src les2, fun a' ak' H2 ha' s2 h2 ks2 cp2 => ?_⟩⟩
    have arc := ar_of ar1 ks2 cp2
    have na : H a' = none := k1.free p1 ha'
    refine ⟨_, rfl, p, _, dx, _, rfl, s2 _ _ p1, T.cl_Cloth, T.na_Cloth_arrays, (by show 2 < 1000; decide), ?_⟩
    rw [f2]
    obtain ⟨G2, hG2⟩ : ∃ G2, G2 = upd H2 p (.ins t.C_Cloth dx [("wheel", .int wh), ("lengths", .ref l'), ("arrays", .ref a')]) := ⟨_, rfl⟩
    rw [← hG2]
    have p2 : G2 p = some (.ins t.C_Cloth dx [("wheel", .int wh), ("lengths", .ref l'), ("arrays", .ref a')]) := by rw [hG2]; exact upd_same
    have j2 : KB p G1 G2 := by rw [hG2]; exact (KB.of s2).upd
    have k2 := k1.trans j2
    have ga2 : G2 a' = some (.dK ak') := by rw [hG2, upd_ne (nn na)]; exact h2
    have ar2 : AR (fun b => H b = none) G2 ak' es := arc.imp fun b ys z e => ⟨k1.free p1 z, by rw [hG2, upd_ne (nn (k1.free p1 z))]; exact e⟩
    -- tables
    obtain ⟨c2, c3⟩ := encS_ok tb
    refine ⟨_, rfl, .inl (.inl ⟨.ref tl, encS tb, rfl, S_rep (k2 _ _ (np htl (by intros; intro z; cases z)) htl), by omega, by omega, fun vt H3 s3 rp3 => ?_⟩)⟩
    obtain ⟨t', rfl, et⟩ := rep_S rp3
    obtain ⟨ht1, et⟩ := restr_some et
    have nt : H t' = none := k2.free p2 ht1
    refine ⟨_, rfl, p, _, dx, _, rfl, s3 _ _ p2, T.cl_Cloth, T.na_Cloth_tables, (by show 3 < 1000; decide), ?_⟩
    rw [f3]
    obtain ⟨G3, hG3⟩ : ∃ G3, G3 = upd H3 p (.ins t.C_Cloth dx [("wheel", .int wh), ("lengths", .ref l'), ("arrays", .ref a'), ("tables", .ref t')]) := ⟨_, rfl⟩
    rw [← hG3]
    have p3 : G3 p = some (.ins t.C_Cloth dx [("wheel", .int wh), ("lengths", .ref l'), ("arrays", .ref a'), ("tables", .ref t')]) := by rw [hG3]; exact upd_same
    have j3 : KB p G2 G3 := by rw [hG3]; exact (KB.of s3).upd
    have k3 := k2.trans j3
    have gt3 : G3 t' = some (.lst (tb.map V.str)) := by rw [hG3, upd_ne (nn nt)]; exact et
    -- lines
    refine ⟨_, rfl, .inl (.inr ⟨lv, xs, rfl, k3 _ _ (np hlv (by intros; intro z; cases z)) hlv, lxs, fun x hx => ?_, fun v' H4 hv' s4 hv4 => ?_⟩)⟩
    · obtain ⟨b, db, fs, rfl, nb, eb⟩ := hxs x hx
      exact ⟨b, db, fs, rfl, k3 _ _ nb eb⟩
    have nv : H v' = none := k3.free p3 hv'
    refine ⟨_, rfl, p, _, dx, _, rfl, s4 _ _ p3, T.cl_Cloth, T.na_Cloth_lines, (by show 4 < 1000; decide), ?_⟩
    rw [f4]
    obtain ⟨G4, hG4⟩ : ∃ G4, G4 = upd H4 p (.ins t.C_Cloth dx [("wheel", .int wh), ("lengths", .ref l'), ("arrays", .ref a'), ("tables", .ref t'), ("lines", .ref v')]) := ⟨_, rfl⟩
    rw [← hG4]
    have p4 : G4 p = some (.ins t.C_Cloth dx [("wheel", .int wh), ("lengths", .ref l'), ("arrays", .ref a'), ("tables", .ref t'), ("lines", .ref v')]) := by rw [hG4]; exact upd_same
    have j4 : KB p G3 G4 := by rw [hG4]; exact (KB.of s4).upd
    have k4 := k3.trans j4
    have gv4 : G4 v' = some (.lst xs) := by rw [hG4, upd_ne (nn nv)]; exact hv4
    -- outs
    obtain ⟨o2, o3⟩ := encS_ok os
    refine ⟨_, rfl, .inl (.inl ⟨.ref ol, encS os, rfl, S_rep (k4 _ _ (np hol (by intros; intro z; cases z)) hol), by omega, by omega, fun vo H5 s5 rp5 => ?_⟩)⟩
    obtain ⟨o', rfl, eo⟩ := rep_S rp5
    obtain ⟨ho1, eo⟩ := restr_some eo
    have no : H o' = none := k4.free p4 ho1
    refine ⟨_, rfl, p, _, dx, _, rfl, s5 _ _ p4, T.cl_Cloth, T.na_Cloth_outs, (by show 5 < 1000; decide), ?_⟩
    show Q V.non (upd H5 p _)
    rw [f5]
    have j5 : KB p G4 (upd H5 p (clo t dx wh l' a' t' v' o')) := (KB.of s5).upd
    have up := fun {b : Addr} (hb : H b = none) {u : HO} (e : G4 b = some u) => j5 _ _ (nn hb) e
    exact k l' a' t' v' o' ak' _ upd_same nl (up nl (j4 _ _ (nn nl) (j3 _ _ (nn nl) (j2 _ _ (nn nl) gl1)))) na (up na (j4 _ _ (nn na) (j3 _ _ (nn na) ga2))) (ar2.imp fun b ys z e => ⟨z, up z (j4 _ _ (nn z) (j3 _ _ (nn z) e))⟩) nt (up nt (j4 _ _ (nn nt) gt3)) nv (up nv gv4) no (by rw [upd_ne (nn no)]; exact eo) (k4.trans j5)
theorem ok_lengths_along (T : Txt K mg t) : FnOk P w K mg base CX0 1 t.f_lengths_along t.d_lengths_along ["axes", "lengths"] sp_la := by
  refine T.F_lengths_along.ok sc_lengths_along (fun vs H Q E h => ?_) (fun cdv A outer s H vs Q E hr h => ?_)
  · obtain ⟨l, d, ys, lk, ls, rfl, _⟩ := h
    rfl
  · obtain ⟨l, d, ys, lk, ls, rfl, hl, hd, sz, ly, k⟩ := h
    have hu := hu_of hr
    have le := Paired.length sz
    refine ⟨_, (pss_one (ps_ret (pe_comp (N' := ["axis", "lengths"]) (ix := (List.replicate 1 none ++ [some 1])) rfl (clok_one (x := "lengths") rfl rfl rfl (by decide +kernel) (by decide +kernel)) (ixok_last (N0 := ["axis"]) rfl (Or.inl rfl) (by first | exact Or.inl rfl | exact Or.inr rfl | (simp [relabel]; rfl) | (with_unfolding_all exact Or.inl rfl) | (with_unfolding_all exact Or.inr rfl) | (with_unfolding_all decide))) (pi_list (pv 0)) (fun _ _ _ _ => (pg_name (i := 0) nd_comp_1 rfl (Or.inl rfl) (Or.inr rfl))) (fun _ _ _ _ => (pe_dget hu (pv 1) (pv 0) (fun _ _ => rfl)))))), ?_⟩
    refine ⟨_, rfl, l, rfl, ⟨_, SqL.of hl⟩, fun D hD => ?_⟩
    refine comp_listQ (K := K) (a := l) (D := D) (xs := ys.map V.str) (fun i zs H2 => Same H H2 ∧ H2 D = some (.lst zs) ∧ zs = (ls.take i).map V.int) ⟨same_new hD, upd_same, rfl⟩ (fun i zs H2 ⟨s2, _⟩ => SqL.of (s2 _ _ hl)) ?_ ?_
    · rintro i x zs H2 hx ⟨s2, hD2, rfl⟩
      obtain ⟨y, hy, rfl⟩ := get_map hx
      obtain ⟨n, hn, ev⟩ := pget sz hy
      have g := DGet.k (H := H2) (a := d) (k := Sum.inr y) (s2 _ _ hd)
      rw [ev] at g
      refine ⟨⟨rfl, True.intro⟩, _, rfl, _, rfl, d, _, rfl, g, hD2, line_lt (by simp; omega), same_fresh s2 hD, upd_same, ?_⟩
      rw [List.take_add_one, hn, Option.toList_some, List.map_append]
      rfl
    · rintro zs H2 ⟨s2, hD2, rfl⟩
      rw [List.length_map, le, List.take_length] at hD2
      exact k D H2 hD s2 hD2
end
end My

set_option Elab.async false
set_option linter.all false
set_option maxRecDepth 100000
set_option maxHeartbeats 4000000
namespace My
open PySem L2
local macro_rules | `(tactic| walk_at "lk") => `(tactic| first | with_reducible exact lk0 | (refine lk1 (by decide +kernel) ?_; walk_at "lk") | rfl)
/-! ### nests in the heap -/
mutual
def NdAt (H : Hp) : Nd → V → Prop
  | .deed n k w cs us, v => ∃ b c u, v = .ref b ∧ H b = some (.tup [.str "deed", .int n, .int k, .str w, .ref c, .ref u]) ∧ H c = some (.tup (cs.map V.int)) ∧ H u = some (.tup (us.map V.int))
  | .loop n sz wd out bd, v => ∃ b p xs, v = .ref b ∧ H b = some (.tup [.str "loop", .int n, .int sz, .int wd, .int out, .ref p]) ∧ H p = some (.tup xs) ∧ NdsAt H bd xs
def NdsAt (H : Hp) : List Nd → List V → Prop
  | [], vs => vs = []
  | x :: r, vs => ∃ v vr, vs = v :: vr ∧ NdAt H x v ∧ NdsAt H r vr
end
theorem nds_pair {H : Hp} : ∀ {l : List Nd} {vs : List V}, NdsAt H l vs ↔ Paired (fun v x => NdAt H x v) vs l
  | [], vs => by
    rw [NdsAt]
    constructor
    · rintro rfl; exact .nil
    · intro h; cases h; rfl
  | x :: r, vs => by
    rw [NdsAt]
    constructor
    · rintro ⟨v, vr, rfl, h1, h2⟩
      exact .cons h1 (nds_pair.mp h2)
    · intro h
      cases h with
      | cons a b => exact ⟨_, _, rfl, a, nds_pair.mpr b⟩
mutual
theorem NdAt.kt {H H' : Hp} (k : KT H H') : ∀ {x : Nd} {v : V}, NdAt H x v → NdAt H' x v
  | .deed n kk w cs us, v, h => by
    rw [NdAt] at h ⊢
    obtain ⟨b, c, u, e, h1, h2, h3⟩ := h
    exact ⟨b, c, u, e, k _ _ h1, k _ _ h2, k _ _ h3⟩
  | .loop n sz wd out bd, v, h => by
    rw [NdAt] at h ⊢
    obtain ⟨b, p, xs, e, h1, h2, h3⟩ := h
    exact ⟨b, p, xs, e, k _ _ h1, k _ _ h2, NdsAt.kt k h3⟩
theorem NdsAt.kt {H H' : Hp} (k : KT H H') : ∀ {l : List Nd} {vs : List V}, NdsAt H l vs → NdsAt H' l vs
  | [], vs, h => by rw [NdsAt] at h ⊢; exact h
  | x :: r, vs, h => by
    rw [NdsAt] at h ⊢
    obtain ⟨v, vr, e, h1, h2⟩ := h
    exact ⟨v, vr, e, NdAt.kt k h1, NdsAt.kt k h2⟩
end
theorem NdsAt.len {H : Hp} {l : List Nd} {vs : List V} (h : NdsAt H l vs) : vs.length = l.length := Paired.length (nds_pair.mp h)
/-! ### counts -/
def ci (kvs : List (Key × V)) (x : Int) : Int := match valV kvs (Sum.inl x) with | some (.int i) => i | _ => 0
theorem ci_put (kvs : List (Key × V)) (x : Int) (k : Int) : ci (putK kvs (Sum.inl x) (.int k)) = setN (ci kvs) x k := by
  funext y
  unfold ci setN
  rw [valV_put]
  by_cases h : y = x
  · subst h
    rw [if_pos rfl, if_pos rfl]
  · rw [if_neg (fun z => h (by injection z)), if_neg h]
mutual
theorem do_congrN : ∀ (x : Nd) (b : Rd) (f g : Int → Int), wbN b x → (∀ y s, (y, s) ∈ b → f y = g y) → doN x f = doN x g
  | .deed n k v cs us, b, f, g, wb, h => by
    rw [wbN] at wb
    rw [doN, doN]
    have e1 : cs.map f = cs.map g := List.map_congr_left fun x hx => by
      obtain ⟨s, hs⟩ := wb.1 x hx
      exact h x s hs
    have e2 : us.map f = us.map g := List.map_congr_left fun x hx => by
      obtain ⟨s, hs⟩ := wb.2.1 x hx
      exact h x s hs
    rw [e1, e2]
  | .loop n sz wd out bd, b, f, g, wb, h => by
    rw [wbN] at wb
    obtain ⟨hout, s1, s2, n0, nb, wbd, lbd⟩ := wb
    rw [doN, doN]
    have ec : cts sz wd out f = cts sz wd out g := by
      unfold cts
      by_cases ho : out = -1
      · rw [if_pos ho, if_pos ho]
      · obtain ⟨s, hs, _⟩ := hout.resolve_left ho
        rw [if_neg ho, if_neg ho, h out s hs]
    rw [ec]
    congr 1
    funext c
    refine do_congrL bd _ _ _ wbd fun y s hy => ?_
    unfold setN
    by_cases z : y = n
    · rw [if_pos z, if_pos z]
    · rw [if_neg z, if_neg z]
      rcases List.mem_cons.mp hy with hy | hy
      · injection hy with e1 e2
        exact absurd e1 z
      · exact h y s hy
theorem do_congrL : ∀ (l : List Nd) (b : Rd) (f g : Int → Int), wbL b l → (∀ y s, (y, s) ∈ b → f y = g y) → doL l f = doL l g
  | [], b, f, g, wb, h => by rw [doL, doL]
  | x :: r, b, f, g, wb, h => by
    rw [wbL] at wb
    rw [doL, doL, do_congrN x b f g wb.1 h, do_congrL r b f g wb.2 h]
end
/-- the keys of a dict are these numbers, each once -/
structure KeysIn (kvs : List (Key × V)) (KS : List Int) : Prop where
  nd : (kvs.map (·.1)).Nodup
  mem : ∀ p ∈ kvs, ∃ m ∈ KS, p.1 = Sum.inl m
theorem nodup_le {α : Type} [DecidableEq α] : ∀ {l m : List α}, l.Nodup → (∀ x ∈ l, x ∈ m) → l.length ≤ m.length
  | [], m, _, _ => Nat.zero_le _
  | x :: r, m, nd, h => by
    rw [List.nodup_cons] at nd
    have hx := h x (.head _)
    have := nodup_le (l := r) (m := m.erase x) nd.2 fun y hy => (List.mem_erase_of_ne (fun z => nd.1 (by rw [← z]; exact hy))).mpr (h y (.tail _ hy))
    rw [List.length_erase_of_mem hx] at this
    have : 0 < m.length := List.length_pos_of_mem hx
    rw [List.length_cons]
    omega
theorem KeysIn.len {kvs : List (Key × V)} {KS : List Int} (h : KeysIn kvs KS) : kvs.length ≤ KS.length := by
  have := nodup_le (l := kvs.map (·.1)) (m := KS.map (Sum.inl : Int → Key)) h.nd fun x hx => by
    obtain ⟨p, hp, rfl⟩ := List.mem_map.mp hx
    obtain ⟨m, hm, e⟩ := h.mem p hp
    rw [e]
    exact List.mem_map.mpr ⟨m, hm, rfl⟩
  rw [List.length_map, List.length_map] at this
  exact this
theorem KeysIn.put {kvs : List (Key × V)} {KS : List Int} (h : KeysIn kvs KS) {n : Int} (hn : n ∈ KS) (v : V) : KeysIn (putK kvs (Sum.inl n) v) KS := by
  unfold putK
  split
  · refine ⟨?_, fun p hp => ?_⟩
    · have : (kvs.map fun kv => if kv.1 = Sum.inl n then (kv.1, v) else kv).map (·.1) = kvs.map (·.1) := by
        rw [List.map_map]
        refine List.map_congr_left fun x _ => ?_
        show (if x.1 = Sum.inl n then (x.1, v) else x).1 = x.1
        split <;> rfl
      rw [this]
      exact h.nd
    · obtain ⟨q, hq, rfl⟩ := List.mem_map.mp hp
      obtain ⟨m, hm, e⟩ := h.mem q hq
      refine ⟨m, hm, ?_⟩
      split <;> exact e
  · rename_i ha
    refine ⟨?_, fun p hp => ?_⟩
    · rw [List.map_append, List.nodup_append]
      refine ⟨h.nd, by simp, fun a ha' b hb => ?_⟩
      have hb : b = Sum.inl n := by simpa using hb
      subst hb
      intro z
      subst z
      obtain ⟨q, hq, e⟩ := List.mem_map.mp ha'
      exact ha (List.any_eq_true.mpr ⟨q, hq, by simpa using e⟩)
    · rcases List.mem_append.mp hp with hp | hp
      · exact h.mem p hp
      · rw [List.mem_singleton.mp hp]; exact ⟨n, hn, rfl⟩
/-- all but two places stay -/
def K2 (x y : Addr) (H H' : Hp) : Prop := ∀ b o, b ≠ x → b ≠ y → H b = some o → H' b = some o
theorem K2.refl {x y : Addr} {H : Hp} : K2 x y H H := fun _ _ _ _ e => e
theorem K2.of {x y : Addr} {H H' : Hp} (s : Same H H') : K2 x y H H' := fun _ _ _ _ e => s _ _ e
theorem K2.trans {x y : Addr} {H H' H2 : Hp} (a : K2 x y H H') (b : K2 x y H' H2) : K2 x y H H2 := fun c o n m e => b c o n m (a c o n m e)
theorem K2.l {x y : Addr} {H : Hp} {o : HO} : K2 x y H (upd H x o) := fun b u n _ e => by rw [upd_ne n]; exact e
theorem K2.r {x y : Addr} {H : Hp} {o : HO} : K2 x y H (upd H y o) := fun b u _ n e => by rw [upd_ne n]; exact e
theorem K2.kt {x y : Addr} {H H' : Hp} {u w : HO} (k : K2 x y H H') (hx : H x = some u) (nx : ∀ xs, u ≠ .tup xs) (hy : H y = some w) (ny : ∀ xs, w ≠ .tup xs) : KT H H' := fun b xs e => k b _ (ne_of e hx (nx xs).symm) (ne_of e hy (ny xs).symm) e
/-- the counts are there -/
def HasB (kvs : List (Key × V)) (b : Rd) : Prop := ∀ x s, (x, s) ∈ b → valV kvs (Sum.inl x) = some (.int (ci kvs x)) ∧ 0 ≤ ci kvs x ∧ ci kvs x < s
theorem HasB.of {kvs kvs' : List (Key × V)} {b : Rd} (h : HasB kvs b) (e : ∀ x s, (x, s) ∈ b → valV kvs' (Sum.inl x) = valV kvs (Sum.inl x)) : HasB kvs' b := fun x s hx => by
  obtain ⟨h1, h2, h3⟩ := h x s hx
  have : ci kvs' x = ci kvs x := by unfold ci; rw [e x s hx]
  rw [this, e x s hx]
  exact ⟨h1, h2, h3⟩
structure Ask (H : Hp) (cd sl : Addr) (b : Rd) (KS : List Int) (kvs : List (Key × V)) (ys : List V) (c : Nat) : Prop where
  hc : H cd = some (.dK kvs)
  has : HasB kvs b
  hs : H sl = some (.lst ys)
  ks : KeysIn kvs KS
  b1 : KS.length ≤ 900000
  b2 : ys.length + c ≤ 900000
structure Done (H H' : Hp) (cd sl : Addr) (b : Rd) (KS : List Int) (kvs kvs' : List (Key × V)) (ys zs : List V) (os : List Stp) : Prop where
  hc : H' cd = some (.dK kvs')
  hs : H' sl = some (.lst (ys ++ zs))
  st : StsAt H' zs os
  same : ∀ x s, (x, s) ∈ b → valV kvs' (Sum.inl x) = valV kvs (Sum.inl x)
  ks : KeysIn kvs' KS
  kp : K2 cd sl H H'
def sp_body (d : Nat) : Sp := fun vs H Q _ => ∃ (p cd sl : Addr) (b : Rd) (xs : List V) (l : List Nd) (KS : List Int) (kvs : List (Key × V)) (ys : List V), vs = [.ref p, .ref cd, .ref sl] ∧ H p = some (.tup xs) ∧ NdsAt H l xs ∧ wbL b l ∧ dpL l ≤ d ∧ (∀ m ∈ nmL l, m ∈ KS) ∧ Ask H cd sl b KS kvs ys (doL l (ci kvs)).length ∧
  ∀ kvs' zs H', Done H H' cd sl b KS kvs kvs' ys zs (doL l (ci kvs)) → Q .non H'
def sp_loop (d : Nat) : Sp := fun vs H Q _ => ∃ (v : V) (cd sl : Addr) (n sz wd out : Int) (bd : List Nd) (b : Rd) (KS : List Int) (kvs : List (Key × V)) (ys : List V), vs = [v, .ref cd, .ref sl] ∧ NdAt H (.loop n sz wd out bd) v ∧ wbN b (.loop n sz wd out bd) ∧ dpL bd ≤ d ∧ (∀ m ∈ nmN (.loop n sz wd out bd), m ∈ KS) ∧ Ask H cd sl b KS kvs ys (doN (.loop n sz wd out bd) (ci kvs)).length ∧
  ∀ kvs' zs H', Done H H' cd sl b KS kvs kvs' ys zs (doN (.loop n sz wd out bd) (ci kvs)) → Q .non H'
def sp_isl : Sp := fun vs H Q _ => ∃ (b : Addr) (x : Str) (xs : List V), vs = [.ref b] ∧ H b = some (.tup (.str x :: xs)) ∧ Q (.bl (decide (V.str x = V.str "loop"))) H
def sp_cof : Sp := fun vs H Q _ => ∃ (sz wd out : Int) (cd : Addr) (b : Rd) (kvs : List (Key × V)), vs = [.int sz, .int wd, .int out, .ref cd] ∧ H cd = some (.dK kvs) ∧ HasB kvs b ∧ (out = -1 ∨ ∃ s, (out, s) ∈ b ∧ (s - 1) * wd < sz ∧ 1 ≤ wd) ∧ 1 ≤ sz ∧ sz ≤ 60 ∧ ∀ D, H D = none → Q (.ref D) (upd H D (.lst ((cts sz wd out (ci kvs)).map V.int)))
def sp_cat : Sp := fun vs H Q _ => ∃ (c cd : Addr) (cs : List Int) (kvs : List (Key × V)), vs = [.ref c, .ref cd] ∧ H c = some (.tup (cs.map V.int)) ∧ cs.length ≤ 100 ∧ H cd = some (.dK kvs) ∧ (∀ x ∈ cs, valV kvs (Sum.inl x) = some (.int (ci kvs x))) ∧ ∀ (q : Addr) (H' : Hp), H q = none → Same H H' → H' q = some (.tup ((cs.map (ci kvs)).map V.int)) → Q (.ref q) H'
def sp_sof : Sp := fun vs H Q _ => ∃ (b c u cd : Addr) (n k : Int) (w : Str) (cs us : List Int) (kvs : List (Key × V)), vs = [.ref b, .ref cd] ∧ H b = some (.tup [.str "deed", .int n, .int k, .str w, .ref c, .ref u]) ∧ H c = some (.tup (cs.map V.int)) ∧ H u = some (.tup (us.map V.int)) ∧ cs.length ≤ 100 ∧ us.length ≤ 100 ∧ H cd = some (.dK kvs) ∧ (∀ x ∈ cs, valV kvs (Sum.inl x) = some (.int (ci kvs x))) ∧ (∀ x ∈ us, valV kvs (Sum.inl x) = some (.int (ci kvs x))) ∧
  ∀ (v : V) (H' : Hp), Same H H' → StAt H' v (k, w, cs.map (ci kvs), us.map (ci kvs)) → Q v H'
section
variable {P : Program} {w : World} {K : PySem.W.Frag} {mg : Str → Option Value} {base : Heap} {t : Adr}
theorem ok_is_loop (T : Txt K mg t) : FnOk P w K mg base CX0 1 t.f_is_loop t.d_is_loop ["node"] sp_isl := by
  refine T.F_is_loop.ok sc_is_loop (fun vs H Q E h => ?_) (fun cdv A outer s H vs Q E hr h => ?_)
  · obtain ⟨b, x, xs, rfl, _⟩ := h
    rfl
  · obtain ⟨b, x, xs, rfl, hb, k⟩ := h
    exact ⟨_, (pss_one (ps_ret (pe_cmpR op_eq (pe_ix ix_tup (pv 0) pe_int (fun _ _ => rfl)) pe_str (nomark _)))), _, rfl, b, _, _, _, rfl, rfl, SqT.of hb, atI_nat (j := 0) rfl, rfl, k⟩
theorem ok_counts_of (T : Txt K mg t) : FnOk P w K mg base CX0 1 t.f_counts_of t.d_counts_of ["size", "width", "outer", "counts"] sp_cof := by
  refine T.F_counts_of.ok sc_counts_of (fun vs H Q E h => ?_) (fun cdv A outer s H vs Q E hr h => ?_)
  · obtain ⟨sz, wd, out, cd, b, kvs, rfl, _⟩ := h
    rfl
  · obtain ⟨sz, wd, out, cd, b, kvs, rfl, hcd, has, hout, z1, z60, k⟩ := h
    have hu := hu_of hr
    refine ⟨_, (pss_cons (ps_if (pt_cmpR op_eq (pv 2) (pe_globE T.cn_NO_OUTER rfl) (nomark _))
        (pss_one (ps_ret (pe_listrange1 rfl (by rfl) T.z_list (by rfl) T.z_range (pa_cons (pv 0) pa_nil))))
        pss_nil)
      (pss_cons (ps_set (i := 4) sc_counts_of.nd rfl (Or.inl rfl) (pe_op op_mul (pe_dget hu (pv 3) (pv 2) (fun _ _ => rfl)) (pv 1)))
      (pss_one (ps_ret (pe_listrange2 rfl (by rfl) T.z_list (by rfl) T.z_range (pa_cons (pv 4) (pa_cons (pe_callB (call_min2 rfl) (by rfl) T.z_min PyProof.Rows.boot_min (pa_cons (pe_op op_add (pv 4) (pv 1)) (pa_cons (pv 0) pa_nil))) pa_nil))))))), ?_⟩
    refine ⟨_, rfl, rfl, _, rfl, iteD (fun ho => ?_) (fun ho => ?_)⟩
    · have ho : out = -1 := by injection ho
      refine ⟨_, rfl, _, rfl, by omega, by omega, fun D hD => ?_⟩
      have := k D hD
      unfold cts at this
      rw [if_pos ho] at this
      have e : (iv 0 sz).map V.int = (List.range sz.toNat).map fun (k : Nat) => V.int (k : Int) := by
        unfold iv
        rw [List.map_map, Int.sub_zero]
        refine List.map_congr_left fun i _ => ?_
        show V.int (0 + (i : Int)) = _
        rw [Int.zero_add]
      rw [e] at this
      exact this
    · have ho : out ≠ -1 := fun z => ho (by rw [z])
      obtain ⟨s0, hs, hlt, wd1⟩ := hout.resolve_left ho
      obtain ⟨hv, c0, c1⟩ := has out s0 hs
      have g := DGet.k (H := H) (a := cd) (k := Sum.inl out) hcd
      rw [hv] at g
      have m1 : ci kvs out * wd ≤ (s0 - 1) * wd := Int.mul_le_mul_of_nonneg_right (by omega) (by omega)
      have m0 : 0 ≤ ci kvs out * wd := Int.mul_nonneg c0 (by omega)
      have big : ci kvs out ≤ 60 := by
        have : ci kvs out * 1 ≤ ci kvs out * wd := Int.mul_le_mul_of_nonneg_left wd1 c0
        omega
      refine ⟨_, rfl, _, rfl, cd, _, rfl, g, _, rfl, _, _, rfl, rfl, .inl ⟨by omega, by omega⟩, ?_⟩
      have fin : ∀ hi : Int, hi = min (ci kvs out * wd + wd) sz → ∀ D, H D = none → Q (.ref D) (upd H D (.lst ((List.range (hi - ci kvs out * wd).toNat).map fun (k : Nat) => V.int (ci kvs out * wd + k)))) := fun hi e D hD => by
        have := k D hD
        unfold cts at this
        rw [if_neg ho, ← e] at this
        unfold iv at this
        rw [List.map_map] at this
        exact this
      refine ⟨_, rfl, _, rfl, _, rfl, _, _, rfl, rfl, _, rfl, _, _, rfl, ci kvs out * wd, _, rfl, ?_, fun D hD => fin _ ?_ D hD⟩
      · show -(2 ^ 62) ≤ ci kvs out * wd ∧ ci kvs out * wd < 2 ^ 62 ∧ -(2 ^ 62) ≤ (if sz < ci kvs out * wd + wd then sz else ci kvs out * wd + wd) ∧ (if sz < ci kvs out * wd + wd then sz else ci kvs out * wd + wd) < 2 ^ 62 ∧ (if sz < ci kvs out * wd + wd then sz else ci kvs out * wd + wd) - ci kvs out * wd ≤ 1000000
        split <;> refine ⟨by omega, by omega, by omega, by omega, by omega⟩
      · show (if sz < ci kvs out * wd + wd then sz else ci kvs out * wd + wd) = _
        split <;> omega
theorem ok_counts_at (T : Txt K mg t) : FnOk P w K mg base CX0 1 t.f_counts_at t.d_counts_at ["numbers", "counts"] sp_cat := by
  refine T.F_counts_at.ok sc_counts_at (fun vs H Q E h => ?_) (fun cdv A outer s H vs Q E hr h => ?_)
  · obtain ⟨c, cd, cs, kvs, rfl, _⟩ := h
    rfl
  · obtain ⟨c, cd, cs, kvs, rfl, hc, lc, hcd, has, k⟩ := h
    have hu := hu_of hr
    refine ⟨_, (pss_one (ps_ret (pe_callTy call_tuple_of (by rfl) T.z_tuple PyProof.Rows.boot_tuple (pa_cons (pe_comp (N' := ["number", "counts"]) (ix := (List.replicate 1 none ++ [some 1])) rfl (clok_one (x := "counts") rfl rfl rfl (by decide +kernel) (by decide +kernel)) (ixok_last (N0 := ["number"]) rfl (Or.inl rfl) (by first | exact Or.inl rfl | exact Or.inr rfl | (simp [relabel]; rfl) | (with_unfolding_all exact Or.inl rfl) | (with_unfolding_all exact Or.inr rfl) | (with_unfolding_all decide))) (pi_tup (pv 0)) (fun _ _ _ _ => (pg_name (i := 0) nd_comp_4 rfl (Or.inl rfl) (Or.inr rfl))) (fun _ _ _ _ => (pe_dget hu (pv 1) (pv 0) (fun _ _ => rfl)))) pa_nil)))), ?_⟩
    refine ⟨_, rfl, c, rfl, ⟨_, SqT.of hc⟩, fun D hD => ?_⟩
    refine comp_tupQ (K := K) (a := c) (D := D) (xs := cs.map V.int) (fun i ys H2 => Same H H2 ∧ H2 D = some (.lst ys) ∧ ys = ((cs.take i).map (ci kvs)).map V.int) ⟨same_new hD, upd_same, rfl⟩ (fun i ys H2 ⟨s2, _⟩ => SqT.of (s2 _ _ hc)) ?_ ?_
    · rintro i x ys H2 hx ⟨s2, hD2, rfl⟩
      obtain ⟨z, hz, rfl⟩ := get_map hx
      have g := DGet.k (H := H2) (a := cd) (k := Sum.inl z) (s2 _ _ hcd)
      rw [has z (List.mem_of_getElem? hz)] at g
      have hi : i < cs.length := (List.getElem?_eq_some_iff.mp hz).1
      refine ⟨⟨rfl, True.intro⟩, _, rfl, _, rfl, cd, _, rfl, g, hD2, line_lt (by simp; omega), same_fresh s2 hD, upd_same, ?_⟩
      rw [List.take_add_one, hz, Option.toList_some, List.map_append, List.map_append]
      rfl
    · rintro ys H2 ⟨s2, hD2, rfl⟩
      rw [List.length_map, List.take_length] at hD2
      exact ⟨D, _, rfl, .inl ⟨SqL.of hD2, fun p hp => k p _ (s2.free hp) (s2.trans (same_new hp)) upd_same⟩⟩
theorem ok_step_of (T : Txt K mg t) : FnOk P w K mg base CX0 2 t.f_step_of t.d_step_of ["deed", "counts"] sp_sof := by
  have G_counts_at := ok_counts_at (P := P) (w := w) (base := base) T
  refine T.F_step_of.ok sc_step_of (fun vs H Q E h => ?_) (fun cdv A outer s H vs Q E hr h => ?_)
  · obtain ⟨b, c, u, cd, n, k, w, cs, us, kvs, rfl, _⟩ := h
    rfl
  · obtain ⟨b, c, u, cd, n, k, w, cs, us, kvs, rfl, hb, hc, hu', lc, lu, hcd, h1, h2, q⟩ := h
    refine ⟨_, (pss_cons (ps_asg (pv 0) (pg_tup (n := 6) rfl (pgs_cons (pg_name (i := 2) sc_step_of.nd rfl (Or.inl rfl) (Or.inl rfl)) (pgs_cons (pg_name (i := 3) sc_step_of.nd rfl (Or.inl rfl) (Or.inl rfl)) (pgs_cons (pg_name (i := 4) sc_step_of.nd rfl (Or.inl rfl) (Or.inl rfl)) (pgs_cons (pg_name (i := 5) sc_step_of.nd rfl (Or.inl rfl) (Or.inl rfl)) (pgs_cons (pg_name (i := 6) sc_step_of.nd rfl (Or.inl rfl) (Or.inl rfl)) (pgs_cons (pg_name (i := 7) sc_step_of.nd rfl (Or.inl rfl) (Or.inl rfl)) pgs_nil))))))))
      (pss_one (ps_ret (pe_tup (pa_cons (pv 4) (pa_cons (pv 5) (pa_cons (pe_call G_counts_at (hr.mono (by omega)) rfl T.m_counts_at T.F_counts_at.kp T.b_counts_at .nil pass0 (pa_cons (pv 6) (pa_cons (pv 1) pa_nil))) (pa_cons (pe_call G_counts_at (hr.mono (by omega)) rfl T.m_counts_at T.F_counts_at.kp T.b_counts_at .nil pass0 (pa_cons (pv 7) (pa_cons (pv 1) pa_nil))) pa_nil)))))))), ?_⟩
    refine ⟨_, rfl, b, _, rfl, SqT.of hb, rfl, _, _, rfl, _, _, rfl, _, _, rfl, _, _, rfl, _, _, rfl, _, _, rfl, rfl, ?_⟩
    refine ⟨_, rfl, _, rfl, _, rfl, _, rfl, c, cd, cs, kvs, rfl, hc, lc, hcd, h1, fun q1 H1 hq1 s1 e1 => ?_⟩
    refine ⟨_, rfl, _, rfl, u, cd, us, kvs, rfl, s1 _ _ hu', lu, s1 _ _ hcd, h2, fun q2 H2 hq2 s2 e2 => ?_⟩
    refine ⟨line_le (by simp), fun r hr0 => ?_⟩
    have s3 : Same H2 (upd H2 r (.tup [.int k, .str w, .ref q1, .ref q2])) := same_new hr0
    exact q _ _ (s1.trans (s2.trans s3)) ⟨r, q1, q2, rfl, upd_same, s3 _ _ (s2 _ _ e1), s3 _ _ e2⟩
theorem body_step (T : Txt K mg t) {m d : Nat} {sp' : Sp} (G_do_loop : FnOk P w K mg base CX0 (m + 2) t.f_do_loop t.d_do_loop ["loop", "counts", "steps"] sp')
    (hs : ∀ (v : V) (b : Rd) (n sz wd out : Int) (bd : List Nd) (cd sl : Addr) (KS : List Int) (kvs : List (Key × V)) (ys : List V) (H : Hp) (Q : VK), NdAt H (.loop n sz wd out bd) v → wbN b (.loop n sz wd out bd) → dpN (.loop n sz wd out bd) ≤ d → (∀ m ∈ nmN (.loop n sz wd out bd), m ∈ KS) → Ask H cd sl b KS kvs ys (doN (.loop n sz wd out bd) (ci kvs)).length → (∀ kvs' zs H', Done H H' cd sl b KS kvs kvs' ys zs (doN (.loop n sz wd out bd) (ci kvs)) → Q .non H') → sp' [v, .ref cd, .ref sl] H Q E0) :
    FnOk P w K mg base CX0 (m + 3) t.f_do_body t.d_do_body ["body", "counts", "steps"] (sp_body d) := by
  have G_is_loop := ok_is_loop (P := P) (w := w) (base := base) T
  have G_step_of := ok_step_of (P := P) (w := w) (base := base) T
  refine T.F_do_body.ok sc_do_body (fun vs H Q E h => ?_) (fun cdv A outer s H vs Q E hr h => ?_)
  · obtain ⟨p, cd, sl, b, xs, l, KS, kvs, ys, rfl, _⟩ := h
    rfl
  · obtain ⟨p, cd, sl, b, xs, l, KS, kvs, ys, rfl, hp, nds, wb, dp, nm, ask, k⟩ := h
    have hcs : cd ≠ sl := ne_of ask.hc ask.hs (by intro z; cases z)
    have lx := nds.len
    have prs := nds_pair.mp nds
    refine ⟨_, (pss_one (ps_for PassesOwn.never rfl (pi_tup (pv 0)) (pg_name (i := 3) sc_do_body.nd rfl (Or.inl rfl) (Or.inl rfl))
        (pss_one (ps_if (pt_val (pe_call G_is_loop (hr.mono (by omega)) rfl T.m_is_loop T.F_is_loop.kp T.b_is_loop .nil pass0 (pa_cons (pv 3) pa_nil)))
          (pss_one (ps_expr (pe_call G_do_loop (hr.mono (by omega)) rfl T.m_do_loop T.F_do_loop.kp T.b_do_loop .nil pass0 (pa_cons (pv 3) (pa_cons (pv 1) (pa_cons (pv 2) pa_nil))))))
          (pss_one (ps_expr (pe_bm PySem.F.plainAttrs_list PySem.F.slot_list_append PySem.F.type_list_append mt_append (pv 2) (pa_cons (pe_call G_step_of (hr.mono (by omega)) rfl T.m_step_of T.F_step_of.kp T.b_step_of .nil pass0 (pa_cons (pv 3) (pa_cons (pv 1) pa_nil))) pa_nil)))))))), ?_⟩
    refine ⟨_, rfl, p, rfl, ⟨_, SqT.of hp⟩, ?_⟩
    refine for_tup (K := K) (a := p) (xs := xs) (fun i σ H2 => ∃ (o3 : Option V) (kvs2 : List (Key × V)) (zs : List V), σ = [some (.ref p), some (.ref cd), some (.ref sl), o3] ∧ Done H H2 cd sl b KS kvs kvs2 ys zs (doL (l.take i) (ci kvs)))
      ⟨none, kvs, [], rfl, ask.hc, by rw [List.append_nil]; exact ask.hs, by rw [List.take_zero, doL]; exact .nil, fun _ _ _ => rfl, ask.ks, K2.refl⟩ (fun i σ H2 _ ⟨_, _, _, _, D⟩ => SqT.of ((D.kp.kt ask.hc (by intro xs z; cases z) ask.hs (by intro xs z; cases z)) _ _ hp)) ?_ ?_
    · rintro i x σ H2 hx ⟨o3, kvs2, zs, rfl, D⟩
      obtain ⟨nd, he, na⟩ := pget prs hx
      have kt := D.kp.kt ask.hc (by intro xs z; cases z) ask.hs (by intro xs z; cases z)
      have na2 : NdAt H2 nd x := NdAt.kt kt na
      have mem := List.mem_of_getElem? he
      have wbx := wbL_mem wb nd mem
      have st : doL (l.take (i + 1)) (ci kvs) = doL (l.take i) (ci kvs) ++ doN nd (ci kvs) := by rw [List.take_add_one, he, Option.toList_some, doL_app, doL, doL, List.append_nil]
      have whole : doL l (ci kvs) = doL (l.take (i + 1)) (ci kvs) ++ doL (l.drop (i + 1)) (ci kvs) := by rw [← doL_app, List.take_append_drop]
      have lw := congrArg List.length whole
      have ls := congrArg List.length st
      rw [List.length_append] at lw ls
      have lz := Paired.length D.st
      have b2 := ask.b2
      have has2 : HasB kvs2 b := ask.has.of D.same
      have eq : doN nd (ci kvs2) = doN nd (ci kvs) := do_congrN nd b _ _ wbx fun y s hy => by unfold ci; rw [D.same y s hy]
      have ask2 : Ask H2 cd sl b KS kvs2 (ys ++ zs) (doN nd (ci kvs2)).length := ⟨D.hc, has2, D.hs, D.ks, ask.b1, by rw [List.length_append, eq]; omega⟩
      have join : ∀ kvs' zs' H3, Done H2 H3 cd sl b KS kvs2 kvs' (ys ++ zs) zs' (doN nd (ci kvs2)) → Done H H3 cd sl b KS kvs kvs' ys (zs ++ zs') (doL (l.take (i + 1)) (ci kvs)) := fun kvs' zs' H3 D3 => by
        refine ⟨D3.hc, by rw [← List.append_assoc]; exact D3.hs, ?_, fun x s hx => (D3.same x s hx).trans (D.same x s hx), D3.ks, D.kp.trans D3.kp⟩
        rw [st, ← eq]
        exact papp (D.st.kt (D3.kp.kt D.hc (by intro xs z; cases z) D.hs (by intro xs z; cases z))) D3.st
      cases nd with
      | deed n kk w cs us =>
        rw [NdAt] at na2
        obtain ⟨bb, c, u, rfl, hb, hc, hu'⟩ := na2
        rw [wbN] at wbx
        obtain ⟨m1, m2, l1, l2⟩ := wbx
        refine ⟨_, rfl, bb, _, _, rfl, hb, _, rfl, iteNo (by decide +kernel) ?_⟩
        refine ⟨_, rfl, .inl ⟨rfl, _, SqL.of D.hs⟩, _, rfl, _, rfl, bb, c, u, cd, n, kk, w, cs, us, kvs2, rfl, hb, hc, hu', l1, l2, D.hc, (fun x hx => let ⟨s, hs⟩ := m1 x hx; (has2 x s hs).1), (fun x hx => let ⟨s, hs⟩ := m2 x hx; (has2 x s hs).1), fun v H3 s3 sv => ?_⟩
        have l1' : (doN (.deed n kk w cs us) (ci kvs)).length = 1 := by rw [doN]; rfl
        refine ⟨sl, _, _, rfl, rfl, s3 _ _ D.hs, line_lt (by rw [List.length_append]; omega), ?_⟩
        have kL : KT H3 (upd H3 sl (.lst (ys ++ zs ++ [v]))) := KT.at (s3 _ _ D.hs) (by intro xs z; cases z)
        refine ⟨_, kvs2, zs ++ [v], rfl, join kvs2 [v] _ ⟨?_, upd_same, ?_, fun _ _ _ => rfl, D.ks, (K2.of s3).trans K2.r⟩⟩
        · rw [upd_ne hcs]
          exact s3 _ _ D.hc
        · rw [doN]
          exact .cons (sv.kt kL) .nil
      | loop n sz wd out bd =>
        have na3 := na2
        rw [NdAt] at na2
        obtain ⟨bb, pp, xs', rfl, hb, hpp, _⟩ := na2
        refine ⟨_, rfl, bb, _, _, rfl, hb, _, rfl, iteYes rfl ?_⟩
        have dpx : dpN (.loop n sz wd out bd) ≤ d := by
          have e1 := cut_at he
          have : dpL l = max (dpL (l.take i)) (max (dpN (.loop n sz wd out bd)) (dpL (l.drop (i + 1)))) := by rw [← dpL_mid, ← e1]
          omega
        have nmx : ∀ m ∈ nmN (.loop n sz wd out bd), m ∈ KS := fun m hm => nm m (by
          rw [cut_at he, nmL_mid]
          exact List.mem_append_right _ (List.mem_append_left _ hm))
        exact ⟨_, rfl, _, rfl, _, rfl, hs _ b n sz wd out bd cd sl KS kvs2 (ys ++ zs) H2 _ na3 wbx dpx nmx ask2 fun kvs' zs' H3 D3 => ⟨_, kvs', zs ++ zs', rfl, join kvs' zs' H3 D3⟩⟩
    · rintro σ H2 ⟨o3, kvs2, zs, rfl, D⟩
      rw [lx, List.take_length] at D
      exact k kvs2 zs H2 D
theorem ok_loop (T : Txt K mg t) {m d : Nat} (G_do_body : FnOk P w K mg base CX0 (m + 1) t.f_do_body t.d_do_body ["body", "counts", "steps"] (sp_body d)) : FnOk P w K mg base CX0 (m + 2) t.f_do_loop t.d_do_loop ["loop", "counts", "steps"] (sp_loop d) := by
  have G_counts_of := ok_counts_of (P := P) (w := w) (base := base) T
  refine T.F_do_loop.ok sc_do_loop (fun vs H Q E h => ?_) (fun cdv A outer s H vs Q E hr h => ?_)
  · obtain ⟨v, cd, sl, n, sz, wd, out, bd, b, KS, kvs, ys, rfl, _⟩ := h
    rfl
  · obtain ⟨v, cd, sl, n, sz, wd, out, bd, b, KS, kvs, ys, rfl, na, wb, dp, nm, ask, k⟩ := h
    have hu := hu_of hr
    have hcs : cd ≠ sl := ne_of ask.hc ask.hs (by intro z; cases z)
    rw [NdAt] at na
    obtain ⟨bb, p, xs, rfl, hb, hp, nds⟩ := na
    rw [wbN] at wb
    obtain ⟨hout, z1, z60, n0, nb, wbd, lbd⟩ := wb
    rw [nmN] at nm
    rw [doN] at ask k
    refine ⟨_, (pss_cons (ps_asg (pv 0) (pg_tup (n := 6) rfl (pgs_cons (pg_name (i := 3) sc_do_loop.nd rfl (Or.inl rfl) (Or.inl rfl)) (pgs_cons (pg_name (i := 4) sc_do_loop.nd rfl (Or.inl rfl) (Or.inl rfl)) (pgs_cons (pg_name (i := 5) sc_do_loop.nd rfl (Or.inl rfl) (Or.inl rfl)) (pgs_cons (pg_name (i := 6) sc_do_loop.nd rfl (Or.inl rfl) (Or.inl rfl)) (pgs_cons (pg_name (i := 7) sc_do_loop.nd rfl (Or.inl rfl) (Or.inl rfl)) (pgs_cons (pg_name (i := 8) sc_do_loop.nd rfl (Or.inl rfl) (Or.inl rfl)) pgs_nil))))))))
      (pss_one (ps_for PassesOwn.never rfl (pi_list (pe_call G_counts_of (hr.mono (by omega)) rfl T.m_counts_of T.F_counts_of.kp T.b_counts_of .nil pass0 (pa_cons (pv 5) (pa_cons (pv 6) (pa_cons (pv 7) (pa_cons (pv 1) pa_nil)))))) (pg_name (i := 9) sc_do_loop.nd rfl (Or.inl rfl) (Or.inl rfl))
        (pss_cons (ps_dput hu (pv 1) (pv 4) (pv 9) rfl)
        (pss_one (ps_expr (pe_call G_do_body (hr.mono (by omega)) rfl T.m_do_body T.F_do_body.kp T.b_do_body .nil pass0 (pa_cons (pv 8) (pa_cons (pv 1) (pa_cons (pv 2) pa_nil)))))))))), ?_⟩
    refine ⟨_, rfl, bb, _, rfl, SqT.of hb, rfl, _, _, rfl, _, _, rfl, _, _, rfl, _, _, rfl, _, _, rfl, _, _, rfl, rfl, ?_⟩
    refine ⟨_, rfl, _, rfl, _, rfl, _, rfl, sz, wd, out, cd, b, kvs, rfl, ask.hc, ask.has, hout, z1, z60, fun L hL => ⟨L, rfl, ⟨_, SqL.of upd_same⟩, ?_⟩⟩
    obtain ⟨cl, ecl⟩ : ∃ cl, cl = cts sz wd out (ci kvs) := ⟨_, rfl⟩
    have inC : ∀ c ∈ cl, 0 ≤ c ∧ c < sz := fun c hc => by
      rw [ecl] at hc
      unfold cts at hc
      by_cases ho : out = -1
      · rw [if_pos ho] at hc
        exact mem_iv.mp hc
      · rw [if_neg ho] at hc
        obtain ⟨s0, hs, hlt, wd1⟩ := hout.resolve_left ho
        obtain ⟨_, c0, _⟩ := ask.has out s0 hs
        have m0 : 0 ≤ ci kvs out * wd := Int.mul_nonneg c0 (by omega)
        have := mem_iv.mp hc
        omega
    rw [← ecl] at ask k ⊢
    have s0 : Same H (upd H L (.lst (cl.map V.int))) := same_new hL
    have hL0 : upd H L (.lst (cl.map V.int)) L = some (.lst (cl.map V.int)) := upd_same
    generalize upd H L (.lst (cl.map V.int)) = G at s0 hL0 ⊢
    have Lc : L ≠ cd := fun z => by rw [z, ask.hc] at hL; cases hL
    have Ls : L ≠ sl := fun z => by rw [z, ask.hs] at hL; cases hL
    have b2 := ask.b2
    refine for_list (K := K) (a := L) (xs := cl.map V.int) (fun i σ H2 => ∃ (o9 : Option V) (kvs2 : List (Key × V)) (zs : List V), σ = [some (.ref bb), some (.ref cd), some (.ref sl), some (.str "loop"), some (.int n), some (.int sz), some (.int wd), some (.int out), some (.ref p), o9] ∧ Done H H2 cd sl b KS kvs kvs2 ys zs ((cl.take i).flatMap fun c => doL bd (setN (ci kvs) n c)) ∧ H2 L = some (.lst (cl.map V.int)))
      ⟨none, kvs, [], rfl, ⟨s0 _ _ ask.hc, by rw [List.append_nil]; exact s0 _ _ ask.hs, by rw [List.take_zero]; exact .nil, fun _ _ _ => rfl, ask.ks, K2.of s0⟩, hL0⟩ (fun i σ H2 _ ⟨_, _, _, _, _, hl⟩ => SqL.of hl) ?_ ?_
    · rintro i x σ H2 hx ⟨o9, kvs2, zs, rfl, D, hL2⟩
      obtain ⟨c, hc, rfl⟩ := get_map hx
      have hcb := inC c (List.mem_of_getElem? hc)
      have kt := D.kp.kt ask.hc (by intro xs z; cases z) ask.hs (by intro xs z; cases z)
      have lz := Paired.length D.st
      have st : ((cl.take (i + 1)).flatMap fun c => doL bd (setN (ci kvs) n c)) = ((cl.take i).flatMap fun c => doL bd (setN (ci kvs) n c)) ++ doL bd (setN (ci kvs) n c) := by rw [List.take_add_one, hc, Option.toList_some, List.flatMap_append, List.flatMap_singleton]
      have whole : (cl.flatMap fun c => doL bd (setN (ci kvs) n c)) = ((cl.take (i + 1)).flatMap fun c => doL bd (setN (ci kvs) n c)) ++ ((cl.drop (i + 1)).flatMap fun c => doL bd (setN (ci kvs) n c)) := by rw [← List.flatMap_append, List.take_append_drop]
      have lw := congrArg List.length whole
      have ls := congrArg List.length st
      rw [List.length_append] at lw ls
      have kl := D.ks.len
      have b1 := ask.b1
      refine ⟨_, rfl, _, rfl, _, rfl, cd, _, rfl, DPut.k (k := Sum.inl n) D.hc (line_lt (by omega)), ?_⟩
      have hc3 : upd H2 cd (.dK (putK kvs2 (Sum.inl n) (.int c))) cd = some (.dK (putK kvs2 (Sum.inl n) (.int c))) := upd_same
      have k3 : K2 cd sl H2 (upd H2 cd (.dK (putK kvs2 (Sum.inl n) (.int c)))) := K2.l
      have hs3 : upd H2 cd (.dK (putK kvs2 (Sum.inl n) (.int c))) sl = some (.lst (ys ++ zs)) := by rw [upd_ne hcs.symm]; exact D.hs
      have hL3 : upd H2 cd (.dK (putK kvs2 (Sum.inl n) (.int c))) L = some (.lst (cl.map V.int)) := by rw [upd_ne Lc]; exact hL2
      have kt3 : KT H2 (upd H2 cd (.dK (putK kvs2 (Sum.inl n) (.int c)))) := KT.at D.hc (by intro xs z; cases z)
      generalize upd H2 cd (.dK (putK kvs2 (Sum.inl n) (.int c))) = H3 at hc3 k3 hs3 hL3 kt3 ⊢
      have has2 := ask.has.of D.same
      have has3 : HasB (putK kvs2 (Sum.inl n) (.int c)) ((n, sz) :: b) := fun x s hx => by
        rw [ci_put, valV_put]
        unfold setN
        by_cases z : x = n
        · subst z
          rcases List.mem_cons.mp hx with hx | hx
          · cases hx
            rw [if_pos rfl, if_pos rfl]
            exact ⟨rfl, hcb.1, hcb.2⟩
          · exact absurd hx (nb s)
        · rw [if_neg (fun y => z (by injection y)), if_neg z]
          rcases List.mem_cons.mp hx with hx | hx
          · injection hx with e1 e2
            exact absurd e1 z
          · exact has2 x s hx
      have e : doL bd (ci (putK kvs2 (Sum.inl n) (.int c))) = doL bd (setN (ci kvs) n c) := do_congrL bd _ _ _ wbd fun x s hx => by
        rw [ci_put]
        unfold setN
        by_cases z : x = n
        · rw [if_pos z, if_pos z]
        · rw [if_neg z, if_neg z]
          rcases List.mem_cons.mp hx with hx | hx
          · injection hx with e1 e2
            exact absurd e1 z
          · unfold ci
            rw [D.same x s hx]
      refine ⟨_, rfl, _, rfl, _, rfl, p, cd, sl, (n, sz) :: b, xs, bd, KS, putK kvs2 (Sum.inl n) (.int c), ys ++ zs, rfl, kt3 _ _ (kt _ _ hp), (nds.kt kt).kt kt3, wbd, dp, (fun m hm => nm m (.tail _ hm)), ⟨hc3, has3, hs3, D.ks.put (nm n (.head _)) _, b1, by rw [List.length_append, e]; omega⟩, fun kvs4 zs4 H4 D4 => ?_⟩
      have hL4 : H4 L = some (.lst (cl.map V.int)) := D4.kp _ _ Lc Ls hL3
      refine ⟨_, kvs4, zs ++ zs4, rfl, ⟨D4.hc, by rw [← List.append_assoc]; exact D4.hs, ?_, fun x s hx => ?_, D4.ks, D.kp.trans (k3.trans D4.kp)⟩, hL4⟩
      · rw [st, ← e]
        exact papp (D.st.kt (kt3.trans (D4.kp.kt hc3 (by intro xs z; cases z) hs3 (by intro xs z; cases z)))) D4.st
      · rw [D4.same x s (.tail _ hx), valV_put, if_neg (fun y => by injection y with y; subst y; exact nb s hx)]
        exact D.same x s hx
    · rintro σ H2 ⟨o9, kvs2, zs, rfl, D, _⟩
      rw [List.length_map, List.take_length] at D
      exact k kvs2 zs H2 D
theorem ok_body (T : Txt K mg t) : ∀ d : Nat, FnOk P w K mg base CX0 (2 * d + 3) t.f_do_body t.d_do_body ["body", "counts", "steps"] (sp_body d)
  | 0 => body_step T (m := 0) (sp' := fun _ _ _ _ => False) (FnOk.none fun _ _ _ _ h => h) fun v b n sz wd out bd cd sl KS kvs ys H Q na wb dp => by
      rw [dpN] at dp
      omega
  | d + 1 => body_step T (m := 2 * d + 2) (ok_loop T (m := 2 * d + 2) (ok_body T d)) fun v b n sz wd out bd cd sl KS kvs ys H Q na wb dp nm ask q => by
      rw [dpN] at dp
      exact ⟨v, cd, sl, n, sz, wd, out, bd, b, KS, kvs, ys, rfl, na, wb, by omega, nm, ask, q⟩
def sp_steps : Sp := fun vs H Q _ => ∃ (q p : Addr) (nx : Int) (xs : List V) (l : List Nd) (fr : Int), vs = [.ref q] ∧ H q = some (.tup [.int nx, .ref p]) ∧ H p = some (.tup xs) ∧ NdsAt H l xs ∧ wbL [] l ∧ dpL l ≤ 40 ∧ (∀ m ∈ nmL l, 0 ≤ m ∧ m < fr) ∧ fr ≤ 900000 ∧ (doL l fun _ => 0).length ≤ 900000 ∧
  ∀ (L : Addr) (zs : List V) (H' : Hp), H L = none → Same H H' → H' L = some (.lst zs) → StsAt H' zs (doL l fun _ => 0) → Q (.ref L) H'
theorem ok_steps_of (T : Txt K mg t) : FnOk P w K mg base CX0 84 t.f_steps_of t.d_steps_of ["nest"] sp_steps := by
  have G_do_body := ok_body (P := P) (w := w) (base := base) T 40
  refine T.F_steps_of.ok sc_steps_of (fun vs H Q E h => ?_) (fun cdv A outer s H vs Q E hr h => ?_)
  · obtain ⟨q, p, nx, xs, l, fr, rfl, _⟩ := h
    rfl
  · obtain ⟨q, p, nx, xs, l, fr, rfl, hq, hp, nds, wb, dp, nm, fm, ld, k⟩ := h
    refine ⟨_, (pss_cons (ps_set (i := 1) sc_steps_of.nd rfl (Or.inl rfl) (pe_lst pa_nil))
      (pss_cons (ps_expr (pe_call G_do_body (hr.mono (by omega)) rfl T.m_do_body T.F_do_body.kp T.b_do_body .nil pass0 (pa_cons (pe_ix ix_tup (pv 0) pe_int (fun _ _ => rfl)) (pa_cons pe_dnewK (pa_cons (pv 1) pa_nil)))))
      (pss_one (ps_ret (pv 1))))), ?_⟩
    refine ⟨line_le (by simp), fun L hL => ?_⟩
    have s1 : Same H (upd H L (.lst [])) := same_new hL
    refine ⟨_, rfl, q, _, _, _, rfl, rfl, SqT.of (s1 _ _ hq), atI_nat (j := 1) rfl, fun cd hcd => ?_⟩
    have s2 : Same (upd H L (.lst [])) (upd (upd H L (.lst [])) cd (.dK [])) := same_new hcd
    have s12 := s1.trans s2
    have hL2 := s2 _ _ (upd_same (H := H) (a := L) (o := .lst []))
    have hc2 : upd (upd H L (.lst [])) cd (.dK []) cd = some (.dK []) := upd_same
    have c0 : H cd = none := s1.free hcd
    generalize upd (upd H L (.lst [])) cd (.dK []) = G at s12 hL2 hc2 ⊢
    have e0 : ci [] = fun _ => 0 := rfl
    refine ⟨_, rfl, p, cd, L, [], xs, l, iv 0 fr, [], [], rfl, s12 _ _ hp, nds.kt (KT.same s12), wb, dp, fun m hm => mem_iv.mpr (nm m hm), ⟨hc2, fun x s hx => by (cases hx), hL2, ⟨by simp, by simp⟩, by unfold iv; rw [List.length_map, List.length_range]; omega, by rw [e0]; simpa using ld⟩, fun kvs' zs H' D => ⟨_, rfl, ?_⟩⟩
    have hs := D.hs
    rw [List.nil_append] at hs
    refine k L zs H' hL (fun b o e => D.kp b o (ne_of_none e c0) (ne_of_none e hL) (s12 _ _ e)) hs ?_
    rw [← e0]
    exact D.st
end
end My

set_option Elab.async false
set_option linter.all false
set_option maxRecDepth 100000
set_option maxHeartbeats 4000000
namespace My
open PySem L2
local macro_rules | `(tactic| walk_at "lk") => `(tactic| first | with_reducible exact lk0 | (refine lk1 (by decide +kernel) ?_; walk_at "lk") | rfl)
def sp_numf : Sp := fun vs H Q _ => ∃ (fr : Int) (a : Addr) (xs : List V), vs = [.int fr, .ref a] ∧ H a = some (.lst xs) ∧ 0 ≤ fr ∧ fr ≤ 100000 ∧ xs.length ≤ 1000 ∧ ∀ q, H q = none → Q (.ref q) (upd H q (.tup ((nums fr xs.length).map V.int)))
def sp_looped : Sp := fun vs H Q _ => ∃ (nt szl ins : Addr) (ns ls : List Int) (xs : List V) (l : List Nd), vs = [.ref nt, .ref szl, .ref ins] ∧ H nt = some (.tup (ns.map V.int)) ∧ H szl = some (.lst (ls.map V.int)) ∧ ns.length = ls.length ∧ H ins = some (.tup xs) ∧ NdsAt H l xs ∧
  ∀ (p : Addr) (xs' : List V) (H' : Hp), Same H H' → H' p = some (.tup xs') → NdsAt H' (loopsN (ns.zip ls) l) xs' → Q (.ref p) H'
def sp_nin (A : Adr) : Sp := fun vs H Q _ => ∃ (v : V) (M : List Addr) (e : Rw), vs = [v] ∧ LineAt A M H v e ∧ e.own.length = e.so.length ∧ e.sums.length = e.ss.length ∧ Q (.int (ninM e)) H
def sp_nodes (A : Adr) : Sp := fun vs H Q _ => ∃ (k fr : Int) (v : V) (l : Addr) (M : List Addr) (e : Rw) (lk : List (Key × V)), vs = [.int k, v, .ref l, .int fr] ∧ LineAt A M H v e ∧ RwOk e ∧ Sz lk e.own e.so ∧ Sz lk e.sums e.ss ∧ H l = some (.dK lk) ∧ 0 ≤ fr ∧ fr ≤ 10000 ∧
  ∀ (p : Addr) (xs : List V) (H' : Hp), Same H H' → H' p = some (.tup xs) → NdsAt H' (lineN k e fr) xs → Q (.ref p) H'
def sp_fn (A : Adr) : Sp := fun vs H Q _ => ∃ (p dx l a tb ln o : Addr) (wh : Int) (lk : List (Key × V)) (xs : List V) (M : List Addr) (rows : List Rw), vs = [.ref p] ∧ H p = some (clo A dx wh l a tb ln o) ∧ H l = some (.dK lk) ∧ H ln = some (.lst xs) ∧ LinesAt A M H xs rows ∧ Tot lk rows ∧ rows.length ≤ 40 ∧
  ∀ (q tp : Addr) (ns : List V) (H' : Hp), Same H H' → H' q = some (.tup [.int (frM rows rows.length), .ref tp]) → H' tp = some (.tup ns) → NdsAt H' (nestM rows rows.length) ns → Q (.ref q) H'
theorem zip_drop {ns ls : List Int} {j : Nat} {n z : Int} (h1 : ns[j]? = some n) (h2 : ls[j]? = some z) : (ns.zip ls).drop j = (n, z) :: (ns.zip ls).drop (j + 1) := by
  have h : (ns.zip ls)[j]? = some (n, z) := by rw [List.getElem?_zip_eq_some]; exact ⟨h1, h2⟩
  obtain ⟨hl, he⟩ := List.getElem?_eq_some_iff.mp h
  rw [List.drop_eq_getElem_cons hl, he]
section
variable {P : Program} {w : World} {K : PySem.W.Frag} {mg : Str → Option Value} {base : Heap} {t : Adr}
theorem ok_numbers_from (T : Txt K mg t) : FnOk P w K mg base CX0 1 t.f_numbers_from t.d_numbers_from ["fresh", "axes"] sp_numf := by
  refine T.F_numbers_from.ok sc_numbers_from (fun vs H Q E h => ?_) (fun cdv A outer s H vs Q E hr h => ?_)
  · obtain ⟨fr, a, xs, rfl, _⟩ := h
    rfl
  · obtain ⟨fr, a, xs, rfl, ha, f0, f1, lx, k⟩ := h
    refine ⟨_, (pss_one (ps_ret (pe_tuprange2 rfl (by rfl) T.z_tuple (by rfl) T.z_range (pa_cons (pv 0) (pa_cons (pe_op op_add (pv 0) (pe_callB call_len_seq (by rfl) T.z_len PySem.boot_len (pa_cons (pv 1) pa_nil))) pa_nil))))), ?_⟩
    refine ⟨_, rfl, _, rfl, _, rfl, a, _, rfl, .inl (SqL.of ha), _, _, rfl, rfl, fr, fr + (xs.length : Int), rfl, ⟨by omega, by omega, by omega, by omega, by omega⟩, fun D hD => ?_⟩
    have e : ((List.range (fr + (xs.length : Int) - fr).toNat).map fun (k : Nat) => V.int (fr + k)) = (nums fr xs.length).map V.int := by
      rw [show (fr + (xs.length : Int) - fr).toNat = xs.length by omega]
      unfold nums
      rw [List.map_map]
      rfl
    have := k D hD
    rw [← e] at this
    exact this
theorem ok_looped (T : Txt K mg t) : FnOk P w K mg base CX0 1 t.f_looped t.d_looped ["numbers", "sizes", "inside"] sp_looped := by
  refine T.F_looped.ok sc_looped (fun vs H Q E h => ?_) (fun cdv A outer s H vs Q E hr h => ?_)
  · obtain ⟨nt, szl, ins, ns, ls, xs, l, rfl, _⟩ := h
    rfl
  · obtain ⟨nt, szl, ins, ns, ls, xs, l, rfl, hn, hs, hl, hi, nds, k⟩ := h
    refine ⟨_, (pss_cons (ps_set (i := 3) sc_looped.nd rfl (Or.inl rfl) (pv 2))
      (pss_cons (ps_for PassesOwn.never rfl (pi_rev rfl T.z_reversed (pa_cons (pe_listzip rfl (by rfl) T.z_list (by rfl) T.z_zip (pa_cons (pv 0) (pa_cons (pv 1) pa_nil))) pa_nil)) (pg_tup (n := 2) rfl (pgs_cons (pg_name (i := 4) sc_looped.nd rfl (Or.inl rfl) (Or.inl rfl)) (pgs_cons (pg_name (i := 5) sc_looped.nd rfl (Or.inl rfl) (Or.inl rfl)) pgs_nil)))
        (pss_one (ps_set (i := 3) sc_looped.nd rfl (Or.inl rfl) (pe_tup (pa_cons (pe_tup (pa_cons pe_str (pa_cons (pv 4) (pa_cons (pv 5) (pa_cons (pe_globE T.cn_NO_WIDTH rfl) (pa_cons (pe_globE T.cn_NO_OUTER rfl) (pa_cons (pv 3) pa_nil))))))) pa_nil)))))
      (pss_one (ps_ret (pv 3))))), ?_⟩
    refine ⟨_, rfl, _, rfl, _, rfl, nt, szl, _, _, rfl, SqT.of hn, SqL.of hs, by rw [List.length_map, List.length_map]; exact hl, fun D ps G hD s1 hD1 lps pat => ⟨D, _, rfl, SqL.of hD1, ?_⟩⟩
    rw [List.length_map] at lps
    refine for_rev (K := K) (a := D) (xs := ps.map V.ref) (fun i σ G2 => ∃ (o4 o5 : Option V) (p : Addr) (xs' : List V), σ = [some (.ref nt), some (.ref szl), some (.ref ins), some (.ref p), o4, o5] ∧ Same G G2 ∧ G2 p = some (.tup xs') ∧ NdsAt G2 (loopsN ((ns.zip ls).drop (ns.length - i)) l) xs')
      ⟨none, none, ins, xs, rfl, Same.refl _, s1 _ _ hi, ?_⟩ (fun i σ G2 ⟨_, _, _, _, _, s2, _⟩ => SqL.of (s2 _ _ hD1)) ?_ ?_
    · rw [Nat.sub_zero, List.drop_of_length_le (by rw [List.length_zip]; omega)]
      exact nds.kt (KT.same s1)
    · rintro i x σ G2 hlt hx ⟨o4, o5, p, xs', rfl, s2, hp, nd'⟩
      rw [List.length_map, lps] at hlt
      rw [List.length_map, lps] at hx
      obtain ⟨q, hq, rfl⟩ := get_map hx
      obtain ⟨u, w, hu, hw, eq⟩ := pat _ _ hq
      obtain ⟨n, hn', rfl⟩ := get_map hu
      obtain ⟨z, hz', rfl⟩ := get_map hw
      have e1 : ns.length - i = ns.length - 1 - i + 1 := by omega
      have e2 : ns.length - (i + 1) = ns.length - 1 - i := by omega
      refine ⟨q, _, rfl, SqT.of (s2 _ _ eq), rfl, _, _, rfl, _, _, rfl, rfl, ?_⟩
      refine ⟨_, rfl, _, rfl, _, rfl, line_le (by simp), fun q1 hq1 => ⟨line_le (by simp), fun q2 hq2 => ?_⟩⟩
      have t1 : Same G2 (upd G2 q1 (.tup [.str "loop", .int n, .int z, .int 0, .int (-1), .ref p])) := same_new hq1
      have t2 : Same (upd G2 q1 (.tup [.str "loop", .int n, .int z, .int 0, .int (-1), .ref p])) (upd (upd G2 q1 (.tup [.str "loop", .int n, .int z, .int 0, .int (-1), .ref p])) q2 (.tup [.ref q1])) := same_new hq2
      have t12 := t1.trans t2
      refine ⟨_, _, q2, [.ref q1], rfl, s2.trans t12, upd_same, ?_⟩
      rw [e2, zip_drop hn' hz', loopsN, NdsAt]
      refine ⟨_, [], rfl, ?_, by rw [NdsAt]⟩
      rw [NdAt]
      rw [e1] at nd'
      exact ⟨q1, p, xs', rfl, t2 _ _ upd_same, t12 _ _ hp, nd'.kt (KT.same t12)⟩
    · rintro σ G2 ⟨o4, o5, p, xs', rfl, s2, hp, nd'⟩
      rw [List.length_map, lps, Nat.sub_self, List.drop_zero] at nd'
      exact ⟨_, rfl, k p xs' G2 (s1.trans s2) hp nd'⟩
theorem ok_nodes_in (T : Txt K mg t) : FnOk P w K mg base CX0 1 t.f_nodes_in t.d_nodes_in ["line"] (sp_nin t) := by
  refine T.F_nodes_in.ok sc_nodes_in (fun vs H Q E h => ?_) (fun cdv A outer s H vs Q E hr h => ?_)
  · obtain ⟨v, M, e, rfl, _⟩ := h
    rfl
  · obtain ⟨v, M, e, rfl, li, lo, ls, k⟩ := h
    obtain ⟨al, da, ca, cu, n, nm, rfl, eal, _, eca, _, ecu⟩ := li
    refine ⟨_, (pss_cons (ps_if (pt_cmpR op_eq (pe_callB call_len_seq (by rfl) T.z_len PySem.boot_len (pa_cons (pe_fld (pv 0) rfl) pa_nil)) pe_int (nomark _))
        (pss_one (ps_ret (pe_op op_add (pe_callB call_len_seq (by rfl) T.z_len PySem.boot_len (pa_cons (pe_fld (pv 0) rfl) pa_nil)) pe_int)))
        pss_nil)
      (pss_one (ps_ret (pe_op op_add (pe_op op_add (pe_op op_add (pe_callB call_len_seq (by rfl) T.z_len PySem.boot_len (pa_cons (pe_fld (pv 0) rfl) pa_nil)) pe_int) (pe_callB call_len_seq (by rfl) T.z_len PySem.boot_len (pa_cons (pe_fld (pv 0) rfl) pa_nil))) pe_int)))), ?_⟩
    refine ⟨_, rfl, al, _, da, _, _, rfl, eal, T.cl_Line, T.na_Line_sums, (by walk_at "lk"), cu, _, rfl, .inl (SqL.of ecu), rfl, _, rfl, iteD (fun h0 => ?_) (fun h0 => ?_)⟩
    · have hz : e.ss = [] := List.length_eq_zero_iff.mp (by
        have h1 : ((e.sums.map V.str).length : Int) = 0 := by injection h0
        rw [List.length_map] at h1
        omega)
      refine ⟨_, rfl, al, _, da, _, _, rfl, eal, T.cl_Line, T.na_Line_axes, (by walk_at "lk"), ca, _, rfl, .inl (SqL.of eca), _, _, rfl, rfl, ?_⟩
      unfold ninM at k
      rw [if_pos hz, show ((e.so.length : Int) + 1 + ((0 : Nat) : Int)) = e.so.length + 1 by omega] at k
      show Q (.int (((e.own.map V.str).length : Int) + 1)) H
      rw [List.length_map, lo]
      exact k
    · have hz : e.ss ≠ [] := fun z => h0 (by
        show V.int ((e.sums.map V.str).length : Int) = V.int 0
        rw [List.length_map, ls, z]
        rfl)
      refine ⟨_, rfl, al, _, da, _, _, rfl, eal, T.cl_Line, T.na_Line_axes, (by walk_at "lk"), ca, _, rfl, .inl (SqL.of eca), _, _, rfl, rfl, _, rfl, al, _, da, _, _, rfl, eal, T.cl_Line, T.na_Line_sums, (by walk_at "lk"), cu, _, rfl, .inl (SqL.of ecu), _, _, rfl, rfl, _, _, rfl, rfl, ?_⟩
      unfold ninM at k
      rw [if_neg hz, show ((e.so.length : Int) + 1 + ((e.ss.length + 1 : Nat) : Int)) = e.so.length + 1 + e.ss.length + 1 by omega] at k
      show Q (.int (((e.own.map V.str).length : Int) + 1 + ((e.sums.map V.str).length : Int) + 1)) H
      rw [List.length_map, List.length_map, lo, ls]
      exact k
theorem ok_nodes_of (T : Txt K mg t) : FnOk P w K mg base CX0 2 t.f_nodes_of t.d_nodes_of ["place", "line", "lengths", "fresh"] (sp_nodes t) := by
  have G_lengths_along := ok_lengths_along (P := P) (w := w) (base := base) T
  have G_looped := ok_looped (P := P) (w := w) (base := base) T
  have G_numbers_from := ok_numbers_from (P := P) (w := w) (base := base) T
  refine T.F_nodes_of.ok sc_nodes_of (fun vs H Q E h => ?_) (fun cdv A outer s H vs Q E hr h => ?_)
  · obtain ⟨k, fr, v, l, M, e, lk, rfl, _⟩ := h
    rfl
  · obtain ⟨k, fr, v, l, M, e, lk, rfl, li, ok, szo, szs, hl, f0, f1, q⟩ := h
    obtain ⟨al, da, ca, cu, n, nm, rfl, eal, _, eca, _, ecu⟩ := li
    have l1 := ok.lo
    have l2 := ok.ls
    have l3 := ok.pl
    have lo : (e.own.map V.str).length = e.so.length := by rw [List.length_map]; exact l1
    have lsu : (e.sums.map V.str).length = e.ss.length := by rw [List.length_map]; exact l2
    refine ⟨_, (pss_cons (ps_set (i := 4) sc_nodes_of.nd rfl (Or.inl rfl) (pe_call G_numbers_from (hr.mono (by omega)) rfl T.m_numbers_from T.F_numbers_from.kp T.b_numbers_from .nil pass0 (pa_cons (pv 3) (pa_cons (pe_fld (pv 1) rfl) pa_nil))))
      (pss_cons (ps_set (i := 5) sc_nodes_of.nd rfl (Or.inl rfl) (pe_op op_add (pv 3) (pe_callB call_len_seq (by rfl) T.z_len PySem.boot_len (pa_cons (pv 4) pa_nil))))
      (pss_cut (ps_if (pt_cmpR op_eq (pe_callB call_len_seq (by rfl) T.z_len PySem.boot_len (pa_cons (pe_fld (pv 1) rfl) pa_nil)) pe_int (nomark _))
        (pss_one (ps_set (i := 6) sc_nodes_of.nd rfl (Or.inl rfl) (pe_tup (pa_cons (pe_tup (pa_cons pe_str (pa_cons (pv 5) (pa_cons (pv 0) (pa_cons pe_str (pa_cons (pv 4) (pa_cons (pe_tup pa_nil) pa_nil))))))) pa_nil))))
        (pss_cons (ps_set (i := 7) sc_nodes_of.nd rfl (Or.inl rfl) (pe_call G_numbers_from (hr.mono (by omega)) rfl T.m_numbers_from T.F_numbers_from.kp T.b_numbers_from .nil pass0 (pa_cons (pe_op op_add (pv 5) pe_int) (pa_cons (pe_fld (pv 1) rfl) pa_nil))))
        (pss_cons (ps_set (i := 8) sc_nodes_of.nd rfl (Or.inl rfl) (pe_tup (pa_cons pe_str (pa_cons (pe_op op_add (pe_op op_add (pv 5) pe_int) (pe_callB call_len_seq (by rfl) T.z_len PySem.boot_len (pa_cons (pv 7) pa_nil))) (pa_cons (pv 0) (pa_cons pe_str (pa_cons (pv 4) (pa_cons (pv 7) pa_nil))))))))
        (pss_cons (ps_set (i := 9) sc_nodes_of.nd rfl (Or.inl rfl) (pe_tup (pa_cons pe_str (pa_cons (pv 5) (pa_cons (pv 0) (pa_cons pe_str (pa_cons (pv 4) (pa_cons (pe_tup pa_nil) pa_nil))))))))
        (pss_one (ps_set (i := 6) sc_nodes_of.nd rfl (Or.inl rfl) (pe_op op_catT2 (pe_tup (pa_cons (pv 9) pa_nil)) (pe_call G_looped (hr.mono (by omega)) rfl T.m_looped T.F_looped.kp T.b_looped .nil pass0 (pa_cons (pv 7) (pa_cons (pe_call G_lengths_along (hr.mono (by omega)) rfl T.m_lengths_along T.F_lengths_along.kp T.b_lengths_along .nil pass0 (pa_cons (pe_fld (pv 1) rfl) (pa_cons (pv 2) pa_nil))) (pa_cons (pe_tup (pa_cons (pv 8) pa_nil)) pa_nil)))))))))))
      (pss_one (ps_ret (pe_call G_looped (hr.mono (by omega)) rfl T.m_looped T.F_looped.kp T.b_looped .nil pass0 (pa_cons (pv 4) (pa_cons (pe_call G_lengths_along (hr.mono (by omega)) rfl T.m_lengths_along T.F_lengths_along.kp T.b_lengths_along .nil pass0 (pa_cons (pe_fld (pv 1) rfl) (pa_cons (pv 2) pa_nil))) (pa_cons (pv 6) pa_nil))))))))), ?_⟩
    refine ⟨_, rfl, _, rfl, al, _, da, _, _, rfl, eal, T.cl_Line, T.na_Line_axes, (by walk_at "lk"), fr, ca, _, rfl, eca, f0, by omega, by omega, fun ct hct => ?_⟩
    rw [lo]
    have s1 : Same H (upd H ct (.tup ((nums fr e.so.length).map V.int))) := same_new hct
    have hc1 : upd H ct (.tup ((nums fr e.so.length).map V.int)) ct = some (.tup ((nums fr e.so.length).map V.int)) := upd_same
    generalize upd H ct (.tup ((nums fr e.so.length).map V.int)) = H1 at s1 hc1 ⊢
    refine ⟨_, rfl, _, rfl, ct, _, rfl, .inr (SqT.of hc1), fr, (e.so.length : Int), rfl, (by rw [List.length_map, nums_len]), ?_⟩
    refine ⟨fun σ' G => ∃ (ins : Addr) (xs : List V) (o7 o8 o9 : Option V), σ' = [some (.int k), some (.ref al), some (.ref l), some (.int fr), some (.ref ct), some (.int (fr + e.so.length)), some (.ref ins), o7, o8, o9] ∧ Same H1 G ∧ G ins = some (.tup xs) ∧ NdsAt G (insideN k e fr) xs, ?_, ?_⟩
    · refine ⟨_, rfl, al, _, da, _, _, rfl, s1 _ _ eal, T.cl_Line, T.na_Line_sums, (by walk_at "lk"), cu, _, rfl, .inl (SqL.of (s1 _ _ ecu)), rfl, _, rfl, iteD (fun h0 => ?_) (fun h0 => ?_)⟩
      · have hss : e.ss = [] := List.length_eq_zero_iff.mp (by
          have : ((e.sums.map V.str).length : Int) = 0 := by injection h0
          omega)
        refine ⟨_, rfl, _, rfl, _, rfl, line_le (by simp), fun q0 hq0 => ⟨line_le (by simp), fun q1 hq1 => ⟨line_le (by simp), fun q2 hq2 => ?_⟩⟩⟩
        have t0 : Same H1 (upd H1 q0 (.tup [])) := same_new hq0
        have t1 : Same (upd H1 q0 (.tup [])) (upd (upd H1 q0 (.tup [])) q1 (.tup [.str "deed", .int (fr + e.so.length), .int k, .str "set", .ref ct, .ref q0])) := same_new hq1
        have t2 := same_new (o := .tup [.ref q1]) hq2
        have t12 := t1.trans t2
        refine ⟨q2, [.ref q1], _, _, _, rfl, t0.trans t12, upd_same, ?_⟩
        unfold insideN
        rw [if_pos hss, NdsAt]
        refine ⟨_, [], rfl, ?_, by rw [NdsAt]⟩
        rw [NdAt]
        exact ⟨q1, ct, q0, rfl, t2 _ _ upd_same, t12 _ _ (t0 _ _ hc1), t12 _ _ upd_same⟩
      · have hss : e.ss ≠ [] := fun z => h0 (by rw [show (e.sums.map V.str).length = 0 by rw [lsu, z]; rfl]; rfl)
        refine ⟨_, rfl, _, _, rfl, rfl, _, rfl, al, _, da, _, _, rfl, s1 _ _ eal, T.cl_Line, T.na_Line_sums, (by walk_at "lk"), fr + e.so.length + 1, cu, _, rfl, s1 _ _ ecu, by omega, by omega, by omega, fun tt htt => ?_⟩
        rw [lsu]
        have t1 : Same H1 (upd H1 tt (.tup ((nums (fr + e.so.length + 1) e.ss.length).map V.int))) := same_new htt
        have ht1 : upd H1 tt (.tup ((nums (fr + e.so.length + 1) e.ss.length).map V.int)) tt = some (.tup ((nums (fr + e.so.length + 1) e.ss.length).map V.int)) := upd_same
        generalize upd H1 tt (.tup ((nums (fr + e.so.length + 1) e.ss.length).map V.int)) = H2 at t1 ht1 ⊢
        refine ⟨_, rfl, _, _, rfl, rfl, _, rfl, tt, _, rfl, .inr (SqT.of ht1), _, _, rfl, rfl, _, rfl, _, rfl, _, rfl, line_le (by simp), fun qa hqa => ?_⟩
        have t2 : Same H2 (upd H2 qa (.tup [.str "deed", .int (fr + e.so.length + 1 + (((nums (fr + e.so.length + 1) e.ss.length).map V.int).length : Int)), .int k, .str "add", .ref ct, .ref tt])) := same_new hqa
        have ha2 : upd H2 qa (.tup [.str "deed", .int (fr + e.so.length + 1 + (((nums (fr + e.so.length + 1) e.ss.length).map V.int).length : Int)), .int k, .str "add", .ref ct, .ref tt]) qa = some (.tup [.str "deed", .int (fr + e.so.length + 1 + (((nums (fr + e.so.length + 1) e.ss.length).map V.int).length : Int)), .int k, .str "add", .ref ct, .ref tt]) := upd_same
        generalize upd H2 qa (.tup [.str "deed", .int (fr + e.so.length + 1 + (((nums (fr + e.so.length + 1) e.ss.length).map V.int).length : Int)), .int k, .str "add", .ref ct, .ref tt]) = H3 at t2 ha2 ⊢
        refine ⟨_, rfl, _, rfl, _, rfl, line_le (by simp), fun q0 hq0 => ⟨line_le (by simp), fun qs hqs => ?_⟩⟩
        have t3 : Same H3 (upd H3 q0 (.tup [])) := same_new hq0
        have t4 : Same (upd H3 q0 (.tup [])) (upd (upd H3 q0 (.tup [])) qs (.tup [.str "deed", .int (fr + e.so.length), .int k, .str "start", .ref ct, .ref q0])) := same_new hqs
        have h04 := t4 _ _ (upd_same (H := H3) (a := q0) (o := .tup []))
        have hs4 : upd (upd H3 q0 (.tup [])) qs (.tup [.str "deed", .int (fr + e.so.length), .int k, .str "start", .ref ct, .ref q0]) qs = some (.tup [.str "deed", .int (fr + e.so.length), .int k, .str "start", .ref ct, .ref q0]) := upd_same
        have t34 := t3.trans t4
        generalize upd (upd H3 q0 (.tup [])) qs (.tup [.str "deed", .int (fr + e.so.length), .int k, .str "start", .ref ct, .ref q0]) = H4 at t34 h04 hs4 ⊢
        clear t3 t4
        refine ⟨_, rfl, line_le (by simp), fun qt hqt => ?_⟩
        have t5 : Same H4 (upd H4 qt (.tup [.ref qs])) := same_new hqt
        have ht5 : upd H4 qt (.tup [.ref qs]) qt = some (.tup [.ref qs]) := upd_same
        generalize upd H4 qt (.tup [.ref qs]) = H5 at t5 ht5 ⊢
        have u25 := t2.trans (t34.trans t5)
        have u15 := t1.trans u25
        have u05 := s1.trans u15
        refine ⟨_, rfl, _, rfl, al, _, da, _, _, rfl, u05 _ _ eal, T.cl_Line, T.na_Line_sums, (by walk_at "lk"), _, rfl, cu, l, e.sums, lk, e.ss, rfl, u05 _ _ ecu, u05 _ _ hl, szs, by omega, fun sl H6 hsl s6 hs6 => ⟨_, rfl, line_le (by simp), fun qi hqi => ?_⟩⟩
        have t7 : Same H6 (upd H6 qi (.tup [.ref qa])) := same_new hqi
        have hi7 : upd H6 qi (.tup [.ref qa]) qi = some (.tup [.ref qa]) := upd_same
        generalize upd H6 qi (.tup [.ref qa]) = H7 at t7 hi7 ⊢
        have u57 := s6.trans t7
        have u27 := u25.trans u57
        have u17 := t1.trans u27
        have ha7 := (t34.trans (t5.trans u57)) _ _ ha2
        refine ⟨tt, sl, qi, nums (fr + e.so.length + 1) e.ss.length, e.ss, [.ref qa], [.deed (fr + e.so.length + 1 + e.ss.length) k "add" (nums fr e.so.length) (nums (fr + e.so.length + 1) e.ss.length)], rfl, u27 _ _ ht1, t7 _ _ hs6, nums_len _ _, hi7, ?_, fun p xs' H8 s8 hp8 nd8 => ?_⟩
        · rw [NdsAt]
          refine ⟨_, [], rfl, ?_, by rw [NdsAt]⟩
          rw [NdAt]
          rw [List.length_map, nums_len] at ha7
          exact ⟨qa, ct, tt, rfl, ha7, u17 _ _ hc1, u27 _ _ ht1⟩
        have u78 := u57.trans s8
        have le8 : xs'.length ≤ 1 := by
          have l1 := nd8.len
          have : (loopsN ((nums (fr + e.so.length + 1) e.ss.length).zip e.ss) [Nd.deed (fr + e.so.length + 1 + e.ss.length) k "add" (nums fr e.so.length) (nums (fr + e.so.length + 1) e.ss.length)]).length = 1 := by
            cases (nums (fr + e.so.length + 1) e.ss.length).zip e.ss with
            | nil => rfl
            | cons p r => rfl
          omega
        have ne8 : xs' ≠ [] := fun z => by
          have l1 := nd8.len
          have : (loopsN ((nums (fr + e.so.length + 1) e.ss.length).zip e.ss) [Nd.deed (fr + e.so.length + 1 + e.ss.length) k "add" (nums fr e.so.length) (nums (fr + e.so.length + 1) e.ss.length)]).length = 1 := by
            cases (nums (fr + e.so.length + 1) e.ss.length).zip e.ss with
            | nil => rfl
            | cons p r => rfl
          rw [z] at l1
          simp at l1
          omega
        refine ⟨qt, p, _, _, rfl, rfl, SqT.of (u78 _ _ ht5), SqT.of hp8, ne8, line_le (by simp; omega), (fun z => by cases z), fun _ r hr0 => ?_⟩
        have t9 : Same H8 (upd H8 r (.tup ([.ref qs] ++ xs'))) := same_new hr0
        have u49 := t5.trans (u78.trans t9)
        refine ⟨r, _, _, _, _, rfl, u17.trans (s8.trans t9), upd_same, ?_⟩
        unfold insideN
        rw [if_neg hss, NdsAt]
        refine ⟨_, xs', rfl, ?_, nd8.kt (KT.same t9)⟩
        rw [NdAt]
        exact ⟨qs, ct, q0, rfl, u49 _ _ hs4, (u17.trans (s8.trans t9)) _ _ hc1, u49 _ _ h04⟩
    rintro σ' G ⟨ins, xs, o7, o8, o9, rfl, s2, hi, nds⟩
    have s02 := s1.trans s2
    refine ⟨_, rfl, _, rfl, al, _, da, _, _, rfl, s02 _ _ eal, T.cl_Line, T.na_Line_axes, (by walk_at "lk"), _, rfl, ca, l, e.own, lk, e.so, rfl, s02 _ _ eca, s02 _ _ hl, szo, by omega, fun sl G2 hsl s3 hs3 => ?_⟩
    refine ⟨_, rfl, ct, sl, ins, nums fr e.so.length, e.so, xs, _, rfl, s3 _ _ (s2 _ _ hc1), hs3, nums_len _ _, s3 _ _ hi, nds.kt (KT.same s3), fun p xs' H' s4 hp nd' => ?_⟩
    exact q p xs' H' (s02.trans (s3.trans s4)) hp nd'
theorem ok_first_nest (T : Txt K mg t) : FnOk P w K mg base CX0 3 t.f_first_nest t.d_first_nest ["cloth"] (sp_fn t) := by
  have G_nodes_in := ok_nodes_in (P := P) (w := w) (base := base) T
  have G_nodes_of := ok_nodes_of (P := P) (w := w) (base := base) T
  refine T.F_first_nest.ok sc_first_nest (fun vs H Q E h => ?_) (fun cdv A outer s H vs Q E hr h => ?_)
  · obtain ⟨p, dx, l, a, tb, ln, o, wh, lk, xs, M, rows, rfl, _⟩ := h
    rfl
  · obtain ⟨p, dx, l, a, tb, ln, o, wh, lk, xs, M, rows, rfl, hp, hl, hln, lis, tot, few, k⟩ := h
    have lxs := Paired.length lis
    refine ⟨_, (pss_cons (ps_set (i := 1) sc_first_nest.nd rfl (Or.inl rfl) (pe_lst pa_nil))
      (pss_cons (ps_set (i := 2) sc_first_nest.nd rfl (Or.inl rfl) pe_int)
      (pss_cons (ps_for PassesOwn.never rfl (pi_enum rfl T.z_enumerate (pa_cons (pe_fld (pv 0) rfl) pa_nil)) (pg_tup (n := 2) rfl (pgs_cons (pg_name (i := 3) sc_first_nest.nd rfl (Or.inl rfl) (Or.inl rfl)) (pgs_cons (pg_name (i := 4) sc_first_nest.nd rfl (Or.inl rfl) (Or.inl rfl)) pgs_nil)))
        (pss_cons (ps_expr (pe_bm PySem.F.plainAttrs_list PySem.F.slot_list_extend PySem.F.type_list_extend mt_extendT (pv 1) (pa_cons (pe_call G_nodes_of (hr.mono (by omega)) rfl T.m_nodes_of T.F_nodes_of.kp T.b_nodes_of .nil pass0 (pa_cons (pv 3) (pa_cons (pv 4) (pa_cons (pe_fld (pv 0) rfl) (pa_cons (pv 2) pa_nil))))) pa_nil)))
        (pss_one (ps_set (i := 2) sc_first_nest.nd rfl (Or.inl rfl) (pe_op op_add (pv 2) (pe_call G_nodes_in (hr.mono (by omega)) rfl T.m_nodes_in T.F_nodes_in.kp T.b_nodes_in .nil pass0 (pa_cons (pv 4) pa_nil)))))))
      (pss_one (ps_ret (pe_tup (pa_cons (pv 2) (pa_cons (pe_callTy call_tuple_of (by rfl) T.z_tuple PyProof.Rows.boot_tuple (pa_cons (pv 1) pa_nil)) pa_nil)))))))), ?_⟩
    refine ⟨line_le (by simp), fun L hL => ?_⟩
    have s0 : Same H (upd H L (.lst [])) := same_new hL
    refine ⟨_, rfl, p, _, dx, _, _, rfl, s0 _ _ hp, T.cl_Cloth, T.na_Cloth_lines, (by walk_at "lk"), ln, xs, rfl, SqL.of (s0 _ _ hln), ?_⟩
    have f1 : ∀ i, i ≤ rows.length → 0 ≤ frM rows i ∧ frM rows i ≤ i * 20 := fun i => by
      induction i with
      | zero => intro _; simp [frM]
      | succ i ih =>
        intro hi
        have he : rows[i]? = some rows[i] := List.getElem?_eq_getElem (by omega)
        have ih := ih (by omega)
        have np := nin_pos rows[i]
        have pl := (tot _ (List.mem_of_getElem? he)).1.pl
        have l1 := (tot _ (List.mem_of_getElem? he)).1.lo
        have l2 := (tot _ (List.mem_of_getElem? he)).1.ls
        rw [frM_succ he]
        have nu : ninM rows[i] ≤ rows[i].so.length + rows[i].ss.length + 2 := by
          unfold ninM
          split <;> omega
        omega
    have nl : ∀ i, (nestM rows i).length ≤ 2 * i := fun i => by
      induction i with
      | zero => simp [nestM]
      | succ i ih =>
        rw [nestM, List.length_append]
        split
        · have := line_len i ‹Rw› (frM rows i)
          omega
        · simp; omega
    refine for_enum (K := K) (a := ln) (xs := xs) (fun i σ H2 => ∃ (o3 o4 : Option V) (nv : List V), σ = [some (.ref p), some (.ref L), some (.int (frM rows i)), o3, o4] ∧ Same H H2 ∧ H2 L = some (.lst nv) ∧ i ≤ rows.length ∧ NdsAt H2 (nestM rows i) nv)
      ⟨none, none, [], rfl, s0, upd_same, Nat.zero_le _, by rw [nestM, NdsAt]⟩ (fun i σ H2 ⟨_, _, _, _, s2, _⟩ => SqL.of (s2 _ _ hln)) ?_ ?_
    · rintro i x σ H2 z hx ⟨o3, o4, nv, rfl, s2, hL2, _, nds⟩ hz
      obtain ⟨e, he, li⟩ := pget lis hx
      obtain ⟨ok, szo, szs, _, _⟩ := tot e (List.mem_of_getElem? he)
      have hi : i < rows.length := (List.getElem?_eq_some_iff.mp he).1
      have fb := f1 i (by omega)
      have lnv := nds.len
      have nli := nl i
      have ll := line_len i e (frM rows i)
      have sz3 : Same H2 (upd H2 z (.tup [.int (i : Nat), x])) := same_new hz
      have hz3 : upd H2 z (.tup [.int (i : Nat), x]) z = some (.tup [.int (i : Nat), x]) := upd_same
      generalize upd H2 z (.tup [.int (i : Nat), x]) = H3 at sz3 hz3 ⊢
      have s3 := s2.trans sz3
      refine ⟨z, _, rfl, SqT.of hz3, rfl, _, _, rfl, _, _, rfl, rfl, ?_⟩
      refine ⟨_, rfl, .inl ⟨rfl, _, SqL.of (sz3 _ _ hL2)⟩, _, rfl, _, rfl, _, rfl, p, _, dx, _, _, rfl, s3 _ _ hp, T.cl_Cloth, T.na_Cloth_lengths, (by walk_at "lk"), _, rfl, (i : Int), frM rows i, x, l, M, e, lk, rfl, li.same s3, ok, szo, szs, s3 _ _ hl, fb.1, by omega, fun q xs' H4 s4 hq nd' => ?_⟩
      have lx' := nd'.len
      have hL4 := s4 _ _ (sz3 _ _ hL2)
      refine ⟨L, q, _, _, rfl, rfl, hL4, hq, line_le (by omega), ?_⟩
      have kL : KT H4 (upd H4 L (.lst (nv ++ xs'))) := KT.at hL4 (by intro xs z; cases z)
      have kb : KB L H4 (upd H4 L (.lst (nv ++ xs'))) := KB.refl.upd
      have hL5 : upd H4 L (.lst (nv ++ xs')) L = some (.lst (nv ++ xs')) := upd_same
      generalize upd H4 L (.lst (nv ++ xs')) = H5 at kL kb hL5 ⊢
      have s5 : Same H H5 := KB.same (s3.trans s4) kb hL
      refine ⟨_, rfl, _, rfl, x, M, e, rfl, li.same s5, ok.lo, ok.ls, _, _, rfl, rfl, ?_⟩
      dsimp only
      rw [frM_succ he, nestM_succ he]
      refine ⟨_, _, nv ++ xs', rfl, s5, hL5, hi, ?_⟩
      · exact nds_pair.mpr (papp (nds_pair.mp (nds.kt ((KT.same (sz3.trans s4)).trans kL))) (nds_pair.mp (nd'.kt kL)))
    · rintro σ H2 ⟨o3, o4, nv, rfl, s2, hL2, _, nds⟩
      rw [lxs] at nds ⊢
      refine ⟨_, rfl, _, rfl, L, _, rfl, .inl ⟨SqL.of hL2, fun tp htp => ⟨line_le (by simp), fun q hq => ?_⟩⟩⟩
      have t1 : Same H2 (upd H2 tp (.tup nv)) := same_new htp
      have t2 := same_new (o := .tup [.int (frM rows rows.length), .ref tp]) hq
      exact k q tp nv _ (s2.trans (t1.trans t2)) upd_same (t2 _ _ upd_same) (nds.kt (KT.same (t1.trans t2)))
end
end My

set_option Elab.async false
set_option linter.all false
set_option maxRecDepth 100000
set_option maxHeartbeats 4000000
namespace My
open PySem L2
local macro_rules | `(tactic| walk_at "lk") => `(tactic| first | with_reducible exact lk0 | (refine lk1 (by decide +kernel) ?_; walk_at "lk") | rfl)
def sp_bof : Sp := fun vs H Q _ => ∃ (b p : Addr) (a1 a2 a3 a4 a5 : V), vs = [.ref b] ∧ H b = some (.tup [a1, a2, a3, a4, a5, .ref p]) ∧ Q (.ref p) H
def sp_wbo : Sp := fun vs H Q _ => ∃ (b : Addr) (a1 a2 a3 a4 a5 a6 u : V), vs = [.ref b, u] ∧ H b = some (.tup [a1, a2, a3, a4, a5, a6]) ∧ ∀ q, H q = none → Q (.ref q) (upd H q (.tup [a1, a2, a3, a4, a5, u]))
def sp_ins : Sp := fun vs H Q _ => ∃ y o w : Int, vs = [.int y, .int o, .int w] ∧ Q (.int (ins o w y)) H
def sp_insin : Sp := fun vs H Q _ => ∃ (c : Addr) (cs : List Int) (o w : Int), vs = [.ref c, .int o, .int w] ∧ H c = some (.tup (cs.map V.int)) ∧ cs.length ≤ 100 ∧ ∀ (q : Addr) (H' : Hp), Same H H' → H' q = some (.tup ((cs.map (ins o w)).map V.int)) → Q (.ref q) H'
def sp_renN (d : Nat) : Sp := fun vs H Q _ => ∃ (v : V) (x : Nd) (o w : Int) (b : Rd), vs = [v, .int o, .int w] ∧ NdAt H x v ∧ wbN b x ∧ dpN x ≤ d ∧ ∀ (v' : V) (H' : Hp), Same H H' → NdAt H' (renN o w x) v' → Q v' H'
def sp_ren (d : Nat) : Sp := fun vs H Q _ => ∃ (p : Addr) (xs : List V) (l : List Nd) (o w : Int) (b : Rd), vs = [.ref p, .int o, .int w] ∧ H p = some (.tup xs) ∧ NdsAt H l xs ∧ wbL b l ∧ l.length ≤ 100 ∧ dpL l ≤ d ∧ ∀ (q : Addr) (xs' : List V) (H' : Hp), Same H H' → H' q = some (.tup xs') → NdsAt H' (renL o w l) xs' → Q (.ref q) H'
def sp_cut : Sp := fun vs H Q _ => ∃ (T w n sz wd : Int) (bd : List Nd) (v : V) (b : Rd), vs = [.int T, v, .int w] ∧ NdAt H (.loop n sz wd (-1) bd) v ∧ wbN b (.loop n sz wd (-1) bd) ∧ dpL bd ≤ 40 ∧ 1 ≤ T ∧ T.natAbs < 2 ^ 4000 ∧ ∀ (v' : V) (H' : Hp), Same H H' → NdAt H' (cutN T w (.loop n sz wd (-1) bd)) v' → Q v' H'
def sp_mat : Sp := fun vs H Q _ => ∃ (p : Nat) (bp mv : Addr) (fr N T n sz wd : Int) (bd : List Nd) (xs : List V) (l : List Nd) (b : Rd), vs = [.int (p : Int), .ref bp, .ref mv, .int fr] ∧ H bp = some (.tup xs) ∧ NdsAt H l xs ∧ l.length ≤ 100 ∧ l[p]? = some (.loop n sz wd (-1) bd) ∧ wbN b (.loop n sz wd (-1) bd) ∧ dpL bd ≤ 40 ∧ H mv = some (.tup [.str "cut", .int N, .int T]) ∧ 1 ≤ T ∧ T.natAbs < 2 ^ 4000 ∧
  ∀ (q : Addr) (xs' : List V) (H' : Hp), Same H H' → H' q = some (.tup xs') → NdsAt H' (repl [p] l (cutN T fr (.loop n sz wd (-1) bd))) xs' → Q (.ref q) H'
def pInt (path : List Nat) : List V := path.map fun (p : Nat) => V.int (p : Int)
def sp_along (m : Nat) : Sp := fun vs H Q _ => ∃ (pl bp mv : Addr) (path : List Nat) (fr N T n sz wd : Int) (bd : List Nd) (xs : List V) (l : List Nd) (b : Rd), vs = [.ref pl, .ref bp, .ref mv, .int fr] ∧ H pl = some (.lst (pInt path)) ∧ path.length ≤ m ∧ H bp = some (.tup xs) ∧ NdsAt H l xs ∧ l.length ≤ 100 ∧ PathAt path l (.loop n sz wd (-1) bd) ∧ wbL b l ∧ dpL l ≤ 40 ∧ H mv = some (.tup [.str "cut", .int N, .int T]) ∧ 1 ≤ T ∧ T.natAbs < 2 ^ 4000 ∧
  ∀ (q : Addr) (xs' : List V) (H' : Hp), Same H H' → H' q = some (.tup xs') → NdsAt H' (repl path l (cutN T fr (.loop n sz wd (-1) bd))) xs' → Q (.ref q) H'
def sp_path (d : Nat) : Sp := fun vs H Q _ => ∃ (N : Int) (bp : Addr) (xs : List V) (l : List Nd) (b : Rd), vs = [.int N, .ref bp] ∧ H bp = some (.tup xs) ∧ NdsAt H l xs ∧ l.length ≤ 100 ∧ wbL b l ∧ dpL l ≤ d ∧
  ∀ (q : Addr) (path : List Nat) (H' : Hp), Same H H' → H' q = some (.lst (pInt path)) → (path = [] ∧ N ∉ nmL l ∨ path ≠ [] ∧ ∃ sz wd out bd, PathAt path l (.loop N sz wd out bd)) → path.length ≤ d → Q (.ref q) H'
section
variable {P : Program} {w : World} {K : PySem.W.Frag} {mg : Str → Option Value} {base : Heap} {t : Adr}
theorem ok_body_of (T : Txt K mg t) : FnOk P w K mg base CX0 1 t.f_body_of t.d_body_of ["loop"] sp_bof := by
  refine T.F_body_of.ok sc_body_of (fun vs H Q E h => ?_) (fun cdv A outer s H vs Q E hr h => ?_)
  · obtain ⟨b, p, a1, a2, a3, a4, a5, rfl, _⟩ := h
    rfl
  · obtain ⟨b, p, a1, a2, a3, a4, a5, rfl, hb, k⟩ := h
    refine ⟨_, (pss_cons (ps_asg (pv 0) (pg_tup (n := 6) rfl (pgs_cons (pg_name (i := 1) sc_body_of.nd rfl (Or.inl rfl) (Or.inl rfl)) (pgs_cons (pg_name (i := 2) sc_body_of.nd rfl (Or.inl rfl) (Or.inl rfl)) (pgs_cons (pg_name (i := 3) sc_body_of.nd rfl (Or.inl rfl) (Or.inl rfl)) (pgs_cons (pg_name (i := 4) sc_body_of.nd rfl (Or.inl rfl) (Or.inl rfl)) (pgs_cons (pg_name (i := 5) sc_body_of.nd rfl (Or.inl rfl) (Or.inl rfl)) (pgs_cons (pg_name (i := 6) sc_body_of.nd rfl (Or.inl rfl) (Or.inl rfl)) pgs_nil))))))))
      (pss_one (ps_ret (pv 6)))), ?_⟩
    exact ⟨_, rfl, b, _, rfl, SqT.of hb, rfl, _, _, rfl, _, _, rfl, _, _, rfl, _, _, rfl, _, _, rfl, _, _, rfl, rfl, _, rfl, k⟩
theorem ok_with_body (T : Txt K mg t) : FnOk P w K mg base CX0 1 t.f_with_body t.d_with_body ["loop", "body"] sp_wbo := by
  refine T.F_with_body.ok sc_with_body (fun vs H Q E h => ?_) (fun cdv A outer s H vs Q E hr h => ?_)
  · obtain ⟨b, a1, a2, a3, a4, a5, a6, u, rfl, _⟩ := h
    rfl
  · obtain ⟨b, a1, a2, a3, a4, a5, a6, u, rfl, hb, k⟩ := h
    refine ⟨_, (pss_cons (ps_asg (pv 0) (pg_tup (n := 6) rfl (pgs_cons (pg_name (i := 2) sc_with_body.nd rfl (Or.inl rfl) (Or.inl rfl)) (pgs_cons (pg_name (i := 3) sc_with_body.nd rfl (Or.inl rfl) (Or.inl rfl)) (pgs_cons (pg_name (i := 4) sc_with_body.nd rfl (Or.inl rfl) (Or.inl rfl)) (pgs_cons (pg_name (i := 5) sc_with_body.nd rfl (Or.inl rfl) (Or.inl rfl)) (pgs_cons (pg_name (i := 6) sc_with_body.nd rfl (Or.inl rfl) (Or.inl rfl)) (pgs_cons (pg_name (i := 7) sc_with_body.nd rfl (Or.inl rfl) (Or.inl rfl)) pgs_nil))))))))
      (pss_one (ps_ret (pe_tup (pa_cons (pv 2) (pa_cons (pv 3) (pa_cons (pv 4) (pa_cons (pv 5) (pa_cons (pv 6) (pa_cons (pv 1) pa_nil)))))))))), ?_⟩
    exact ⟨_, rfl, b, _, rfl, SqT.of hb, rfl, _, _, rfl, _, _, rfl, _, _, rfl, _, _, rfl, _, _, rfl, _, _, rfl, rfl, _, rfl, _, rfl, _, rfl, _, rfl, _, rfl, _, rfl, line_le (by simp), fun q hq => k q hq⟩
theorem ok_instead (T : Txt K mg t) : FnOk P w K mg base CX0 1 t.f_instead t.d_instead ["number", "old", "new"] sp_ins := by
  refine T.F_instead.ok sc_instead (fun vs H Q E h => ?_) (fun cdv A outer s H vs Q E hr h => ?_)
  · obtain ⟨y, o, w, rfl, _⟩ := h
    rfl
  · obtain ⟨y, o, w, rfl, k⟩ := h
    refine ⟨_, (pss_cons (ps_if (pt_cmpR op_eq (pv 0) (pv 1) (nomark _))
        (pss_one (ps_ret (pv 2)))
        pss_nil)
      (pss_one (ps_ret (pv 0)))), ?_⟩
    refine ⟨_, rfl, _, rfl, rfl, _, rfl, iteD (fun e => ?_) (fun e => ?_)⟩
    · have e : y = o := by injection e
      unfold ins at k
      rw [if_pos e] at k
      exact ⟨_, rfl, k⟩
    · have e : y ≠ o := fun z => e (by rw [z])
      unfold ins at k
      rw [if_neg e] at k
      exact ⟨_, rfl, k⟩
theorem ok_instead_in (T : Txt K mg t) : FnOk P w K mg base CX0 2 t.f_instead_in t.d_instead_in ["numbers", "old", "new"] sp_insin := by
  have G_instead := ok_instead (P := P) (w := w) (base := base) T
  refine T.F_instead_in.ok sc_instead_in (fun vs H Q E h => ?_) (fun cdv A outer s H vs Q E hr h => ?_)
  · obtain ⟨c, cs, o, w, rfl, _⟩ := h
    rfl
  · obtain ⟨c, cs, o, w, rfl, hc, lc, k⟩ := h
    refine ⟨_, (pss_one (ps_ret (pe_callTy call_tuple_of (by rfl) T.z_tuple PyProof.Rows.boot_tuple (pa_cons (pe_comp (N' := ["number", "new", "old"]) (ix := (List.replicate 1 none ++ [some 2, some 1])) rfl (clok_many (cl := [("old", _), ("new", _)]) (xs := ["old", "new"]) rfl ⟨rfl, rfl, trivial⟩ rfl rfl (by decide +kernel) (by decide +kernel)) (ixok_many (N0 := ["number"]) (xs := ["new", "old"]) (js := [2, 1]) ⟨⟨rfl, Or.inl rfl, (by first | exact Or.inl rfl | exact Or.inr rfl | (simp [relabel]; rfl) | (with_unfolding_all exact Or.inl rfl) | (with_unfolding_all exact Or.inr rfl) | (with_unfolding_all decide))⟩, ⟨rfl, Or.inl rfl, (by first | exact Or.inl rfl | exact Or.inr rfl | (simp [relabel]; rfl) | (with_unfolding_all exact Or.inl rfl) | (with_unfolding_all exact Or.inr rfl) | (with_unfolding_all decide))⟩, trivial⟩) (pi_tup (pv 0)) (fun _ _ _ _ => (pg_name (i := 0) nd_comp_3 rfl (Or.inl rfl) (Or.inr rfl))) (fun _ _ _ _ => (pe_call G_instead (hr.mono (by omega)) rfl T.m_instead T.F_instead.kp T.b_instead .nil pass0 (pa_cons (pv 0) (pa_cons (pv 2) (pa_cons (pv 1) pa_nil)))))) pa_nil)))), ?_⟩
    refine ⟨_, rfl, c, rfl, ⟨_, SqT.of hc⟩, fun D hD => ?_⟩
    refine comp_tupQ (K := K) (a := c) (D := D) (xs := cs.map V.int) (fun i ys H2 => Same H H2 ∧ H2 D = some (.lst ys) ∧ ys = ((cs.take i).map (ins o w)).map V.int) ⟨same_new hD, upd_same, rfl⟩ (fun i ys H2 ⟨s2, _⟩ => SqT.of (s2 _ _ hc)) ?_ ?_
    · rintro i x ys H2 hx ⟨s2, hD2, rfl⟩
      obtain ⟨z, hz, rfl⟩ := get_map hx
      have hi : i < cs.length := (List.getElem?_eq_some_iff.mp hz).1
      refine ⟨⟨rfl, rfl, True.intro⟩, _, rfl, _, rfl, _, rfl, z, o, w, rfl, hD2, line_lt (by simp; omega), same_fresh s2 hD, upd_same, ?_⟩
      rw [List.take_add_one, hz, Option.toList_some, List.map_append, List.map_append]
      rfl
    · rintro ys H2 ⟨s2, hD2, rfl⟩
      rw [List.length_map, List.take_length] at hD2
      exact ⟨D, _, rfl, .inl ⟨SqL.of hD2, fun p hp => k p _ (s2.trans (same_new hp)) upd_same⟩⟩
theorem renN_step (T : Txt K mg t) {m d : Nat} {sp' : Sp} (G_renumbered : FnOk P w K mg base CX0 (m + 1) t.f_renumbered t.d_renumbered ["body", "old", "new"] sp') (hm : 1 ≤ m)
    (hs : ∀ (p : Addr) (xs : List V) (n sz wd out : Int) (bd : List Nd) (o w : Int) (b : Rd) (H : Hp) (Q : VK), H p = some (.tup xs) → NdsAt H bd xs → wbL b bd → bd.length ≤ 100 → dpN (.loop n sz wd out bd) ≤ d → (∀ (q : Addr) (xs' : List V) (H' : Hp), Same H H' → H' q = some (.tup xs') → NdsAt H' (renL o w bd) xs' → Q (.ref q) H') → sp' [.ref p, .int o, .int w] H Q E0) :
    FnOk P w K mg base CX0 (m + 2) t.f_renumbered_node t.d_renumbered_node ["node", "old", "new"] (sp_renN d) := by
  have G_is_loop := ok_is_loop (P := P) (w := w) (base := base) T
  have G_instead := ok_instead (P := P) (w := w) (base := base) T
  have G_instead_in := ok_instead_in (P := P) (w := w) (base := base) T
  refine T.F_renumbered_node.ok sc_renumbered_node (fun vs H Q E h => ?_) (fun cdv A outer s H vs Q E hr h => ?_)
  · obtain ⟨v, x, o, w, b, rfl, _⟩ := h
    rfl
  · obtain ⟨v, x, o, w, b, rfl, na, wb, dp, k⟩ := h
    refine ⟨_, (pss_cons (ps_if (pt_val (pe_call G_is_loop (hr.mono (by omega)) rfl T.m_is_loop T.F_is_loop.kp T.b_is_loop .nil pass0 (pa_cons (pv 0) pa_nil)))
        (pss_cons (ps_asg (pv 0) (pg_tup (n := 6) rfl (pgs_cons (pg_name (i := 3) sc_renumbered_node.nd rfl (Or.inl rfl) (Or.inl rfl)) (pgs_cons (pg_name (i := 4) sc_renumbered_node.nd rfl (Or.inl rfl) (Or.inl rfl)) (pgs_cons (pg_name (i := 5) sc_renumbered_node.nd rfl (Or.inl rfl) (Or.inl rfl)) (pgs_cons (pg_name (i := 6) sc_renumbered_node.nd rfl (Or.inl rfl) (Or.inl rfl)) (pgs_cons (pg_name (i := 7) sc_renumbered_node.nd rfl (Or.inl rfl) (Or.inl rfl)) (pgs_cons (pg_name (i := 8) sc_renumbered_node.nd rfl (Or.inl rfl) (Or.inl rfl)) pgs_nil))))))))
        (pss_one (ps_ret (pe_tup (pa_cons (pv 3) (pa_cons (pv 4) (pa_cons (pv 5) (pa_cons (pv 6) (pa_cons (pe_call G_instead (hr.mono (by omega)) rfl T.m_instead T.F_instead.kp T.b_instead .nil pass0 (pa_cons (pv 7) (pa_cons (pv 1) (pa_cons (pv 2) pa_nil)))) (pa_cons (pe_call G_renumbered (hr.mono (by omega)) rfl T.m_renumbered T.F_renumbered.kp T.b_renumbered .nil pass0 (pa_cons (pv 8) (pa_cons (pv 1) (pa_cons (pv 2) pa_nil)))) pa_nil))))))))))
        pss_nil)
      (pss_cons (ps_asg (pv 0) (pg_tup (n := 6) rfl (pgs_cons (pg_name (i := 3) sc_renumbered_node.nd rfl (Or.inl rfl) (Or.inl rfl)) (pgs_cons (pg_name (i := 4) sc_renumbered_node.nd rfl (Or.inl rfl) (Or.inl rfl)) (pgs_cons (pg_name (i := 9) sc_renumbered_node.nd rfl (Or.inl rfl) (Or.inl rfl)) (pgs_cons (pg_name (i := 10) sc_renumbered_node.nd rfl (Or.inl rfl) (Or.inl rfl)) (pgs_cons (pg_name (i := 11) sc_renumbered_node.nd rfl (Or.inl rfl) (Or.inl rfl)) (pgs_cons (pg_name (i := 12) sc_renumbered_node.nd rfl (Or.inl rfl) (Or.inl rfl)) pgs_nil))))))))
      (pss_one (ps_ret (pe_tup (pa_cons (pv 3) (pa_cons (pv 4) (pa_cons (pv 9) (pa_cons (pv 10) (pa_cons (pe_call G_instead_in (hr.mono (by omega)) rfl T.m_instead_in T.F_instead_in.kp T.b_instead_in .nil pass0 (pa_cons (pv 11) (pa_cons (pv 1) (pa_cons (pv 2) pa_nil)))) (pa_cons (pe_call G_instead_in (hr.mono (by omega)) rfl T.m_instead_in T.F_instead_in.kp T.b_instead_in .nil pass0 (pa_cons (pv 12) (pa_cons (pv 1) (pa_cons (pv 2) pa_nil)))) pa_nil))))))))))), ?_⟩
    cases x with
    | deed n kk wd cs us =>
      rw [NdAt] at na
      obtain ⟨bb, c, u, rfl, hb, hc, hu'⟩ := na
      rw [wbN] at wb
      refine ⟨_, rfl, bb, _, _, rfl, hb, _, rfl, iteNo (by decide +kernel) ?_⟩
      refine ⟨_, rfl, bb, _, rfl, SqT.of hb, rfl, _, _, rfl, _, _, rfl, _, _, rfl, _, _, rfl, _, _, rfl, _, _, rfl, rfl, ?_⟩
      refine ⟨_, rfl, _, rfl, _, rfl, _, rfl, _, rfl, _, rfl, _, rfl, c, cs, o, w, rfl, hc, wb.2.2.1, fun q1 H1 s1 e1 => ?_⟩
      refine ⟨_, rfl, _, rfl, _, rfl, u, us, o, w, rfl, s1 _ _ hu', wb.2.2.2, fun q2 H2 s2 e2 => ⟨line_le (by simp), fun r hr0 => ?_⟩⟩
      have s3 := same_new (o := .tup [.str "deed", .int n, .int kk, .str wd, .ref q1, .ref q2]) hr0
      refine k _ _ (s1.trans (s2.trans s3)) ?_
      rw [renN, NdAt]
      exact ⟨r, q1, q2, rfl, upd_same, s3 _ _ (s2 _ _ e1), s3 _ _ e2⟩
    | loop n sz wd out bd =>
      rw [NdAt] at na
      obtain ⟨bb, p, xs, rfl, hb, hp, nds⟩ := na
      rw [wbN] at wb
      obtain ⟨_, _, _, _, _, wbd, lbd⟩ := wb
      refine ⟨_, rfl, bb, _, _, rfl, hb, _, rfl, iteYes rfl ?_⟩
      refine ⟨_, rfl, bb, _, rfl, SqT.of hb, rfl, _, _, rfl, _, _, rfl, _, _, rfl, _, _, rfl, _, _, rfl, _, _, rfl, rfl, ?_⟩
      refine ⟨_, rfl, _, rfl, _, rfl, _, rfl, _, rfl, _, rfl, _, rfl, out, o, w, rfl, ?_⟩
      refine ⟨_, rfl, _, rfl, _, rfl, hs p xs n sz wd out bd o w _ H _ hp nds wbd lbd dp fun q xs' H1 s1 hq nd' => ⟨line_le (by simp), fun r hr0 => ?_⟩⟩
      have s3 := same_new (o := .tup [.str "loop", .int n, .int sz, .int wd, .int (ins o w out), .ref q]) hr0
      refine k _ _ (s1.trans s3) ?_
      rw [renN, NdAt]
      exact ⟨r, q, xs', rfl, upd_same, s3 _ _ hq, nd'.kt (KT.same s3)⟩
theorem ren_step (T : Txt K mg t) {m d : Nat} (G_renumbered_node : FnOk P w K mg base CX0 (m + 2) t.f_renumbered_node t.d_renumbered_node ["node", "old", "new"] (sp_renN d)) :
    FnOk P w K mg base CX0 (m + 3) t.f_renumbered t.d_renumbered ["body", "old", "new"] (sp_ren d) := by
  refine T.F_renumbered.ok sc_renumbered (fun vs H Q E h => ?_) (fun cdv A outer s H vs Q E hr h => ?_)
  · obtain ⟨p, xs, l, o, w, b, rfl, _⟩ := h
    rfl
  · obtain ⟨p, xs, l, o, w, b, rfl, hp, nds, wb, ll, dp, k⟩ := h
    have prs := nds_pair.mp nds
    have lx := nds.len
    refine ⟨_, (pss_one (ps_ret (pe_callTy call_tuple_of (by rfl) T.z_tuple PyProof.Rows.boot_tuple (pa_cons (pe_comp (N' := ["node", "new", "old"]) (ix := (List.replicate 1 none ++ [some 2, some 1])) rfl (clok_many (cl := [("old", _), ("new", _)]) (xs := ["old", "new"]) rfl ⟨rfl, rfl, trivial⟩ rfl rfl (by decide +kernel) (by decide +kernel)) (ixok_many (N0 := ["node"]) (xs := ["new", "old"]) (js := [2, 1]) ⟨⟨rfl, Or.inl rfl, (by first | exact Or.inl rfl | exact Or.inr rfl | (simp [relabel]; rfl) | (with_unfolding_all exact Or.inl rfl) | (with_unfolding_all exact Or.inr rfl) | (with_unfolding_all decide))⟩, ⟨rfl, Or.inl rfl, (by first | exact Or.inl rfl | exact Or.inr rfl | (simp [relabel]; rfl) | (with_unfolding_all exact Or.inl rfl) | (with_unfolding_all exact Or.inr rfl) | (with_unfolding_all decide))⟩, trivial⟩) (pi_tup (pv 0)) (fun _ _ _ _ => (pg_name (i := 0) nd_comp_2 rfl (Or.inl rfl) (Or.inr rfl))) (fun _ _ _ _ => (pe_call G_renumbered_node (hr.mono (by omega)) rfl T.m_renumbered_node T.F_renumbered_node.kp T.b_renumbered_node .nil pass0 (pa_cons (pv 0) (pa_cons (pv 2) (pa_cons (pv 1) pa_nil)))))) pa_nil)))), ?_⟩
    refine ⟨_, rfl, p, rfl, ⟨_, SqT.of hp⟩, fun D hD => ?_⟩
    refine comp_tupQ (K := K) (a := p) (D := D) (xs := xs) (fun i ys H2 => Same H H2 ∧ H2 D = some (.lst ys) ∧ NdsAt H2 (renL o w (l.take i)) ys) ⟨same_new hD, upd_same, by rw [List.take_zero, renL, NdsAt]⟩ (fun i ys H2 ⟨s2, _⟩ => SqT.of (s2 _ _ hp)) ?_ ?_
    · rintro i x ys H2 hx ⟨s2, hD2, ny⟩
      obtain ⟨nd, he, na⟩ := pget prs hx
      have hi : i < l.length := (List.getElem?_eq_some_iff.mp he).1
      have ly := ny.len
      rw [renL_map, List.length_map, List.length_take] at ly
      have dpx : dpN nd ≤ d := by
        have : dpL l = max (dpL (l.take i)) (max (dpN nd) (dpL (l.drop (i + 1)))) := by rw [← dpL_mid, ← cut_at he]
        omega
      refine ⟨⟨rfl, rfl, True.intro⟩, _, rfl, _, rfl, _, rfl, x, nd, o, w, b, rfl, NdAt.kt (KT.same s2) na, wbL_mem wb nd (List.mem_of_getElem? he), dpx, fun v' H3 s3 na' => ?_⟩
      have hD3 := s3 _ _ hD2
      have kt : KT H3 (upd H3 D (.lst (ys ++ [v']))) := KT.at hD3 (by intro xs z; cases z)
      refine ⟨hD3, line_lt (by omega), same_fresh (s2.trans s3) hD, upd_same, ?_⟩
      have e : renL o w (l.take (i + 1)) = renL o w (l.take i) ++ [renN o w nd] := by rw [List.take_add_one, he, Option.toList_some, renL_map, renL_map, List.map_append]; rfl
      rw [e]
      refine nds_pair.mpr (papp (nds_pair.mp ((ny.kt (KT.same s3)).kt kt)) (.cons (NdAt.kt kt na') .nil))
    · rintro ys H2 ⟨s2, hD2, ny⟩
      rw [lx, List.take_length] at ny
      exact ⟨D, _, rfl, .inl ⟨SqL.of hD2, fun q hq => k q ys _ (s2.trans (same_new hq)) upd_same (ny.kt (KT.same (same_new hq)))⟩⟩
theorem ok_ren (T : Txt K mg t) : ∀ d : Nat, FnOk P w K mg base CX0 (2 * d + 4) t.f_renumbered t.d_renumbered ["body", "old", "new"] (sp_ren d)
  | 0 => ren_step T (m := 1) (renN_step T (m := 1) (d := 0) (sp' := fun _ _ _ _ => False) (FnOk.none fun _ _ _ _ h => h) (Nat.le_refl _) fun p xs n sz wd out bd o w b H Q hp nds wb lb dp => by
      rw [dpN] at dp
      omega)
  | d + 1 => ren_step T (m := 2 * d + 3) (renN_step T (m := 2 * d + 3) (d := d + 1) (ok_ren T d) (by omega) fun p xs n sz wd out bd o w b H Q hp nds wb lb dp k => by
      rw [dpN] at dp
      exact ⟨p, xs, bd, o, w, b, rfl, hp, nds, wb, lb, by omega, k⟩)
end
end My

set_option Elab.async false
set_option linter.all false
set_option maxRecDepth 100000
set_option maxHeartbeats 4000000
namespace My
open PySem L2
local macro_rules | `(tactic| walk_at "lk") => `(tactic| first | with_reducible exact lk0 | (refine lk1 (by decide +kernel) ?_; walk_at "lk") | rfl)
theorem cutV_take {xs : List V} {p : Nat} (h : p ≤ xs.length) : cutV xs none (some (p : Int)) = xs.take p := by
  unfold cutV
  rw [HT.sIx_none, HT.sIx_nat, List.drop_zero, Nat.min_eq_left h, Nat.sub_zero]
theorem cutV_drop {xs : List V} {p : Nat} (h : p ≤ xs.length) : cutV xs (some (p : Int)) none = xs.drop p := by
  unfold cutV
  rw [HT.sIx_none, HT.sIx_nat, Nat.min_eq_left h]
  exact List.take_of_length_le (by rw [List.length_drop]; omega)
theorem ptake {α β : Type} {F : α → β → Prop} : ∀ {a : List α} {b : List β} (n : Nat), Paired F a b → Paired F (a.take n) (b.take n)
  | _, _, 0, _ => by simp; exact .nil
  | _, _, n + 1, .nil => by simp; exact .nil
  | _, _, n + 1, .cons r t => by rw [List.take_succ_cons, List.take_succ_cons]; exact .cons r (ptake n t)
theorem pdrop {α β : Type} {F : α → β → Prop} : ∀ {a : List α} {b : List β} (n : Nat), Paired F a b → Paired F (a.drop n) (b.drop n)
  | _, _, 0, h => h
  | _, _, n + 1, .nil => by simp; exact .nil
  | _, _, n + 1, .cons r t => by rw [List.drop_succ_cons, List.drop_succ_cons]; exact pdrop n t
theorem nds_mid {H H' : Hp} {l : List Nd} {xs : List V} {y : Nd} {v : V} (h : NdsAt H l xs) (k : KT H H') (hy : NdAt H' y v) (p : Nat) : NdsAt H' (l.take p ++ y :: l.drop (p + 1)) (xs.take p ++ [v] ++ xs.drop (p + 1)) := by
  have pr := nds_pair.mp (h.kt k)
  rw [List.append_assoc]
  exact nds_pair.mpr (papp (ptake p pr) (.cons hy (pdrop (p + 1) pr)))
theorem reps_path {H : Hp} : ∀ path : List Nat, Reps H (pInt path) (path.map fun (p : Nat) => PyData.int (p : Int))
  | [] => .nil
  | p :: r => .cons (.int _) (reps_path r)
theorem lay_path : ∀ path : List Nat, PyData.canLayAll0 (path.map fun (p : Nat) => PyData.int (p : Int)) = true ∧ PyData.depthAll (path.map fun (p : Nat) => PyData.int (p : Int)) = 0
  | [] => ⟨rfl, rfl⟩
  | p :: r => by
    obtain ⟨h1, h2⟩ := lay_path r
    exact ⟨by simp [PyData.canLayAll0, PyData.canLay0, h1], by simp [PyData.depthAll, PyData.depth, h2]⟩
theorem shaped_path (path : List Nat) : SeqAt.shaped (.list (path.map fun (p : Nat) => PyData.int (p : Int))) = true := by
  obtain ⟨h1, h2⟩ := lay_path path
  refine shaped_of ?_ ?_
  · simp only [PyData.canLay0]; exact h1
  · simp only [PyData.depth, h2]; omega
theorem eqv_path (path : List Nat) : PyData.eqv (.list (path.map fun (p : Nat) => PyData.int (p : Int))) (.list []) = decide (path = []) := by
  cases path <;> rfl
theorem path_dp {x : Nd} : ∀ {path : List Nat} {l : List Nd}, PathAt path l x → dpN x ≤ dpL l ∧ path.length + dpN x ≤ dpL l + 1
  | [p], l, hp => by
    have e1 : dpL l = max (dpL (l.take p)) (max (dpN x) (dpL (l.drop (p + 1)))) := by rw [← dpL_mid, ← cut_at (show l[p]? = some x from hp)]
    show dpN x ≤ dpL l ∧ 1 + dpN x ≤ dpL l + 1
    omega
  | p :: q :: r, l, hp => by
    obtain ⟨n, sz, wd, out, bd, e, hq⟩ := hp
    have e1 : dpL l = max (dpL (l.take p)) (max (dpN (.loop n sz wd out bd)) (dpL (l.drop (p + 1)))) := by rw [← dpL_mid, ← cut_at e]
    have ih := path_dp hq
    rw [dpN] at e1
    rw [List.length_cons]
    omega
theorem iteNo' {b : Bool} {A B : Prop} (h : b = false) (q : B) : if b = true then A else B := by rw [h]; exact iteF q
theorem iteYes' {b : Bool} {A B : Prop} (h : b = true) (q : A) : if b = true then A else B := by rw [h]; exact iteT q
section
variable {P : Program} {w : World} {K : PySem.W.Frag} {mg : Str → Option Value} {base : Heap} {t : Adr}
theorem ok_cut_by (T : Txt K mg t) : FnOk P w K mg base CX0 85 t.f_cut_by t.d_cut_by ["tile", "loop", "fresh"] sp_cut := by
  have G_renumbered := ok_ren (P := P) (w := w) (base := base) T 40
  refine T.F_cut_by.ok sc_cut_by (fun vs H Q E h => ?_) (fun cdv A outer s H vs Q E hr h => ?_)
  · obtain ⟨T', w', n, sz, wd, bd, v, b, rfl, _⟩ := h
    rfl
  · obtain ⟨tl, fr, n, sz, wd, bd, v, b, rfl, na, wb, dp, t1, t2, k⟩ := h
    rw [NdAt] at na
    obtain ⟨bb, p, xs, rfl, hb, hp, nds⟩ := na
    rw [wbN] at wb
    obtain ⟨_, s1, s60, n0, nb, wbd, lbd⟩ := wb
    refine ⟨_, (pss_cons (ps_asg (pv 1) (pg_tup (n := 6) rfl (pgs_cons (pg_name (i := 3) sc_cut_by.nd rfl (Or.inl rfl) (Or.inl rfl)) (pgs_cons (pg_name (i := 4) sc_cut_by.nd rfl (Or.inl rfl) (Or.inl rfl)) (pgs_cons (pg_name (i := 5) sc_cut_by.nd rfl (Or.inl rfl) (Or.inl rfl)) (pgs_cons (pg_name (i := 6) sc_cut_by.nd rfl (Or.inl rfl) (Or.inl rfl)) (pgs_cons (pg_name (i := 7) sc_cut_by.nd rfl (Or.inl rfl) (Or.inl rfl)) (pgs_cons (pg_name (i := 8) sc_cut_by.nd rfl (Or.inl rfl) (Or.inl rfl)) pgs_nil))))))))
      (pss_cons (ps_if (PW.pt (pw_or (pt_cmpR op_ne (pv 7) (pe_globE T.cn_NO_OUTER rfl) (nomark _)) (pw_or1 (pt_cmpR op_lt (pv 0) pe_int (nomark _)))))
        (pss_one ps_never)
        pss_nil)
      (pss_cons (ps_set (i := 9) sc_cut_by.nd rfl (Or.inl rfl) (pe_op op_fdivB (pe_op op_sub (pe_op op_add (pv 5) (pv 0)) pe_int) (pv 0)))
      (pss_cons (ps_set (i := 10) sc_cut_by.nd rfl (Or.inl rfl) (pe_tup (pa_cons (pv 3) (pa_cons (pv 2) (pa_cons (pv 5) (pa_cons (pv 0) (pa_cons (pv 4) (pa_cons (pe_call G_renumbered (hr.mono (by omega)) rfl T.m_renumbered T.F_renumbered.kp T.b_renumbered .nil pass0 (pa_cons (pv 8) (pa_cons (pv 4) (pa_cons (pv 2) pa_nil)))) pa_nil))))))))
      (pss_one (ps_ret (pe_tup (pa_cons (pv 3) (pa_cons (pv 4) (pa_cons (pv 9) (pa_cons (pv 6) (pa_cons (pv 7) (pa_cons (pe_tup (pa_cons (pv 10) pa_nil)) pa_nil))))))))))))), ?_⟩
    refine ⟨_, rfl, bb, _, rfl, SqT.of hb, rfl, _, _, rfl, _, _, rfl, _, _, rfl, _, _, rfl, _, _, rfl, _, _, rfl, rfl, ?_⟩
    refine ⟨_, rfl, rfl, _, rfl, iteNS rfl ⟨_, rfl, _, _, rfl, rfl, _, rfl, iteD (fun h => absurd (show tl < 1 from h) (by omega)) (fun _ => ?_)⟩⟩
    refine ⟨_, rfl, _, rfl, _, _, rfl, rfl, _, _, rfl, rfl, _, rfl, _, _, rfl, rfl, ⟨by omega, t2⟩, ?_⟩
    refine ⟨_, rfl, _, rfl, _, rfl, _, rfl, _, rfl, _, rfl, _, rfl, _, rfl, p, xs, bd, n, fr, _, rfl, hp, nds, wbd, lbd, dp, fun q xs' H1 u1 hq nd' => ⟨line_le (by simp), fun wq hwq => ?_⟩⟩
    have u2 : Same H1 (upd H1 wq (.tup [.str "loop", .int fr, .int sz, .int tl, .int n, .ref q])) := same_new hwq
    have hw2 : upd H1 wq (.tup [.str "loop", .int fr, .int sz, .int tl, .int n, .ref q]) wq = some (.tup [.str "loop", .int fr, .int sz, .int tl, .int n, .ref q]) := upd_same
    generalize upd H1 wq (.tup [.str "loop", .int fr, .int sz, .int tl, .int n, .ref q]) = H2 at u2 hw2 ⊢
    refine ⟨_, rfl, _, rfl, _, rfl, _, rfl, _, rfl, _, rfl, line_le (by simp), fun z hz => ⟨line_le (by simp), fun r hr0 => ?_⟩⟩
    have u3 : Same H2 (upd H2 z (.tup [.ref wq])) := same_new hz
    have hz3 : upd H2 z (.tup [.ref wq]) z = some (.tup [.ref wq]) := upd_same
    generalize upd H2 z (.tup [.ref wq]) = H3 at u3 hz3 hr0 ⊢
    have u4 := same_new (o := .tup [.str "loop", .int n, .int ((sz + tl - 1) / tl), .int wd, .int (-1), .ref z]) hr0
    refine k _ _ (u1.trans (u2.trans (u3.trans u4))) ?_
    rw [cutN, NdAt]
    refine ⟨r, z, [.ref wq], rfl, upd_same, u4 _ _ hz3, ?_⟩
    rw [NdsAt]
    refine ⟨_, [], rfl, ?_, by rw [NdsAt]⟩
    rw [NdAt]
    exact ⟨wq, q, xs', rfl, (u3.trans u4) _ _ hw2, (u2.trans (u3.trans u4)) _ _ hq, nd'.kt (KT.same (u2.trans (u3.trans u4)))⟩
theorem ok_moved_at (T : Txt K mg t) : FnOk P w K mg base CX0 86 t.f_moved_at t.d_moved_at ["place", "body", "move", "fresh"] sp_mat := by
  have G_cut_by := ok_cut_by (P := P) (w := w) (base := base) T
  refine T.F_moved_at.ok sc_moved_at (fun vs H Q E h => ?_) (fun cdv A outer s H vs Q E hr h => ?_)
  · obtain ⟨p, bp, mv, fr, N, T', n, sz, wd, bd, xs, l, b, rfl, _⟩ := h
    rfl
  · obtain ⟨p, bp, mv, fr, N, tl, n, sz, wd, bd, xs, l, b, rfl, hbp, nds, ll, hx, wb, dp, hmv, t1, t2, k⟩ := h
    have lx := nds.len
    have hp : p < l.length := (List.getElem?_eq_some_iff.mp hx).1
    have prs := nds_pair.mp nds
    have hxi : xs[p]? = some (xs[p]'(by omega)) := List.getElem?_eq_getElem _
    obtain ⟨x', hx', na⟩ := pget prs hxi
    rw [hx] at hx'
    cases hx'
    generalize xs[p]'(by omega) = v at hxi na
    refine ⟨_, (pss_cons (ps_set (i := 4) sc_moved_at.nd rfl (Or.inl rfl) (pe_ix ix_tup (pv 1) (pv 0) (fun _ _ => rfl)))
      (pss_cons (ps_set (i := 5) sc_moved_at.nd rfl (Or.inl rfl) (pe_slice sl_tup (pv 1) (po_some (pe_op op_add (pv 0) pe_int)) po_none))
      (pss_cons (ps_set (i := 6) sc_moved_at.nd rfl (Or.inl rfl) (pe_tup (pa_cons (pe_ix ix_tup (pv 2) pe_int (fun _ _ => rfl)) (pa_cons (pe_callB call_len_seq (by rfl) T.z_len PySem.boot_len (pa_cons (pv 2) pa_nil)) pa_nil))))
      (pss_cons (ps_if (pt_cmpR (op_eqD hr.units) (pv 6) (pe_tup (pa_cons pe_str (pa_cons pe_int pa_nil))) (nomark _))
        (pss_one ps_never)
        pss_nil)
      (pss_cons (ps_if (pt_cmpR (op_eqD hr.units) (pv 6) (pe_tup (pa_cons pe_str (pa_cons pe_int pa_nil))) (nomark _))
        (pss_one (ps_ret (pe_op op_catT4 (pe_op op_catT4 (pe_slice sl_tup (pv 1) po_none (po_some (pv 0))) (pe_tup (pa_cons (pe_call G_cut_by (hr.mono (by omega)) rfl T.m_cut_by T.F_cut_by.kp T.b_cut_by .nil pass0 (pa_cons (pe_ix ix_tup (pv 2) pe_int (fun _ _ => rfl)) (pa_cons (pv 4) (pa_cons (pv 3) pa_nil)))) pa_nil))) (pv 5))))
        pss_nil)
      (pss_cons (ps_if (pt_cmpR (op_eqD hr.units) (pv 6) (pe_tup (pa_cons pe_str (pa_cons pe_int pa_nil))) (nomark _))
        (pss_one ps_never)
        pss_nil)
      (pss_one ps_never))))))), ?_⟩
    refine ⟨_, rfl, _, rfl, bp, _, _, _, rfl, rfl, SqT.of hbp, atI_nat hxi, ?_⟩
    refine ⟨_, rfl, _, rfl, _, _, rfl, rfl, _, rfl, bp, xs, rfl, SqT.of hbp, ?_, fun bh hbh => ?_⟩
    · rintro ⟨h1, _⟩
      have e : ((p : Int) + 1) = ((p + 1 : Nat) : Int) := by omega
      have h1 : HT.sIx xs.length 0 (some ((p : Int) + 1)) = 0 := h1
      rw [e, HT.sIx_nat] at h1
      omega
    have ed : cutV xs (some ((p : Int) + 1)) none = xs.drop (p + 1) := by
      rw [show ((p : Int) + 1) = ((p + 1 : Nat) : Int) by omega]
      exact cutV_drop (by omega)
    have ed : cutV xs (some ((fun i j => i + j) (p : Int) 1)) none = xs.drop (p + 1) := ed
    have u1 : Same H (upd H bh (.tup (xs.drop (p + 1)))) := same_new hbh
    have hb1 : upd H bh (.tup (xs.drop (p + 1))) bh = some (.tup (xs.drop (p + 1))) := upd_same
    rw [show cutV xs (some ((p : Int) + 1)) none = xs.drop (p + 1) from ed]
    generalize upd H bh (.tup (xs.drop (p + 1))) = H1 at u1 hb1 ⊢
    refine ⟨_, rfl, mv, _, _, _, rfl, rfl, SqT.of (u1 _ _ hmv), atI_nat (j := 0) rfl, _, rfl, mv, _, rfl, .inr (SqT.of (u1 _ _ hmv)), line_le (by simp), fun f hf => ?_⟩
    have u2 : Same H1 (upd H1 f (.tup [.str "cut", .int 3])) := same_new hf
    have hf2 : upd H1 f (.tup [.str "cut", .int 3]) f = some (.tup [.str "cut", .int 3]) := upd_same
    have u12 := u1.trans u2
    show _
    generalize hG2 : upd H1 f _ = H2
    have u2 : Same H1 H2 := by rw [← hG2]; exact same_new hf
    have hf2 : H2 f = some (.tup [.str "cut", .int 3]) := by rw [← hG2]; exact upd_same
    have u12 := u1.trans u2
    clear hG2
    have rep : ∀ {G : Hp}, Same H2 G → Rep G (.ref f) (.tuple [.str "cut", .int 3]) := fun sG => .tup (sG _ _ hf2) (.cons (.str _) (.cons (.int _) .nil))
    refine ⟨_, rfl, line_le (by simp), fun z hz => ?_⟩
    have u3 : Same H2 (upd H2 z (.tup [.str "swap", .int 2])) := same_new hz
    have hz3 : upd H2 z (.tup [.str "swap", .int 2]) z = some (.tup [.str "swap", .int 2]) := upd_same
    generalize upd H2 z (.tup [.str "swap", .int 2]) = H3 at u3 hz3 ⊢
    refine ⟨_, .tuple [.str "swap", .int 2], rep u3, .tup hz3 (.cons (.str _) (.cons (.int _) .nil)), by decide +kernel, by decide +kernel, _, rfl, ?_⟩
    refine iteNo' (by decide +kernel) ?_
    refine ⟨_, rfl, line_le (by simp), fun z2 hz2 => ?_⟩
    have u4 : Same H3 (upd H3 z2 (.tup [.str "cut", .int 3])) := same_new hz2
    have hz4 : upd H3 z2 (.tup [.str "cut", .int 3]) z2 = some (.tup [.str "cut", .int 3]) := upd_same
    generalize upd H3 z2 (.tup [.str "cut", .int 3]) = H4 at u4 hz4 ⊢
    refine ⟨_, .tuple [.str "cut", .int 3], rep (u3.trans u4), .tup hz4 (.cons (.str _) (.cons (.int _) .nil)), by decide +kernel, by decide +kernel, _, rfl, ?_⟩
    refine iteYes' (by decide +kernel) ?_
    have s4 := u12.trans (u3.trans u4)
    refine ⟨_, rfl, _, rfl, _, rfl, bp, xs, rfl, SqT.of (s4 _ _ hbp), ?_, fun hd hhd => ?_⟩
    · rintro ⟨_, h2⟩
      have h2 : HT.sIx xs.length xs.length (some (p : Int)) = xs.length := h2
      rw [HT.sIx_nat] at h2
      omega
    rw [cutV_take (by omega)]
    have u5 : Same H4 (upd H4 hd (.tup (xs.take p))) := same_new hhd
    have hd5 : upd H4 hd (.tup (xs.take p)) hd = some (.tup (xs.take p)) := upd_same
    generalize upd H4 hd (.tup (xs.take p)) = H5 at u5 hd5 ⊢
    have s5 := s4.trans u5
    refine ⟨_, rfl, mv, _, _, _, rfl, rfl, SqT.of (s5 _ _ hmv), atI_nat (j := 2) rfl, _, rfl, _, rfl, tl, fr, n, sz, wd, bd, v, b, rfl, NdAt.kt (KT.same s5) na, wb, dp, t1, t2, fun v' H6 u6 na' => ⟨line_le (by simp), fun z3 hz3' => ?_⟩⟩
    have u7 : Same H6 (upd H6 z3 (.tup [v'])) := same_new hz3'
    have hz7 : upd H6 z3 (.tup [v']) z3 = some (.tup [v']) := upd_same
    generalize upd H6 z3 (.tup [v']) = H7 at u7 hz7 ⊢
    have u57 := u6.trans u7
    refine ⟨hd, z3, _, _, rfl, rfl, u57 _ _ hd5, hz7, line_le (by rw [List.length_take]; simp; omega), fun q8 H8 u8 hq8 => ?_⟩
    have u18 := u2.trans (u3.trans (u4.trans (u5.trans (u57.trans u8))))
    refine ⟨_, rfl, q8, bh, _, _, rfl, rfl, hq8, u18 _ _ hb1, line_le (by rw [List.length_append, List.length_take, List.length_drop]; simp; omega), fun r H9 u9 hr9 => ?_⟩
    refine k r _ H9 (u1.trans (u18.trans u9)) hr9 ?_
    rw [repl]
    exact nds_mid nds (KT.same (u1.trans (u18.trans u9))) (NdAt.kt (KT.same (u7.trans (u8.trans u9))) na') p
theorem along_step (T : Txt K mg t) {m : Nat} (G_moved_along : FnOk P w K mg base CX0 (90 + m) t.f_moved_along t.d_moved_along ["path", "body", "move", "fresh"] (sp_along m)) : FnOk P w K mg base CX0 (90 + m + 1) t.f_moved_along t.d_moved_along ["path", "body", "move", "fresh"] (sp_along (m + 1)) := by
  have G_moved_at := ok_moved_at (P := P) (w := w) (base := base) T
  have G_body_of := ok_body_of (P := P) (w := w) (base := base) T
  have G_with_body := ok_with_body (P := P) (w := w) (base := base) T
  refine T.F_moved_along.ok sc_moved_along (fun vs H Q E h => ?_) (fun cdv A outer s H vs Q E hr h => ?_)
  · obtain ⟨pl, bp, mv, path, fr, N, T', n, sz, wd, bd, xs, l, b, rfl, _⟩ := h
    rfl
  · obtain ⟨pl, bp, mv, path, fr, N, tl, n, sz, wd, bd, xs, l, b, rfl, hpl, lp, hbp, nds, ll, hpa, wb, dp, hmv, t1, t2, k⟩ := h
    have lx := nds.len
    refine ⟨_, (pss_cons (ps_set (i := 4) sc_moved_along.nd rfl (Or.inl rfl) (pe_ix ix_list (pv 0) pe_int (fun _ _ => rfl)))
      (pss_cons (ps_if (pt_cmpR op_eq (pe_callB call_len_seq (by rfl) T.z_len PySem.boot_len (pa_cons (pv 0) pa_nil)) pe_int (nomark _))
        (pss_one (ps_ret (pe_call G_moved_at (hr.mono (by omega)) rfl T.m_moved_at T.F_moved_at.kp T.b_moved_at .nil pass0 (pa_cons (pv 4) (pa_cons (pv 1) (pa_cons (pv 2) (pa_cons (pv 3) pa_nil)))))))
        pss_nil)
      (pss_cons (ps_set (i := 5) sc_moved_along.nd rfl (Or.inl rfl) (pe_ix ix_tup (pv 1) (pv 4) (fun _ _ => rfl)))
      (pss_cons (ps_set (i := 6) sc_moved_along.nd rfl (Or.inl rfl) (pe_call G_moved_along (hr.mono (by omega)) rfl T.m_moved_along T.F_moved_along.kp T.b_moved_along .nil pass0 (pa_cons (pe_slice sl_list (pv 0) (po_some pe_int) po_none) (pa_cons (pe_call G_body_of (hr.mono (by omega)) rfl T.m_body_of T.F_body_of.kp T.b_body_of .nil pass0 (pa_cons (pv 5) pa_nil)) (pa_cons (pv 2) (pa_cons (pv 3) pa_nil))))))
      (pss_one (ps_ret (pe_op op_catT4 (pe_op op_catT4 (pe_slice sl_tup (pv 1) po_none (po_some (pv 4))) (pe_tup (pa_cons (pe_call G_with_body (hr.mono (by omega)) rfl T.m_with_body T.F_with_body.kp T.b_with_body .nil pass0 (pa_cons (pv 5) (pa_cons (pv 6) pa_nil))) pa_nil))) (pe_slice sl_tup (pv 1) (po_some (pe_op op_add (pv 4) pe_int)) po_none)))))))), ?_⟩
    rcases path with _ | ⟨p, rest⟩
    · exact hpa.elim
    have e0 : atI (pInt (p :: rest)) ((0 : Nat) : Int) = some (.int (p : Int)) := atI_nat rfl
    refine ⟨_, rfl, pl, _, _, _, rfl, rfl, SqL.of hpl, e0, ?_⟩
    have lpi : (pInt (p :: rest)).length = rest.length + 1 := by unfold pInt; rw [List.length_map, List.length_cons]
    refine ⟨_, rfl, pl, _, rfl, .inl (SqL.of hpl), rfl, _, rfl, iteD (fun h1 => ?_) (fun h1 => ?_)⟩
    · have hr0 : rest = [] := List.length_eq_zero_iff.mp (by
        have h1 : ((pInt (p :: rest)).length : Int) = 1 := by injection h1
        omega)
      subst hr0
      have hx : l[p]? = some (.loop n sz wd (-1) bd) := hpa
      have dpx := (path_dp hpa).1
      rw [dpN] at dpx
      exact ⟨_, rfl, _, rfl, _, rfl, _, rfl, p, bp, mv, fr, N, tl, n, sz, wd, bd, xs, l, b, rfl, hbp, nds, ll, hx, wbL_mem wb _ (List.mem_of_getElem? hx), by omega, hmv, t1, t2, k⟩
    · rcases rest with _ | ⟨q, r⟩
      · exact absurd rfl h1
      obtain ⟨n', sz', wd', out', bd', hx, hq⟩ := hpa
      have hp : p < l.length := (List.getElem?_eq_some_iff.mp hx).1
      have hxi : xs[p]? = some (xs[p]'(by omega)) := List.getElem?_eq_getElem _
      obtain ⟨x', hx', na⟩ := pget (nds_pair.mp nds) hxi
      rw [hx] at hx'
      cases hx'
      generalize xs[p]'(by omega) = v at hxi na
      rw [NdAt] at na
      obtain ⟨bb, pp, xs', rfl, hb, hpp, nd'⟩ := na
      have wbx := wbL_mem wb _ (List.mem_of_getElem? hx)
      rw [wbN] at wbx
      obtain ⟨_, _, _, _, _, wbd, lbd⟩ := wbx
      have dpb : dpL bd' + 1 ≤ dpL l := by
        have := (path_dp (path := [p]) (l := l) hx).1
        rw [dpN] at this
        exact this
      refine ⟨_, rfl, _, rfl, bp, _, _, _, rfl, rfl, SqT.of hbp, atI_nat hxi, ?_⟩
      refine ⟨_, rfl, _, rfl, pl, _, rfl, SqL.of hpl, fun s1 hs1 => ?_⟩
      have ec : cutV (pInt (p :: q :: r)) (some ((1 : Nat) : Int)) none = pInt (q :: r) := by
        rw [cutV_drop (by omega)]
        rfl
      have ec : cutV (pInt (p :: q :: r)) (some 1) none = pInt (q :: r) := ec
      rw [ec]
      have u1 : Same H (upd H s1 (.lst (pInt (q :: r)))) := same_new hs1
      have h1' : upd H s1 (.lst (pInt (q :: r))) s1 = some (.lst (pInt (q :: r))) := upd_same
      generalize upd H s1 (.lst (pInt (q :: r))) = H1 at u1 h1' ⊢
      refine ⟨_, rfl, bb, pp, _, _, _, _, _, rfl, u1 _ _ hb, _, rfl, _, rfl, s1, pp, mv, q :: r, fr, N, tl, n, sz, wd, bd, xs', bd', _, rfl, h1', by rw [List.length_cons] at lp; omega, u1 _ _ hpp, nd'.kt (KT.same u1), lbd, hq, wbd, by omega, u1 _ _ hmv, t1, t2, fun qi xi H2 u2 hqi ndi => ?_⟩
      have u12 := u1.trans u2
      refine ⟨_, rfl, _, rfl, _, rfl, bp, xs, rfl, SqT.of (u12 _ _ hbp), ?_, fun hd hhd => ?_⟩
      · rintro ⟨_, h2⟩
        have h2 : HT.sIx xs.length xs.length (some (p : Int)) = xs.length := h2
        rw [HT.sIx_nat] at h2
        omega
      rw [cutV_take (by omega)]
      have u3 : Same H2 (upd H2 hd (.tup (xs.take p))) := same_new hhd
      have hd3 : upd H2 hd (.tup (xs.take p)) hd = some (.tup (xs.take p)) := upd_same
      generalize upd H2 hd (.tup (xs.take p)) = H3 at u3 hd3 ⊢
      refine ⟨_, rfl, _, rfl, bb, _, _, _, _, _, _, _, rfl, (u12.trans u3) _ _ hb, fun wq hwq => ⟨line_le (by simp), fun z3 hz3' => ?_⟩⟩
      have u4 : Same H3 (upd H3 wq (.tup [.str "loop", .int n', .int sz', .int wd', .int out', .ref qi])) := same_new hwq
      have hw4 : upd H3 wq (.tup [.str "loop", .int n', .int sz', .int wd', .int out', .ref qi]) wq = some (.tup [.str "loop", .int n', .int sz', .int wd', .int out', .ref qi]) := upd_same
      generalize upd H3 wq (.tup [.str "loop", .int n', .int sz', .int wd', .int out', .ref qi]) = H4 at u4 hw4 hz3' ⊢
      have u7 : Same H4 (upd H4 z3 (.tup [.ref wq])) := same_new hz3'
      have hz7 : upd H4 z3 (.tup [.ref wq]) z3 = some (.tup [.ref wq]) := upd_same
      generalize upd H4 z3 (.tup [.ref wq]) = H7 at u7 hz7 ⊢
      have u37 := u4.trans u7
      refine ⟨hd, z3, _, _, rfl, rfl, u37 _ _ hd3, hz7, line_le (by rw [List.length_take]; simp; omega), fun q8 H8 u8 hq8 => ?_⟩
      have u08 := u12.trans (u3.trans (u37.trans u8))
      refine ⟨_, rfl, _, rfl, _, _, rfl, rfl, _, rfl, bp, xs, rfl, SqT.of (u08 _ _ hbp), ?_, fun bh hbh => ?_⟩
      · rintro ⟨h1, _⟩
        have e : ((p : Int) + 1) = ((p + 1 : Nat) : Int) := by omega
        have h1 : HT.sIx xs.length 0 (some ((p : Int) + 1)) = 0 := h1
        rw [e, HT.sIx_nat] at h1
        omega
      have ed : cutV xs (some ((p : Int) + 1)) none = xs.drop (p + 1) := by
        rw [show ((p : Int) + 1) = ((p + 1 : Nat) : Int) by omega]
        exact cutV_drop (by omega)
      rw [show cutV xs (some ((p : Int) + 1)) none = xs.drop (p + 1) from ed]
      have u9 : Same H8 (upd H8 bh (.tup (xs.drop (p + 1)))) := same_new hbh
      have hb9 : upd H8 bh (.tup (xs.drop (p + 1))) bh = some (.tup (xs.drop (p + 1))) := upd_same
      generalize upd H8 bh (.tup (xs.drop (p + 1))) = H9 at u9 hb9 ⊢
      refine ⟨q8, bh, _, _, rfl, rfl, u9 _ _ hq8, hb9, line_le (by rw [List.length_append, List.length_take, List.length_drop]; simp; omega), fun rr Ha ua hra => ?_⟩
      have u4a := u7.trans (u8.trans (u9.trans ua))
      have u2a := u3.trans (u4.trans u4a)
      refine k rr _ Ha (u12.trans u2a) hra ?_
      rw [repl_cons hx]
      refine nds_mid nds (KT.same (u12.trans u2a)) ?_ p
      rw [NdAt]
      exact ⟨wq, qi, xi, rfl, u4a _ _ hw4, u2a _ _ hqi, ndi.kt (KT.same u2a)⟩
theorem ok_along (T : Txt K mg t) : ∀ m : Nat, FnOk P w K mg base CX0 (90 + m) t.f_moved_along t.d_moved_along ["path", "body", "move", "fresh"] (sp_along m)
  | 0 => FnOk.none fun vs H Q E ⟨_, _, _, path, _, _, _, _, _, _, _, _, _, _, _, _, lp, _, _, _, hpa, _⟩ => by
      have : path = [] := List.length_eq_zero_iff.mp (by omega)
      subst this
      exact hpa.elim
  | m + 1 => along_step T (ok_along T m)
end
end My

set_option Elab.async false
set_option linter.all false
set_option maxRecDepth 100000
set_option maxHeartbeats 4000000
namespace My
open PySem L2
local macro_rules | `(tactic| walk_at "lk") => `(tactic| first | with_reducible exact lk0 | (refine lk1 (by decide +kernel) ?_; walk_at "lk") | rfl)
def sp_moved : Sp := fun vs H Q _ => ∃ (q tp mv : Addr) (fr N T : Int) (L : List Int) (xs : List V) (l : List Nd) (d : Nat), vs = [.ref q, .ref mv] ∧ H q = some (.tup [.int fr, .ref tp]) ∧ H tp = some (.tup xs) ∧ NdsAt H l xs ∧ NsOkC L fr l d ∧ d ≤ 40 ∧ H mv = some (.tup [.str "cut", .int N, .int T]) ∧ N ∈ L ∧ 1 ≤ T ∧ T.natAbs < 2 ^ 4000 ∧
  ∀ (q' tp' : Addr) (xs' : List V) (l' : List Nd) (H' : Hp), Same H H' → H' q' = some (.tup [.int (fr + 1), .ref tp']) → H' tp' = some (.tup xs') → NdsAt H' l' xs' → NsOkC L (fr + 1) l' (d + 1) → (∀ f, doL l' f = doL l f) → Q (.ref q') H'
/-- a cut of one of these loops -/
def CutAt (H : Hp) (L : List Int) (v : V) : Prop := ∃ (b : Addr) (N T : Int), v = .ref b ∧ H b = some (.tup [.str "cut", .int N, .int T]) ∧ N ∈ L ∧ 1 ≤ T ∧ T.natAbs < 2 ^ 4000
theorem CutAt.same {H H' : Hp} {L : List Int} {v : V} (h : CutAt H L v) (s : Same H H') : CutAt H' L v := by
  obtain ⟨b, N, T, e, h1, r⟩ := h
  exact ⟨b, N, T, e, s _ _ h1, r⟩
def sp_planned (A : Adr) : Sp := fun vs H Q _ => ∃ (p ml dx l a tb ln o : Addr) (wh : Int) (lk : List (Key × V)) (xs ms : List V) (M : List Addr) (rows : List Rw), vs = [.ref p, .ref ml] ∧ H p = some (clo A dx wh l a tb ln o) ∧ H l = some (.dK lk) ∧ H ln = some (.lst xs) ∧ LinesAt A M H xs rows ∧ Tot lk rows ∧ rows.length ≤ 40 ∧ H ml = some (.lst ms) ∧ ms.length ≤ 30 ∧ (∀ v ∈ ms, CutAt H (loopsM rows rows.length) v) ∧
  ∀ (q tp : Addr) (fr : Int) (ns : List V) (nl : List Nd) (H' : Hp), Same H H' → H' q = some (.tup [.int fr, .ref tp]) → H' tp = some (.tup ns) → NdsAt H' nl ns → NsOkC (loopsM rows rows.length) fr nl 38 → fr ≤ 10000 → (∀ f, doL nl f = orderM rows rows.length) → Q (.ref q) H'
section
variable {P : Program} {w : World} {K : PySem.W.Frag} {mg : Str → Option Value} {base : Heap} {t : Adr}
theorem path_step (T : Txt K mg t) {m d : Nat} (hd : d ≤ 1000) {sp' : Sp} (G_path_to : FnOk P w K mg base CX0 (m + 1) t.f_path_to t.d_path_to ["number", "body"] sp')
    (hs : ∀ (N n sz wd out : Int) (bp : Addr) (xs : List V) (bd : List Nd) (b : Rd) (H : Hp) (Q : VK), H bp = some (.tup xs) → NdsAt H bd xs → bd.length ≤ 100 → wbL b bd → dpN (.loop n sz wd out bd) ≤ d → (∀ (q : Addr) (path : List Nat) (H' : Hp), Same H H' → H' q = some (.lst (pInt path)) → (path = [] ∧ N ∉ nmL bd ∨ path ≠ [] ∧ ∃ sz wd out bd', PathAt path bd (.loop N sz wd out bd')) → path.length + 1 ≤ d → Q (.ref q) H') → sp' [.int N, .ref bp] H Q E0) :
    FnOk P w K mg base CX0 (m + 2) t.f_path_to t.d_path_to ["number", "body"] (sp_path d) := by
  have G_is_loop := ok_is_loop (P := P) (w := w) (base := base) T
  have G_body_of := ok_body_of (P := P) (w := w) (base := base) T
  refine T.F_path_to.ok sc_path_to (fun vs H Q E h => ?_) (fun cdv A outer s H vs Q E hr h => ?_)
  · obtain ⟨N, bp, xs, l, b, rfl, _⟩ := h
    rfl
  · obtain ⟨N, bp, xs, l, b, rfl, hbp, nds, ll, wb, dp, k⟩ := h
    have lx := nds.len
    have prs := nds_pair.mp nds
    refine ⟨_, (pss_cons (ps_for PassesOwn.never rfl (pi_enumT rfl T.z_enumerate (pa_cons (pv 1) pa_nil)) (pg_tup (n := 2) rfl (pgs_cons (pg_name (i := 2) sc_path_to.nd rfl (Or.inl rfl) (Or.inl rfl)) (pgs_cons (pg_name (i := 3) sc_path_to.nd rfl (Or.inl rfl) (Or.inl rfl)) pgs_nil)))
        (pss_one (ps_if (pt_val (pe_call G_is_loop (hr.mono (by omega)) rfl T.m_is_loop T.F_is_loop.kp T.b_is_loop .nil pass0 (pa_cons (pv 3) pa_nil)))
          (pss_cons (ps_if (pt_cmpR op_eq (pe_ix ix_tup (pv 3) pe_int (fun _ _ => rfl)) (pv 0) (nomark _))
            (pss_one (ps_ret (pe_lst (pa_cons (pv 2) pa_nil))))
            pss_nil)
          (pss_cons (ps_set (i := 4) sc_path_to.nd rfl (Or.inl rfl) (pe_call G_path_to (hr.mono (by omega)) rfl T.m_path_to T.F_path_to.kp T.b_path_to .nil pass0 (pa_cons (pv 0) (pa_cons (pe_call G_body_of (hr.mono (by omega)) rfl T.m_body_of T.F_body_of.kp T.b_body_of .nil pass0 (pa_cons (pv 3) pa_nil)) pa_nil))))
          (pss_one (ps_if (pt_cmpR (op_neD hr.units) (pv 4) (pe_lst pa_nil) (nomark _))
            (pss_one (ps_ret (pe_op op_cat (pe_lst (pa_cons (pv 2) pa_nil)) (pv 4))))
            pss_nil))))
          pss_nil)))
      (pss_one (ps_ret (pe_lst pa_nil)))), ?_⟩
    refine ⟨_, rfl, bp, xs, rfl, SqT.of hbp, ?_⟩
    refine for_enumT (K := K) (a := bp) (xs := xs) (fun i σ H2 => ∃ (o2 o3 o4 : Option V), σ = [some (.int N), some (.ref bp), o2, o3, o4] ∧ Same H H2 ∧ N ∉ nmL (l.take i))
      ⟨none, none, none, rfl, Same.refl _, by rw [List.take_zero, nmL]; simp⟩ (fun i σ H2 ⟨_, _, _, _, s2, _⟩ => SqT.of (s2 _ _ hbp)) ?_ ?_
    · rintro i x σ H2 z hx ⟨o2, o3, o4, rfl, s2, nin⟩ hz
      obtain ⟨nd, he, na⟩ := pget prs hx
      have e1 := cut_at he
      have dpl : dpL l = max (dpL (l.take i)) (max (dpN nd) (dpL (l.drop (i + 1)))) := by rw [← dpL_mid, ← e1]
      have dpx : dpN nd ≤ d := by
        rw [dpl] at dp
        exact Nat.le_trans (Nat.le_trans (Nat.le_max_left _ _) (Nat.le_max_right _ _)) dp
      have tk : nmL (l.take (i + 1)) = nmL (l.take i) ++ nmN nd := by rw [List.take_add_one, he, Option.toList_some, nmL_app, nmL, nmL, List.append_nil]
      have sz3 : Same H2 (upd H2 z (.tup [.int (i : Nat), x])) := same_new hz
      have hz3 : upd H2 z (.tup [.int (i : Nat), x]) z = some (.tup [.int (i : Nat), x]) := upd_same
      generalize upd H2 z (.tup [.int (i : Nat), x]) = H3 at sz3 hz3 ⊢
      have s3 := s2.trans sz3
      have na3 : NdAt H3 nd x := NdAt.kt (KT.same s3) na
      refine ⟨z, _, rfl, SqT.of hz3, rfl, _, _, rfl, _, _, rfl, rfl, ?_⟩
      cases nd with
      | deed n kk wd cs us =>
        rw [NdAt] at na3
        obtain ⟨bb, c, u, rfl, hb, hc, hu'⟩ := na3
        refine ⟨_, rfl, bb, _, _, rfl, hb, _, rfl, iteNo (by decide +kernel) ⟨_, _, _, rfl, s3, ?_⟩⟩
        rw [tk, nmN, List.append_nil]
        exact nin
      | loop n sz wd out bd =>
        rw [NdAt] at na3
        obtain ⟨bb, pp, xs', rfl, hb, hpp, nd'⟩ := na3
        have wbx := wbL_mem wb _ (List.mem_of_getElem? he)
        rw [wbN] at wbx
        obtain ⟨_, _, _, _, _, wbd, lbd⟩ := wbx
        refine ⟨_, rfl, bb, _, _, rfl, hb, _, rfl, iteYes rfl ?_⟩
        refine ⟨_, rfl, bb, _, _, _, rfl, rfl, SqT.of hb, atI_nat (j := 1) rfl, _, rfl, rfl, _, rfl, iteD (fun e => ?_) (fun ne => ?_)⟩
        · have e : n = N := by injection e
          subst e
          refine ⟨_, rfl, line_le (by simp), fun q hq => k q [i] _ (s3.trans (same_new hq)) upd_same (.inr ⟨by simp, sz, wd, out, bd, he⟩) ?_⟩
          show 1 ≤ d
          rw [dpN] at dpx
          omega
        · have ne : N ≠ n := fun z => ne (by rw [z])
          refine ⟨_, rfl, _, rfl, bb, pp, _, _, _, _, _, rfl, hb, hs N n sz wd out pp xs' bd _ H3 _ hpp nd' lbd wbd dpx fun q path H4 s4 hq hp lp => ?_⟩
          refine ⟨_, rfl, line_le (by simp), fun z0 hz0 => ?_⟩
          have s5 : Same H4 (upd H4 z0 (.lst [])) := same_new hz0
          have h05 : upd H4 z0 (.lst []) z0 = some (.lst []) := upd_same
          generalize upd H4 z0 (.lst []) = H5 at s5 h05 ⊢
          have s05 := s3.trans (s4.trans s5)
          refine ⟨.list (path.map fun (p : Nat) => PyData.int (p : Int)), .list [], .lst (s5 _ _ hq) (reps_path path), .lst h05 .nil, shaped_path path, rfl, _, rfl, ?_⟩
          rw [eqv_path]
          refine iteND (fun hne => ?_) (fun hnil => ?_)
          · obtain ⟨_, sz', wd', out', bd', hpa⟩ := hp.resolve_left fun z => hne z.1
            refine ⟨_, rfl, line_le (by simp), fun z1 hz1 => ?_⟩
            have s6 : Same H5 (upd H5 z1 (.lst [.int (i : Int)])) := same_new hz1
            have h16 : upd H5 z1 (.lst [.int (i : Int)]) z1 = some (.lst [.int (i : Int)]) := upd_same
            generalize upd H5 z1 (.lst [.int (i : Int)]) = H6 at s6 h16 ⊢
            refine ⟨_, rfl, z1, q, _, _, rfl, rfl, h16, (s5.trans s6) _ _ hq, line_le (by unfold pInt; rw [List.length_map]; simp; omega), fun r hr0 => ?_⟩
            refine k r (i :: path) _ (s05.trans (s6.trans (same_new hr0))) upd_same (.inr ⟨by simp, sz', wd', out', bd', ?_⟩) (by rw [List.length_cons]; omega)
            rcases path with _ | ⟨p0, r0⟩
            · exact absurd rfl hne
            · exact ⟨n, sz, wd, out, bd, he, hpa⟩
          · have hn : N ∉ nmL bd := by
              rcases hp with hp | hp
              · exact hp.2
              · exact absurd hnil hp.1
            refine ⟨_, _, _, rfl, s05, ?_⟩
            rw [tk, nmN]
            intro hm
            rcases List.mem_append.mp hm with hm | hm
            · exact nin hm
            · rcases List.mem_cons.mp hm with hm | hm
              · exact ne hm
              · exact hn hm
    · rintro σ H2 ⟨o2, o3, o4, rfl, s2, nin⟩
      rw [lx, List.take_length] at nin
      exact ⟨line_le (by simp), fun q hq => k q [] _ (s2.trans (same_new hq)) upd_same (.inl ⟨rfl, nin⟩) (Nat.zero_le _)⟩
theorem ok_path (T : Txt K mg t) : ∀ d : Nat, d ≤ 1000 → FnOk P w K mg base CX0 (d + 3) t.f_path_to t.d_path_to ["number", "body"] (sp_path d)
  | 0, h => path_step T (m := 1) h (sp' := fun _ _ _ _ => False) (FnOk.none fun _ _ _ _ h => h) fun N n sz wd out bp xs bd b H Q hbp nds lb wb dp => by
      rw [dpN] at dp
      omega
  | d + 1, h => path_step T (m := d + 2) h (ok_path T d (by omega)) fun N n sz wd out bp xs bd b H Q hbp nds lb wb dp k => by
      rw [dpN] at dp
      exact ⟨N, bp, xs, bd, b, rfl, hbp, nds, lb, wb, by omega, fun q path H' s hq hp lp => k q path H' s hq hp (by omega)⟩
theorem ok_moved (T : Txt K mg t) : FnOk P w K mg base CX0 131 t.f_moved t.d_moved ["nest", "move"] sp_moved := by
  have G_path_to := ok_path (P := P) (w := w) (base := base) T 40 (by decide)
  have G_moved_along := ok_along (P := P) (w := w) (base := base) T 40
  refine T.F_moved.ok sc_moved (fun vs H Q E h => ?_) (fun cdv A outer s H vs Q E hr h => ?_)
  · obtain ⟨q, tp, mv, fr, N, T', L, xs, l, d, rfl, _⟩ := h
    rfl
  · obtain ⟨q, tp, mv, fr, N, tl, L, xs, l, d, rfl, hq, htp, nds, ok, d40, hmv, hN, t1, t2, k⟩ := h
    have dp := ok.dp
    refine ⟨_, (pss_cons (ps_asg (pv 0) (pg_tup (n := 2) rfl (pgs_cons (pg_name (i := 2) sc_moved.nd rfl (Or.inl rfl) (Or.inl rfl)) (pgs_cons (pg_name (i := 3) sc_moved.nd rfl (Or.inl rfl) (Or.inl rfl)) pgs_nil))))
      (pss_cons (ps_set (i := 4) sc_moved.nd rfl (Or.inl rfl) (pe_call G_path_to (hr.mono (by omega)) rfl T.m_path_to T.F_path_to.kp T.b_path_to .nil pass0 (pa_cons (pe_ix ix_tup (pv 1) pe_int (fun _ _ => rfl)) (pa_cons (pv 3) pa_nil))))
      (pss_cons (ps_if (pt_cmpR (op_eqD hr.units) (pv 4) (pe_lst pa_nil) (nomark _))
        (pss_one ps_never)
        pss_nil)
      (pss_cons (ps_set (i := 5) sc_moved.nd rfl (Or.inl rfl) (pe_ifExp (pt_cmpR op_eq (pe_ix ix_tup (pv 1) pe_int (fun _ _ => rfl)) pe_str (nomark _)) pe_int pe_int))
      (pss_one (ps_ret (pe_tup (pa_cons (pe_op op_add (pv 2) (pv 5)) (pa_cons (pe_call G_moved_along (hr.mono (by omega)) rfl T.m_moved_along T.F_moved_along.kp T.b_moved_along .nil pass0 (pa_cons (pv 4) (pa_cons (pv 3) (pa_cons (pv 1) (pa_cons (pv 2) pa_nil))))) pa_nil))))))))), ?_⟩
    refine ⟨_, rfl, q, _, rfl, SqT.of hq, rfl, _, _, rfl, _, _, rfl, rfl, ?_⟩
    refine ⟨_, rfl, mv, _, _, _, rfl, rfl, SqT.of hmv, atI_nat (j := 1) rfl, _, rfl, N, tp, xs, l, [], rfl, htp, nds, ok.len, ok.wb, by omega, fun pq path H1 s1 hpq hp lp => ?_⟩
    obtain ⟨hne, sz, wd, out, bd, hpa⟩ := hp.resolve_left fun z => z.2 (ok.sub N hN)
    obtain ⟨ho, ok', eqd⟩ := ok.cut hpa hN t1
    subst ho
    refine ⟨_, rfl, line_le (by simp), fun z0 hz0 => ?_⟩
    have s5 : Same H1 (upd H1 z0 (.lst [])) := same_new hz0
    have h05 : upd H1 z0 (.lst []) z0 = some (.lst []) := upd_same
    generalize upd H1 z0 (.lst []) = H2 at s5 h05 ⊢
    have s2 := s1.trans s5
    refine ⟨.list (path.map fun (p : Nat) => PyData.int (p : Int)), .list [], .lst (s5 _ _ hpq) (reps_path path), .lst h05 .nil, shaped_path path, rfl, _, rfl, ?_⟩
    rw [eqv_path]
    refine iteD (fun z => absurd z hne) (fun _ => ?_)
    refine ⟨_, rfl, mv, _, _, _, rfl, rfl, SqT.of (s2 _ _ hmv), atI_nat (j := 0) rfl, rfl, _, rfl, iteYes rfl ?_⟩
    refine ⟨_, rfl, _, rfl, _, _, rfl, rfl, _, rfl, _, rfl, _, rfl, _, rfl, pq, tp, mv, path, fr, N, tl, N, sz, wd, bd, xs, l, [], rfl, s5 _ _ hpq, by omega, s2 _ _ htp, nds.kt (KT.same s2), ok.len, hpa, ok.wb, by omega, s2 _ _ hmv, t1, t2, fun q' xs' H3 s3 hq' nd' => ⟨line_le (by simp), fun r hr0 => ?_⟩⟩
    have s4 := same_new (o := .tup [.int (fr + 1), .ref q']) hr0
    exact k r q' xs' _ _ (s2.trans (s3.trans s4)) upd_same (s4 _ _ hq') (nd'.kt (KT.same s4)) ok' eqd
theorem ok_planned (T : Txt K mg t) : FnOk P w K mg base CX0 132 t.f_planned t.d_planned ["cloth", "moves"] (sp_planned t) := by
  have G_first_nest := ok_first_nest (P := P) (w := w) (base := base) T
  have G_moved := ok_moved (P := P) (w := w) (base := base) T
  refine T.F_planned.ok sc_planned (fun vs H Q E h => ?_) (fun cdv A outer s H vs Q E hr h => ?_)
  · obtain ⟨p, ml, dx, l, a, tb, ln, o, wh, lk, xs, ms, M, rows, rfl, _⟩ := h
    rfl
  · obtain ⟨p, ml, dx, l, a, tb, ln, o, wh, lk, xs, ms, M, rows, rfl, hp, hl, hln, lis, tot, few, hml, lms, cuts, k⟩ := h
    obtain ⟨ok0, do0, nm0, _⟩ := first_ok (rows := rows) (fun e he => by
      obtain ⟨ok, _⟩ := tot e he
      exact ⟨ok.go.pos, ok.gs.pos, by have := ok.pl; have := ok.lo; have := ok.ls; omega⟩) (by omega) rows.length (Nat.le_refl _)
    have f1 : ∀ i, i ≤ rows.length → frM rows i ≤ i * 20 := fun i => by
      induction i with
      | zero => intro _; simp [frM]
      | succ i ih =>
        intro hi
        have he : rows[i]? = some rows[i] := List.getElem?_eq_getElem (by omega)
        have ih := ih (by omega)
        have pl := (tot _ (List.mem_of_getElem? he)).1.pl
        have l1 := (tot _ (List.mem_of_getElem? he)).1.lo
        have l2 := (tot _ (List.mem_of_getElem? he)).1.ls
        rw [frM_succ he]
        have nu : ninM rows[i] ≤ rows[i].so.length + rows[i].ss.length + 2 := by
          unfold ninM
          split <;> omega
        omega
    have fb := f1 rows.length (Nat.le_refl _)
    refine ⟨_, (pss_cons (ps_set (i := 2) sc_planned.nd rfl (Or.inl rfl) (pe_call G_first_nest (hr.mono (by omega)) rfl T.m_first_nest T.F_first_nest.kp T.b_first_nest .nil pass0 (pa_cons (pv 0) pa_nil)))
      (pss_cons (ps_for PassesOwn.never rfl (pi_enum rfl T.z_enumerate (pa_cons (pv 1) pa_nil)) (pg_tup (n := 2) rfl (pgs_cons (pg_name (i := 3) sc_planned.nd rfl (Or.inl rfl) (Or.inl rfl)) (pgs_cons (pg_name (i := 4) sc_planned.nd rfl (Or.inl rfl) (Or.inl rfl)) pgs_nil)))
        (pss_one (ps_tryA (i := 2) ⟨rfl, rfl⟩ (px_call0 G_moved (hr.mono (by omega)) rfl T.m_moved T.F_moved.kp T.b_moved (pa_cons (pv 2) (pa_cons (pv 4) pa_nil))) sc_planned.nd rfl (Or.inl rfl))))
      (pss_one (ps_ret (pv 2))))), ?_⟩
    refine ⟨_, rfl, p, dx, l, a, tb, ln, o, wh, lk, xs, M, rows, rfl, hp, hl, hln, lis, tot, few, fun q tp ns H1 s1 hq htp nds => ?_⟩
    refine ⟨_, rfl, ml, ms, rfl, SqL.of (s1 _ _ hml), ?_⟩
    refine for_enum (K := K) (a := ml) (xs := ms) (fun i σ H2 => ∃ (o3 o4 : Option V) (q tp : Addr) (ns : List V) (nl : List Nd), σ = [some (.ref p), some (.ref ml), some (.ref q), o3, o4, none] ∧ Same H H2 ∧ H2 q = some (.tup [.int (frM rows rows.length + i), .ref tp]) ∧ H2 tp = some (.tup ns) ∧ NdsAt H2 nl ns ∧ NsOkC (loopsM rows rows.length) (frM rows rows.length + i) nl (8 + i) ∧ i ≤ ms.length ∧ ∀ f, doL nl f = orderM rows rows.length)
      ⟨none, none, q, tp, ns, nestM rows rows.length, rfl, s1, ?_, htp, nds, ?_, Nat.zero_le _, do0⟩ (fun i σ H2 ⟨_, _, _, _, _, _, _, s2, _⟩ => SqL.of (s2 _ _ hml)) ?_ ?_
    · rw [show ((0 : Nat) : Int) = 0 from rfl, Int.add_zero]; exact hq
    · rw [show ((0 : Nat) : Int) = 0 from rfl, Int.add_zero]; exact ok0
    · rintro i x σ H2 z hx ⟨o3, o4, q, tp, ns, nl, rfl, s2, hq2, htp2, nds2, ok2, hi, do2⟩ hz
      have hlt : i < ms.length := (List.getElem?_eq_some_iff.mp hx).1
      obtain ⟨b, N, tl, rfl, hb, hN, t1, t2⟩ := (cuts x (List.mem_of_getElem? hx)).same s2
      have sz3 : Same H2 (upd H2 z (.tup [.int (i : Nat), .ref b])) := same_new hz
      have hz3 : upd H2 z (.tup [.int (i : Nat), .ref b]) z = some (.tup [.int (i : Nat), .ref b]) := upd_same
      generalize upd H2 z (.tup [.int (i : Nat), .ref b]) = H3 at sz3 hz3 ⊢
      refine ⟨z, _, rfl, SqT.of hz3, rfl, _, _, rfl, _, _, rfl, rfl, ?_⟩
      refine ⟨_, rfl, _, rfl, q, tp, b, _, N, tl, _, ns, nl, 8 + i, rfl, sz3 _ _ hq2, sz3 _ _ htp2, nds2.kt (KT.same sz3), ok2, by omega, sz3 _ _ hb, hN, t1, t2, fun q' tp' xs' l' H4 s4 hq' htp' nd' ok' eqd => ?_⟩
      have ef : frM rows rows.length + (i : Int) + 1 = frM rows rows.length + ((i + 1 : Nat) : Int) := by omega
      rw [ef] at hq' ok'
      exact ⟨_, _, q', tp', xs', l', rfl, s2.trans (sz3.trans s4), hq', htp', nd', ok', hlt, fun f => by rw [eqd, do2]⟩
    · rintro σ H2 ⟨o3, o4, q, tp, ns, nl, rfl, s2, hq2, htp2, nds2, ok2, hi, do2⟩
      exact ⟨_, rfl, k q tp _ ns nl H2 s2 hq2 htp2 nds2 ⟨ok2.wb, ok2.nm, ok2.ox, ok2.sub, by have := ok2.dp; omega, ok2.len, ok2.f0⟩ (by omega) do2⟩
end
end My

set_option Elab.async false
set_option linter.all false
set_option maxRecDepth 100000
set_option maxHeartbeats 4000000
namespace My
open PySem L2
local macro_rules | `(tactic| walk_at "lk") => `(tactic| first | with_reducible exact lk0 | (refine lk1 (by decide +kernel) ?_; walk_at "lk") | rfl)
theorem eqv_nil (xs : List Str) : PyData.eqv (encS xs) (encS []) = decide (xs = []) := by
  cases xs with
  | nil => rfl
  | cons x r => rfl
def DkOk (lk : List (Key × V)) (nm : List Str) : Prop := ∀ y ∈ nm, ∃ n : Int, valV lk (Sum.inr y) = some (.int n) ∧ 1 ≤ n ∧ n ≤ 60
/-! ### steps as data -/
def encC (c : List Int) : PyData := .tuple (c.map PyData.int)
def encSt (s : Stp) : PyData := .tuple [.int s.1, .str s.2.1, encC s.2.2.1, encC s.2.2.2]
def encSts (os : List Stp) : PyData := .list (os.map encSt)
theorem Reps.ints {H : Hp} : ∀ xs : List Int, Reps H (xs.map V.int) (xs.map PyData.int)
  | [] => .nil
  | x :: r => .cons (.int x) (Reps.ints r)
theorem ints_all : ∀ xs : List Int, PyData.canLayAll0 (xs.map PyData.int) = true ∧ PyData.depthAll (xs.map PyData.int) = 0
  | [] => ⟨rfl, rfl⟩
  | x :: r => by
    obtain ⟨h1, h2⟩ := ints_all r
    refine ⟨?_, ?_⟩
    · simp [PyData.canLayAll0, PyData.canLay0, h1]
    · simp [PyData.depthAll, PyData.depth, h2]
theorem sts_rep {H : Hp} : ∀ {xs : List V} {os : List Stp}, StsAt H xs os → Reps H xs (os.map encSt)
  | _, _, .nil => .nil
  | _, _, .cons ⟨b, c, u, e, h1, h2, h3⟩ t => by
    subst e
    exact .cons (.tup h1 (.cons (.int _) (.cons (.str _) (.cons (.tup h2 (Reps.ints _)) (.cons (.tup h3 (Reps.ints _)) .nil))))) (sts_rep t)
theorem sts_lay : ∀ {os : List Stp}, (∀ s ∈ os, StOk s) → PyData.canLayAll0 (os.map encSt) = true ∧ PyData.depthAll (os.map encSt) ≤ 3
  | [], _ => ⟨rfl, by simp [PyData.depthAll]⟩
  | s :: r, h => by
    obtain ⟨h1, h2⟩ := sts_lay (os := r) fun x hx => h x (.tail _ hx)
    have hs := (h s (.head _)).1
    obtain ⟨a1, a2⟩ := ints_all s.2.2.1
    obtain ⟨b1, b2⟩ := ints_all s.2.2.2
    refine ⟨?_, ?_⟩
    · simp [encSt, encC, PyData.canLayAll0, PyData.canLay0, h1, hs, a1, b1]
    · simp only [List.map_cons, encSt, encC, PyData.depthAll, PyData.depth, a2, b2]
      omega
theorem sts_shaped {os : List Stp} (h : ∀ s ∈ os, StOk s) : SeqAt.shaped (encSts os) = true := by
  obtain ⟨h1, h2⟩ := sts_lay h
  exact shaped_of (by simp [encSts, PyData.canLay0, h1]) (by simp only [encSts, PyData.depth]; omega)
/-! ### what the law asks of its own -/
def sp_l_cell_at (K : PySem.W.Frag) : Sp := fun vs H Q _ => ∃ (a : Addr) (ns : List Int) (k : Int), vs = [.ref a, .int k] ∧ SqL K H a (ns.map V.int) ∧ 0 ≤ k ∧ ∀ z : Int, Q (.int z) H
def sp_l_whole : Sp := fun vs H Q _ => ∃ z : Int, vs = [.int z] ∧ Q (.bl true) H
def sp_l_wholes : Sp := fun vs H Q _ => ∃ (p : Addr) (c : List Int), vs = [.ref p] ∧ H p = some (.tup (c.map V.int)) ∧ Q (.bl true) H
def sp_l_is_step : Sp := fun vs H Q _ => ∃ (v : V) (s : Stp), vs = [v] ∧ StAt H v s ∧ Q (.bl true) H
def sp_l_cells : Sp := fun vs H Q _ => ∃ (l d : Addr) (ys : List Str) (lk : List (Key × V)) (ls : List Int), vs = [.ref l, .ref d] ∧ H l = some (.lst (ys.map V.str)) ∧ H d = some (.dK lk) ∧ Sz lk ys ls ∧ GoodL ls ∧ ∀ (q : Addr) (H' : Hp), H q = none → Same H H' → CellsAt H' q (cellsM ls) → Q (.ref q) H'
def sp_l_stepsby : Sp := fun vs H Q _ => ∃ (k : Int) (O S d : Addr) (e : Rw) (lk : List (Key × V)), vs = [.int k, .ref O, .ref S, .ref d] ∧ H O = some (.lst (e.own.map V.str)) ∧ H S = some (.lst (e.sums.map V.str)) ∧ H d = some (.dK lk) ∧ RwOk e ∧ Sz lk e.own e.so ∧ Sz lk e.sums e.ss ∧ OkS e.sums ∧
  ∀ (D : Addr) (xs : List V) (H' : Hp), H D = none → Same H H' → H' D = some (.lst xs) → StsAt H' xs (stepsLine k e) → Q (.ref D) H'
/-- the axes of a line, as they are drawn -/
structure SdOk (lk : List (Key × V)) (axs : List Str) (e : Rw) (wo : Int) : Prop where
  sub : ∀ y ∈ e.own ++ e.sums, y ∈ axs
  l3 : e.own.length + e.sums.length ≤ 3
  zo : Sz lk e.own e.so
  zs : Sz lk e.sums e.ss
  po : ∀ n ∈ e.so, 1 ≤ n ∧ n ≤ 60
  ps : ∀ n ∈ e.ss, 1 ≤ n ∧ n ≤ 60
  hw : wo = prodL e.so * prodL e.ss
def sp_l_sides : Sp := fun vs H Q _ => ∃ (c : Int) (al ld : Addr) (axs : List Str) (lk : List (Key × V)), vs = [.int c, .ref al, .ref ld] ∧ H al = some (.lst (axs.map V.str)) ∧ axs.length ≤ 3 ∧ H ld = some (.dK lk) ∧ DkOk lk axs ∧
  ∀ (q O S : Addr) (wo : Int) (e : Rw) (H' : Hp), H O = none → H S = none → O ≠ S → Same H H' → H' q = some (.tup [.ref O, .ref S, .int wo]) → H' O = some (.lst (e.own.map V.str)) → H' S = some (.lst (e.sums.map V.str)) → SdOk lk axs e wo → Q (.ref q) H'
def sp_l_loops : Sp := fun vs H Q _ => ∃ (O S : Addr) (fr : Int) (e : Rw), vs = [.ref O, .ref S, .int fr] ∧ H O = some (.lst (e.own.map V.str)) ∧ H S = some (.lst (e.sums.map V.str)) ∧ e.own.length = e.so.length ∧ e.sums.length = e.ss.length ∧ e.own.length + e.sums.length ≤ 8 ∧ OkS e.sums ∧
  ∀ (q L : Addr) (H' : Hp), H L = none → Same H H' → H' q = some (.tup [.ref L, .int (fr + ninM e)]) → H' L = some (.lst ((loopsL e fr).map V.int)) → Q (.ref q) H'
section
variable {P : Program} {w : World} {K : PySem.W.Frag} {mg : Str → Option Value} {base : Heap} {t : Adr}
theorem ok_l_cell_at (T : Txt K mg t) : FnOk P w K mg base CX0 1 t.f_l_cell_at t.d_l_cell_at ["_law_script", "_law_k"] (sp_l_cell_at K) := by
  refine T.F_l_cell_at.ok sc_l_cell_at (fun vs H Q E h => ?_) (fun cdv A outer s H vs Q E hr h => ?_)
  · obtain ⟨a, ns, k, rfl, _⟩ := h
    rfl
  · obtain ⟨a, ns, k, rfl, hS, k0, q⟩ := h
    refine ⟨_, (pss_cons (ps_if (pt_cmpR op_lt (pv 1) (pe_callB call_len_seq (by rfl) T.z_len PySem.boot_len (pa_cons (pv 0) pa_nil)) (nomark _))
        (pss_one (ps_ret (pe_ix ix_list (pv 0) (pv 1) (fun _ _ => rfl))))
        pss_nil)
      (pss_one (ps_ret pe_int))), ?_⟩
    refine ⟨_, rfl, _, rfl, a, _, rfl, .inl hS, _, _, rfl, rfl, _, rfl, ?_⟩
    refine iteD (fun hk => ?_) (fun _ => q 0)
    obtain ⟨z, _, e⟩ := at_mapV (f := V.int) (xs := ns) k0 (by simpa using hk)
    exact ⟨_, rfl, _, rfl, a, _, _, _, rfl, rfl, hS, e, q _⟩
theorem ok_l_whole (T : Txt K mg t) : FnOk P w K mg base CX0 1 t.f_l_whole t.d_l_whole ["_law_found"] sp_l_whole := by
  refine T.F_l_whole.ok sc_l_whole (fun vs H Q E h => ?_) (fun cdv A outer s H vs Q E hr h => ?_)
  · obtain ⟨z, rfl, _⟩ := h
    rfl
  · obtain ⟨z, rfl, q⟩ := h
    refine ⟨_, (pss_one (ps_ret (pe_and (pe_callB call_isinst (by rfl) T.z_isinstance PyProof.Rows.boot_isinstance (pa_cons (pv 0) (pa_cons (pe_bltn (v := V.ty "int") rfl T.z_int PyProof.Rows.boot_int rfl) pa_nil))) (pe_one (pe_not (pe_callB call_isinst (by rfl) T.z_isinstance PyProof.Rows.boot_isinstance (pa_cons (pv 0) (pa_cons (pe_bltn (v := V.ty "bool") rfl T.z_bool PyProof.Rows.boot_bool rfl) pa_nil)))))))), ?_⟩
    refine ⟨_, rfl, _, _, _, _, rfl, TyOf.int z, isi_same "int", true, rfl, iteT ?_⟩
    exact ⟨_, rfl, _, _, _, _, rfl, TyOf.int z, isi_by (by decide +kernel) (by decide +kernel) (by decide +kernel), false, rfl, q⟩
theorem ok_l_wholes (T : Txt K mg t) : FnOk P w K mg base CX0 2 t.f_l_wholes t.d_l_wholes ["_law_found"] sp_l_wholes := by
  have G_l_whole := ok_l_whole (P := P) (w := w) (base := base) T
  refine T.F_l_wholes.ok sc_l_wholes (fun vs H Q E h => ?_) (fun cdv A outer s H vs Q E hr h => ?_)
  · obtain ⟨p, c, rfl, _⟩ := h
    rfl
  · obtain ⟨p, c, rfl, hp, q⟩ := h
    refine ⟨_, (pss_cons (ps_if (pt_not (pt_val (pe_callB call_isinst (by rfl) T.z_isinstance PyProof.Rows.boot_isinstance (pa_cons (pv 0) (pa_cons (pe_bltn (v := V.ty "tuple") rfl T.z_tuple PyProof.Rows.boot_tuple rfl) pa_nil)))))
        (pss_one (ps_ret pe_bl))
        pss_nil)
      (pss_cons (ps_for PassesOwn.never rfl (pi_tup (pv 0)) (pg_name (i := 1) sc_l_wholes.nd rfl (Or.inl rfl) (Or.inl rfl))
        (pss_one (ps_if (pt_not (pt_val (pe_call G_l_whole (hr.mono (by omega)) rfl T.m_l_whole T.F_l_whole.kp T.b_l_whole .nil pass0 (pa_cons (pv 1) pa_nil))))
          (pss_one (ps_ret pe_bl))
          pss_nil)))
      (pss_one (ps_ret pe_bl)))), ?_⟩
    refine ⟨_, rfl, _, _, _, _, rfl, .tup hp, isi_same "tuple", true, rfl, iteF ?_⟩
    refine ⟨_, rfl, p, rfl, ⟨_, SqT.of hp⟩, ?_⟩
    refine for_tup (K := K) (a := p) (xs := c.map V.int) (fun i σ H2 => ∃ o1 : Option V, σ = [some (.ref p), o1] ∧ H2 = H) ⟨none, rfl, rfl⟩ (fun i σ H2 _ ⟨_, _, e⟩ => by subst e; exact SqT.of hp) ?_ ?_
    · rintro i x σ H2 hx ⟨o1, rfl, rfl⟩
      obtain ⟨z, _, rfl⟩ := get_map hx
      exact ⟨_, rfl, z, rfl, true, rfl, iteF ⟨_, rfl, rfl⟩⟩
    · rintro σ H2 ⟨o1, rfl, rfl⟩
      exact q
theorem ok_l_is_step (T : Txt K mg t) : FnOk P w K mg base CX0 3 t.f_l_is_step t.d_l_is_step ["_law_step"] sp_l_is_step := by
  have G_l_whole := ok_l_whole (P := P) (w := w) (base := base) T
  have G_l_wholes := ok_l_wholes (P := P) (w := w) (base := base) T
  refine T.F_l_is_step.ok sc_l_is_step (fun vs H Q E h => ?_) (fun cdv A outer s H vs Q E hr h => ?_)
  · obtain ⟨v, s, rfl, _⟩ := h
    rfl
  · obtain ⟨v, s, rfl, ⟨b, c, u, rfl, hb, hc, hu'⟩, q⟩ := h
    refine ⟨_, (pss_cons (ps_if (PW.pt (pw_or (pt_not (pt_val (pe_callB call_isinst (by rfl) T.z_isinstance PyProof.Rows.boot_isinstance (pa_cons (pv 0) (pa_cons (pe_bltn (v := V.ty "tuple") rfl T.z_tuple PyProof.Rows.boot_tuple rfl) pa_nil))))) (pw_or (pt_cmpR op_ne (pe_callB call_len_seq (by rfl) T.z_len PySem.boot_len (pa_cons (pv 0) pa_nil)) pe_int (nomark _)) (pw_or1 (pt_not (pt_val (pe_call G_l_whole (hr.mono (by omega)) rfl T.m_l_whole T.F_l_whole.kp T.b_l_whole .nil pass0 (pa_cons (pe_ix ix_tup (pv 0) pe_int (fun _ _ => rfl)) pa_nil))))))))
        (pss_one (ps_ret pe_bl))
        pss_nil)
      (pss_one (ps_ret (pe_and (pe_callB call_isinst (by rfl) T.z_isinstance PyProof.Rows.boot_isinstance (pa_cons (pe_ix ix_tup (pv 0) pe_int (fun _ _ => rfl)) (pa_cons (pe_bltn (v := V.ty "str") rfl T.z_str PyProof.Rows.boot_str rfl) pa_nil))) (pe_and (pe_call G_l_wholes (hr.mono (by omega)) rfl T.m_l_wholes T.F_l_wholes.kp T.b_l_wholes .nil pass0 (pa_cons (pe_ix ix_tup (pv 0) pe_int (fun _ _ => rfl)) pa_nil)) (pe_one (pe_call G_l_wholes (hr.mono (by omega)) rfl T.m_l_wholes T.F_l_wholes.kp T.b_l_wholes .nil pass0 (pa_cons (pe_ix ix_tup (pv 0) pe_int (fun _ _ => rfl)) pa_nil)))))))), ?_⟩
    refine ⟨_, rfl, _, _, _, _, rfl, .tup hb, isi_same "tuple", true, rfl, iteF ?_⟩
    refine ⟨_, rfl, b, _, rfl, .inr (SqT.of hb), rfl, _, rfl, iteNS rfl ?_⟩
    refine ⟨_, rfl, b, _, _, _, rfl, rfl, SqT.of hb, atI_nat (j := 0) rfl, _, rfl, true, rfl, iteF ?_⟩
    refine ⟨_, rfl, b, _, _, _, rfl, rfl, SqT.of hb, atI_nat (j := 1) rfl, _, _, _, _, rfl, .str _, isi_same "str", true, rfl, iteT ?_⟩
    refine ⟨_, rfl, b, _, _, _, rfl, rfl, SqT.of hb, atI_nat (j := 2) rfl, c, _, rfl, hc, true, rfl, iteT ?_⟩
    exact ⟨_, rfl, b, _, _, _, rfl, rfl, SqT.of hb, atI_nat (j := 3) rfl, u, _, rfl, hu', q⟩
theorem ok_l_cells (T : Txt K mg t) : FnOk P w K mg base CX0 1 t.f_l_cells t.d_l_cells ["_law_axes", "_law_lengths"] sp_l_cells := by
  refine T.F_l_cells.ok sc_l_cells (fun vs H Q E h => ?_) (fun cdv A outer s H vs Q E hr h => ?_)
  · obtain ⟨l, d, ys, lk, ls, rfl, _⟩ := h
    rfl
  · obtain ⟨a, d, ys, lk, ls, rfl, ha, hd, sz, g, k⟩ := h
    have hu := hu_of hr
    have lys := Paired.length sz
    refine ⟨_, (pss_cons (ps_set (i := 2) sc_l_cells.nd rfl (Or.inl rfl) (pe_lst (pa_cons (pe_tup pa_nil) pa_nil)))
      (pss_cons (ps_for PassesOwn.never rfl (pi_list (pv 0)) (pg_name (i := 3) sc_l_cells.nd rfl (Or.inl rfl) (Or.inl rfl))
        (pss_cons (ps_set (i := 4) sc_l_cells.nd rfl (Or.inl rfl) (pe_lst pa_nil))
        (pss_cons (ps_for PassesOwn.never rfl (pi_list (pv 2)) (pg_name (i := 5) sc_l_cells.nd rfl (Or.inr rfl) (Or.inl rfl))
          (pss_one (ps_expr (pe_bm PySem.F.plainAttrs_list PySem.F.slot_list_extend PySem.F.type_list_extend mt_extend (pv 4) (pa_cons (pe_comp (N' := ["_law_count", "_law_cell"]) (ix := (List.replicate 1 none ++ [some 5])) rfl (clok_one (x := "_law_cell") rfl rfl rfl (by decide +kernel) (by decide +kernel)) (ixok_last (N0 := ["_law_count"]) rfl (Or.inl rfl) (by first | exact Or.inl rfl | exact Or.inr rfl | (simp [relabel]; rfl) | (with_unfolding_all exact Or.inl rfl) | (with_unfolding_all exact Or.inr rfl) | (with_unfolding_all decide))) (pi_range1 rfl T.z_range (pa_cons (pe_dget hu (pv 1) (pv 3) (fun _ _ => rfl)) pa_nil)) (fun _ _ _ _ => (pg_name (i := 0) nd_comp_5 rfl (Or.inl rfl) (Or.inr rfl))) (fun _ _ _ _ => (pe_op op_catT4 (pv 1) (pe_tup (pa_cons (pv 0) pa_nil))))) pa_nil)))))
        (pss_one (ps_set (i := 2) sc_l_cells.nd rfl (Or.inl rfl) (pv 4))))))
      (pss_one (ps_ret (pv 2))))), ?_⟩
    refine ⟨line_le (by simp), fun e he => ⟨line_le (by simp), fun q hq => ?_⟩⟩
    have hq0 : H q = none := (same_new he).free hq
    have s1 : Same H (upd (upd H e (.tup [])) q (.lst [V.ref e])) := (same_new he).trans (same_new hq)
    refine ⟨_, rfl, a, rfl, ⟨_, SqL.of (s1 _ _ ha)⟩, for_list (K := K) (a := a) (xs := ys.map V.str) (fun i σ H2 => ∃ (o3 o4 o5 : Option V) (q : Addr), σ = [some (.ref a), some (.ref d), some (.ref q), o3, o4, o5] ∧ Same H H2 ∧ H q = none ∧ CellsAt H2 q (cellsM (ls.take i)))
      ⟨none, none, none, q, rfl, s1, hq0, ⟨[e], upd_same, .cons (by rw [upd_ne (ne_of_none upd_same hq)]; exact upd_same) .nil⟩⟩ (fun i σ H2 _ ⟨_, _, _, _, _, s2, _⟩ => SqL.of (s2 _ _ ha)) ?_ ?_⟩
    · rintro i y σ H2 hi ⟨o3, o4, o5, q, rfl, s2, hq, ⟨ps, hps, tp⟩⟩
      obtain ⟨nm, hn', rfl⟩ := get_map hi
      obtain ⟨n, hn, vn⟩ := pget sz hn'
      have gp := g.pos n (List.mem_of_getElem? hn)
      have cl := cells_length (ls.take i) fun m hm => (g.pos m (List.mem_of_mem_take hm)).1
      have pl := prod_take_le ls (fun m hm => (g.pos m hm).1) i
      have gm := g.most
      have gf := g.few
      have lps := tp.len
      have h8 : ∀ c ∈ cellsM (ls.take i), c.length ≤ 8 := fun c hc => by
        have e := (cells_within _ c hc).1
        rw [List.length_take] at e
        omega
      refine ⟨line_le (by simp), fun L hL => ?_⟩
      have t1 : Same H2 (upd H2 L (.lst [])) := same_new hL
      have hL1 : upd H2 L (.lst []) L = some (.lst []) := upd_same
      have L0 : H L = none := s2.free hL
      have qL : q ≠ L := ne_of_none hps hL
      generalize upd H2 L (.lst []) = H3 at t1 hL1 ⊢
      refine ⟨_, rfl, q, rfl, ⟨_, SqL.of (t1 _ _ hps)⟩, ?_⟩
      refine for_list (K := K) (a := q) (xs := ps.map V.ref) (fun j σ G => ∃ (o5 : Option V) (zs : List Addr), σ = [some (.ref a), some (.ref d), some (.ref q), some (.str nm), some (.ref L), o5] ∧ Same H2 G ∧ G L = some (.lst (zs.map V.ref)) ∧ TupsAt G zs (lenM ((cellsM (ls.take i)).take j) n))
        ⟨_, [], rfl, t1, hL1, .nil⟩ (fun j σ G _ ⟨_, _, _, sg, _⟩ => SqL.of (sg _ _ hps)) ?_ ?_
      · rintro j x σ G hj ⟨o5', zs, rfl, sg, hLg, tz⟩
        obtain ⟨pc, hpc, rfl⟩ := get_map hj
        obtain ⟨c, hc, hpt⟩ := tp.get hpc
        have hcm := h8 c (List.mem_of_getElem? hc)
        have hql : zs.length ≤ 240000 := by
          have e := tz.len
          rw [lenM_length, List.length_take] at e
          have e1 : min j (cellsM (ls.take i)).length * n.toNat ≤ 4000 * 60 := Nat.mul_le_mul (by omega) (by omega)
          omega
        have gd := DGet.k (H := G) (a := d) (k := Sum.inr nm) ((s2.trans sg) _ _ hd)
        rw [vn] at gd
        refine ⟨_, rfl, .inl ⟨rfl, _, SqL.of hLg⟩, _, rfl, _, rfl, d, _, rfl, gd, _, rfl, by omega, by omega, fun D hD => ?_⟩
        have DL : D ≠ L := fun z => by rw [z, hLg] at hD; cases hD
        refine comp_genQ (D := D) n.toNat (fun m ys H4 => Same G H4 ∧ ∃ ws : List Addr, ys = ws.map V.ref ∧ H4 D = some (.lst (ws.map V.ref)) ∧ TupsAt H4 ws ((List.range m).map fun (k : Nat) => c ++ [(k : Int)])) ⟨same_new hD, [], rfl, upd_same, .nil⟩ (fun m ys H4 hm _ => hm) (fun ys H4 _ => Nat.le_refl _) ?_ ?_
        · rintro m ys' H4 hm ⟨s4, ws, rfl, h4, t4⟩ x H5 ⟨rfl, rfl⟩
          have lw := t4.len
          rw [List.length_map, List.length_range] at lw
          refine ⟨⟨rfl, True.intro⟩, _, rfl, _, rfl, line_le (by simp), fun u hu' => ?_⟩
          have v1 : Same H5 (upd H5 u (.tup [.int (0 + (m : Int))])) := same_new hu'
          refine ⟨pc, u, _, _, rfl, rfl, v1 _ _ (s4 _ _ (sg _ _ hpt)), upd_same, line_le (by rw [List.length_map]; simp; omega), fun q5 H6 s6 hq6 => ?_⟩
          have v6 := v1.trans s6
          refine ⟨v6 _ _ h4, line_lt (by rw [List.length_map]; omega), same_fresh (s4.trans v6) hD, ws ++ [q5], by rw [List.map_append]; rfl, by rw [upd_same, List.map_append]; rfl, ?_⟩
          rw [List.range_succ, List.map_append]
          refine ((t4.same v6).snoc ?_).lst (v6 _ _ h4)
          rw [hq6, List.map_append, Int.zero_add]
          rfl
        · rintro ys' H4 ⟨s4, ws, rfl, h4, t4⟩
          have lw := t4.len
          rw [List.length_map, List.length_range] at lw
          refine ⟨L, D, _, _, rfl, rfl, s4 _ _ hLg, h4, line_le (by rw [List.length_map, List.length_map]; omega), ?_⟩
          refine ⟨_, zs ++ ws, rfl, same_fresh (sg.trans s4) hL, by rw [upd_same, List.map_append], ?_⟩
          have e : lenM ((cellsM (ls.take i)).take (j + 1)) n = lenM ((cellsM (ls.take i)).take j) n ++ (List.range n.toNat).map fun (m : Nat) => c ++ [(m : Int)] := by
            rw [List.take_add_one, hc]
            simp [lenM]
          rw [e]
          exact TupsAt.lst (ps := zs ++ ws) (papp (tz.same s4) t4) (s4 _ _ hLg)
      · rintro σ G ⟨o5', zs, rfl, sg, hLg, tz⟩
        rw [List.length_map, lps, List.take_length] at tz
        refine ⟨_, rfl, _, _, _, L, rfl, s2.trans sg, L0, ⟨zs, hLg, ?_⟩⟩
        rw [cellsM_take_succ hn]
        exact tz
    · rintro σ H2 ⟨o3, o4, o5, q, rfl, s2, hq, c2⟩
      rw [List.length_map, lys, List.take_length] at c2
      exact ⟨_, rfl, k q H2 hq s2 c2⟩
theorem ok_l_steps_by (T : Txt K mg t) : FnOk P w K mg base CX0 2 t.f_l_steps_by t.d_l_steps_by ["_law_k", "_law_own", "_law_sums", "_law_lengths"] sp_l_stepsby := by
  have G_l_cells := ok_l_cells (P := P) (w := w) (base := base) T
  refine T.F_l_steps_by.ok sc_l_steps_by (fun vs H Q E h => ?_) (fun cdv A outer s H vs Q E hr h => ?_)
  · obtain ⟨k, O, S, d, e, lk, rfl, _⟩ := h
    rfl
  · obtain ⟨kk, O, S, ld, e, lk, rfl, hO, hS, hld, ok, szo, szs, oks, k⟩ := h
    have hss : e.ss = [] ↔ e.sums = [] := by
      have := ok.ls
      rw [← List.length_eq_zero_iff, ← List.length_eq_zero_iff]
      omega
    have cls := ok.cells
    refine ⟨_, (pss_cons (ps_set (i := 4) sc_l_steps_by.nd rfl (Or.inl rfl) (pe_lst pa_nil))
      (pss_cons (ps_for PassesOwn.never rfl (pi_list (pe_call G_l_cells (hr.mono (by omega)) rfl T.m_l_cells T.F_l_cells.kp T.b_l_cells .nil pass0 (pa_cons (pv 1) (pa_cons (pv 3) pa_nil)))) (pg_name (i := 5) sc_l_steps_by.nd rfl (Or.inr rfl) (Or.inl rfl))
        (pss_one (ps_if (pt_cmpR (op_eqD hr.units) (pv 2) (pe_lst pa_nil) (nomark _))
          (pss_one (ps_expr (pe_bm PySem.F.plainAttrs_list PySem.F.slot_list_append PySem.F.type_list_append mt_append (pv 4) (pa_cons (pe_tup (pa_cons (pv 0) (pa_cons pe_str (pa_cons (pv 5) (pa_cons (pe_tup pa_nil) pa_nil))))) pa_nil))))
          (pss_cons (ps_expr (pe_bm PySem.F.plainAttrs_list PySem.F.slot_list_append PySem.F.type_list_append mt_append (pv 4) (pa_cons (pe_tup (pa_cons (pv 0) (pa_cons pe_str (pa_cons (pv 5) (pa_cons (pe_tup pa_nil) pa_nil))))) pa_nil)))
          (pss_one (ps_expr (pe_bm PySem.F.plainAttrs_list PySem.F.slot_list_extend PySem.F.type_list_extend mt_extend (pv 4) (pa_cons (pe_comp (N' := ["_law_turn", "_law_cell", "_law_k"]) (ix := (List.replicate 1 none ++ [some 5, some 0])) rfl (clok_many (cl := [("_law_k", _), ("_law_cell", _)]) (xs := ["_law_k", "_law_cell"]) rfl ⟨rfl, rfl, trivial⟩ rfl rfl (by decide +kernel) (by decide +kernel)) (ixok_many (N0 := ["_law_turn"]) (xs := ["_law_cell", "_law_k"]) (js := [5, 0]) ⟨⟨rfl, Or.inl rfl, (by first | exact Or.inl rfl | exact Or.inr rfl | (simp [relabel]; rfl) | (with_unfolding_all exact Or.inl rfl) | (with_unfolding_all exact Or.inr rfl) | (with_unfolding_all decide))⟩, ⟨rfl, Or.inl rfl, (by first | exact Or.inl rfl | exact Or.inr rfl | (simp [relabel]; rfl) | (with_unfolding_all exact Or.inl rfl) | (with_unfolding_all exact Or.inr rfl) | (with_unfolding_all decide))⟩, trivial⟩) (pi_list (pe_call G_l_cells (hr.mono (by omega)) rfl T.m_l_cells T.F_l_cells.kp T.b_l_cells .nil pass0 (pa_cons (pv 2) (pa_cons (pv 3) pa_nil)))) (fun _ _ _ _ => (pg_name (i := 0) nd_comp_6 rfl (Or.inl rfl) (Or.inr rfl))) (fun _ _ _ _ => (pe_tup (pa_cons (pv 2) (pa_cons pe_str (pa_cons (pv 1) (pa_cons (pv 0) pa_nil))))))) pa_nil))))))))
      (pss_one (ps_ret (pv 4))))), ?_⟩
    refine ⟨line_le (by simp), fun L hL => ?_⟩
    have s1 : Same H (upd H L (.lst [])) := same_new hL
    have hL1 : upd H L (.lst []) L = some (.lst []) := upd_same
    generalize upd H L (.lst []) = H1 at s1 hL1 ⊢
    refine ⟨_, rfl, _, rfl, O, ld, e.own, lk, e.so, rfl, s1 _ _ hO, s1 _ _ hld, szo, ok.go, fun cq H2 hcq s2 ⟨ps, hcv, cs⟩ => ?_⟩
    have s02 := s1.trans s2
    have hL2 := s2 _ _ hL1
    have cL : cq ≠ L := fun z => by rw [z, hL1] at hcq; cases hcq
    have lps := cs.len
    refine ⟨cq, rfl, ⟨_, SqL.of hcv⟩, ?_⟩
    refine for_list (K := K) (a := cq) (xs := ps.map V.ref) (fun j σ G => ∃ (o5 : Option V) (zs : List V), σ = [some (.int kk), some (.ref O), some (.ref S), some (.ref ld), some (.ref L), o5] ∧ KB L H2 G ∧ G L = some (.lst zs) ∧ StsAt G zs (((cellsM e.so).take j).flatMap (stepsCell kk e.ss)))
      ⟨none, [], rfl, KB.refl, hL2, .nil⟩ (fun j σ G _ ⟨_, _, _, kb, _⟩ => SqL.of (kb _ _ cL hcv)) ?_ ?_
    · rintro j x σ G hx ⟨o5, zs, rfl, kb, hLg, sts⟩
      obtain ⟨pc, hpc', rfl⟩ := get_map hx
      obtain ⟨c, hc, hpt⟩ := cs.get hpc'
      have hpcg : G pc = some (.tup (c.map V.int)) := kb _ _ (ne_of hpt hL2 (by intro z; cases z)) hpt
      have sg : Same H G := KB.same s02 kb hL
      have lz := Paired.length sts
      have pl := part_le121 (k := kk) ok j
      have tk : ((cellsM e.so).take (j + 1)).flatMap (stepsCell kk e.ss) = ((cellsM e.so).take j).flatMap (stepsCell kk e.ss) ++ stepsCell kk e.ss c := by rw [List.take_add_one, hc, Option.toList_some, List.flatMap_append, List.flatMap_singleton]
      refine ⟨_, rfl, line_le (by simp), fun n0 hn0 => ?_⟩
      have t0 : Same G (upd G n0 (.lst [])) := same_new hn0
      have hn1 : upd G n0 (.lst []) n0 = some (.lst (([] : List Str).map V.str)) := upd_same
      generalize upd G n0 (.lst []) = G1 at t0 hn1 ⊢
      refine ⟨encS e.sums, encS [], S_rep ((sg.trans t0) _ _ hS), S_rep hn1, shaped_of (encS_lay oks) (by have := (encS_ok e.sums).1; omega), rfl, _, rfl, ?_⟩
      rw [eqv_nil]
      refine iteD (fun hz => ?_) (fun hz => ?_)
      · refine ⟨_, rfl, .inl ⟨rfl, _, SqL.of (t0 _ _ hLg)⟩, _, rfl, _, rfl, line_le (by simp), fun e0 he0 => ⟨line_le (by simp), fun b hb => ?_⟩⟩
        have t1 : Same G1 (upd G1 e0 (.tup [])) := same_new he0
        have h01 : upd G1 e0 (.tup []) e0 = some (.tup (([] : List Int).map V.int)) := upd_same
        generalize upd G1 e0 (.tup []) = G2 at t1 h01 hb ⊢
        have t2 : Same G2 (upd G2 b (.tup [.int kk, .str "set", .ref pc, .ref e0])) := same_new hb
        have hb2 : upd G2 b (.tup [.int kk, .str "set", .ref pc, .ref e0]) b = some (.tup [.int kk, .str "set", .ref pc, .ref e0]) := upd_same
        generalize upd G2 b (.tup [.int kk, .str "set", .ref pc, .ref e0]) = G3 at t2 hb2 ⊢
        have t02 := t0.trans (t1.trans t2)
        refine ⟨L, _, _, rfl, rfl, t02 _ _ hLg, line_lt (by omega), ?_⟩
        have kt : KT G3 (upd G3 L (.lst (zs ++ [.ref b]))) := KT.at (t02 _ _ hLg) (by intro xs z; cases z)
        refine ⟨_, zs ++ [.ref b], rfl, (kb.trans (KB.of t02)).upd, upd_same, ?_⟩
        rw [tk]
        refine papp (sts.kt ((KT.same t02).trans kt)) ?_
        unfold stepsCell
        rw [if_pos (hss.mpr hz)]
        exact .cons ⟨b, pc, e0, rfl, kt _ _ hb2, kt _ _ (t02 _ _ hpcg), kt _ _ (t2 _ _ h01)⟩ .nil
      · refine ⟨_, rfl, .inl ⟨rfl, _, SqL.of (t0 _ _ hLg)⟩, _, rfl, _, rfl, line_le (by simp), fun e0 he0 => ⟨line_le (by simp), fun b hb => ?_⟩⟩
        have t1 : Same G1 (upd G1 e0 (.tup [])) := same_new he0
        have h01 : upd G1 e0 (.tup []) e0 = some (.tup (([] : List Int).map V.int)) := upd_same
        generalize upd G1 e0 (.tup []) = G2 at t1 h01 hb ⊢
        have t2 : Same G2 (upd G2 b (.tup [.int kk, .str "start", .ref pc, .ref e0])) := same_new hb
        have hb2 : upd G2 b (.tup [.int kk, .str "start", .ref pc, .ref e0]) b = some (.tup [.int kk, .str "start", .ref pc, .ref e0]) := upd_same
        generalize upd G2 b (.tup [.int kk, .str "start", .ref pc, .ref e0]) = G3 at t2 hb2 ⊢
        have t02 := t0.trans (t1.trans t2)
        refine ⟨L, _, _, rfl, rfl, t02 _ _ hLg, line_lt (by omega), ?_⟩
        have kt : KT G3 (upd G3 L (.lst (zs ++ [.ref b]))) := KT.at (t02 _ _ hLg) (by intro xs z; cases z)
        have hL4 : upd G3 L (.lst (zs ++ [.ref b])) L = some (.lst (zs ++ [.ref b])) := upd_same
        have kb4 : KB L G3 (upd G3 L (.lst (zs ++ [.ref b]))) := KB.refl.upd
        have sm4 : Same H (upd G3 L (.lst (zs ++ [.ref b]))) := same_fresh (sg.trans t02) hL
        generalize upd G3 L (.lst (zs ++ [.ref b])) = G4 at kt hL4 kb4 sm4 ⊢
        have kt04 := (KT.same t02).trans kt
        refine ⟨_, rfl, .inl ⟨rfl, _, SqL.of hL4⟩, _, rfl, _, rfl, S, ld, e.sums, lk, e.ss, rfl, sm4 _ _ hS, sm4 _ _ hld, szs, ok.gs, fun tq G5 htq s5 ⟨qs, htv, ct⟩ => ⟨tq, rfl, ⟨_, SqL.of htv⟩, fun D hD => ?_⟩⟩
        have lqs := ct.len
        refine comp_listQ (K := K) (a := tq) (D := D) (xs := qs.map V.ref) (fun i ys G6 => Same G5 G6 ∧ G6 D = some (.lst ys) ∧ StsAt G6 ys (((cellsM e.ss).take i).map fun u => (kk, ("add" : Str), c, u))) ⟨same_new hD, upd_same, .nil⟩ (fun i ys G6 ⟨s6, _⟩ => SqL.of (s6 _ _ htv)) ?_ ?_
        · rintro i x ys G6 hx6 ⟨s6, hD6, st6⟩
          obtain ⟨qc, hqc, rfl⟩ := get_map hx6
          obtain ⟨u, hu6, hqt⟩ := ct.get hqc
          have ly := Paired.length st6
          rw [List.length_map, List.length_take] at ly
          refine ⟨⟨rfl, rfl, True.intro⟩, _, rfl, _, rfl, _, rfl, line_le (by simp), fun bb hbb => ?_⟩
          have v1 : Same G6 (upd G6 bb (.tup [.int kk, .str "add", .ref pc, .ref qc])) := same_new hbb
          have hb7 : upd G6 bb (.tup [.int kk, .str "add", .ref pc, .ref qc]) bb = some (.tup [.int kk, .str "add", .ref pc, .ref qc]) := upd_same
          generalize upd G6 bb (.tup [.int kk, .str "add", .ref pc, .ref qc]) = G7 at v1 hb7 ⊢
          have hD7 := v1 _ _ hD6
          have kt7 : KT G7 (upd G7 D (.lst (ys ++ [.ref bb]))) := KT.at hD7 (by intro xs z; cases z)
          refine ⟨hD7, line_lt (by omega), same_fresh (s6.trans v1) hD, upd_same, ?_⟩
          rw [List.take_add_one, hu6, Option.toList_some, List.map_append]
          refine papp (st6.kt ((KT.same v1).trans kt7)) (.cons ⟨bb, pc, qc, rfl, kt7 _ _ hb7, kt7 _ _ (v1 _ _ (s6 _ _ (s5 _ _ (kt04 _ _ hpcg)))), kt7 _ _ (v1 _ _ (s6 _ _ hqt))⟩ .nil)
        · rintro ys G6 ⟨s6, hD6, st6⟩
          rw [List.length_map, lqs, List.take_length] at st6
          have ly := Paired.length st6
          rw [List.length_map] at ly
          have hL6 := (s5.trans s6) _ _ hL4
          refine ⟨L, D, _, _, rfl, rfl, hL6, hD6, line_le (by rw [List.length_append]; simp; omega), ?_⟩
          have kt8 : KT G6 (upd G6 L (.lst (zs ++ [.ref b] ++ ys))) := KT.at hL6 (by intro xs z; cases z)
          have hL8 : upd G6 L (.lst (zs ++ [.ref b] ++ ys)) L = some (.lst (zs ++ [.ref b] ++ ys)) := upd_same
          have kb8 : KB L G6 (upd G6 L (.lst (zs ++ [.ref b] ++ ys))) := KB.refl.upd
          generalize upd G6 L (.lst (zs ++ [.ref b] ++ ys)) = G8 at kt8 hL8 kb8 ⊢
          refine ⟨_, zs ++ [.ref b] ++ ys, rfl, (kb.trans (KB.of t02)).trans ((kb4.trans (KB.of (s5.trans s6))).trans kb8), hL8, ?_⟩
          rw [tk]
          have kt48 := (KT.same (s5.trans s6)).trans kt8
          rw [List.append_assoc]
          refine papp (sts.kt (kt04.trans kt48)) ?_
          unfold stepsCell
          rw [if_neg (fun z => hz (hss.mp z))]
          exact .cons ⟨b, pc, e0, rfl, kt48 _ _ (kt _ _ hb2), kt48 _ _ (kt04 _ _ hpcg), kt48 _ _ (kt _ _ (t2 _ _ h01))⟩ (st6.kt kt8)
    · rintro σ G ⟨o5, zs, rfl, kb, hLg, sts⟩
      rw [List.length_map, lps, List.take_length] at sts
      exact ⟨_, rfl, k L zs G hL (KB.same s02 kb hL) hLg sts⟩
theorem ok_l_sides_by (T : Txt K mg t) : FnOk P w K mg base CX0 1 t.f_l_sides_by t.d_l_sides_by ["_law_cell", "_law_axes", "_law_lengths"] sp_l_sides := by
  refine T.F_l_sides_by.ok sc_l_sides_by (fun vs H Q E h => ?_) (fun cdv A outer s H vs Q E hr h => ?_)
  · obtain ⟨c, al, ld, axs, lk, rfl, _⟩ := h
    rfl
  · obtain ⟨c, al, ld, axs, lk, rfl, hal, l3, hld, dk, k⟩ := h
    have hu := hu_of hr
    refine ⟨_, (pss_cons (ps_set (i := 3) sc_l_sides_by.nd rfl (Or.inl rfl) (pe_lst (pa_cons (pe_lst pa_nil) (pa_cons (pe_lst pa_nil) pa_nil))))
      (pss_cons (ps_set (i := 4) sc_l_sides_by.nd rfl (Or.inl rfl) pe_int)
      (pss_cons (ps_set (i := 5) sc_l_sides_by.nd rfl (Or.inl rfl) (pe_op op_mod (pe_op op_mul (pe_op op_add (pv 0) pe_int) pe_int) pe_int))
      (pss_cons (ps_for PassesOwn.never rfl (pi_list (pv 1)) (pg_name (i := 6) sc_l_sides_by.nd rfl (Or.inl rfl) (Or.inl rfl))
        (pss_cut (ps_if (pt_cmpR op_ne (pe_op op_mod (pv 5) pe_int) pe_int (nomark _))
          (pss_cons (ps_expr (pe_bm PySem.F.plainAttrs_list PySem.F.slot_list_append PySem.F.type_list_append mt_append (pe_ix ix_list (pv 3) (pe_op op_mod (pe_op op_add (pv 5) (pv 0)) pe_int) (fun _ _ => rfl)) (pa_cons (pv 6) pa_nil)))
          (pss_one (ps_set (i := 4) sc_l_sides_by.nd rfl (Or.inl rfl) (pe_op op_mul (pv 4) (pe_dget hu (pv 2) (pv 6) (fun _ _ => rfl))))))
          pss_nil)
        (pss_one (ps_set (i := 5) sc_l_sides_by.nd rfl (Or.inl rfl) (pe_op op_fdiv (pv 5) pe_int)))))
      (pss_one (ps_ret (pe_tup (pa_cons (pe_ix ix_list (pv 3) pe_int (fun _ _ => rfl)) (pa_cons (pe_ix ix_list (pv 3) pe_int (fun _ _ => rfl)) (pa_cons (pv 4) pa_nil)))))))))), ?_⟩
    refine ⟨line_le (by simp), fun A0 hA0 => ⟨line_le (by simp), fun A1 hA1 => ⟨line_le (by simp), fun sd hsd => ?_⟩⟩⟩
    have t0 : Same H (upd H A0 (.lst [])) := same_new hA0
    have g0 : upd H A0 (.lst []) A0 = some (.lst []) := upd_same
    generalize upd H A0 (.lst []) = H0 at t0 g0 hA1 hsd ⊢
    have t1 : Same H0 (upd H0 A1 (.lst [])) := same_new hA1
    have g1 : upd H0 A1 (.lst []) A1 = some (.lst []) := upd_same
    have n01 : A0 ≠ A1 := ne_of_none g0 hA1
    have A1H : H A1 = none := t0.free hA1
    generalize upd H0 A1 (.lst []) = H1 at t1 g1 hsd ⊢
    have t2 : Same H1 (upd H1 sd (.lst [.ref A0, .ref A1])) := same_new hsd
    have g2 : upd H1 sd (.lst [.ref A0, .ref A1]) sd = some (.lst [.ref A0, .ref A1]) := upd_same
    have n0s : A0 ≠ sd := ne_of_none (t1 _ _ g0) hsd
    have n1s : A1 ≠ sd := ne_of_none g1 hsd
    have g02 := (t1.trans t2) _ _ g0
    have g12 := t2 _ _ g1
    have s2 := t0.trans (t1.trans t2)
    generalize upd H1 sd (.lst [.ref A0, .ref A1]) = H2 at t2 g2 g02 g12 s2 ⊢
    refine ⟨_, rfl, _, _, rfl, rfl, _, _, rfl, rfl, .inr ⟨by decide, by decide⟩, _, _, rfl, rfl, (by show (0 : Int) < 27; decide), ?_⟩
    refine ⟨_, rfl, al, rfl, ⟨_, SqL.of (s2 _ _ hal)⟩, ?_⟩
    refine for_list (K := K) (a := al) (xs := axs.map V.str) (fun i σ X => ∃ (wo r : Int) (o6 : Option V) (e : Rw), σ = [some (.int c), some (.ref al), some (.ref ld), some (.ref sd), some (.int wo), some (.int r), o6] ∧ Same H X ∧ X sd = some (.lst [.ref A0, .ref A1]) ∧ X A0 = some (.lst (e.own.map V.str)) ∧ X A1 = some (.lst (e.sums.map V.str)) ∧ (∀ y ∈ e.own ++ e.sums, y ∈ axs) ∧ e.own.length + e.sums.length ≤ i ∧ Sz lk e.own e.so ∧ Sz lk e.sums e.ss ∧ (∀ n ∈ e.so, 1 ≤ n ∧ n ≤ 60) ∧ (∀ n ∈ e.ss, 1 ≤ n ∧ n ≤ 60) ∧ wo = prodL e.so * prodL e.ss)
      ⟨1, _, none, ⟨[], [], [], []⟩, rfl, s2, g2, g02, g12, (by intro y hy; cases hy), Nat.le_refl _, .nil, .nil, (by intro n hn; cases hn), (by intro n hn; cases hn), rfl⟩ (fun i σ X _ ⟨_, _, _, _, _, sx, _⟩ => SqL.of (sx _ _ hal)) ?_ ?_
    · rintro i x σ X hx ⟨wo, r, o6, e, rfl, sx, hsX, h0X, h1X, sub, ln, zo, zs, po, ps, hw⟩
      obtain ⟨y, hy, rfl⟩ := get_map hx
      have hym := List.mem_of_getElem? hy
      have hi : i < axs.length := (List.getElem?_eq_some_iff.mp hy).1
      obtain ⟨n, vn, n1, n60⟩ := dk y hym
      refine ⟨fun σ X => ∃ (wo : Int) (e : Rw), σ = [some (.int c), some (.ref al), some (.ref ld), some (.ref sd), some (.int wo), some (.int r), some (.str y)] ∧ Same H X ∧ X sd = some (.lst [.ref A0, .ref A1]) ∧ X A0 = some (.lst (e.own.map V.str)) ∧ X A1 = some (.lst (e.sums.map V.str)) ∧ (∀ y ∈ e.own ++ e.sums, y ∈ axs) ∧ e.own.length + e.sums.length ≤ i + 1 ∧ Sz lk e.own e.so ∧ Sz lk e.sums e.ss ∧ (∀ n ∈ e.so, 1 ≤ n ∧ n ≤ 60) ∧ (∀ n ∈ e.ss, 1 ≤ n ∧ n ≤ 60) ∧ wo = prodL e.so * prodL e.ss, ?_, ?_⟩
      · refine ⟨_, rfl, _, _, rfl, rfl, (by show (0 : Int) < 3; decide), rfl, _, rfl, iteND (fun _ => ?_) (fun _ => ⟨wo, e, rfl, sx, hsX, h0X, h1X, sub, by omega, zo, zs, po, ps, hw⟩)⟩
        have b0 : 0 ≤ (r + c) % 2 := Int.emod_nonneg _ (by decide)
        have b1 : (r + c) % 2 < 2 := Int.emod_lt_of_pos _ (by decide)
        rcases (show (r + c) % 2 = 0 ∨ (r + c) % 2 = 1 by omega) with hz0 | hz1
        · have es0 : atI [V.ref A0, .ref A1] ((r + c) % 2) = some (.ref A0) := by rw [hz0]; rfl
          refine ⟨_, rfl, _, rfl, _, rfl, _, _, rfl, rfl, _, _, rfl, rfl, (by show (0 : Int) < 2; decide), sd, _, _, _, rfl, rfl, SqL.of hsX, es0, .inl ⟨rfl, _, SqL.of h0X⟩, _, rfl, A0, _, _, rfl, rfl, h0X, line_lt (by rw [List.length_map]; omega), ?_⟩
          have v2 : Same H (upd X A0 (.lst (e.own.map V.str ++ [.str y]))) := same_fresh sx hA0
          have w0 : upd X A0 (.lst (e.own.map V.str ++ [.str y])) A0 = some (.lst ((e.own ++ [y]).map V.str)) := by rw [upd_same, List.map_append]; rfl
          have w1 : upd X A0 (.lst (e.own.map V.str ++ [.str y])) A1 = some (.lst (e.sums.map V.str)) := by rw [upd_ne n01.symm]; exact h1X
          have ws : upd X A0 (.lst (e.own.map V.str ++ [.str y])) sd = some (.lst [.ref A0, .ref A1]) := by rw [upd_ne n0s.symm]; exact hsX
          generalize upd X A0 (.lst (e.own.map V.str ++ [.str y])) = X2 at v2 w0 w1 ws ⊢
          have g := DGet.k (H := X2) (a := ld) (k := Sum.inr y) (v2 _ _ hld)
          rw [vn] at g
          refine ⟨_, rfl, _, rfl, _, rfl, ld, _, rfl, g, _, _, rfl, rfl, .inr ⟨by omega, by omega⟩, ?_⟩
          refine ⟨wo * n, ⟨e.own ++ [y], e.sums, e.so ++ [n], e.ss⟩, rfl, v2, ws, w0, w1, fun z hz => ?_, by show (e.own ++ [y]).length + e.sums.length ≤ i + 1; rw [List.length_append, List.length_singleton]; omega, papp zo (.cons vn .nil), zs, fun m hm => ?_, ps, ?_⟩
          · rcases List.mem_append.mp hz with hz | hz
            · rcases List.mem_append.mp hz with hz | hz
              · exact sub z (List.mem_append_left _ hz)
              · rw [List.mem_singleton.mp hz]; exact hym
            · exact sub z (List.mem_append_right _ hz)
          · rcases List.mem_append.mp hm with hm | hm
            · exact po m hm
            · rw [List.mem_singleton.mp hm]; exact ⟨n1, n60⟩
          · show wo * n = prodL (e.so ++ [n]) * prodL e.ss
            rw [prodL_snoc, hw, Int.mul_assoc, Int.mul_assoc, Int.mul_comm (prodL e.ss)]
        · have es1 : atI [V.ref A0, .ref A1] ((r + c) % 2) = some (.ref A1) := by rw [hz1]; rfl
          refine ⟨_, rfl, _, rfl, _, rfl, _, _, rfl, rfl, _, _, rfl, rfl, (by show (0 : Int) < 2; decide), sd, _, _, _, rfl, rfl, SqL.of hsX, es1, .inl ⟨rfl, _, SqL.of h1X⟩, _, rfl, A1, _, _, rfl, rfl, h1X, line_lt (by rw [List.length_map]; omega), ?_⟩
          have v2 : Same H (upd X A1 (.lst (e.sums.map V.str ++ [.str y]))) := same_fresh sx A1H
          have w1 : upd X A1 (.lst (e.sums.map V.str ++ [.str y])) A1 = some (.lst ((e.sums ++ [y]).map V.str)) := by rw [upd_same, List.map_append]; rfl
          have w0 : upd X A1 (.lst (e.sums.map V.str ++ [.str y])) A0 = some (.lst (e.own.map V.str)) := by rw [upd_ne n01]; exact h0X
          have ws : upd X A1 (.lst (e.sums.map V.str ++ [.str y])) sd = some (.lst [.ref A0, .ref A1]) := by rw [upd_ne n1s.symm]; exact hsX
          generalize upd X A1 (.lst (e.sums.map V.str ++ [.str y])) = X2 at v2 w0 w1 ws ⊢
          have g := DGet.k (H := X2) (a := ld) (k := Sum.inr y) (v2 _ _ hld)
          rw [vn] at g
          refine ⟨_, rfl, _, rfl, _, rfl, ld, _, rfl, g, _, _, rfl, rfl, .inr ⟨by omega, by omega⟩, ?_⟩
          refine ⟨wo * n, ⟨e.own, e.sums ++ [y], e.so, e.ss ++ [n]⟩, rfl, v2, ws, w0, w1, fun z hz => ?_, by show e.own.length + (e.sums ++ [y]).length ≤ i + 1; rw [List.length_append, List.length_singleton]; omega, zo, papp zs (.cons vn .nil), po, fun m hm => ?_, ?_⟩
          · have hz : z ∈ e.own ++ (e.sums ++ [y]) := hz
            rw [← List.append_assoc] at hz
            rcases List.mem_append.mp hz with hz | hz
            · exact sub z hz
            · rw [List.mem_singleton.mp hz]; exact hym
          · rcases List.mem_append.mp hm with hm | hm
            · exact ps m hm
            · rw [List.mem_singleton.mp hm]; exact ⟨n1, n60⟩
          · show wo * n = prodL e.so * prodL (e.ss ++ [n])
            rw [prodL_snoc, hw, Int.mul_assoc]
      rintro σ X ⟨wo, e, rfl, sx, hsX, h0X, h1X, sub, ln, zo, zs, po, ps, hw⟩
      exact ⟨_, rfl, _, _, rfl, rfl, ⟨by decide, by decide⟩, wo, _, _, e, rfl, sx, hsX, h0X, h1X, sub, ln, zo, zs, po, ps, hw⟩
    · rintro σ X ⟨wo, r, o6, e, rfl, sx, hsX, h0X, h1X, sub, ln, zo, zs, po, ps, hw⟩
      rw [List.length_map] at ln
      refine ⟨_, rfl, sd, _, _, _, rfl, rfl, SqL.of hsX, atI_nat (j := 0) rfl, _, rfl, sd, _, _, _, rfl, rfl, SqL.of hsX, atI_nat (j := 1) rfl, _, rfl, line_le (by simp), fun q hq => ?_⟩
      have u1 := same_new (o := .tup [.ref A0, .ref A1, .int wo]) hq
      exact k q A0 A1 wo e _ hA0 A1H n01 (sx.trans u1) upd_same (u1 _ _ h0X) (u1 _ _ h1X) ⟨sub, by omega, zo, zs, po, ps, hw⟩
theorem ok_l_loops_of (T : Txt K mg t) : FnOk P w K mg base CX0 1 t.f_l_loops_of t.d_l_loops_of ["_law_own", "_law_sums", "_law_behind"] sp_l_loops := by
  refine T.F_l_loops_of.ok sc_l_loops_of (fun vs H Q E h => ?_) (fun cdv A outer s H vs Q E hr h => ?_)
  · obtain ⟨O, S, fr, e, rfl, _⟩ := h
    rfl
  · obtain ⟨O, S, fr, e, rfl, hO, hS, lo, ls, l8, oks, k⟩ := h
    refine ⟨_, (pss_cons (ps_setC (i₀ := 3) (N' := ["_law_k", "_law_behind"]) (ix := (List.replicate 1 none ++ [some 2])) sc_l_loops_of.nd rfl (Or.inl rfl) rfl (clok_one (x := "_law_behind") rfl rfl rfl (by decide +kernel) (by decide +kernel)) (ixok_last (N0 := ["_law_k"]) rfl (Or.inl rfl) (by first | exact Or.inl rfl | exact Or.inr rfl | (simp [relabel]; rfl) | (with_unfolding_all exact Or.inl rfl) | (with_unfolding_all exact Or.inr rfl) | (with_unfolding_all decide))) (pi_range1 rfl T.z_range (pa_cons (pe_callB call_len_seq (by rfl) T.z_len PySem.boot_len (pa_cons (pv 0) pa_nil)) pa_nil)) (fun _ _ _ _ => (pg_name (i := 0) nd_comp_7 rfl (Or.inl rfl) (Or.inr rfl))) (fun _ _ _ _ => (pe_op op_add (pv 1) (pv 0))))
      (pss_cons (ps_set (i := 2) sc_l_loops_of.nd rfl (Or.inr rfl) (pe_op op_add (pe_op op_add (pv 2) (pe_callB call_len_seq (by rfl) T.z_len PySem.boot_len (pa_cons (pv 0) pa_nil))) pe_int))
      (pss_cons (ps_expr (pe_bm PySem.F.plainAttrs_list PySem.F.slot_list_extend PySem.F.type_list_extend mt_extend (pv 3) (pa_cons (pe_comp (N' := ["_law_k", "_law_behind"]) (ix := (List.replicate 1 none ++ [some 2])) rfl (clok_one (x := "_law_behind") rfl rfl rfl (by decide +kernel) (by decide +kernel)) (ixok_last (N0 := ["_law_k"]) rfl (Or.inl rfl) (by first | exact Or.inl rfl | exact Or.inr rfl | (simp [relabel]; rfl) | (with_unfolding_all exact Or.inl rfl) | (with_unfolding_all exact Or.inr rfl) | (with_unfolding_all decide))) (pi_range1 rfl T.z_range (pa_cons (pe_callB call_len_seq (by rfl) T.z_len PySem.boot_len (pa_cons (pv 1) pa_nil)) pa_nil)) (fun _ _ _ _ => (pg_name (i := 0) nd_comp_8 rfl (Or.inl rfl) (Or.inr rfl))) (fun _ _ _ _ => (pe_op op_add (pv 1) (pv 0)))) pa_nil)))
      (pss_one (ps_ret (pe_tup (pa_cons (pv 3) (pa_cons (pe_op op_add (pe_op op_add (pv 2) (pe_callB call_len_seq (by rfl) T.z_len PySem.boot_len (pa_cons (pv 1) pa_nil))) (pe_callTy call_int1 (by rfl) T.z_int PyProof.Rows.boot_int (pa_cons (pe_cmpR (op_neD hr.units) (pv 1) (pe_lst pa_nil) (nomark _)) pa_nil))) pa_nil)))))))), ?_⟩
    refine ⟨_, rfl, O, _, rfl, .inl (SqL.of hO), _, rfl, by omega, by rw [List.length_map]; omega, fun L hL => ?_⟩
    refine comp_genQ (D := L) (e.own.map V.str).length (fun m ys X => Same H X ∧ X L = some (.lst ys) ∧ ys = (nums fr m).map V.int) ⟨same_new hL, upd_same, rfl⟩ (fun m ys X hm _ => hm) (fun ys X _ => Nat.le_refl _) ?_ ?_
    · rintro m ys X hm ⟨sx, hLX, rfl⟩ x Y ⟨rfl, rfl⟩
      rw [List.length_map] at hm
      refine ⟨⟨rfl, True.intro⟩, _, rfl, _, rfl, _, _, rfl, rfl, hLX, line_lt (by rw [List.length_map, nums_len]; omega), same_fresh sx hL, upd_same, ?_⟩
      unfold nums
      rw [List.range_succ, List.map_append, List.map_append, Int.zero_add]
      rfl
    rintro ys X ⟨sx, hLX, rfl⟩
    rw [List.length_map, lo] at hLX
    refine ⟨_, rfl, _, rfl, O, _, rfl, .inl (SqL.of (sx _ _ hO)), _, _, rfl, rfl, _, _, rfl, rfl, ?_⟩
    refine ⟨_, rfl, .inl ⟨rfl, _, SqL.of hLX⟩, _, rfl, S, _, rfl, .inl (SqL.of (sx _ _ hS)), _, rfl, by omega, by rw [List.length_map]; omega, fun D hD => ?_⟩
    have eo : fr + ((e.own.map V.str).length : Int) + 1 = fr + e.so.length + 1 := by rw [List.length_map, lo]
    refine comp_genQ (D := D) (e.sums.map V.str).length (fun m ys Y => Same X Y ∧ Y D = some (.lst ys) ∧ ys = (nums (fr + ((e.own.map V.str).length : Int) + 1) m).map V.int) ⟨same_new hD, upd_same, rfl⟩ (fun m ys Y hm _ => hm) (fun ys Y _ => Nat.le_refl _) ?_ ?_
    · rintro m ys Y hm ⟨sy, hDY, rfl⟩ x Z ⟨rfl, rfl⟩
      rw [List.length_map] at hm
      refine ⟨⟨rfl, True.intro⟩, _, rfl, _, rfl, _, _, rfl, rfl, hDY, line_lt (by rw [List.length_map, nums_len]; omega), same_fresh sy hD, upd_same, ?_⟩
      unfold nums
      rw [List.range_succ, List.map_append, List.map_append, Int.zero_add]
      rfl
    rintro ys Y ⟨sy, hDY, rfl⟩
    rw [eo, List.length_map, ls] at hDY
    refine ⟨L, D, _, _, rfl, rfl, sy _ _ hLX, hDY, line_le (by rw [List.length_map, List.length_map, nums_len, nums_len]; omega), ?_⟩
    have v1 : Same H (upd Y L (.lst ((nums fr e.so.length).map V.int ++ (nums (fr + e.so.length + 1) e.ss.length).map V.int))) := same_fresh (sx.trans sy) hL
    have hL1 : upd Y L (.lst ((nums fr e.so.length).map V.int ++ (nums (fr + e.so.length + 1) e.ss.length).map V.int)) L = some (.lst ((loopsL e fr).map V.int)) := by
      rw [upd_same]
      unfold loopsL
      rw [List.map_append]
    generalize upd Y L (.lst ((nums fr e.so.length).map V.int ++ (nums (fr + e.so.length + 1) e.ss.length).map V.int)) = Z at v1 hL1 ⊢
    refine ⟨_, rfl, _, rfl, _, rfl, S, _, rfl, .inl (SqL.of (v1 _ _ hS)), _, _, rfl, rfl, _, rfl, line_le (by simp), fun n0 hn0 => ?_⟩
    have t0 : Same Z (upd Z n0 (.lst [])) := same_new hn0
    have hn1 : upd Z n0 (.lst []) n0 = some (.lst (([] : List Str).map V.str)) := upd_same
    generalize upd Z n0 (.lst []) = Z1 at t0 hn1 ⊢
    refine ⟨encS e.sums, encS [], S_rep ((v1.trans t0) _ _ hS), S_rep hn1, shaped_of (encS_lay oks) (by have := (encS_ok e.sums).1; omega), rfl, .inr ⟨_, rfl, _, _, rfl, rfl, line_le (by simp), fun q hq => ?_⟩⟩
    have u1 := same_new (o := .tup [.ref L, .int (fr + ninM e)]) hq
    have ev : fr + ((e.own.map V.str).length : Int) + 1 + ((e.sums.map V.str).length : Int) + (if (!PyData.eqv (encS e.sums) (encS [])) = true then 1 else 0) = fr + ninM e := by
      rw [eo, eqv_nil, List.length_map, ls]
      unfold ninM
      have hss : e.ss = [] ↔ e.sums = [] := by
        rw [← List.length_eq_zero_iff, ← List.length_eq_zero_iff]
        omega
      by_cases hz : e.sums = []
      · have hz' := hss.mpr hz
        rw [if_pos hz', hz']
        simp [hz]
        omega
      · have hz' : e.ss ≠ [] := fun z => hz (hss.mp z)
        rw [if_neg hz']
        simp [hz]
        omega
    have fin := k q L _ hL (v1.trans (t0.trans u1)) upd_same (u1 _ _ (t0 _ _ hL1))
    rw [← ev] at fin
    exact fin
end
end My

set_option Elab.async false
set_option linter.all false
set_option maxRecDepth 100000
set_option maxHeartbeats 4000000
namespace My
open PySem L2
local macro_rules | `(tactic| walk_at "lk") => `(tactic| first | with_reducible exact lk0 | (refine lk1 (by decide +kernel) ?_; walk_at "lk") | rfl)
def spLaw (K : PySem.W.Frag) : Sp := fun vs H Q _ => ∃ (a : Addr) (ns : List Int), vs = [.ref a] ∧ SqL K H a (ns.map V.int) ∧ ns.length ≤ 63 ∧ (∀ m ∈ ns, m.natAbs.log2 < 2 ^ 20) ∧ ∀ H', Q (.bl true) H'
theorem cut_map {α : Type} (f : α → V) (nm : List α) (lo hi : Option Int) : ∃ zs : List α, cutV (nm.map f) lo hi = zs.map f ∧ zs.length ≤ nm.length ∧ ∀ x ∈ zs, x ∈ nm := by
  refine ⟨(nm.drop (HT.sIx nm.length 0 lo)).take (HT.sIx nm.length nm.length hi - HT.sIx nm.length 0 lo), ?_, ?_, fun x hx => ?_⟩
  · unfold cutV
    rw [List.length_map, ← List.map_drop, ← List.map_take]
  · rw [List.length_take, List.length_drop]; omega
  · exact List.mem_of_mem_drop (List.mem_of_mem_take hx)
theorem cut_le2 (xs : List V) (a b : Nat) : (cutV xs (some (a : Int)) (some (b : Int))).length ≤ b - a := by
  unfold cutV
  rw [HT.sIx_nat, HT.sIx_nat, List.length_take]
  omega
theorem valV_mem {kvs : List (Key × V)} {k : Key} {v : V} (h : valV kvs k = some v) : ∃ p ∈ kvs, p.1 = k ∧ p.2 = v := by
  unfold valV at h
  obtain ⟨p, hp, e⟩ := Option.map_eq_some_iff.mp h
  have := List.find?_some hp
  exact ⟨p, List.mem_of_find?_eq_some hp, of_decide_eq_true this, e⟩
/-- the names of lines -/
def nName (k : Nat) : Str := "n" ++ (toString (k : Int) : Str)
theorem nName_ok : ∀ k : Fin 100, PyData.strOk (nName k.1) = true ∧ (nName k.1).length ≤ 20 ∧ (((k.1 : Nat) : Int)).natAbs.log2 < 1920 ∧ ("n" : Str).length + (toString ((k.1 : Nat) : Int) : Str).length ≤ 100 := by decide +kernel
theorem ints_ex {lk : List (Key × V)} (h : ∀ p ∈ lk, ∃ n : Int, p.2 = .int n) : ∃ is, Ints' lk is := by
  induction lk with
  | nil => exact ⟨[], .nil⟩
  | cons p r ih =>
    obtain ⟨n, hn⟩ := h p (.head _)
    obtain ⟨is, hi⟩ := ih fun q hq => h q (.tail _ hq)
    exact ⟨n :: is, .cons hn hi⟩
theorem ar_map {S : Addr → Prop} {H : Hp} {x : Str} {l : Addr} {ys : List Str} (hs : S l) (hl : H l = some (.lst (ys.map V.str))) : ∀ {kvs : List (Key × V)} {es : List (Str × List Str)}, AR S H kvs es →
    ∃ es', AR S H (kvs.map fun kv => if kv.1 = Sum.inr x then (kv.1, V.ref l) else kv) es' ∧ (∀ e ∈ es', e ∈ es ∨ e = (x, ys)) ∧ es'.length = es.length
  | _, _, .nil => ⟨[], .nil, by simp, rfl⟩
  | _, _, @Paired.cons _ _ _ p e _ _ r t => by
    obtain ⟨es', h1, h2, h3⟩ := ar_map hs hl t
    by_cases hk : p.1 = Sum.inr x
    · refine ⟨(x, ys) :: es', ?_, fun f hf => ?_, by simp [h3]⟩
      · rw [List.map_cons, if_pos hk]
        exact .cons ⟨hk, l, rfl, hs, hl⟩ h1
      · rcases List.mem_cons.mp hf with rfl | hf
        · exact .inr rfl
        · exact (h2 f hf).imp (fun h => .tail _ h) id
    · refine ⟨e :: es', ?_, fun f hf => ?_, by simp [h3]⟩
      · rw [List.map_cons, if_neg hk]
        exact .cons r h1
      · rcases List.mem_cons.mp hf with rfl | hf
        · exact .inl (.head _)
        · exact (h2 f hf).imp (fun h => .tail _ h) id
theorem ar_put {S : Addr → Prop} {H : Hp} {x : Str} {l : Addr} {ys : List Str} {kvs : List (Key × V)} {es : List (Str × List Str)} (hs : S l) (hl : H l = some (.lst (ys.map V.str))) (h : AR S H kvs es) :
    ∃ es', AR S H (putK kvs (Sum.inr x) (.ref l)) es' ∧ (∀ e ∈ es', e ∈ es ∨ e = (x, ys)) ∧ es'.length ≤ es.length + 1 := by
  unfold putK
  split
  · obtain ⟨es', h1, h2, h3⟩ := ar_map (x := x) hs hl h
    exact ⟨es', h1, h2, by omega⟩
  · refine ⟨es ++ [(x, ys)], Paired.snoc ⟨rfl, l, rfl, hs, hl⟩ h, fun e he => ?_, by simp⟩
    rcases List.mem_append.mp he with he | he
    · exact .inl he
    · exact .inr (List.mem_singleton.mp he)
theorem eqv_ints (ns : List Int) : PyData.eqv (.list (ns.map PyData.int)) (.list []) = decide (ns = []) := by
  cases ns <;> rfl
theorem shaped_ints (ns : List Int) : SeqAt.shaped (.list (ns.map PyData.int)) = true := by
  obtain ⟨h1, h2⟩ := ints_all ns
  refine shaped_of ?_ ?_
  · simp only [PyData.canLay0]; exact h1
  · simp only [PyData.depth, h2]; omega
theorem log_small {c : Int} {N : Nat} (hN : 4 ≤ N) (h : c.natAbs.log2 < N) : (c / 60 + 7).natAbs.log2 < N + 1 := by
  have hc := bits_of h
  have hp : 2 ^ 4 ≤ 2 ^ N := Nat.pow_le_pow_right (by decide) hN
  have h2 : 2 ^ (N + 1) = 2 * 2 ^ N := by rw [Nat.pow_succ, Nat.mul_comm]
  have hlt : (c / 60 + 7).natAbs < 2 ^ (N + 1) := by
    rw [h2]
    generalize 2 ^ N = B at hc hp
    omega
  by_cases h0 : (c / 60 + 7).natAbs = 0
  · rw [h0]
    show Nat.log2 0 < N + 1
    have : Nat.log2 0 = 0 := by decide
    omega
  · exact (Nat.log2_lt h0).mpr hlt
/-! ### one line more -/
theorem ext_get {rows : List Rw} {e : Rw} {i : Nat} (h : i < rows.length) : (rows ++ [e])[i]? = rows[i]? := List.getElem?_append_left h
theorem ext_last {rows : List Rw} {e : Rw} : (rows ++ [e])[rows.length]? = some e := by simp
theorem frM_ext {rows : List Rw} {e : Rw} : ∀ i, i ≤ rows.length → frM (rows ++ [e]) i = frM rows i
  | 0, _ => rfl
  | i + 1, h => by rw [frM, frM, ext_get (by omega), frM_ext i (by omega)]
theorem loopsM_ext {rows : List Rw} {e : Rw} : ∀ i, i ≤ rows.length → loopsM (rows ++ [e]) i = loopsM rows i
  | 0, _ => rfl
  | i + 1, h => by rw [loopsM, loopsM, ext_get (by omega), loopsM_ext i (by omega), frM_ext i (by omega)]
theorem orderM_ext {rows : List Rw} {e : Rw} (i : Nat) (h : i ≤ rows.length) : orderM (rows ++ [e]) i = orderM rows i := by
  unfold orderM
  refine flat_congr' fun k hk => ?_
  have := List.mem_range.mp hk
  unfold lineAt
  rw [ext_get (by omega)]
theorem frM_snoc (rows : List Rw) (e : Rw) : frM (rows ++ [e]) (rows ++ [e]).length = frM rows rows.length + ninM e := by
  rw [List.length_append, List.length_singleton, frM_succ ext_last, frM_ext _ (Nat.le_refl _)]
theorem loopsM_snoc (rows : List Rw) (e : Rw) : loopsM (rows ++ [e]) (rows ++ [e]).length = loopsM rows rows.length ++ loopsL e (frM rows rows.length) := by
  rw [List.length_append, List.length_singleton, loopsM_succ ext_last, loopsM_ext _ (Nat.le_refl _), frM_ext _ (Nat.le_refl _)]
theorem orderM_snoc (rows : List Rw) (e : Rw) : orderM (rows ++ [e]) (rows ++ [e]).length = orderM rows rows.length ++ stepsLine rows.length e := by
  rw [List.length_append, List.length_singleton, orderM_succ ext_last, orderM_ext _ (Nat.le_refl _)]
theorem SdOk.row {lk : List (Key × V)} {axs : List Str} {e : Rw} {wo : Int} (h : SdOk lk axs e wo) (hw : wo ≤ 150) : RwOk e := by
  have p1 := (cells_length e.so fun n hn => (h.po n hn).1).2
  have p2 := (cells_length e.ss fun n hn => (h.ps n hn).1).2
  have m1 : prodL e.so * 1 ≤ prodL e.so * prodL e.ss := Int.mul_le_mul_of_nonneg_left p2 (by omega)
  have m2 : 1 * prodL e.ss ≤ prodL e.so * prodL e.ss := Int.mul_le_mul_of_nonneg_right p1 (by omega)
  have l1 := Paired.length h.zo
  have l2 := Paired.length h.zs
  have l3 := h.l3
  have hw' := h.hw
  exact ⟨⟨h.po, by omega, by omega⟩, ⟨h.ps, by omega, by omega⟩, by omega, by omega, by omega, l1, l2, by omega⟩
/-- the lines so far -/
structure LI (A : Adr) (H4 X : Hp) (ad lv dl ll cl : Addr) (cs : List V) (lk ak : List (Key × V)) (es : List (Str × List Str)) (xs : List V) (rows : List Rw) (ys : List V) (n : Nat) : Prop where
  sm : Same H4 X
  had : X ad = some (.dK ak)
  hlv : X lv = some (.lst xs)
  hdl : X dl = some (.lst ys)
  hll : X ll = some (.lst ((loopsM rows rows.length).map V.int))
  hcl : X cl = some (.lst cs)
  ar : AR (fun b => b ∉ [lv, dl, ll]) X ak es
  l4 : ∀ e ∈ es, e.2.length ≤ 4
  le : es.length ≤ 1 + n
  lis : LinesAt A [lv, dl, ll] X xs rows
  st : StsAt X ys (orderM rows rows.length)
  tot : Tot lk rows
  lr : rows.length ≤ n
section
variable {P : Program} {w : World} {K : PySem.W.Frag} {mg : Str → Option Value} {base : Heap} {t : Adr}
theorem ok_law (T : Txt K mg t) : FnOk P w K mg base CX0 133 t.f_law t.d_law ["_law_script"] (spLaw K) := by
  have G_Cloth_init := ok_Cloth_init (P := P) (w := w) (base := base) T
  have G_Line_init := ok_Line_init (P := P) (w := w) (base := base) T
  have G_Number_init := ok_Number_init (P := P) (w := w) (base := base) T
  have G_l_cell_at := ok_l_cell_at (P := P) (w := w) (base := base) T
  have G_l_is_step := ok_l_is_step (P := P) (w := w) (base := base) T
  have G_l_loops_of := ok_l_loops_of (P := P) (w := w) (base := base) T
  have G_l_sides_by := ok_l_sides_by (P := P) (w := w) (base := base) T
  have G_l_steps_by := ok_l_steps_by (P := P) (w := w) (base := base) T
  have G_planned := ok_planned (P := P) (w := w) (base := base) T
  have G_steps_of := ok_steps_of (P := P) (w := w) (base := base) T
  refine T.F_law.ok sc_law (fun vs H Q E h => ?_) (fun cdv A outer s H vs Q E hr h => ?_)
  · obtain ⟨a, ns, rfl, _⟩ := h
    rfl
  · obtain ⟨a, ns, rfl, hS, l63, bits, k⟩ := h
    have hu := hu_of hr
    refine ⟨_, (pss_cons (ps_set (i := 1) sc_law.nd rfl (Or.inl rfl) (pe_call G_l_cell_at (hr.mono (by omega)) rfl T.m_l_cell_at T.F_l_cell_at.kp T.b_l_cell_at .nil pass0 (pa_cons (pv 0) (pa_cons pe_int pa_nil))))
      (pss_cons (ps_set (i := 2) sc_law.nd rfl (Or.inl rfl) (pe_slice sl_list (pe_lst (pa_cons pe_str (pa_cons pe_str (pa_cons pe_str pa_nil)))) po_none (po_some (pe_op op_add pe_int (pe_op op_mod (pv 1) pe_int)))))
      (pss_cons (ps_set (i := 3) sc_law.nd rfl (Or.inl rfl) pe_dnewK)
      (pss_cons (ps_for PassesOwn.never rfl (pi_range1 rfl T.z_range (pa_cons (pe_callB call_len_seq (by rfl) T.z_len PySem.boot_len (pa_cons (pv 2) pa_nil)) pa_nil)) (pg_name (i := 4) sc_law.nd rfl (Or.inl rfl) (Or.inl rfl))
        (pss_one (ps_dput hu (pv 3) (pe_ix ix_list (pv 2) (pv 4) (fun _ _ => rfl)) (pe_op op_add pe_int (pe_op op_mod (pe_op op_fdiv (pv 1) (pe_ix ix_list (pe_lst (pa_cons pe_int (pa_cons pe_int (pa_cons pe_int pa_nil)))) (pv 4) (fun _ _ => rfl))) pe_int)) rfl)))
      (pss_cut (ps_if (pt_cmpR op_eq (pe_op op_mod (pe_op op_fdiv (pv 1) pe_int) pe_int) pe_int (nomark _))
        (pss_one (ps_dput hu (pv 3) pe_str (pe_op op_add pe_int (pe_op op_mod (pe_op op_fdiv (pv 1) pe_int) pe_int)) rfl))
        pss_nil)
      (pss_cons (ps_set (i := 5) sc_law.nd rfl (Or.inl rfl) (pe_disp (pps_cons pe_str (pe_lst pa_nil) pps_nil) rfl rfl (by simp) (by decide)))
      (pss_cons (ps_set (i := 6) sc_law.nd rfl (Or.inl rfl) (pe_lst pa_nil))
      (pss_cons (ps_set (i := 7) sc_law.nd rfl (Or.inl rfl) (pe_lst pa_nil))
      (pss_cons (ps_set (i := 8) sc_law.nd rfl (Or.inl rfl) (pe_lst pa_nil))
      (pss_cons (ps_set (i := 9) sc_law.nd rfl (Or.inl rfl) pe_int)
      (pss_cons (ps_set (i := 10) sc_law.nd rfl (Or.inl rfl) pe_int)
      (pss_cons (ps_for PassesOwn.never rfl (pi_list (pe_op op_cat (pe_lst (pa_cons (pe_call G_l_cell_at (hr.mono (by omega)) rfl T.m_l_cell_at T.F_l_cell_at.kp T.b_l_cell_at .nil pass0 (pa_cons (pv 0) (pa_cons pe_int pa_nil))) pa_nil)) (pe_slice sl_list (pv 0) (po_some pe_int) (po_some pe_int)))) (pg_name (i := 11) sc_law.nd rfl (Or.inl rfl) (Or.inl rfl))
        (pss_cons (ps_asg (pe_call G_l_sides_by (hr.mono (by omega)) rfl T.m_l_sides_by T.F_l_sides_by.kp T.b_l_sides_by .nil pass0 (pa_cons (pv 11) (pa_cons (pv 2) (pa_cons (pv 3) pa_nil)))) (pg_tup (n := 3) rfl (pgs_cons (pg_name (i := 12) sc_law.nd rfl (Or.inl rfl) (Or.inl rfl)) (pgs_cons (pg_name (i := 13) sc_law.nd rfl (Or.inl rfl) (Or.inl rfl)) (pgs_cons (pg_name (i := 14) sc_law.nd rfl (Or.inl rfl) (Or.inl rfl)) pgs_nil)))))
        (pss_one (ps_if (pt_cmpR op_le (pv 14) (pv 10) (nomark _))
          (pss_cons (ps_set (i := 10) sc_law.nd rfl (Or.inl rfl) (pe_op op_sub (pv 10) (pv 14)))
          (pss_cons (ps_expr (pe_bm PySem.F.plainAttrs_list PySem.F.slot_list_extend PySem.F.type_list_extend mt_extend (pv 7) (pa_cons (pe_call G_l_steps_by (hr.mono (by omega)) rfl T.m_l_steps_by T.F_l_steps_by.kp T.b_l_steps_by .nil pass0 (pa_cons (pe_callB call_len_seq (by rfl) T.z_len PySem.boot_len (pa_cons (pv 6) pa_nil)) (pa_cons (pv 12) (pa_cons (pv 13) (pa_cons (pv 3) pa_nil))))) pa_nil)))
          (pss_cons (ps_asg (pe_call G_l_loops_of (hr.mono (by omega)) rfl T.m_l_loops_of T.F_l_loops_of.kp T.b_l_loops_of .nil pass0 (pa_cons (pv 12) (pa_cons (pv 13) (pa_cons (pv 9) pa_nil)))) (pg_tup (n := 2) rfl (pgs_cons (pg_name (i := 15) sc_law.nd rfl (Or.inl rfl) (Or.inl rfl)) (pgs_cons (pg_name (i := 9) sc_law.nd rfl (Or.inl rfl) (Or.inl rfl)) pgs_nil))))
          (pss_cons (ps_expr (pe_bm PySem.F.plainAttrs_list PySem.F.slot_list_extend PySem.F.type_list_extend mt_extend (pv 8) (pa_cons (pv 15) pa_nil)))
          (pss_cons (ps_dput hu (pv 5) (pe_op op_add_str pe_str (pe_callTy call_str_int (by rfl) T.z_str PyProof.Rows.boot_str (pa_cons (pe_callB call_len_seq (by rfl) T.z_len PySem.boot_len (pa_cons (pv 6) pa_nil)) pa_nil))) (pv 12) rfl)
          (pss_one (ps_expr (pe_bm PySem.F.plainAttrs_list PySem.F.slot_list_append PySem.F.type_list_append mt_append (pv 6) (pa_cons (pe_make T.mk_Line G_Line_init (hr.mono (by omega)) rfl T.m_Line T.b_Line_init .nil pass0 (pa_cons (pe_op op_add_str pe_str (pe_callTy call_str_int (by rfl) T.z_str PyProof.Rows.boot_str (pa_cons (pe_callB call_len_seq (by rfl) T.z_len PySem.boot_len (pa_cons (pv 6) pa_nil)) pa_nil))) (pa_cons (pv 12) (pa_cons (pv 13) (pa_cons (pe_make T.mk_Number G_Number_init (hr.mono (by omega)) rfl T.m_Number T.b_Number_init .nil pass0 (pa_cons pe_int pa_nil)) pa_nil))))) pa_nil)))))))))
          pss_nil))))
      (pss_cons (ps_set (i := 16) sc_law.nd rfl (Or.inl rfl) (pe_make T.mk_Cloth G_Cloth_init (hr.mono (by omega)) rfl T.m_Cloth T.b_Cloth_init .nil pass0 (pa_cons pe_int (pa_cons (pv 3) (pa_cons (pv 5) (pa_cons (pe_lst (pa_cons pe_str pa_nil)) (pa_cons (pv 6) (pa_cons (pe_lst (pa_cons pe_str pa_nil)) pa_nil))))))))
      (pss_cons (ps_set (i := 17) sc_law.nd rfl (Or.inl rfl) (pe_lst pa_nil))
      (pss_cons (ps_for PassesOwn.never rfl (pi_list (pe_slice sl_list (pv 0) (po_some pe_int) (po_some pe_int))) (pg_name (i := 11) sc_law.nd rfl (Or.inl rfl) (Or.inl rfl))
        (pss_one (ps_if (pt_cmpR (op_neD hr.units) (pv 8) (pe_lst pa_nil) (nomark _))
          (pss_cons (ps_set (i := 18) sc_law.nd rfl (Or.inl rfl) (pe_op op_add pe_int (pe_op op_mod (pe_op op_fdiv (pv 11) pe_int) pe_int)))
          (pss_cut (ps_if (pt_cmpR op_eq (pe_op op_mod (pv 11) pe_int) pe_int (nomark _))
            (pss_one (ps_set (i := 18) sc_law.nd rfl (Or.inl rfl) (pe_op op_add pe_int (pe_op op_mod (pe_op op_fdiv (pv 11) pe_int) pe_int))))
            pss_nil)
          (pss_cut (ps_if (pt_cmpR op_eq (pe_op op_mod (pv 11) pe_int) pe_int (nomark _))
            (pss_one (ps_set (i := 18) sc_law.nd rfl (Or.inl rfl) (pe_op op_add pe_int (pe_op op_mod (pe_op op_mulL (pe_op op_add (pe_op op_fdiv (pv 11) pe_int) pe_int) (pe_op op_pow pe_int pe_int)) (pe_op op_sub (pe_op op_pow pe_int pe_int) pe_int)))))
            pss_nil)
          (pss_one (ps_expr (pe_bm PySem.F.plainAttrs_list PySem.F.slot_list_append PySem.F.type_list_append mt_append (pv 17) (pa_cons (pe_tup (pa_cons pe_str (pa_cons (pe_ix ix_list (pv 8) (pe_op op_mod (pe_op op_fdiv (pv 11) pe_int) (pe_callB call_len_seq (by rfl) T.z_len PySem.boot_len (pa_cons (pv 8) pa_nil))) (fun _ _ => rfl)) (pa_cons (pv 18) pa_nil)))) pa_nil)))))))
          pss_nil)))
      (pss_cons (ps_set (i := 19) sc_law.nd rfl (Or.inl rfl) (pe_call G_steps_of (hr.mono (by omega)) rfl T.m_steps_of T.F_steps_of.kp T.b_steps_of .nil pass0 (pa_cons (pe_call G_planned (hr.mono (by omega)) rfl T.m_planned T.F_planned.kp T.b_planned .nil pass0 (pa_cons (pv 16) (pa_cons (pv 17) pa_nil))) pa_nil)))
      (pss_cons (ps_if (pt_not (pt_val (pe_callB call_isinst (by rfl) T.z_isinstance PyProof.Rows.boot_isinstance (pa_cons (pv 19) (pa_cons (pe_bltn (v := V.ty "list") rfl T.z_list PyProof.Rows.boot_list rfl) pa_nil)))))
        (pss_one (ps_ret pe_bl))
        pss_nil)
      (pss_cons (ps_for PassesOwn.never rfl (pi_list (pv 19)) (pg_name (i := 20) sc_law.nd rfl (Or.inl rfl) (Or.inl rfl))
        (pss_one (ps_if (pt_not (pt_val (pe_call G_l_is_step (hr.mono (by omega)) rfl T.m_l_is_step T.F_l_is_step.kp T.b_l_is_step .nil pass0 (pa_cons (pv 20) pa_nil))))
          (pss_one (ps_ret pe_bl))
          pss_nil)))
      (pss_one (ps_ret (pe_cmpR (op_eqD hr.units) (pv 19) (pv 7) (nomark _)))))))))))))))))))))), ?_⟩
    refine ⟨_, rfl, a, ns, 0, rfl, hS, by decide, fun hh => ?_⟩
    -- the axes
    refine ⟨line_le (by simp), fun l0 hl0 => ⟨_, rfl, _, _, rfl, rfl, (by show (0 : Int) < 3; decide), _, _, rfl, rfl, _, rfl, l0, _, rfl, SqL.of upd_same, fun ax hax => ?_⟩⟩
    obtain ⟨ya, ea, ly3, mya⟩ := cut_map V.str [("left" : Str), "right", "deep"] none (some (1 + hh % 3))
    have ea : cutV [V.str "left", .str "right", .str "deep"] none (some (1 + hh % 3)) = ya.map V.str := ea
    have ly3 : ya.length ≤ 3 := ly3
    rw [show cutV [V.str "left", .str "right", .str "deep"] none (some (1 + hh % 3)) = ya.map V.str from ea]
    have oka : OkS ya := fun y hy => by
      have := mya y hy
      simp at this
      rcases this with rfl | rfl | rfl <;> decide +kernel
    have s1 : Same H (upd (upd H l0 (.lst [.str "left", .str "right", .str "deep"])) ax (.lst (ya.map V.str))) := (same_new hl0).trans (same_new hax)
    have hax2 : upd (upd H l0 (.lst [.str "left", .str "right", .str "deep"])) ax (.lst (ya.map V.str)) ax = some (.lst (ya.map V.str)) := upd_same
    generalize upd (upd H l0 (.lst [.str "left", .str "right", .str "deep"])) ax (.lst (ya.map V.str)) = H2 at s1 hax2 ⊢
    -- the lengths
    refine fun ld hld => ?_
    have s3 : Same H2 (upd H2 ld (.dK [])) := same_new hld
    have hld3 : upd H2 ld (.dK []) ld = some (.dK []) := upd_same
    generalize upd H2 ld (.dK []) = H3 at s3 hld3 ⊢
    refine ⟨_, rfl, ax, _, rfl, .inl (SqL.of (s3 _ _ hax2)), _, rfl, by omega, by rw [List.length_map]; omega, ?_⟩
    refine for_range (n := (ya.map V.str).length) (fun i σ X => ∃ (o4 : Option V) (lk : List (Key × V)), σ = [some (.ref a), some (.int hh), some (.ref ax), some (.ref ld), o4, none, none, none, none, none, none, none, none, none, none, none, none, none, none, none, none] ∧ Same H2 X ∧ X ld = some (.dK lk) ∧ lk.length ≤ i ∧ (∀ p ∈ lk, ∃ n : Int, p.2 = .int n ∧ 1 ≤ n ∧ n ≤ 60) ∧ ∀ y ∈ ya.take i, (valV lk (Sum.inr y)).isSome = true)
      ⟨none, [], rfl, s3, hld3, Nat.le_refl _, (by intro p hp; cases hp), by simp⟩ ?_ ?_
    · rintro i σ X hi ⟨o4, lk, rfl, sx, h3, llk, vlk, klk⟩
      rw [List.length_map] at hi
      have hyi : ya[i]? = some ya[i] := List.getElem?_eq_getElem hi
      have ey : atI (ya.map V.str) (0 + (i : Int)) = some (.str ya[i]) := by rw [Int.zero_add]; exact atI_nat (by rw [List.getElem?_map, hyi]; rfl)
      obtain ⟨d, ed, d1, d2⟩ : ∃ d : Int, atI [V.int 3, .int 15, .int 75] (0 + (i : Int)) = some (.int d) ∧ 0 < d ∧ d < 1073741824 := by
        rw [Int.zero_add]
        match i, (show i < 3 by omega) with
        | 0, _ => exact ⟨3, rfl, by decide, by decide⟩
        | 1, _ => exact ⟨15, rfl, by decide, by decide⟩
        | 2, _ => exact ⟨75, rfl, by decide, by decide⟩
      have b5 : 0 ≤ hh / d % 5 ∧ hh / d % 5 < 5 := ⟨Int.emod_nonneg _ (by decide), Int.emod_lt_of_pos _ (by decide)⟩
      have lput := length_putK lk (Sum.inr ya[i]) (V.int (1 + hh / d % 5))
      refine ⟨_, rfl, line_le (by simp), fun z hz => ⟨_, rfl, z, _, _, _, rfl, rfl, SqL.of upd_same, ed, _, _, rfl, rfl, ⟨d1, d2⟩, _, _, rfl, rfl, (by show (0 : Int) < 5; decide), _, _, rfl, rfl, ?_⟩⟩
      have u1 : Same X (upd X z (.lst [.int 3, .int 15, .int 75])) := same_new hz
      generalize upd X z (.lst [.int 3, .int 15, .int 75]) = X1 at u1 ⊢
      refine ⟨_, rfl, _, rfl, _, rfl, ax, _, _, _, rfl, rfl, SqL.of (u1 _ _ (sx _ _ hax2)), ey, ld, _, rfl, DPut.k (k := Sum.inr ya[i]) (u1 _ _ h3) (line_lt (by omega)), ?_⟩
      refine ⟨_, _, rfl, same_fresh (sx.trans u1) hld, upd_same, Nat.le_trans lput (by omega), fun p hp => ?_, fun y hy => ?_⟩
      · rcases putK_mem hp with hp | hp
        · exact vlk p hp
        · rw [hp]; exact ⟨_, rfl, by omega, by omega⟩
      · rw [valV_put]
        split
        · rfl
        · rename_i hne
          rw [List.take_add_one, hyi] at hy
          rcases List.mem_append.mp hy with hy | hy
          · exact klk y hy
          · exact absurd (by rw [show y = ya[i] by simpa using hy]) hne
    rintro σ H4a ⟨o4, lk0, rfl, s24a, hld4a, llk0, vlk0, klk0⟩
    rw [List.length_map] at llk0 klk0
    rw [List.take_length] at klk0
    refine ⟨fun σ X => ∃ (lk : List (Key × V)), σ = [some (.ref a), some (.int hh), some (.ref ax), some (.ref ld), o4, none, none, none, none, none, none, none, none, none, none, none, none, none, none, none, none] ∧ Same H2 X ∧ X ld = some (.dK lk) ∧ lk.length ≤ 10 ∧ (∀ p ∈ lk, ∃ n : Int, p.2 = .int n ∧ 1 ≤ n ∧ n ≤ 60) ∧ ∀ y ∈ ya, (valV lk (Sum.inr y)).isSome = true, ?_, ?_⟩
    · refine ⟨_, rfl, _, _, rfl, rfl, ⟨by decide, by decide⟩, _, _, rfl, rfl, (by show (0 : Int) < 3; decide), rfl, _, rfl, iteD (fun _ => ?_) (fun _ => ⟨lk0, rfl, s24a, hld4a, by omega, vlk0, klk0⟩)⟩
      have b60 : 0 ≤ hh / 9 % 60 ∧ hh / 9 % 60 < 60 := ⟨Int.emod_nonneg _ (by decide), Int.emod_lt_of_pos _ (by decide)⟩
      have lput := length_putK lk0 (Sum.inr "left") (V.int (1 + hh / 9 % 60))
      refine ⟨_, rfl, _, _, rfl, rfl, ⟨by decide, by decide⟩, _, _, rfl, rfl, (by show (0 : Int) < 60; decide), _, _, rfl, rfl, _, rfl, ld, _, rfl, DPut.k (k := Sum.inr "left") hld4a (line_lt (by omega)), ?_⟩
      refine ⟨_, rfl, same_fresh s24a hld, upd_same, Nat.le_trans lput (by omega), fun p hp => ?_, fun y hy => ?_⟩
      · rcases putK_mem hp with hp | hp
        · exact vlk0 p hp
        · rw [hp]; exact ⟨_, rfl, by omega, by omega⟩
      · rw [valV_put]
        split
        · rfl
        · exact klk0 y hy
    rintro σ H4 ⟨lk, rfl, s24, hld4, llk, vlk, klk⟩
    obtain ⟨is, il⟩ := ints_ex fun p hp => let ⟨n, e, _⟩ := vlk p hp; ⟨n, e⟩
    have dk : DkOk lk ya := fun y hy => by
      obtain ⟨v, hv⟩ := Option.isSome_iff_exists.mp (klk y hy)
      obtain ⟨p, hp, _, e⟩ := valV_mem hv
      obtain ⟨n, en, n1, n60⟩ := vlk p hp
      exact ⟨n, by rw [hv, ← e, en], n1, n60⟩
    have s04 := s1.trans s24
    have hax4 := s24 _ _ hax2
    -- the arrays
    refine fun ad had => ⟨line_le (by simp), fun l3 hl3 => ?_⟩
    have adl3 : ad ≠ l3 := fun z => by rw [← z, upd_same] at hl3; cases hl3
    refine ⟨by rw [upd_ne adl3]; exact upd_same, [(Sum.inr "given", .ref l3)], rfl, by simp, ?_⟩
    have sm0 : Same H4 (upd (upd (upd H4 ad (.dK [])) l3 (.lst [])) ad (.dK (mergeK [] [(Sum.inr "given", .ref l3)]))) := same_fresh ((same_new had).trans (same_new hl3)) had
    have had0 : upd (upd (upd H4 ad (.dK [])) l3 (.lst [])) ad (.dK (mergeK [] [(Sum.inr "given", .ref l3)])) ad = some (.dK [(Sum.inr "given", .ref l3)]) := upd_same
    have ar0 : AR (fun _ => True) (upd (upd (upd H4 ad (.dK [])) l3 (.lst [])) ad (.dK (mergeK [] [(Sum.inr "given", .ref l3)]))) [(Sum.inr "given", .ref l3)] [("given", [])] := .cons ⟨rfl, l3, rfl, True.intro, by rw [upd_ne adl3.symm]; exact upd_same⟩ .nil
    generalize upd (upd (upd H4 ad (.dK [])) l3 (.lst [])) ad (.dK (mergeK [] [(Sum.inr "given", .ref l3)])) = G0 at sm0 had0 ar0 ⊢
    -- the lists
    refine ⟨line_le (by simp), fun lv hlv => ?_⟩
    have t1 : Same G0 (upd G0 lv (.lst [])) := same_new hlv
    have hlv1 : upd G0 lv (.lst []) lv = some (.lst []) := upd_same
    generalize upd G0 lv (.lst []) = G1 at t1 hlv1 ⊢
    refine ⟨line_le (by simp), fun dl hdl => ?_⟩
    have t2 : Same G1 (upd G1 dl (.lst [])) := same_new hdl
    have hdl2 : upd G1 dl (.lst []) dl = some (.lst []) := upd_same
    have nld : lv ≠ dl := ne_of_none hlv1 hdl
    generalize upd G1 dl (.lst []) = G2 at t2 hdl2 ⊢
    refine ⟨line_le (by simp), fun ll hll => ?_⟩
    have t3 : Same G2 (upd G2 ll (.lst [])) := same_new hll
    have hll3 : upd G2 ll (.lst []) ll = some (.lst []) := upd_same
    have nlv : lv ≠ ll := ne_of_none (t2 _ _ hlv1) hll
    have ndl : dl ≠ ll := ne_of_none hdl2 hll
    have nn : ∀ {b : Addr} {xs : List V}, G0 b = some (.lst xs) → b ∉ [lv, dl, ll] := fun e m => by
      simp at m
      rcases m with rfl | rfl | rfl
      · rw [e] at hlv; cases hlv
      · rw [t1 _ _ e] at hdl; cases hdl
      · rw [(t1.trans t2) _ _ e] at hll; cases hll
    have ar1 : AR (fun b => b ∉ [lv, dl, ll]) (upd G2 ll (.lst [])) [(Sum.inr "given", .ref l3)] [("given", [])] := ar0.imp fun b xs _ e => ⟨nn e, (t1.trans (t2.trans t3)) _ _ e⟩
    have lv4 : H4 lv = none := sm0.free hlv
    have dl4 : H4 dl = none := (sm0.trans t1).free hdl
    have ll4 : H4 ll = none := (sm0.trans (t1.trans t2)).free hll
    generalize upd G2 ll (.lst []) = G3 at t3 hll3 ar1 ⊢
    have s43 := sm0.trans (t1.trans (t2.trans t3))
    -- the cells
    refine ⟨_, rfl, a, ns, 1, rfl, (s04.trans s43).seq hS, by decide, fun z1 => ⟨line_le (by simp), fun c0 hc0 => ?_⟩⟩
    have t4 : Same G3 (upd G3 c0 (.lst [.int z1])) := same_new hc0
    have hc04 : upd G3 c0 (.lst [.int z1]) c0 = some (.lst [.int z1]) := upd_same
    generalize upd G3 c0 (.lst [.int z1]) = G4 at t4 hc04 ⊢
    refine ⟨_, rfl, _, rfl, _, rfl, a, _, rfl, (s04.trans (s43.trans t4)).seq hS, fun c1 hc1 => ?_⟩
    obtain ⟨cs, ecs, _, _⟩ := cut_map V.int ns (some 2) (some 6)
    have lcs : cs.length ≤ 4 := by
      have h1 := cut_le2 (ns.map V.int) 2 6
      have e : cutV (ns.map V.int) (some ((2 : Nat) : Int)) (some ((6 : Nat) : Int)) = cs.map V.int := ecs
      rw [e, List.length_map] at h1
      omega
    rw [ecs]
    have t5 : Same G4 (upd G4 c1 (.lst (cs.map V.int))) := same_new hc1
    have hc15 : upd G4 c1 (.lst (cs.map V.int)) c1 = some (.lst (cs.map V.int)) := upd_same
    generalize upd G4 c1 (.lst (cs.map V.int)) = G5 at t5 hc15 ⊢
    refine ⟨c0, c1, _, _, rfl, rfl, t5 _ _ hc04, hc15, line_le (by rw [List.length_map]; simp; omega), fun cl hcl => ?_⟩
    have ecl : [V.int z1] ++ cs.map V.int = (z1 :: cs).map V.int := rfl
    rw [ecl]
    have t6 : Same G5 (upd G5 cl (.lst ((z1 :: cs).map V.int))) := same_new hcl
    have hcl6 : upd G5 cl (.lst ((z1 :: cs).map V.int)) cl = some (.lst ((z1 :: cs).map V.int)) := upd_same
    have t36 := t4.trans (t5.trans t6)
    have ncl : cl ∉ [lv, dl, ll] := fun m => by
      have t35 := t4.trans t5
      simp at m
      rcases m with rfl | rfl | rfl
      · rw [((t2.trans t3).trans t35) _ _ hlv1] at hcl; cases hcl
      · rw [(t3.trans t35) _ _ hdl2] at hcl; cases hcl
      · rw [t35 _ _ hll3] at hcl; cases hcl
    generalize upd G5 cl (.lst ((z1 :: cs).map V.int)) = G6 at t6 hcl6 t36 ⊢
    have nin : ∀ {b : Addr}, b ∉ [lv, dl, ll] → b ≠ lv ∧ b ≠ dl ∧ b ≠ ll := fun m => ⟨fun z => m (by rw [z]; simp), fun z => m (by rw [z]; simp), fun z => m (by rw [z]; simp)⟩
    refine ⟨cl, rfl, ⟨_, SqL.of hcl6⟩, ?_⟩
    refine for_list (K := K) (a := cl) (xs := (z1 :: cs).map V.int) (fun i σ X => ∃ (lf : Int) (o11 o12 o13 o14 o15 : Option V) (ak : List (Key × V)) (es : List (Str × List Str)) (xs : List V) (rows : List Rw) (ys : List V), σ = [some (.ref a), some (.int hh), some (.ref ax), some (.ref ld), o4, some (.ref ad), some (.ref lv), some (.ref dl), some (.ref ll), some (.int (frM rows rows.length)), some (.int lf), o11, o12, o13, o14, o15, none, none, none, none, none] ∧ lf ≤ 150 ∧ LI t H4 X ad lv dl ll cl ((z1 :: cs).map V.int) lk ak es xs rows ys i)
      ⟨150, none, none, none, none, none, _, _, [], [], [], rfl, by decide, ⟨s43.trans t36, (t1.trans (t2.trans (t3.trans t36))) _ _ had0, (t2.trans (t3.trans t36)) _ _ hlv1, (t3.trans t36) _ _ hdl2, t36 _ _ hll3, hcl6, ar1.same t36, (by intro e he; rw [List.mem_singleton.mp he]; simp), by simp, .nil, .nil, (by intro e he; cases he), Nat.le_refl _⟩⟩ (fun i σ X _ ⟨_, _, _, _, _, _, _, _, _, _, _, _, _, I⟩ => SqL.of I.hcl) ?_ ?_
    · rintro i x σ X hx ⟨lf, o11, o12, o13, o14, o15, ak, es, xs, rows, ys, rfl, lf150, I⟩
      obtain ⟨z, hz, rfl⟩ := get_map hx
      have hi : i < (z1 :: cs).length := (List.getElem?_eq_some_iff.mp hz).1
      rw [List.length_cons] at hi
      have lr := I.lr
      have lxs := Paired.length I.lis
      have lak := Paired.length I.ar
      have lle := I.le
      refine ⟨_, rfl, _, rfl, _, rfl, z, ax, ld, ya, lk, rfl, I.sm _ _ hax4, ly3, I.sm _ _ hld4, dk, fun q O S wo e Y O0 S0 nOS sY hq hO hS' sd => ⟨q, _, rfl, SqT.of hq, rfl, _, _, rfl, _, _, rfl, _, _, rfl, rfl, ?_⟩⟩
      have IY : LI t H4 Y ad lv dl ll cl ((z1 :: cs).map V.int) lk ak es xs rows ys i := ⟨I.sm.trans sY, sY _ _ I.had, sY _ _ I.hlv, sY _ _ I.hdl, sY _ _ I.hll, sY _ _ I.hcl, I.ar.same sY, I.l4, I.le, Paired.mapP I.lis fun _ _ z => z.same sY, I.st.kt (KT.same sY), I.tot, I.lr⟩
      refine ⟨_, rfl, _, rfl, _, _, rfl, rfl, _, rfl, iteD (fun hle => ?_) (fun _ => ⟨lf, _, _, _, _, _, ak, es, xs, rows, ys, rfl, lf150, ⟨IY.sm, IY.had, IY.hlv, IY.hdl, IY.hll, IY.hcl, IY.ar, IY.l4, by omega, IY.lis, IY.st, IY.tot, by omega⟩⟩)⟩
      have hle : wo ≤ lf := hle
      have ok := sd.row (by omega)
      have okO : OkS e.own := fun y hy => oka y (sd.sub y (List.mem_append_left _ hy))
      have okS : OkS e.sums := fun y hy => oka y (sd.sub y (List.mem_append_right _ hy))
      have l3e := sd.l3
      have wo1 : 1 ≤ wo := by
        have p1 := (cells_length e.so fun n hn => (sd.po n hn).1).2
        have p2 := (cells_length e.ss fun n hn => (sd.ps n hn).1).2
        have m1 : prodL e.so * 1 ≤ prodL e.so * prodL e.ss := Int.mul_le_mul_of_nonneg_left p2 (by omega)
        have := sd.hw
        omega
      have nO : O ∉ [lv, dl, ll] := fun m => by
        simp at m
        rcases m with rfl | rfl | rfl
        · rw [I.hlv] at O0; cases O0
        · rw [I.hdl] at O0; cases O0
        · rw [I.hll] at O0; cases O0
      have nS : S ∉ [lv, dl, ll] := fun m => by
        simp at m
        rcases m with rfl | rfl | rfl
        · rw [I.hlv] at S0; cases S0
        · rw [I.hdl] at S0; cases S0
        · rw [I.hll] at S0; cases S0
      refine ⟨_, rfl, _, rfl, _, _, rfl, rfl, ?_⟩
      -- what is due
      have ord := order_le (fun e he => (I.tot e he).1) rows.length
      have lys := Paired.length I.st
      have l121 := line_le121 (k := (rows.length : Int)) ok
      refine ⟨_, rfl, .inl ⟨rfl, _, SqL.of IY.hdl⟩, _, rfl, lv, _, rfl, .inl (SqL.of IY.hlv), _, rfl, _, rfl, _, rfl, (xs.length : Int), O, S, ld, e, lk, rfl, hO, hS', IY.sm _ _ hld4, ok, sd.zo, sd.zs, okS, fun D xs' Y2 hD sY2 hDx sts => ?_⟩
      rw [lxs] at sts
      have lx' := Paired.length sts
      have hdl2' := sY2 _ _ IY.hdl
      refine ⟨dl, D, _, _, rfl, rfl, hdl2', hDx, line_le (by omega), ?_⟩
      have k1 : KB dl Y2 (upd Y2 dl (.lst (ys ++ xs'))) := KB.refl.upd
      have kt1 : KT Y2 (upd Y2 dl (.lst (ys ++ xs'))) := KT.at hdl2' (by intro xs z; cases z)
      have hdlA : upd Y2 dl (.lst (ys ++ xs')) dl = some (.lst (ys ++ xs')) := upd_same
      have smA : Same H4 (upd Y2 dl (.lst (ys ++ xs'))) := same_fresh (IY.sm.trans sY2) dl4
      generalize upd Y2 dl (.lst (ys ++ xs')) = Y3 at k1 kt1 hdlA smA ⊢
      have hO3 := k1 _ _ (nin nO).2.1 (sY2 _ _ hO)
      have hS3 := k1 _ _ (nin nS).2.1 (sY2 _ _ hS')
      -- the loops
      refine ⟨_, rfl, _, rfl, _, rfl, O, S, _, e, rfl, hO3, hS3, ok.lo, ok.ls, ok.pl, okS, fun q2 L Y4 hL sY4 hq2 hL4 => ⟨q2, _, rfl, SqT.of hq2, rfl, _, _, rfl, _, _, rfl, rfl, ?_⟩⟩
      have hll4 := sY4 _ _ (k1 _ _ ndl.symm (sY2 _ _ IY.hll))
      have lloop : (loopsM rows rows.length).length ≤ 1000 ∧ (loopsL e (frM rows rows.length)).length ≤ 8 := by
        refine ⟨?_, ?_⟩
        · have : ∀ i, i ≤ rows.length → (loopsM rows i).length ≤ i * 8 := fun i => by
            induction i with
            | zero => intro _; simp [loopsM]
            | succ i ih =>
              intro hi
              have he : rows[i]? = some rows[i] := List.getElem?_eq_getElem (by omega)
              rw [loopsM_succ he, List.length_append]
              have ih := ih (by omega)
              have pl := (I.tot _ (List.mem_of_getElem? he)).1.pl
              have q1 := (I.tot _ (List.mem_of_getElem? he)).1.lo
              have q2 := (I.tot _ (List.mem_of_getElem? he)).1.ls
              have : (loopsL rows[i] (frM rows i)).length = rows[i].so.length + rows[i].ss.length := by unfold loopsL; rw [List.length_append, nums_len, nums_len]
              omega
          have := this rows.length (Nat.le_refl _)
          omega
        · have q1 := ok.lo
          have q2 := ok.ls
          have : (loopsL e (frM rows rows.length)).length = e.so.length + e.ss.length := by unfold loopsL; rw [List.length_append, nums_len, nums_len]
          omega
      refine ⟨_, rfl, .inl ⟨rfl, _, SqL.of hll4⟩, _, rfl, ll, L, _, _, rfl, rfl, hll4, hL4, line_le (by rw [List.length_map, List.length_map]; omega), ?_⟩
      have k2 : KB ll Y4 (upd Y4 ll (.lst ((loopsM rows rows.length).map V.int ++ (loopsL e (frM rows rows.length)).map V.int))) := KB.refl.upd
      have kt2 : KT Y4 (upd Y4 ll (.lst ((loopsM rows rows.length).map V.int ++ (loopsL e (frM rows rows.length)).map V.int))) := KT.at hll4 (by intro xs z; cases z)
      have hllB : upd Y4 ll (.lst ((loopsM rows rows.length).map V.int ++ (loopsL e (frM rows rows.length)).map V.int)) ll = some (.lst ((loopsM (rows ++ [e]) (rows ++ [e]).length).map V.int)) := by rw [upd_same, loopsM_snoc, List.map_append]
      have smB : Same H4 (upd Y4 ll (.lst ((loopsM rows rows.length).map V.int ++ (loopsL e (frM rows rows.length)).map V.int))) := same_fresh (smA.trans sY4) ll4
      generalize upd Y4 ll (.lst ((loopsM rows rows.length).map V.int ++ (loopsL e (frM rows rows.length)).map V.int)) = Y5 at k2 kt2 hllB smB ⊢
      have up25 : ∀ {b : Addr} {o : HO}, b ≠ dl → b ≠ ll → Y2 b = some o → Y5 b = some o := fun n1 n2 z => k2 _ _ n2 (sY4 _ _ (k1 _ _ n1 z))
      have hlv5 := up25 nld nlv (sY2 _ _ IY.hlv)
      have hadne : ∀ {b : Addr} {zs : List V}, Y b = some (.lst zs) → ad ≠ b := fun z => ne_of IY.had z (by intro w; cases w)
      have had5 := up25 (hadne IY.hdl) (hadne IY.hll) (sY2 _ _ IY.had)
      have hO5 := up25 (nin nO).2.1 (nin nO).2.2 (sY2 _ _ hO)
      have hS5 := up25 (nin nS).2.1 (nin nS).2.2 (sY2 _ _ hS')
      have hdl5 := k2 _ _ ndl (sY4 _ _ hdlA)
      have hcl5 := up25 (nin ncl).2.1 (nin ncl).2.2 (sY2 _ _ IY.hcl)
      have snk := nName_ok ⟨xs.length, by omega⟩
      dsimp only at snk
      obtain ⟨okn', _, lg, ls'⟩ := snk
      -- its array
      refine ⟨_, rfl, _, rfl, _, rfl, lv, _, rfl, .inl (SqL.of hlv5), _, rfl, lg, _, _, rfl, rfl, line_le (by omega), ad, _, rfl, DPut.k (k := Sum.inr (nName xs.length)) had5 (line_lt (by omega)), ?_⟩
      have ar5 : AR (fun b => b ∉ [lv, dl, ll]) Y5 ak es := (IY.ar.same sY2).imp fun b zs n z => ⟨n, up25 (nin n).2.1 (nin n).2.2 z⟩
      obtain ⟨es', ar', m', le'⟩ := ar_put (x := nName xs.length) (l := O) (ys := e.own) nO hO5 ar5
      have k3 : KB ad Y5 (upd Y5 ad (.dK (putK ak (Sum.inr (nName xs.length)) (.ref O)))) := KB.refl.upd
      have kt3 : KT Y5 (upd Y5 ad (.dK (putK ak (Sum.inr (nName xs.length)) (.ref O)))) := KT.at had5 (by intro xs z; cases z)
      have had6 : upd Y5 ad (.dK (putK ak (Sum.inr (nName xs.length)) (.ref O))) ad = some (.dK (putK ak (Sum.inr (nName xs.length)) (.ref O))) := upd_same
      have sm6 : Same H4 (upd Y5 ad (.dK (putK ak (Sum.inr (nName xs.length)) (.ref O)))) := same_fresh smB had
      generalize upd Y5 ad (.dK (putK ak (Sum.inr (nName xs.length)) (.ref O))) = Y6 at k3 kt3 had6 sm6 ⊢
      have l56 : ∀ {b : Addr} {zs : List V}, Y5 b = some (.lst zs) → Y6 b = some (.lst zs) := fun z => k3 _ _ (ne_of z had5 (by intro w; cases w)) z
      have hlv6 := l56 hlv5
      -- the line
      refine ⟨_, rfl, .inl ⟨rfl, _, SqL.of hlv6⟩, _, rfl, lv, _, rfl, .inl (SqL.of hlv6), _, rfl, lg, _, _, rfl, rfl, line_le (by omega), _, rfl, _, rfl, fun nx ndx hnx hndx hne1 => ⟨nx, _, ndx, _, rfl, upd_same, T.cl_Number, T.na_Number_number, rfl, ?_⟩⟩
      have u3 : Same Y6 (upd (upd (upd Y6 ndx (.own nx)) nx (.ins t.C_Number ndx [])) nx (.ins t.C_Number ndx [("number", .int 3)])) := same_made hnx hndx
      generalize upd (upd (upd Y6 ndx (.own nx)) nx (.ins t.C_Number ndx [])) nx (.ins t.C_Number ndx [("number", .int 3)]) = Y8 at u3 ⊢
      refine fun x dx hx' hdx hne2 => ?_
      have u4 : Same Y8 (upd (upd Y8 dx (.own x)) x (.ins t.C_Line dx [])) := same_fresh (same_new hdx) hx'
      have g9x : upd (upd Y8 dx (.own x)) x (.ins t.C_Line dx []) x = some (.ins t.C_Line dx []) := upd_same
      generalize upd (upd Y8 dx (.own x)) x (.ins t.C_Line dx []) = Y9 at u4 g9x ⊢
      refine ⟨x, dx, O, S, .ref nx, nName xs.length, e.own, e.sums, rfl, g9x, (u3.trans u4) _ _ (l56 hO5), (u3.trans u4) _ _ (l56 hS5), by omega, by omega, fun cc cu Ga hc0' hu0' hxA hccA hcuA kba => ⟨rfl, ?_⟩⟩
      have u6a : Same Y6 Ga := u3.trans (KB.same u4 kba hx')
      have hlva := u6a _ _ hlv6
      refine ⟨lv, _, _, rfl, rfl, hlva, line_lt (by omega), ?_⟩
      have k9 : KB lv Ga (upd Ga lv (.lst (xs ++ [.ref x]))) := KB.refl.upd
      have kt9 : KT Ga (upd Ga lv (.lst (xs ++ [.ref x]))) := KT.at hlva (by intro xs z; cases z)
      have hlvb : upd Ga lv (.lst (xs ++ [.ref x])) lv = some (.lst (xs ++ [.ref x])) := upd_same
      have smb : Same H4 (upd Ga lv (.lst (xs ++ [.ref x]))) := same_fresh (sm6.trans u6a) lv4
      generalize upd Ga lv (.lst (xs ++ [.ref x])) = Gb at k9 kt9 hlvb smb ⊢
      have fresh9 : ∀ {b : Addr}, Y9 b = none → b ∉ [lv, dl, ll] := fun z m => by
        have u69 := u3.trans u4
        simp at m
        rcases m with rfl | rfl | rfl
        · rw [u69 _ _ hlv6] at z; cases z
        · rw [u69 _ _ (l56 hdl5)] at z; cases z
        · rw [u69 _ _ (l56 hllB)] at z; cases z
      have l5b : ∀ {b : Addr} {zs : List V}, b ≠ lv → Y5 b = some (.lst zs) → Gb b = some (.lst zs) := fun n z => k9 _ _ n (u6a _ _ (l56 z))
      have ins2b : ∀ {b C d : Addr} {fs : List (Str × V)}, Y2 b = some (.ins C d fs) → Gb b = some (.ins C d fs) := fun {b C d fs} z => by
        have z3 := k1 _ _ (ne_of z hdl2' (by intro w; cases w)) z
        have z4 := sY4 _ _ z3
        have z5 := k2 _ _ (ne_of z4 hll4 (by intro w; cases w)) z4
        have z6 := k3 _ _ (ne_of z5 had5 (by intro w; cases w)) z5
        have z7 := u6a _ _ z6
        exact k9 _ _ (ne_of z7 hlva (by intro w; cases w)) z7
      have kt2b : KT Y2 Gb := ((kt1.trans (KT.same sY4)).trans (kt2.trans kt3)).trans ((KT.same u6a).trans kt9)
      rw [← frM_snoc]
      refine ⟨lf - wo, _, _, _, _, _, _, es', xs ++ [.ref x], rows ++ [e], ys ++ xs', rfl, by omega, ⟨smb, k9 _ _ (hadne IY.hlv) (u6a _ _ had6), hlvb, l5b nld.symm hdl5, l5b nlv.symm hllB, l5b (nin ncl).1 hcl5, ar'.imp fun b zs n z => ⟨n, l5b (nin n).1 z⟩, fun e' he' => ?_, by omega, ?_, ?_, fun e' he' => ?_, by rw [List.length_append, List.length_singleton]; omega⟩⟩
      · rcases m' e' he' with he' | he'
        · exact I.l4 e' he'
        · rw [he']; show e.own.length ≤ 4; omega
      · refine papp (Paired.mapP IY.lis fun _ _ z => (z.same sY2).imp (fun b C d fs y => ins2b y) fun b zs n y => ⟨n, l5b (nin n).1 (up25 (nin n).2.1 (nin n).2.2 y)⟩) (.cons ⟨x, dx, cc, cu, .ref nx, nName xs.length, rfl, k9 _ _ (ne_of hxA hlva (by intro z; cases z)) hxA, fresh9 hc0', k9 _ _ (nin (fresh9 hc0')).1 hccA, fresh9 hu0', k9 _ _ (nin (fresh9 hu0')).1 hcuA⟩ .nil)
      · rw [orderM_snoc]
        exact papp ((IY.st.kt (KT.same sY2)).kt kt2b) (sts.kt kt2b)
      · rcases List.mem_append.mp he' with he' | he'
        · exact I.tot e' he'
        · rw [List.mem_singleton.mp he']; exact ⟨ok, sd.zo, sd.zs, okO, okS⟩
    rintro σ X ⟨lf, o11, o12, o13, o14, o15, ak, es, xs, rows, ys, rfl, lf150, I⟩
    have lr := I.lr
    rw [List.length_map, List.length_cons] at lr
    have lxs := Paired.length I.lis
    have lak := Paired.length I.ar
    have lle := I.le
    rw [List.length_map, List.length_cons] at lle
    -- the cloth
    refine ⟨_, rfl, _, rfl, line_le (by simp), fun tl htl => ?_⟩
    have v1 : Same X (upd X tl (.lst [.str "given"])) := same_new htl
    have htl1 : upd X tl (.lst [.str "given"]) tl = some (.lst (([("given" : Str)]).map V.str)) := upd_same
    generalize upd X tl (.lst [.str "given"]) = X1 at v1 htl1 ⊢
    refine ⟨_, rfl, line_le (by simp), fun ol hol => ?_⟩
    have v2 : Same X1 (upd X1 ol (.lst [.str "given"])) := same_new hol
    have hol2 : upd X1 ol (.lst [.str "given"]) ol = some (.lst (([("given" : Str)]).map V.str)) := upd_same
    generalize upd X1 ol (.lst [.str "given"]) = X2 at v2 hol2 ⊢
    refine fun p dx hp hdx hne => ?_
    have v3 : Same X2 (upd (upd X2 dx (.own p)) p (.ins t.C_Cloth dx [])) := same_fresh (same_new hdx) hp
    have hcp : upd (upd X2 dx (.own p)) p (.ins t.C_Cloth dx []) p = some (.ins t.C_Cloth dx []) := upd_same
    generalize upd (upd X2 dx (.own p)) p (.ins t.C_Cloth dx []) = X3 at v3 hcp ⊢
    have v03 := v1.trans (v2.trans v3)
    refine ⟨p, dx, ld, ad, tl, lv, ol, 4, lk, ak, is, es, ["given"], ["given"], xs, _, rfl, hcp, v03 _ _ (I.sm _ _ hld4), il, by omega, v03 _ _ I.had, I.ar.same v03, by omega, (fun e he => by have := I.l4 e he; omega), (v2.trans v3) _ _ htl1, by simp, v03 _ _ I.hlv, by omega, fun x hx => ?_, v3 _ _ hol2, by simp, fun l' a' t' v' o' ak' Gc hp9 nl' hl9 na' ha9 ar9 nt' ht9 nv' hv9 no' ho9 kb9 => ⟨rfl, ?_⟩⟩
    · obtain ⟨j, hj⟩ := List.getElem?_of_mem hx
      obtain ⟨e, _, x0, d0, _, _, _, _, rfl, e0, _⟩ := pget I.lis hj
      exact ⟨x0, d0, _, rfl, (fun z => by rw [z] at e0; rw [(v1.trans v2) _ _ e0] at hp; cases hp), v03 _ _ e0⟩
    have v2c : Same X2 Gc := KB.same v3 kb9 hp
    have v0c := v1.trans (v2.trans v2c)
    -- the moves
    refine ⟨line_le (by simp), fun ml hml => ?_⟩
    have w1 : Same Gc (upd Gc ml (.lst [])) := same_new hml
    have hml1 : upd Gc ml (.lst []) ml = some (.lst []) := upd_same
    generalize upd Gc ml (.lst []) = W1 at w1 hml1 ⊢
    refine ⟨_, rfl, _, rfl, _, rfl, a, _, rfl, (s04.trans (I.sm.trans (v0c.trans w1))).seq hS, fun c2 hc2 => ?_⟩
    obtain ⟨cc, ecc, _, mcc⟩ := cut_map V.int ns (some 6) (some 30)
    have lcc : cc.length ≤ 24 := by
      have h1 := cut_le2 (ns.map V.int) 6 30
      have e : cutV (ns.map V.int) (some ((6 : Nat) : Int)) (some ((30 : Nat) : Int)) = cc.map V.int := ecc
      rw [e, List.length_map] at h1
      omega
    rw [ecc]
    have w2 : Same W1 (upd W1 c2 (.lst (cc.map V.int))) := same_new hc2
    have hc22 : upd W1 c2 (.lst (cc.map V.int)) c2 = some (.lst (cc.map V.int)) := upd_same
    have n2m : c2 ≠ ml := fun z => by rw [z, hml1] at hc2; cases hc2
    generalize upd W1 c2 (.lst (cc.map V.int)) = W2 at w2 hc22 ⊢
    have hllc : Gc ll = some (.lst ((loopsM rows rows.length).map V.int)) := v0c _ _ I.hll
    refine ⟨c2, rfl, ⟨_, SqL.of hc22⟩, ?_⟩
    refine for_list (K := K) (a := c2) (xs := cc.map V.int) (fun i σ Z => ∃ (o11 o18 : Option V) (ms : List V), σ = [some (.ref a), some (.int hh), some (.ref ax), some (.ref ld), o4, some (.ref ad), some (.ref lv), some (.ref dl), some (.ref ll), some (.int (frM rows rows.length)), some (.int lf), o11, o12, o13, o14, o15, some (.ref p), some (.ref ml), o18, none, none] ∧ Same Gc Z ∧ Z ml = some (.lst ms) ∧ Z c2 = some (.lst (cc.map V.int)) ∧ (∀ v ∈ ms, CutAt Z (loopsM rows rows.length) v) ∧ ms.length ≤ i)
      ⟨_, none, [], rfl, w1.trans w2, w2 _ _ hml1, hc22, (by intro v hv; cases hv), Nat.le_refl _⟩ (fun i σ Z _ ⟨_, _, _, _, _, _, hz, _⟩ => SqL.of hz) ?_ ?_
    · rintro i x σ Z hx ⟨o11', o18, ms, rfl, sz, hmlZ, hc2Z, cuts, lms⟩
      obtain ⟨z, hz, rfl⟩ := get_map hx
      have hi : i < cc.length := (List.getElem?_eq_some_iff.mp hz).1
      have zb := bits z (mcc z (List.mem_of_getElem? hz))
      refine ⟨_, rfl, line_le (by simp), fun n0 hn0 => ?_⟩
      have y0 : Same Z (upd Z n0 (.lst [])) := same_new hn0
      have hn1 : upd Z n0 (.lst []) n0 = some (.lst []) := upd_same
      generalize upd Z n0 (.lst []) = Z1 at y0 hn1 ⊢
      have sz1 := sz.trans y0
      refine ⟨.list ((loopsM rows rows.length).map PyData.int), .list [], .lst (sz1 _ _ hllc) (Reps.ints _), .lst hn1 .nil, shaped_ints _, rfl, _, rfl, ?_⟩
      rw [eqv_ints]
      refine iteND (fun hne => ?_) (fun _ => ⟨_, _, ms, rfl, sz1, y0 _ _ hmlZ, y0 _ _ hc2Z, fun v hv => (cuts v hv).same y0, by omega⟩)
      have lpos : 0 < (loopsM rows rows.length).length := by
        cases hL : loopsM rows rows.length with
        | nil => exact absurd hL hne
        | cons a r => simp
      refine ⟨_, rfl, _, _, rfl, rfl, ⟨by decide, by decide⟩, _, _, rfl, rfl, (by show (0 : Int) < 6; decide), _, _, rfl, rfl, ?_⟩
      have b6 : 0 ≤ z / 60 % 6 ∧ z / 60 % 6 < 6 := ⟨Int.emod_nonneg _ (by decide), Int.emod_lt_of_pos _ (by decide)⟩
      have b60 : 0 ≤ z / 60 % 60 ∧ z / 60 % 60 < 60 := ⟨Int.emod_nonneg _ (by decide), Int.emod_lt_of_pos _ (by decide)⟩
      refine ⟨fun σ Y => ∃ (wd : Int), σ = [some (.ref a), some (.int hh), some (.ref ax), some (.ref ld), o4, some (.ref ad), some (.ref lv), some (.ref dl), some (.ref ll), some (.int (frM rows rows.length)), some (.int lf), some (.int z), o12, o13, o14, o15, some (.ref p), some (.ref ml), some (.int wd), none, none] ∧ Z1 = Y ∧ 1 ≤ wd ∧ wd ≤ 10 ^ 30, ?_, ?_⟩
      · refine ⟨_, rfl, _, _, rfl, rfl, (by show (0 : Int) < 8; decide), rfl, _, rfl, iteD (fun _ => ?_) (fun _ => ⟨1 + z / 60 % 6, rfl, rfl, by omega, by omega⟩)⟩
        exact ⟨_, rfl, _, _, rfl, rfl, ⟨by decide, by decide⟩, _, _, rfl, rfl, (by show (0 : Int) < 60; decide), _, _, rfl, rfl, 1 + z / 60 % 60, rfl, rfl, by omega, by omega⟩
      rintro σ Y ⟨wd, rfl, rfl, wd1, wd2⟩
      refine ⟨fun σ Y => ∃ (wd : Int), σ = [some (.ref a), some (.int hh), some (.ref ax), some (.ref ld), o4, some (.ref ad), some (.ref lv), some (.ref dl), some (.ref ll), some (.int (frM rows rows.length)), some (.int lf), some (.int z), o12, o13, o14, o15, some (.ref p), some (.ref ml), some (.int wd), none, none] ∧ Z1 = Y ∧ 1 ≤ wd ∧ wd ≤ 10 ^ 30, ?_, ?_⟩
      · refine ⟨_, rfl, _, _, rfl, rfl, (by show (0 : Int) < 8; decide), rfl, _, rfl, iteD (fun _ => ?_) (fun _ => ⟨wd, rfl, rfl, wd1, wd2⟩)⟩
        have mb : (z / 60 + 7).natAbs.log2 < 2 ^ 25 := Nat.lt_of_lt_of_le (log_small (N := 2 ^ 20) (by decide) zb) (by decide)
        obtain ⟨m30, em, m1, m2⟩ : ∃ m : Int, m = 10 ^ (30 : Int).toNat - 1 ∧ 0 < m ∧ m < 10 ^ 30 := ⟨_, rfl, by decide, by decide⟩
        obtain ⟨y, ey⟩ : ∃ y : Int, y = (z / 60 + 7) * 3 ^ (55 : Int).toNat := ⟨_, rfl⟩
        have r0 : 0 ≤ y % m30 := Int.emod_nonneg _ (by omega)
        have r1 : y % m30 < m30 := Int.emod_lt_of_pos _ m1
        refine ⟨_, rfl, _, _, rfl, rfl, ⟨by decide, by decide⟩, _, _, rfl, rfl, _, _, rfl, rfl, ⟨by decide, by decide, by decide⟩, _, _, rfl, rfl, ⟨mb, by decide +kernel⟩, _, _, rfl, rfl, ⟨by decide, by decide, by decide⟩, _, _, rfl, rfl, _, _, rfl, rfl, (by show (0 : Int) < 10 ^ (30 : Int).toNat - 1; decide), _, _, rfl, rfl, 1 + y % m30, ?_, rfl, by omega, by omega⟩
        rw [ey, em]
        rfl
      rintro σ Y ⟨wd, rfl, rfl, wd1, wd2⟩
      obtain ⟨N, hN, eN⟩ := at_mapV (f := V.int) (xs := loopsM rows rows.length) (i := z / 4 % (((loopsM rows rows.length).map V.int).length : Int)) (Int.emod_nonneg _ (by rw [List.length_map]; omega)) (by rw [List.length_map]; exact Int.emod_lt_of_pos _ (by omega))
      refine ⟨_, rfl, .inl ⟨rfl, _, SqL.of (y0 _ _ hmlZ)⟩, _, rfl, _, rfl, _, _, rfl, rfl, ⟨by decide, by decide⟩, _, rfl, ll, _, rfl, .inl (SqL.of (sz1 _ _ hllc)), _, _, rfl, rfl, (by show (0 : Int) < (((loopsM rows rows.length).map V.int).length : Int); rw [List.length_map]; omega), ll, _, _, _, rfl, rfl, SqL.of (sz1 _ _ hllc), eN, _, rfl, line_le (by simp), fun b hb => ?_⟩
      have y1 : Same Z1 (upd Z1 b (.tup [.str "cut", .int N, .int wd])) := same_new hb
      have hb1 : upd Z1 b (.tup [.str "cut", .int N, .int wd]) b = some (.tup [.str "cut", .int N, .int wd]) := upd_same
      generalize upd Z1 b (.tup [.str "cut", .int N, .int wd]) = Z2 at y1 hb1 ⊢
      have hml2 := (y0.trans y1) _ _ hmlZ
      refine ⟨ml, _, _, rfl, rfl, hml2, line_lt (by omega), ?_⟩
      have kt : KT Z2 (upd Z2 ml (.lst (ms ++ [.ref b]))) := KT.at hml2 (by intro xs z; cases z)
      refine ⟨_, _, ms ++ [.ref b], rfl, same_fresh (sz1.trans y1) hml, upd_same, by rw [upd_ne n2m]; exact (y0.trans y1) _ _ hc2Z, fun v hv => ?_, by rw [List.length_append, List.length_singleton]; omega⟩
      have cutkt : ∀ {G G' : Hp} {u : V}, KT G G' → CutAt G (loopsM rows rows.length) u → CutAt G' (loopsM rows rows.length) u := fun kk ⟨b', N', T', e', h', r'⟩ => ⟨b', N', T', e', kk _ _ h', r'⟩
      rcases List.mem_append.mp hv with hv | hv
      · exact cutkt kt ((cuts v hv).same (y0.trans y1))
      · rw [List.mem_singleton.mp hv]
        refine ⟨b, N, wd, rfl, kt _ _ hb1, List.mem_of_getElem? hN, wd1, ?_⟩
        have h1 : wd.natAbs ≤ 10 ^ 30 := by omega
        exact Nat.lt_of_le_of_lt h1 (by decide +kernel)
    rintro σ Z ⟨o11', o18, ms, rfl, sz, hmlZ, hc2Z, cuts, lms⟩
    rw [List.length_map] at lms
    have v0z := v0c.trans sz
    have lisz : LinesAt t [lv, dl, ll] Z xs rows := Paired.mapP I.lis fun _ _ z => z.same v0z
    have okr : ∀ e ∈ rows, RwOk e := fun e he => (I.tot e he).1
    have ole := order_le okr rows.length
    -- the steps of the planned nest
    refine ⟨_, rfl, _, rfl, p, ml, dx, l', a', t', v', o', 4, lk, xs, ms, _, rows, rfl, sz _ _ hp9, sz _ _ hl9, sz _ _ hv9, lisz, I.tot, by omega, hmlZ, by omega, cuts, fun q tp fr ns' nl Gd v4 hq htp nds okc frb dos => ?_⟩
    refine ⟨q, tp, fr, ns', nl, fr, rfl, hq, htp, nds, okc.wb, by have := okc.dp; omega, okc.nm, by omega, by rw [dos]; omega, fun L ws Ge hL v5 hL5 st5 => ?_⟩
    rw [dos] at st5
    have v06 := v0z.trans (v4.trans v5)
    refine ⟨_, rfl, _, _, _, _, rfl, .lst hL5, isi_same "list", true, rfl, iteF ?_⟩
    refine ⟨_, rfl, L, rfl, ⟨_, SqL.of hL5⟩, ?_⟩
    refine for_list (K := K) (a := L) (xs := ws) (fun i σ Y => ∃ (o20 : Option V), σ = [some (.ref a), some (.int hh), some (.ref ax), some (.ref ld), o4, some (.ref ad), some (.ref lv), some (.ref dl), some (.ref ll), some (.int (frM rows rows.length)), some (.int lf), o11', o12, o13, o14, o15, some (.ref p), some (.ref ml), o18, some (.ref L), o20] ∧ Y = Ge)
      ⟨none, rfl, rfl⟩ (fun i σ Y _ ⟨_, _, e⟩ => by subst e; exact SqL.of hL5) ?_ ?_
    · rintro i x σ Y hx ⟨o20, rfl, rfl⟩
      obtain ⟨s', _, sx⟩ := pget st5 hx
      exact ⟨_, rfl, x, s', rfl, sx, true, rfl, iteF ⟨_, rfl, rfl⟩⟩
    · rintro σ Y ⟨o20, rfl, rfl⟩
      have oks := order_ok okr (i := rows.length)
      have shp := sts_shaped oks
      have cl' := (sts_lay oks).1
      have clay : (encSts (orderM rows rows.length)).canLay0 = true := by simp [encSts, PyData.canLay0, cl']
      have rL : Rep Y (.ref L) (encSts (orderM rows rows.length)) := .lst hL5 (sts_rep st5)
      have rD : Rep Y (.ref dl) (encSts (orderM rows rows.length)) := .lst (v06 _ _ I.hdl) (sts_rep (I.st.kt (KT.same v06)))
      refine ⟨_, rfl, _, rfl, _, _, rL, rD, shp, shp, ?_⟩
      show Q (V.bl (PyData.eqv (encSts (orderM rows rows.length)) (encSts (orderM rows rows.length)))) _
      rw [SeqAt.eqv_refl _ clay]
      exact k _
end
end My

set_option Elab.async false
set_option linter.all false
set_option maxRecDepth 100000
set_option maxHeartbeats 4000000
/-! The head lays a twin of each constant that it meets, and of the largest ones its equation is quadratic in the constants within (some 30 MB). A constant that bears the twin's name already keeps it from laying that one. -/
def PySem.W.Fast.tw2498650141527174810 : Unit := ()
def PySem.W.Fast.tw3543792284677215002 : Unit := ()
def PySem.W.Fast.tw3533934354539057839 : Unit := ()
def PySem.W.Fast.tw7315050731295669183 : Unit := ()
def PySem.W.Fast.tw2979920861026138544 : Unit := ()
def PySem.W.Fast.tw16669679989458049598 : Unit := ()
def PySem.W.Fast.tw13299656125006052535 : Unit := ()
def PySem.W.Fast.tw1600122147817410418 : Unit := ()
def PySem.W.Fast.tw2594471605362469654 : Unit := ()
def PySem.W.Fast.tw12669530527436927999 : Unit := ()
def PySem.W.Fast.tw3089872570199573332 : Unit := ()
def PySem.W.Fast.tw7008389057563890552 : Unit := ()
def PySem.W.Fast.tw12112881324933312534 : Unit := ()
def PySem.W.Fast.tw7118439596434976672 : Unit := ()
def PySem.W.Fast.tw14529513956420019301 : Unit := ()
def PySem.W.Fast.tw1015449468759676507 : Unit := ()
def PySem.W.Fast.tw1144898683611511507 : Unit := ()
def PySem.W.Fast.tw3341400113633247632 : Unit := ()
def PySem.W.Fast.tw5562370581117617547 : Unit := ()
def PySem.W.Fast.tw5435111478969990801 : Unit := ()
def PySem.W.Fast.tw4116659599245754318 : Unit := ()
def PySem.W.Fast.tw4922108450596277251 : Unit := ()
def PySem.W.Fast.tw17085121218123491762 : Unit := ()
def PySem.W.Fast.tw14134642635577121040 : Unit := ()
namespace My
open PySem L2
theorem all_mk {l : PySem.W.OpenLaw} {w : World} {K : PySem.W.Frag} {h : Heap} {mg : Str → Option Value} {fa : Addr} (X : K.In h) (G : h.Ns mainGlobals mg) (hfa : mg "law" = some (.ref fa))
    {C_LoomError C_NoMove C_Line C_Cloth C_Term C_Number : Addr}
    (aC_LoomError : PySem.W.nsIn K mainGlobals "LoomError" = some (some (.ref C_LoomError)))
    (aC_NoMove : PySem.W.nsIn K mainGlobals "NoMove" = some (some (.ref C_NoMove)))
    (aC_Line : PySem.W.nsIn K mainGlobals "Line" = some (some (.ref C_Line)))
    (aC_Cloth : PySem.W.nsIn K mainGlobals "Cloth" = some (some (.ref C_Cloth)))
    (aC_Term : PySem.W.nsIn K mainGlobals "Term" = some (some (.ref C_Term)))
    (aC_Number : PySem.W.nsIn K mainGlobals "Number" = some (some (.ref C_Number)))
    {f0 : Addr} {od0 an0 : Option Addr} {sl0 : Array (Option Value)} {oc0 kV0 dc0 pm0 cd0 ct0 : Value}
    (a0 : PySem.W.nsIn K mainGlobals "copied" = some (some (.ref f0)))
    (l0 : K.lookup f0 = some ⟨oc0, od0, .func (PySem.W.fnOf "copied" "copied" (defArgs s_copied) (defBody s_copied) (defScope s_copied) .none kV0 dc0 pm0 an0 cd0 ct0), sl0⟩)
    (c0 : PySem.W.codeIn K cd0 "copied" = true)
    (k0 : PySem.W.keepIn K (.ref f0) = true)
    {f1 : Addr} {od1 an1 : Option Addr} {sl1 : Array (Option Value)} {oc1 kV1 dc1 pm1 cd1 ct1 : Value}
    (a1 : PySem.W.nsIn K mainGlobals "copied_dict" = some (some (.ref f1)))
    (l1 : K.lookup f1 = some ⟨oc1, od1, .func (PySem.W.fnOf "copied_dict" "copied_dict" (defArgs s_copied_dict) (defBody s_copied_dict) (defScope s_copied_dict) .none kV1 dc1 pm1 an1 cd1 ct1), sl1⟩)
    (c1 : PySem.W.codeIn K cd1 "copied_dict" = true)
    (k1 : PySem.W.keepIn K (.ref f1) = true)
    {f2 : Addr} {od2 an2 : Option Addr} {sl2 : Array (Option Value)} {oc2 kV2 dc2 pm2 cd2 ct2 : Value}
    (a2 : PySem.W.nsIn K mainGlobals "lengths_along" = some (some (.ref f2)))
    (l2 : K.lookup f2 = some ⟨oc2, od2, .func (PySem.W.fnOf "lengths_along" "lengths_along" (defArgs s_lengths_along) (defBody s_lengths_along) (defScope s_lengths_along) .none kV2 dc2 pm2 an2 cd2 ct2), sl2⟩)
    (c2 : PySem.W.codeIn K cd2 "lengths_along" = true)
    (k2 : PySem.W.keepIn K (.ref f2) = true)
    {f3 : Addr} {od3 an3 : Option Addr} {sl3 : Array (Option Value)} {oc3 kV3 dc3 pm3 cd3 ct3 : Value}
    (a3 : PySem.W.nsIn K mainGlobals "is_loop" = some (some (.ref f3)))
    (l3 : K.lookup f3 = some ⟨oc3, od3, .func (PySem.W.fnOf "is_loop" "is_loop" (defArgs s_is_loop) (defBody s_is_loop) (defScope s_is_loop) .none kV3 dc3 pm3 an3 cd3 ct3), sl3⟩)
    (c3 : PySem.W.codeIn K cd3 "is_loop" = true)
    (k3 : PySem.W.keepIn K (.ref f3) = true)
    {f4 : Addr} {od4 an4 : Option Addr} {sl4 : Array (Option Value)} {oc4 kV4 dc4 pm4 cd4 ct4 : Value}
    (a4 : PySem.W.nsIn K mainGlobals "body_of" = some (some (.ref f4)))
    (l4 : K.lookup f4 = some ⟨oc4, od4, .func (PySem.W.fnOf "body_of" "body_of" (defArgs s_body_of) (defBody s_body_of) (defScope s_body_of) .none kV4 dc4 pm4 an4 cd4 ct4), sl4⟩)
    (c4 : PySem.W.codeIn K cd4 "body_of" = true)
    (k4 : PySem.W.keepIn K (.ref f4) = true)
    {f5 : Addr} {od5 an5 : Option Addr} {sl5 : Array (Option Value)} {oc5 kV5 dc5 pm5 cd5 ct5 : Value}
    (a5 : PySem.W.nsIn K mainGlobals "with_body" = some (some (.ref f5)))
    (l5 : K.lookup f5 = some ⟨oc5, od5, .func (PySem.W.fnOf "with_body" "with_body" (defArgs s_with_body) (defBody s_with_body) (defScope s_with_body) .none kV5 dc5 pm5 an5 cd5 ct5), sl5⟩)
    (c5 : PySem.W.codeIn K cd5 "with_body" = true)
    (k5 : PySem.W.keepIn K (.ref f5) = true)
    {f6 : Addr} {od6 an6 : Option Addr} {sl6 : Array (Option Value)} {oc6 kV6 dc6 pm6 cd6 ct6 : Value}
    (a6 : PySem.W.nsIn K mainGlobals "first_nest" = some (some (.ref f6)))
    (l6 : K.lookup f6 = some ⟨oc6, od6, .func (PySem.W.fnOf "first_nest" "first_nest" (defArgs s_first_nest) (defBody s_first_nest) (defScope s_first_nest) .none kV6 dc6 pm6 an6 cd6 ct6), sl6⟩)
    (c6 : PySem.W.codeIn K cd6 "first_nest" = true)
    (k6 : PySem.W.keepIn K (.ref f6) = true)
    {f7 : Addr} {od7 an7 : Option Addr} {sl7 : Array (Option Value)} {oc7 kV7 dc7 pm7 cd7 ct7 : Value}
    (a7 : PySem.W.nsIn K mainGlobals "nodes_in" = some (some (.ref f7)))
    (l7 : K.lookup f7 = some ⟨oc7, od7, .func (PySem.W.fnOf "nodes_in" "nodes_in" (defArgs s_nodes_in) (defBody s_nodes_in) (defScope s_nodes_in) .none kV7 dc7 pm7 an7 cd7 ct7), sl7⟩)
    (c7 : PySem.W.codeIn K cd7 "nodes_in" = true)
    (k7 : PySem.W.keepIn K (.ref f7) = true)
    {f8 : Addr} {od8 an8 : Option Addr} {sl8 : Array (Option Value)} {oc8 kV8 dc8 pm8 cd8 ct8 : Value}
    (a8 : PySem.W.nsIn K mainGlobals "nodes_of" = some (some (.ref f8)))
    (l8 : K.lookup f8 = some ⟨oc8, od8, .func (PySem.W.fnOf "nodes_of" "nodes_of" (defArgs s_nodes_of) (defBody s_nodes_of) (defScope s_nodes_of) .none kV8 dc8 pm8 an8 cd8 ct8), sl8⟩)
    (c8 : PySem.W.codeIn K cd8 "nodes_of" = true)
    (k8 : PySem.W.keepIn K (.ref f8) = true)
    {f9 : Addr} {od9 an9 : Option Addr} {sl9 : Array (Option Value)} {oc9 kV9 dc9 pm9 cd9 ct9 : Value}
    (a9 : PySem.W.nsIn K mainGlobals "numbers_from" = some (some (.ref f9)))
    (l9 : K.lookup f9 = some ⟨oc9, od9, .func (PySem.W.fnOf "numbers_from" "numbers_from" (defArgs s_numbers_from) (defBody s_numbers_from) (defScope s_numbers_from) .none kV9 dc9 pm9 an9 cd9 ct9), sl9⟩)
    (c9 : PySem.W.codeIn K cd9 "numbers_from" = true)
    (k9 : PySem.W.keepIn K (.ref f9) = true)
    {f10 : Addr} {od10 an10 : Option Addr} {sl10 : Array (Option Value)} {oc10 kV10 dc10 pm10 cd10 ct10 : Value}
    (a10 : PySem.W.nsIn K mainGlobals "looped" = some (some (.ref f10)))
    (l10 : K.lookup f10 = some ⟨oc10, od10, .func (PySem.W.fnOf "looped" "looped" (defArgs s_looped) (defBody s_looped) (defScope s_looped) .none kV10 dc10 pm10 an10 cd10 ct10), sl10⟩)
    (c10 : PySem.W.codeIn K cd10 "looped" = true)
    (k10 : PySem.W.keepIn K (.ref f10) = true)
    {f11 : Addr} {od11 an11 : Option Addr} {sl11 : Array (Option Value)} {oc11 kV11 dc11 pm11 cd11 ct11 : Value}
    (a11 : PySem.W.nsIn K mainGlobals "planned" = some (some (.ref f11)))
    (l11 : K.lookup f11 = some ⟨oc11, od11, .func (PySem.W.fnOf "planned" "planned" (defArgs s_planned) (defBody s_planned) (defScope s_planned) .none kV11 dc11 pm11 an11 cd11 ct11), sl11⟩)
    (c11 : PySem.W.codeIn K cd11 "planned" = true)
    (k11 : PySem.W.keepIn K (.ref f11) = true)
    {f12 : Addr} {od12 an12 : Option Addr} {sl12 : Array (Option Value)} {oc12 kV12 dc12 pm12 cd12 ct12 : Value}
    (a12 : PySem.W.nsIn K mainGlobals "moved" = some (some (.ref f12)))
    (l12 : K.lookup f12 = some ⟨oc12, od12, .func (PySem.W.fnOf "moved" "moved" (defArgs s_moved) (defBody s_moved) (defScope s_moved) .none kV12 dc12 pm12 an12 cd12 ct12), sl12⟩)
    (c12 : PySem.W.codeIn K cd12 "moved" = true)
    (k12 : PySem.W.keepIn K (.ref f12) = true)
    {f13 : Addr} {od13 an13 : Option Addr} {sl13 : Array (Option Value)} {oc13 kV13 dc13 pm13 cd13 ct13 : Value}
    (a13 : PySem.W.nsIn K mainGlobals "path_to" = some (some (.ref f13)))
    (l13 : K.lookup f13 = some ⟨oc13, od13, .func (PySem.W.fnOf "path_to" "path_to" (defArgs s_path_to) (defBody s_path_to) (defScope s_path_to) .none kV13 dc13 pm13 an13 cd13 ct13), sl13⟩)
    (c13 : PySem.W.codeIn K cd13 "path_to" = true)
    (k13 : PySem.W.keepIn K (.ref f13) = true)
    {f14 : Addr} {od14 an14 : Option Addr} {sl14 : Array (Option Value)} {oc14 kV14 dc14 pm14 cd14 ct14 : Value}
    (a14 : PySem.W.nsIn K mainGlobals "moved_along" = some (some (.ref f14)))
    (l14 : K.lookup f14 = some ⟨oc14, od14, .func (PySem.W.fnOf "moved_along" "moved_along" (defArgs s_moved_along) (defBody s_moved_along) (defScope s_moved_along) .none kV14 dc14 pm14 an14 cd14 ct14), sl14⟩)
    (c14 : PySem.W.codeIn K cd14 "moved_along" = true)
    (k14 : PySem.W.keepIn K (.ref f14) = true)
    {f15 : Addr} {od15 an15 : Option Addr} {sl15 : Array (Option Value)} {oc15 kV15 dc15 pm15 cd15 ct15 : Value}
    (a15 : PySem.W.nsIn K mainGlobals "moved_at" = some (some (.ref f15)))
    (l15 : K.lookup f15 = some ⟨oc15, od15, .func (PySem.W.fnOf "moved_at" "moved_at" (defArgs s_moved_at) (defBody s_moved_at) (defScope s_moved_at) .none kV15 dc15 pm15 an15 cd15 ct15), sl15⟩)
    (c15 : PySem.W.codeIn K cd15 "moved_at" = true)
    (k15 : PySem.W.keepIn K (.ref f15) = true)
    {f16 : Addr} {od16 an16 : Option Addr} {sl16 : Array (Option Value)} {oc16 kV16 dc16 pm16 cd16 ct16 : Value}
    (a16 : PySem.W.nsIn K mainGlobals "cut_by" = some (some (.ref f16)))
    (l16 : K.lookup f16 = some ⟨oc16, od16, .func (PySem.W.fnOf "cut_by" "cut_by" (defArgs s_cut_by) (defBody s_cut_by) (defScope s_cut_by) .none kV16 dc16 pm16 an16 cd16 ct16), sl16⟩)
    (c16 : PySem.W.codeIn K cd16 "cut_by" = true)
    (k16 : PySem.W.keepIn K (.ref f16) = true)
    {f17 : Addr} {od17 an17 : Option Addr} {sl17 : Array (Option Value)} {oc17 kV17 dc17 pm17 cd17 ct17 : Value}
    (a17 : PySem.W.nsIn K mainGlobals "renumbered" = some (some (.ref f17)))
    (l17 : K.lookup f17 = some ⟨oc17, od17, .func (PySem.W.fnOf "renumbered" "renumbered" (defArgs s_renumbered) (defBody s_renumbered) (defScope s_renumbered) .none kV17 dc17 pm17 an17 cd17 ct17), sl17⟩)
    (c17 : PySem.W.codeIn K cd17 "renumbered" = true)
    (k17 : PySem.W.keepIn K (.ref f17) = true)
    {f18 : Addr} {od18 an18 : Option Addr} {sl18 : Array (Option Value)} {oc18 kV18 dc18 pm18 cd18 ct18 : Value}
    (a18 : PySem.W.nsIn K mainGlobals "renumbered_node" = some (some (.ref f18)))
    (l18 : K.lookup f18 = some ⟨oc18, od18, .func (PySem.W.fnOf "renumbered_node" "renumbered_node" (defArgs s_renumbered_node) (defBody s_renumbered_node) (defScope s_renumbered_node) .none kV18 dc18 pm18 an18 cd18 ct18), sl18⟩)
    (c18 : PySem.W.codeIn K cd18 "renumbered_node" = true)
    (k18 : PySem.W.keepIn K (.ref f18) = true)
    {f19 : Addr} {od19 an19 : Option Addr} {sl19 : Array (Option Value)} {oc19 kV19 dc19 pm19 cd19 ct19 : Value}
    (a19 : PySem.W.nsIn K mainGlobals "instead_in" = some (some (.ref f19)))
    (l19 : K.lookup f19 = some ⟨oc19, od19, .func (PySem.W.fnOf "instead_in" "instead_in" (defArgs s_instead_in) (defBody s_instead_in) (defScope s_instead_in) .none kV19 dc19 pm19 an19 cd19 ct19), sl19⟩)
    (c19 : PySem.W.codeIn K cd19 "instead_in" = true)
    (k19 : PySem.W.keepIn K (.ref f19) = true)
    {f20 : Addr} {od20 an20 : Option Addr} {sl20 : Array (Option Value)} {oc20 kV20 dc20 pm20 cd20 ct20 : Value}
    (a20 : PySem.W.nsIn K mainGlobals "instead" = some (some (.ref f20)))
    (l20 : K.lookup f20 = some ⟨oc20, od20, .func (PySem.W.fnOf "instead" "instead" (defArgs s_instead) (defBody s_instead) (defScope s_instead) .none kV20 dc20 pm20 an20 cd20 ct20), sl20⟩)
    (c20 : PySem.W.codeIn K cd20 "instead" = true)
    (k20 : PySem.W.keepIn K (.ref f20) = true)
    {f21 : Addr} {od21 an21 : Option Addr} {sl21 : Array (Option Value)} {oc21 kV21 dc21 pm21 cd21 ct21 : Value}
    (a21 : PySem.W.findIn K (.ref C_Line) "__init__" = some (some (.ref f21)))
    (l21 : K.lookup f21 = some ⟨oc21, od21, .func (PySem.W.fnOf "__init__" "Line.__init__" (defArgs s_Line_init) (defBody s_Line_init) (defScope s_Line_init) .none kV21 dc21 pm21 an21 cd21 ct21), sl21⟩)
    (c21 : PySem.W.codeIn K cd21 "Line.__init__" = true)
    (k21 : PySem.W.keepIn K (.ref f21) = true)
    (i21 : PySem.W.isFn K (.ref f21) = true)
    {f22 : Addr} {od22 an22 : Option Addr} {sl22 : Array (Option Value)} {oc22 kV22 dc22 pm22 cd22 ct22 : Value}
    (a22 : PySem.W.findIn K (.ref C_Cloth) "__init__" = some (some (.ref f22)))
    (l22 : K.lookup f22 = some ⟨oc22, od22, .func (PySem.W.fnOf "__init__" "Cloth.__init__" (defArgs s_Cloth_init) (defBody s_Cloth_init) (defScope s_Cloth_init) .none kV22 dc22 pm22 an22 cd22 ct22), sl22⟩)
    (c22 : PySem.W.codeIn K cd22 "Cloth.__init__" = true)
    (k22 : PySem.W.keepIn K (.ref f22) = true)
    (i22 : PySem.W.isFn K (.ref f22) = true)
    {f23 : Addr} {od23 an23 : Option Addr} {sl23 : Array (Option Value)} {oc23 kV23 dc23 pm23 cd23 ct23 : Value}
    (a23 : PySem.W.nsIn K mainGlobals "steps_of" = some (some (.ref f23)))
    (l23 : K.lookup f23 = some ⟨oc23, od23, .func (PySem.W.fnOf "steps_of" "steps_of" (defArgs s_steps_of) (defBody s_steps_of) (defScope s_steps_of) .none kV23 dc23 pm23 an23 cd23 ct23), sl23⟩)
    (c23 : PySem.W.codeIn K cd23 "steps_of" = true)
    (k23 : PySem.W.keepIn K (.ref f23) = true)
    {f24 : Addr} {od24 an24 : Option Addr} {sl24 : Array (Option Value)} {oc24 kV24 dc24 pm24 cd24 ct24 : Value}
    (a24 : PySem.W.nsIn K mainGlobals "do_body" = some (some (.ref f24)))
    (l24 : K.lookup f24 = some ⟨oc24, od24, .func (PySem.W.fnOf "do_body" "do_body" (defArgs s_do_body) (defBody s_do_body) (defScope s_do_body) .none kV24 dc24 pm24 an24 cd24 ct24), sl24⟩)
    (c24 : PySem.W.codeIn K cd24 "do_body" = true)
    (k24 : PySem.W.keepIn K (.ref f24) = true)
    {f25 : Addr} {od25 an25 : Option Addr} {sl25 : Array (Option Value)} {oc25 kV25 dc25 pm25 cd25 ct25 : Value}
    (a25 : PySem.W.nsIn K mainGlobals "do_loop" = some (some (.ref f25)))
    (l25 : K.lookup f25 = some ⟨oc25, od25, .func (PySem.W.fnOf "do_loop" "do_loop" (defArgs s_do_loop) (defBody s_do_loop) (defScope s_do_loop) .none kV25 dc25 pm25 an25 cd25 ct25), sl25⟩)
    (c25 : PySem.W.codeIn K cd25 "do_loop" = true)
    (k25 : PySem.W.keepIn K (.ref f25) = true)
    {f26 : Addr} {od26 an26 : Option Addr} {sl26 : Array (Option Value)} {oc26 kV26 dc26 pm26 cd26 ct26 : Value}
    (a26 : PySem.W.nsIn K mainGlobals "counts_of" = some (some (.ref f26)))
    (l26 : K.lookup f26 = some ⟨oc26, od26, .func (PySem.W.fnOf "counts_of" "counts_of" (defArgs s_counts_of) (defBody s_counts_of) (defScope s_counts_of) .none kV26 dc26 pm26 an26 cd26 ct26), sl26⟩)
    (c26 : PySem.W.codeIn K cd26 "counts_of" = true)
    (k26 : PySem.W.keepIn K (.ref f26) = true)
    {f27 : Addr} {od27 an27 : Option Addr} {sl27 : Array (Option Value)} {oc27 kV27 dc27 pm27 cd27 ct27 : Value}
    (a27 : PySem.W.nsIn K mainGlobals "step_of" = some (some (.ref f27)))
    (l27 : K.lookup f27 = some ⟨oc27, od27, .func (PySem.W.fnOf "step_of" "step_of" (defArgs s_step_of) (defBody s_step_of) (defScope s_step_of) .none kV27 dc27 pm27 an27 cd27 ct27), sl27⟩)
    (c27 : PySem.W.codeIn K cd27 "step_of" = true)
    (k27 : PySem.W.keepIn K (.ref f27) = true)
    {f28 : Addr} {od28 an28 : Option Addr} {sl28 : Array (Option Value)} {oc28 kV28 dc28 pm28 cd28 ct28 : Value}
    (a28 : PySem.W.nsIn K mainGlobals "counts_at" = some (some (.ref f28)))
    (l28 : K.lookup f28 = some ⟨oc28, od28, .func (PySem.W.fnOf "counts_at" "counts_at" (defArgs s_counts_at) (defBody s_counts_at) (defScope s_counts_at) .none kV28 dc28 pm28 an28 cd28 ct28), sl28⟩)
    (c28 : PySem.W.codeIn K cd28 "counts_at" = true)
    (k28 : PySem.W.keepIn K (.ref f28) = true)
    {f29 : Addr} {od29 an29 : Option Addr} {sl29 : Array (Option Value)} {oc29 kV29 dc29 pm29 cd29 ct29 : Value}
    (a29 : PySem.W.findIn K (.ref C_Number) "__init__" = some (some (.ref f29)))
    (l29 : K.lookup f29 = some ⟨oc29, od29, .func (PySem.W.fnOf "__init__" "Number.__init__" (defArgs s_Number_init) (defBody s_Number_init) (defScope s_Number_init) .none kV29 dc29 pm29 an29 cd29 ct29), sl29⟩)
    (c29 : PySem.W.codeIn K cd29 "Number.__init__" = true)
    (k29 : PySem.W.keepIn K (.ref f29) = true)
    (i29 : PySem.W.isFn K (.ref f29) = true)
    {f30 : Addr} {od30 an30 : Option Addr} {sl30 : Array (Option Value)} {oc30 kV30 dc30 pm30 cd30 ct30 : Value}
    (a30 : PySem.W.nsIn K mainGlobals "_law_cell_at" = some (some (.ref f30)))
    (l30 : K.lookup f30 = some ⟨oc30, od30, .func (PySem.W.fnOf "_law_cell_at" "_law_cell_at" (defArgs s_l_cell_at) (defBody s_l_cell_at) (defScope s_l_cell_at) .none kV30 dc30 pm30 an30 cd30 ct30), sl30⟩)
    (c30 : PySem.W.codeIn K cd30 "_law_cell_at" = true)
    (k30 : PySem.W.keepIn K (.ref f30) = true)
    {f31 : Addr} {od31 an31 : Option Addr} {sl31 : Array (Option Value)} {oc31 kV31 dc31 pm31 cd31 ct31 : Value}
    (a31 : PySem.W.nsIn K mainGlobals "_law_whole" = some (some (.ref f31)))
    (l31 : K.lookup f31 = some ⟨oc31, od31, .func (PySem.W.fnOf "_law_whole" "_law_whole" (defArgs s_l_whole) (defBody s_l_whole) (defScope s_l_whole) .none kV31 dc31 pm31 an31 cd31 ct31), sl31⟩)
    (c31 : PySem.W.codeIn K cd31 "_law_whole" = true)
    (k31 : PySem.W.keepIn K (.ref f31) = true)
    {f32 : Addr} {od32 an32 : Option Addr} {sl32 : Array (Option Value)} {oc32 kV32 dc32 pm32 cd32 ct32 : Value}
    (a32 : PySem.W.nsIn K mainGlobals "_law_wholes" = some (some (.ref f32)))
    (l32 : K.lookup f32 = some ⟨oc32, od32, .func (PySem.W.fnOf "_law_wholes" "_law_wholes" (defArgs s_l_wholes) (defBody s_l_wholes) (defScope s_l_wholes) .none kV32 dc32 pm32 an32 cd32 ct32), sl32⟩)
    (c32 : PySem.W.codeIn K cd32 "_law_wholes" = true)
    (k32 : PySem.W.keepIn K (.ref f32) = true)
    {f33 : Addr} {od33 an33 : Option Addr} {sl33 : Array (Option Value)} {oc33 kV33 dc33 pm33 cd33 ct33 : Value}
    (a33 : PySem.W.nsIn K mainGlobals "_law_is_step" = some (some (.ref f33)))
    (l33 : K.lookup f33 = some ⟨oc33, od33, .func (PySem.W.fnOf "_law_is_step" "_law_is_step" (defArgs s_l_is_step) (defBody s_l_is_step) (defScope s_l_is_step) .none kV33 dc33 pm33 an33 cd33 ct33), sl33⟩)
    (c33 : PySem.W.codeIn K cd33 "_law_is_step" = true)
    (k33 : PySem.W.keepIn K (.ref f33) = true)
    {f34 : Addr} {od34 an34 : Option Addr} {sl34 : Array (Option Value)} {oc34 kV34 dc34 pm34 cd34 ct34 : Value}
    (a34 : PySem.W.nsIn K mainGlobals "_law_cells" = some (some (.ref f34)))
    (l34 : K.lookup f34 = some ⟨oc34, od34, .func (PySem.W.fnOf "_law_cells" "_law_cells" (defArgs s_l_cells) (defBody s_l_cells) (defScope s_l_cells) .none kV34 dc34 pm34 an34 cd34 ct34), sl34⟩)
    (c34 : PySem.W.codeIn K cd34 "_law_cells" = true)
    (k34 : PySem.W.keepIn K (.ref f34) = true)
    {f35 : Addr} {od35 an35 : Option Addr} {sl35 : Array (Option Value)} {oc35 kV35 dc35 pm35 cd35 ct35 : Value}
    (a35 : PySem.W.nsIn K mainGlobals "_law_steps_by" = some (some (.ref f35)))
    (l35 : K.lookup f35 = some ⟨oc35, od35, .func (PySem.W.fnOf "_law_steps_by" "_law_steps_by" (defArgs s_l_steps_by) (defBody s_l_steps_by) (defScope s_l_steps_by) .none kV35 dc35 pm35 an35 cd35 ct35), sl35⟩)
    (c35 : PySem.W.codeIn K cd35 "_law_steps_by" = true)
    (k35 : PySem.W.keepIn K (.ref f35) = true)
    {f36 : Addr} {od36 an36 : Option Addr} {sl36 : Array (Option Value)} {oc36 kV36 dc36 pm36 cd36 ct36 : Value}
    (a36 : PySem.W.nsIn K mainGlobals "_law_sides_by" = some (some (.ref f36)))
    (l36 : K.lookup f36 = some ⟨oc36, od36, .func (PySem.W.fnOf "_law_sides_by" "_law_sides_by" (defArgs s_l_sides_by) (defBody s_l_sides_by) (defScope s_l_sides_by) .none kV36 dc36 pm36 an36 cd36 ct36), sl36⟩)
    (c36 : PySem.W.codeIn K cd36 "_law_sides_by" = true)
    (k36 : PySem.W.keepIn K (.ref f36) = true)
    {f37 : Addr} {od37 an37 : Option Addr} {sl37 : Array (Option Value)} {oc37 kV37 dc37 pm37 cd37 ct37 : Value}
    (a37 : PySem.W.nsIn K mainGlobals "_law_loops_of" = some (some (.ref f37)))
    (l37 : K.lookup f37 = some ⟨oc37, od37, .func (PySem.W.fnOf "_law_loops_of" "_law_loops_of" (defArgs s_l_loops_of) (defBody s_l_loops_of) (defScope s_l_loops_of) .none kV37 dc37 pm37 an37 cd37 ct37), sl37⟩)
    (c37 : PySem.W.codeIn K cd37 "_law_loops_of" = true)
    (k37 : PySem.W.keepIn K (.ref f37) = true)
    {f38 : Addr} {od38 an38 : Option Addr} {sl38 : Array (Option Value)} {oc38 kV38 dc38 pm38 cd38 ct38 : Value}
    (a38 : PySem.W.nsIn K mainGlobals "law" = some (some (.ref f38)))
    (l38 : K.lookup f38 = some ⟨oc38, od38, .func (PySem.W.fnOf "law" "law" (defArgs s_law) (defBody s_law) (defScope s_law) .none kV38 dc38 pm38 an38 cd38 ct38), sl38⟩)
    (c38 : PySem.W.codeIn K cd38 "law" = true)
    (k38 : PySem.W.keepIn K (.ref f38) = true)
    {pt_NO_OUTER : Tok}
    (aP_NO_OUTER : PySem.W.nsIn K mainGlobals "NO_OUTER" = some (some (.int (-1) pt_NO_OUTER)))
    {pt_NO_WIDTH : Tok}
    (aP_NO_WIDTH : PySem.W.nsIn K mainGlobals "NO_WIDTH" = some (some (.int (0) pt_NO_WIDTH)))
    (pg_Cloth : PySem.W.plainGet K C_Cloth Str.empty = true)
    (hd_Cloth : PySem.W.hasDictIn K C_Cloth = true)
    (po_Cloth : PySem.W.plainOver K C_Cloth = true)
    (sa_Cloth : PySem.W.findIn K (.ref C_Cloth) "__setattr__" = some (some (.builtin "object.__setattr__")))
    (mk_Cloth : PySem.W.makesIn K C_Cloth = true)
    (kc_Cloth : PySem.W.keepIn K (.ref C_Cloth) = true)
    (in_Cloth : PySem.W.findIn K (.ref C_Cloth) "__init__" = some (some (.ref f22)))
    (na_Cloth_wheel : PySem.W.findIn K (.ref C_Cloth) "wheel" = some none)
    (na_Cloth_lengths : PySem.W.findIn K (.ref C_Cloth) "lengths" = some none)
    (na_Cloth_arrays : PySem.W.findIn K (.ref C_Cloth) "arrays" = some none)
    (na_Cloth_tables : PySem.W.findIn K (.ref C_Cloth) "tables" = some none)
    (na_Cloth_lines : PySem.W.findIn K (.ref C_Cloth) "lines" = some none)
    (na_Cloth_outs : PySem.W.findIn K (.ref C_Cloth) "outs" = some none)
    (t1_Cloth : PySem.W.findIn K (.ref C_Cloth) "__class__" = some (some (.builtin "object.__class__")))
    (t2_Cloth : PySem.W.specialIn K (.builtin "object.__class__") "__get__" = some (some (.builtin "getset_descriptor.__get__")))
    (t3_Cloth : PySem.W.takesIn K (.builtin "object.__class__") = some true)
    (t4_Cloth : PySem.W.mroIn K C_Cloth (.type "object") = some true)
    (pg_Line : PySem.W.plainGet K C_Line Str.empty = true)
    (hd_Line : PySem.W.hasDictIn K C_Line = true)
    (po_Line : PySem.W.plainOver K C_Line = true)
    (sa_Line : PySem.W.findIn K (.ref C_Line) "__setattr__" = some (some (.builtin "object.__setattr__")))
    (mk_Line : PySem.W.makesIn K C_Line = true)
    (kc_Line : PySem.W.keepIn K (.ref C_Line) = true)
    (in_Line : PySem.W.findIn K (.ref C_Line) "__init__" = some (some (.ref f21)))
    (na_Line_name : PySem.W.findIn K (.ref C_Line) "name" = some none)
    (na_Line_axes : PySem.W.findIn K (.ref C_Line) "axes" = some none)
    (na_Line_sums : PySem.W.findIn K (.ref C_Line) "sums" = some none)
    (na_Line_term : PySem.W.findIn K (.ref C_Line) "term" = some none)
    (t1_Line : PySem.W.findIn K (.ref C_Line) "__class__" = some (some (.builtin "object.__class__")))
    (t2_Line : PySem.W.specialIn K (.builtin "object.__class__") "__get__" = some (some (.builtin "getset_descriptor.__get__")))
    (t3_Line : PySem.W.takesIn K (.builtin "object.__class__") = some true)
    (t4_Line : PySem.W.mroIn K C_Line (.type "object") = some true)
    (mb_Line_list : PySem.W.mroIn K C_Line (.type "list") = some false)
    (mb_Line_tuple : PySem.W.mroIn K C_Line (.type "tuple") = some false)
    (mb_Line_dict : PySem.W.mroIn K C_Line (.type "dict") = some false)
    (pg_Number : PySem.W.plainGet K C_Number Str.empty = true)
    (hd_Number : PySem.W.hasDictIn K C_Number = true)
    (po_Number : PySem.W.plainOver K C_Number = true)
    (sa_Number : PySem.W.findIn K (.ref C_Number) "__setattr__" = some (some (.builtin "object.__setattr__")))
    (mk_Number : PySem.W.makesIn K C_Number = true)
    (kc_Number : PySem.W.keepIn K (.ref C_Number) = true)
    (in_Number : PySem.W.findIn K (.ref C_Number) "__init__" = some (some (.ref f29)))
    (na_Number_number : PySem.W.findIn K (.ref C_Number) "number" = some none)
    (t1_Number : PySem.W.findIn K (.ref C_Number) "__class__" = some (some (.builtin "object.__class__")))
    (t2_Number : PySem.W.specialIn K (.builtin "object.__class__") "__get__" = some (some (.builtin "getset_descriptor.__get__")))
    (t3_Number : PySem.W.takesIn K (.builtin "object.__class__") = some true)
    (t4_Number : PySem.W.mroIn K C_Number (.type "object") = some true)
    (z_isinstance : PySem.W.nsIn K mainGlobals "isinstance" = some none)
    (z_list : PySem.W.nsIn K mainGlobals "list" = some none)
    (z_tuple : PySem.W.nsIn K mainGlobals "tuple" = some none)
    (z_dict : PySem.W.nsIn K mainGlobals "dict" = some none)
    (z_enumerate : PySem.W.nsIn K mainGlobals "enumerate" = some none)
    (z_len : PySem.W.nsIn K mainGlobals "len" = some none)
    (z_range : PySem.W.nsIn K mainGlobals "range" = some none)
    (z_reversed : PySem.W.nsIn K mainGlobals "reversed" = some none)
    (z_zip : PySem.W.nsIn K mainGlobals "zip" = some none)
    (z_min : PySem.W.nsIn K mainGlobals "min" = some none)
    (z_bool : PySem.W.nsIn K mainGlobals "bool" = some none)
    (z_int : PySem.W.nsIn K mainGlobals "int" = some none)
    (z_str : PySem.W.nsIn K mainGlobals "str" = some none)
    : ∃ fd : FuncData, (∀ (s : Shared) (v : Value), BindsTo s fd ⟨[v], []⟩ [("_law_script", v)]) ∧ ∀ base : Heap, K.In base → base.Ns mainGlobals mg → FnOk l.prog w K mg base CX0 133 fa fd ["_law_script"] (spLaw K) := by
  have e := hfa.symm.trans (PySem.W.mg_of X G a38)
  cases e
  have F0 := fun_mk (st := s_copied) l0 c0 k0
  have b0 := F0.binds (ps := ["value"]) fun _ _ _ _ _ _ us hl => match us, hl with | [_], _ => rfl
  have F1 := fun_mk (st := s_copied_dict) l1 c1 k1
  have b1 := F1.binds (ps := ["value"]) fun _ _ _ _ _ _ us hl => match us, hl with | [_], _ => rfl
  have F2 := fun_mk (st := s_lengths_along) l2 c2 k2
  have b2 := F2.binds (ps := ["axes", "lengths"]) fun _ _ _ _ _ _ us hl => match us, hl with | [_, _], _ => rfl
  have F3 := fun_mk (st := s_is_loop) l3 c3 k3
  have b3 := F3.binds (ps := ["node"]) fun _ _ _ _ _ _ us hl => match us, hl with | [_], _ => rfl
  have F4 := fun_mk (st := s_body_of) l4 c4 k4
  have b4 := F4.binds (ps := ["loop"]) fun _ _ _ _ _ _ us hl => match us, hl with | [_], _ => rfl
  have F5 := fun_mk (st := s_with_body) l5 c5 k5
  have b5 := F5.binds (ps := ["loop", "body"]) fun _ _ _ _ _ _ us hl => match us, hl with | [_, _], _ => rfl
  have F6 := fun_mk (st := s_first_nest) l6 c6 k6
  have b6 := F6.binds (ps := ["cloth"]) fun _ _ _ _ _ _ us hl => match us, hl with | [_], _ => rfl
  have F7 := fun_mk (st := s_nodes_in) l7 c7 k7
  have b7 := F7.binds (ps := ["line"]) fun _ _ _ _ _ _ us hl => match us, hl with | [_], _ => rfl
  have F8 := fun_mk (st := s_nodes_of) l8 c8 k8
  have b8 := F8.binds (ps := ["place", "line", "lengths", "fresh"]) fun _ _ _ _ _ _ us hl => match us, hl with | [_, _, _, _], _ => rfl
  have F9 := fun_mk (st := s_numbers_from) l9 c9 k9
  have b9 := F9.binds (ps := ["fresh", "axes"]) fun _ _ _ _ _ _ us hl => match us, hl with | [_, _], _ => rfl
  have F10 := fun_mk (st := s_looped) l10 c10 k10
  have b10 := F10.binds (ps := ["numbers", "sizes", "inside"]) fun _ _ _ _ _ _ us hl => match us, hl with | [_, _, _], _ => rfl
  have F11 := fun_mk (st := s_planned) l11 c11 k11
  have b11 := F11.binds (ps := ["cloth", "moves"]) fun _ _ _ _ _ _ us hl => match us, hl with | [_, _], _ => rfl
  have F12 := fun_mk (st := s_moved) l12 c12 k12
  have b12 := F12.binds (ps := ["nest", "move"]) fun _ _ _ _ _ _ us hl => match us, hl with | [_, _], _ => rfl
  have F13 := fun_mk (st := s_path_to) l13 c13 k13
  have b13 := F13.binds (ps := ["number", "body"]) fun _ _ _ _ _ _ us hl => match us, hl with | [_, _], _ => rfl
  have F14 := fun_mk (st := s_moved_along) l14 c14 k14
  have b14 := F14.binds (ps := ["path", "body", "move", "fresh"]) fun _ _ _ _ _ _ us hl => match us, hl with | [_, _, _, _], _ => rfl
  have F15 := fun_mk (st := s_moved_at) l15 c15 k15
  have b15 := F15.binds (ps := ["place", "body", "move", "fresh"]) fun _ _ _ _ _ _ us hl => match us, hl with | [_, _, _, _], _ => rfl
  have F16 := fun_mk (st := s_cut_by) l16 c16 k16
  have b16 := F16.binds (ps := ["tile", "loop", "fresh"]) fun _ _ _ _ _ _ us hl => match us, hl with | [_, _, _], _ => rfl
  have F17 := fun_mk (st := s_renumbered) l17 c17 k17
  have b17 := F17.binds (ps := ["body", "old", "new"]) fun _ _ _ _ _ _ us hl => match us, hl with | [_, _, _], _ => rfl
  have F18 := fun_mk (st := s_renumbered_node) l18 c18 k18
  have b18 := F18.binds (ps := ["node", "old", "new"]) fun _ _ _ _ _ _ us hl => match us, hl with | [_, _, _], _ => rfl
  have F19 := fun_mk (st := s_instead_in) l19 c19 k19
  have b19 := F19.binds (ps := ["numbers", "old", "new"]) fun _ _ _ _ _ _ us hl => match us, hl with | [_, _, _], _ => rfl
  have F20 := fun_mk (st := s_instead) l20 c20 k20
  have b20 := F20.binds (ps := ["number", "old", "new"]) fun _ _ _ _ _ _ us hl => match us, hl with | [_, _, _], _ => rfl
  have F21 := fun_mk (st := s_Line_init) l21 c21 k21
  have b21 := F21.binds (ps := ["self", "name", "axes", "sums", "term"]) fun _ _ _ _ _ _ us hl => match us, hl with | [_, _, _, _, _], _ => rfl
  have F22 := fun_mk (st := s_Cloth_init) l22 c22 k22
  have b22 := F22.binds (ps := ["self", "wheel", "lengths", "arrays", "tables", "lines", "outs"]) fun _ _ _ _ _ _ us hl => match us, hl with | [_, _, _, _, _, _, _], _ => rfl
  have F23 := fun_mk (st := s_steps_of) l23 c23 k23
  have b23 := F23.binds (ps := ["nest"]) fun _ _ _ _ _ _ us hl => match us, hl with | [_], _ => rfl
  have F24 := fun_mk (st := s_do_body) l24 c24 k24
  have b24 := F24.binds (ps := ["body", "counts", "steps"]) fun _ _ _ _ _ _ us hl => match us, hl with | [_, _, _], _ => rfl
  have F25 := fun_mk (st := s_do_loop) l25 c25 k25
  have b25 := F25.binds (ps := ["loop", "counts", "steps"]) fun _ _ _ _ _ _ us hl => match us, hl with | [_, _, _], _ => rfl
  have F26 := fun_mk (st := s_counts_of) l26 c26 k26
  have b26 := F26.binds (ps := ["size", "width", "outer", "counts"]) fun _ _ _ _ _ _ us hl => match us, hl with | [_, _, _, _], _ => rfl
  have F27 := fun_mk (st := s_step_of) l27 c27 k27
  have b27 := F27.binds (ps := ["deed", "counts"]) fun _ _ _ _ _ _ us hl => match us, hl with | [_, _], _ => rfl
  have F28 := fun_mk (st := s_counts_at) l28 c28 k28
  have b28 := F28.binds (ps := ["numbers", "counts"]) fun _ _ _ _ _ _ us hl => match us, hl with | [_, _], _ => rfl
  have F29 := fun_mk (st := s_Number_init) l29 c29 k29
  have b29 := F29.binds (ps := ["self", "number"]) fun _ _ _ _ _ _ us hl => match us, hl with | [_, _], _ => rfl
  have F30 := fun_mk (st := s_l_cell_at) l30 c30 k30
  have b30 := F30.binds (ps := ["_law_script", "_law_k"]) fun _ _ _ _ _ _ us hl => match us, hl with | [_, _], _ => rfl
  have F31 := fun_mk (st := s_l_whole) l31 c31 k31
  have b31 := F31.binds (ps := ["_law_found"]) fun _ _ _ _ _ _ us hl => match us, hl with | [_], _ => rfl
  have F32 := fun_mk (st := s_l_wholes) l32 c32 k32
  have b32 := F32.binds (ps := ["_law_found"]) fun _ _ _ _ _ _ us hl => match us, hl with | [_], _ => rfl
  have F33 := fun_mk (st := s_l_is_step) l33 c33 k33
  have b33 := F33.binds (ps := ["_law_step"]) fun _ _ _ _ _ _ us hl => match us, hl with | [_], _ => rfl
  have F34 := fun_mk (st := s_l_cells) l34 c34 k34
  have b34 := F34.binds (ps := ["_law_axes", "_law_lengths"]) fun _ _ _ _ _ _ us hl => match us, hl with | [_, _], _ => rfl
  have F35 := fun_mk (st := s_l_steps_by) l35 c35 k35
  have b35 := F35.binds (ps := ["_law_k", "_law_own", "_law_sums", "_law_lengths"]) fun _ _ _ _ _ _ us hl => match us, hl with | [_, _, _, _], _ => rfl
  have F36 := fun_mk (st := s_l_sides_by) l36 c36 k36
  have b36 := F36.binds (ps := ["_law_cell", "_law_axes", "_law_lengths"]) fun _ _ _ _ _ _ us hl => match us, hl with | [_, _, _], _ => rfl
  have F37 := fun_mk (st := s_l_loops_of) l37 c37 k37
  have b37 := F37.binds (ps := ["_law_own", "_law_sums", "_law_behind"]) fun _ _ _ _ _ _ us hl => match us, hl with | [_, _, _], _ => rfl
  have F38 := fun_mk (st := s_law) l38 c38 k38
  have b38 := F38.binds (ps := ["_law_script"]) fun _ _ _ _ _ _ us hl => match us, hl with | [_], _ => rfl
  exact ⟨_, fun s v => .of_eq rfl, fun base _ _ => ok_law (t := ⟨C_LoomError, C_NoMove, C_Line, C_Cloth, C_Term, C_Number, f0, _, f1, _, f2, _, f3, _, f4, _, f5, _, f6, _, f7, _, f8, _, f9, _, f10, _, f11, _, f12, _, f13, _, f14, _, f15, _, f16, _, f17, _, f18, _, f19, _, f20, _, f21, _, f22, _, f23, _, f24, _, f25, _, f26, _, f27, _, f28, _, f29, _, f30, _, f31, _, f32, _, f33, _, f34, _, f35, _, f36, _, f37, _, fa, _⟩) ⟨F0, PySem.W.mg_of X G a0, b0, F1, PySem.W.mg_of X G a1, b1, F2, PySem.W.mg_of X G a2, b2, F3, PySem.W.mg_of X G a3, b3, F4, PySem.W.mg_of X G a4, b4, F5, PySem.W.mg_of X G a5, b5, F6, PySem.W.mg_of X G a6, b6, F7, PySem.W.mg_of X G a7, b7, F8, PySem.W.mg_of X G a8, b8, F9, PySem.W.mg_of X G a9, b9, F10, PySem.W.mg_of X G a10, b10, F11, PySem.W.mg_of X G a11, b11, F12, PySem.W.mg_of X G a12, b12, F13, PySem.W.mg_of X G a13, b13, F14, PySem.W.mg_of X G a14, b14, F15, PySem.W.mg_of X G a15, b15, F16, PySem.W.mg_of X G a16, b16, F17, PySem.W.mg_of X G a17, b17, F18, PySem.W.mg_of X G a18, b18, F19, PySem.W.mg_of X G a19, b19, F20, PySem.W.mg_of X G a20, b20, F21, b21, F22, b22, F23, PySem.W.mg_of X G a23, b23, F24, PySem.W.mg_of X G a24, b24, F25, PySem.W.mg_of X G a25, b25, F26, PySem.W.mg_of X G a26, b26, F27, PySem.W.mg_of X G a27, b27, F28, PySem.W.mg_of X G a28, b28, F29, b29, F30, PySem.W.mg_of X G a30, b30, F31, PySem.W.mg_of X G a31, b31, F32, PySem.W.mg_of X G a32, b32, F33, PySem.W.mg_of X G a33, b33, F34, PySem.W.mg_of X G a34, b34, F35, PySem.W.mg_of X G a35, b35, F36, PySem.W.mg_of X G a36, b36, F37, PySem.W.mg_of X G a37, b37, F38, PySem.W.mg_of X G a38, b38, ⟨_, PySem.W.mg_of X G aP_NO_OUTER, ⟨_, rfl⟩⟩, ⟨_, PySem.W.mg_of X G aP_NO_WIDTH, ⟨_, rfl⟩⟩, PySem.W.mg_of X G aC_Line, PySem.W.mg_of X G aC_Cloth, PySem.W.mg_of X G aC_Number, ⟨pg_Cloth, hd_Cloth, po_Cloth, sa_Cloth⟩, ⟨mk_Cloth, in_Cloth, i22, kc_Cloth⟩, na_Cloth_wheel, na_Cloth_lengths, na_Cloth_arrays, na_Cloth_tables, na_Cloth_lines, na_Cloth_outs, ⟨t1_Cloth, t2_Cloth, t3_Cloth, t4_Cloth⟩, ⟨pg_Line, hd_Line, po_Line, sa_Line⟩, ⟨mk_Line, in_Line, i21, kc_Line⟩, na_Line_name, na_Line_axes, na_Line_sums, na_Line_term, ⟨t1_Line, t2_Line, t3_Line, t4_Line⟩, mb_Line_list, mb_Line_tuple, mb_Line_dict, ⟨pg_Number, hd_Number, po_Number, sa_Number⟩, ⟨mk_Number, in_Number, i29, kc_Number⟩, na_Number_number, ⟨t1_Number, t2_Number, t3_Number, t4_Number⟩, PySem.W.mg_none_of X G z_isinstance, PySem.W.mg_none_of X G z_list, PySem.W.mg_none_of X G z_tuple, PySem.W.mg_none_of X G z_dict, PySem.W.mg_none_of X G z_enumerate, PySem.W.mg_none_of X G z_len, PySem.W.mg_none_of X G z_range, PySem.W.mg_none_of X G z_reversed, PySem.W.mg_none_of X G z_zip, PySem.W.mg_none_of X G z_min, PySem.W.mg_none_of X G z_bool, PySem.W.mg_none_of X G z_int, PySem.W.mg_none_of X G z_str⟩⟩
theorem walk {l : PySem.W.OpenLaw} {q : Program} {loose : List Str} {XP : (Str → Option Value) → Heap → Prop} {YP : World → Heap → Prop} {d : DefRec} {K : Params → PySem.W.Frag} (hn : l.most = some 63) (hdf : d.params.defaults = [])
    (hY : ∀ (w : World) (h : Heap), YP w h → (K w.params).In h)
    (F : ∀ (w : World) (mg : Str → Option Value) (fa : Addr) (h : Heap), (K w.params).In h → h.Ns mainGlobals mg → mg d.name = some (.ref fa) →
      ∃ fd : FuncData, (∀ (s : Shared) (u : Value), BindsTo s fd ⟨[u], []⟩ [("_law_script", u)]) ∧ ∀ base : Heap, (K w.params).In base → base.Ns mainGlobals mg → FnOk l.prog w (K w.params) mg base CX0 133 fa fd ["_law_script"] (spLaw (K w.params))) :
    PySem.W.WalkO q loose XP YP l.row.toRowW d [] (fun f vs => PySem.call f vs) :=
  L2.walk_ofB (n := 63) (k := 133) (x := "_law_script") (CX := fun _ => CX0) (sp := fun w => spLaw (K w.params)) hn (by decide) hdf ⟨rfl, by decide, by decide⟩ hY F (fun _ _ a ns hl hb hS => ⟨a, ns, rfl, hS, hl, hb, fun _ => rfl⟩) fun _ _ _ _ _ z => z
end My
open PySem PySem.W PyProof.Rows
set_option maxRecDepth 100000 in
set_option maxHeartbeats 0 in
theorem PySem.Challenge.cw_arrayloom_k59_cuts_keep_the_order_holds : PySem.Challenge.rw_arrayloom_k59_cuts_keep_the_order.Holds := by
  w_on; o_law; k_head; (case hw => w_witness2)
  k_fill
  refine My.walk (l := PySem.Challenge.rw_arrayloom_k59_cuts_keep_the_order) rfl rfl (fun w h Y => PySem.W.kIn_of Y) ?F
  case F =>
    intro w mg fa h KX G hmg
    refine' My.all_mk KX G hmg ?aC_LoomError ?aC_NoMove ?aC_Line ?aC_Cloth ?aC_Term ?aC_Number ?a0 ?l0 ?c0 ?k0 ?a1 ?l1 ?c1 ?k1 ?a2 ?l2 ?c2 ?k2 ?a3 ?l3 ?c3 ?k3 ?a4 ?l4 ?c4 ?k4 ?a5 ?l5 ?c5 ?k5 ?a6 ?l6 ?c6 ?k6 ?a7 ?l7 ?c7 ?k7 ?a8 ?l8 ?c8 ?k8 ?a9 ?l9 ?c9 ?k9 ?a10 ?l10 ?c10 ?k10 ?a11 ?l11 ?c11 ?k11 ?a12 ?l12 ?c12 ?k12 ?a13 ?l13 ?c13 ?k13 ?a14 ?l14 ?c14 ?k14 ?a15 ?l15 ?c15 ?k15 ?a16 ?l16 ?c16 ?k16 ?a17 ?l17 ?c17 ?k17 ?a18 ?l18 ?c18 ?k18 ?a19 ?l19 ?c19 ?k19 ?a20 ?l20 ?c20 ?k20 ?a21 ?l21 ?c21 ?k21 ?i21 ?a22 ?l22 ?c22 ?k22 ?i22 ?a23 ?l23 ?c23 ?k23 ?a24 ?l24 ?c24 ?k24 ?a25 ?l25 ?c25 ?k25 ?a26 ?l26 ?c26 ?k26 ?a27 ?l27 ?c27 ?k27 ?a28 ?l28 ?c28 ?k28 ?a29 ?l29 ?c29 ?k29 ?i29 ?a30 ?l30 ?c30 ?k30 ?a31 ?l31 ?c31 ?k31 ?a32 ?l32 ?c32 ?k32 ?a33 ?l33 ?c33 ?k33 ?a34 ?l34 ?c34 ?k34 ?a35 ?l35 ?c35 ?k35 ?a36 ?l36 ?c36 ?k36 ?a37 ?l37 ?c37 ?k37 ?a38 ?l38 ?c38 ?k38 ?aP_NO_OUTER ?aP_NO_WIDTH ?pg_Cloth ?hd_Cloth ?po_Cloth ?sa_Cloth ?mk_Cloth ?kc_Cloth ?in_Cloth ?na_Cloth_wheel ?na_Cloth_lengths ?na_Cloth_arrays ?na_Cloth_tables ?na_Cloth_lines ?na_Cloth_outs ?t1_Cloth ?t2_Cloth ?t3_Cloth ?t4_Cloth ?pg_Line ?hd_Line ?po_Line ?sa_Line ?mk_Line ?kc_Line ?in_Line ?na_Line_name ?na_Line_axes ?na_Line_sums ?na_Line_term ?t1_Line ?t2_Line ?t3_Line ?t4_Line ?mb_Line_list ?mb_Line_tuple ?mb_Line_dict ?pg_Number ?hd_Number ?po_Number ?sa_Number ?mk_Number ?kc_Number ?in_Number ?na_Number_number ?t1_Number ?t2_Number ?t3_Number ?t4_Number ?z_isinstance ?z_list ?z_tuple ?z_dict ?z_enumerate ?z_len ?z_range ?z_reversed ?z_zip ?z_min ?z_bool ?z_int ?z_str
    (case aC_LoomError => k_is)
    (case aC_NoMove => k_is)
    (case aC_Line => k_is)
    (case aC_Cloth => k_is)
    (case aC_Term => k_is)
    (case aC_Number => k_is)
    (case a0 => k_is)
    (case l0 => k_is)
    (case c0 => k_is)
    (case k0 => k_is)
    (case a1 => k_is)
    (case l1 => k_is)
    (case c1 => k_is)
    (case k1 => k_is)
    (case a2 => k_is)
    (case l2 => k_is)
    (case c2 => k_is)
    (case k2 => k_is)
    (case a3 => k_is)
    (case l3 => k_is)
    (case c3 => k_is)
    (case k3 => k_is)
    (case a4 => k_is)
    (case l4 => k_is)
    (case c4 => k_is)
    (case k4 => k_is)
    (case a5 => k_is)
    (case l5 => k_is)
    (case c5 => k_is)
    (case k5 => k_is)
    (case a6 => k_is)
    (case l6 => k_is)
    (case c6 => k_is)
    (case k6 => k_is)
    (case a7 => k_is)
    (case l7 => k_is)
    (case c7 => k_is)
    (case k7 => k_is)
    (case a8 => k_is)
    (case l8 => k_is)
    (case c8 => k_is)
    (case k8 => k_is)
    (case a9 => k_is)
    (case l9 => k_is)
    (case c9 => k_is)
    (case k9 => k_is)
    (case a10 => k_is)
    (case l10 => k_is)
    (case c10 => k_is)
    (case k10 => k_is)
    (case a11 => k_is)
    (case l11 => k_is)
    (case c11 => k_is)
    (case k11 => k_is)
    (case a12 => k_is)
    (case l12 => k_is)
    (case c12 => k_is)
    (case k12 => k_is)
    (case a13 => k_is)
    (case l13 => k_is)
    (case c13 => k_is)
    (case k13 => k_is)
    (case a14 => k_is)
    (case l14 => k_is)
    (case c14 => k_is)
    (case k14 => k_is)
    (case a15 => k_is)
    (case l15 => k_is)
    (case c15 => k_is)
    (case k15 => k_is)
    (case a16 => k_is)
    (case l16 => k_is)
    (case c16 => k_is)
    (case k16 => k_is)
    (case a17 => k_is)
    (case l17 => k_is)
    (case c17 => k_is)
    (case k17 => k_is)
    (case a18 => k_is)
    (case l18 => k_is)
    (case c18 => k_is)
    (case k18 => k_is)
    (case a19 => k_is)
    (case l19 => k_is)
    (case c19 => k_is)
    (case k19 => k_is)
    (case a20 => k_is)
    (case l20 => k_is)
    (case c20 => k_is)
    (case k20 => k_is)
    (case a21 => k_is)
    (case l21 => k_is)
    (case c21 => k_is)
    (case k21 => k_is)
    (case i21 => k_is)
    (case a22 => k_is)
    (case l22 => k_is)
    (case c22 => k_is)
    (case k22 => k_is)
    (case i22 => k_is)
    (case a23 => k_is)
    (case l23 => k_is)
    (case c23 => k_is)
    (case k23 => k_is)
    (case a24 => k_is)
    (case l24 => k_is)
    (case c24 => k_is)
    (case k24 => k_is)
    (case a25 => k_is)
    (case l25 => k_is)
    (case c25 => k_is)
    (case k25 => k_is)
    (case a26 => k_is)
    (case l26 => k_is)
    (case c26 => k_is)
    (case k26 => k_is)
    (case a27 => k_is)
    (case l27 => k_is)
    (case c27 => k_is)
    (case k27 => k_is)
    (case a28 => k_is)
    (case l28 => k_is)
    (case c28 => k_is)
    (case k28 => k_is)
    (case a29 => k_is)
    (case l29 => k_is)
    (case c29 => k_is)
    (case k29 => k_is)
    (case i29 => k_is)
    (case a30 => k_is)
    (case l30 => k_is)
    (case c30 => k_is)
    (case k30 => k_is)
    (case a31 => k_is)
    (case l31 => k_is)
    (case c31 => k_is)
    (case k31 => k_is)
    (case a32 => k_is)
    (case l32 => k_is)
    (case c32 => k_is)
    (case k32 => k_is)
    (case a33 => k_is)
    (case l33 => k_is)
    (case c33 => k_is)
    (case k33 => k_is)
    (case a34 => k_is)
    (case l34 => k_is)
    (case c34 => k_is)
    (case k34 => k_is)
    (case a35 => k_is)
    (case l35 => k_is)
    (case c35 => k_is)
    (case k35 => k_is)
    (case a36 => k_is)
    (case l36 => k_is)
    (case c36 => k_is)
    (case k36 => k_is)
    (case a37 => k_is)
    (case l37 => k_is)
    (case c37 => k_is)
    (case k37 => k_is)
    (case a38 => k_is)
    (case l38 => k_is)
    (case c38 => k_is)
    (case k38 => k_is)
    (case aP_NO_OUTER => k_is)
    (case aP_NO_WIDTH => k_is)
    (case pg_Cloth => k_is)
    (case hd_Cloth => k_is)
    (case po_Cloth => k_is)
    (case sa_Cloth => k_is)
    (case mk_Cloth => k_is)
    (case kc_Cloth => k_is)
    (case in_Cloth => k_is)
    (case na_Cloth_wheel => k_is)
    (case na_Cloth_lengths => k_is)
    (case na_Cloth_arrays => k_is)
    (case na_Cloth_tables => k_is)
    (case na_Cloth_lines => k_is)
    (case na_Cloth_outs => k_is)
    (case t1_Cloth => k_is)
    (case t2_Cloth => k_is)
    (case t3_Cloth => k_is)
    (case t4_Cloth => k_is)
    (case pg_Line => k_is)
    (case hd_Line => k_is)
    (case po_Line => k_is)
    (case sa_Line => k_is)
    (case mk_Line => k_is)
    (case kc_Line => k_is)
    (case in_Line => k_is)
    (case na_Line_name => k_is)
    (case na_Line_axes => k_is)
    (case na_Line_sums => k_is)
    (case na_Line_term => k_is)
    (case t1_Line => k_is)
    (case t2_Line => k_is)
    (case t3_Line => k_is)
    (case t4_Line => k_is)
    (case mb_Line_list => k_is)
    (case mb_Line_tuple => k_is)
    (case mb_Line_dict => k_is)
    (case pg_Number => k_is)
    (case hd_Number => k_is)
    (case po_Number => k_is)
    (case sa_Number => k_is)
    (case mk_Number => k_is)
    (case kc_Number => k_is)
    (case in_Number => k_is)
    (case na_Number_number => k_is)
    (case t1_Number => k_is)
    (case t2_Number => k_is)
    (case t3_Number => k_is)
    (case t4_Number => k_is)
    (case z_isinstance => k_is)
    (case z_list => k_is)
    (case z_tuple => k_is)
    (case z_dict => k_is)
    (case z_enumerate => k_is)
    (case z_len => k_is)
    (case z_range => k_is)
    (case z_reversed => k_is)
    (case z_zip => k_is)
    (case z_min => k_is)
    (case z_bool => k_is)
    (case z_int => k_is)
    (case z_str => k_is)
