import PyProof.Rows.All
import Wide.All
import OpenK.AllK
import Wide.FinOn
import Lean
import PyProof.EqAt
import PyProof.EqKinds
import PyProof.TupleCall
import KE.KDictLaws
import KE.KDictList
import KE.KDictOf
import KE.KEqDict
import KE.KIntText
import KE.KTabLook
import KE.KTryMore
import KE.KUnpack
import PyProof.AttrMissHeap
import PyProof.AutoListH
import PyProof.CompUse
import PyProof.ConsumeWalk
import PyProof.Conv_int_bool
import PyProof.DictItems
import PyProof.DictValues
import PyProof.DictWalks
import PyProof.Draws
import PyProof.EnumFor
import PyProof.EnumMake
import PyProof.EnumStmt
import PyProof.ExcClass3
import PyProof.ExcInit
import PyProof.FString4
import PyProof.FString5
import PyProof.FactsAll.list_3
import PyProof.FactsAll.set
import PyProof.FactsAll.subtypes_5
import PyProof.FactsAll.zip
import PyProof.NeKinds
import PyProof.P3Eq
import PyProof.RangeIter
import PyProof.ReprHeads
import PyProof.ReprLen
import PyProof.Rows.SetFrom
import PyProof.Rows.StrNews
import PyProof.Rows.TupIter
import PyProof.SetRoads
import PyProof.StrLawsRepr
import PyProof.StrWalks
import PyProof.SumAny
import PyProof.TupleKey
import PyProof.Walks
import PyProof.StrLawsIn
import PySem.Challenge.RW_arrayloom_k15_beyond_the_rim
set_option Elab.async false
set_option bootstrap.genMatcherCode false
set_option linter.all false
set_option maxRecDepth 100000
set_option maxHeartbeats 4000000
section
open PySem PySem.Spec PyProof.Rows PySem.Calls
abbrev Z00:=@wpAny_bind
abbrev Z01:=@Heap.get?_push_of_some
abbrev Z02:=@List.mem_append_right
abbrev Z03:=@List.getElem?_eq_some_iff
abbrev Z04:=@wpAny_pure
abbrev Z05:=@List.mem_append_left
abbrev Z06:=@List.length_append
abbrev Z07:=@List.mem_append
abbrev Z08:=@List.length_map
abbrev Z09:=@Nat.le_refl
abbrev Z0a:=@Heap.lt_size
abbrev Z0b:=@List.getElem?_eq_getElem
abbrev Z0c:=@Heap.get?_push_size
abbrev Z0d:=@PyProof.Rows.boot_isinstance
abbrev Z0e:=@List.mem_cons
abbrev Z0f:=@PySem.W.mg_of
abbrev Z0g:=@List.size_toArray
abbrev Z0h:=@Nat.ne_of_lt
abbrev Z0i:=@Option.map_eq_some_iff
abbrev Z0j:=@List.length_singleton
abbrev Z0k:=@PySem.F.plainAttrs_list
abbrev Z0l:=@List.nodup_append
abbrev Z0m:=@PyProof.Rows.boot_tuple
abbrev Z0n:=@PySem.F.slot_list_append
abbrev Z0o:=@PySem.F.type_list_append
abbrev Z0p:=@List.map_cons
abbrev Z0q:=@Nat.lt_of_lt_of_le
abbrev Z0r:=@PySem.boot_len
abbrev Z0s:=@List.map_append
abbrev Z0t:=@if_neg
abbrev Z0u:=@List.append_nil
abbrev Z0v:=@Bool.false_ne_true
abbrev Z0w:=@List.mem_singleton
abbrev Z0x:=@List.length_take
abbrev Z0y:=@List.length_cons
abbrev Z0z:=@List.append_assoc
abbrev Z10:=@wpAny_mono
abbrev Z11:=@wpAny_field
abbrev Z12:=@if_pos
abbrev Z13:=@List.mem_of_getElem?
abbrev Z14:=@List.take_add_one
abbrev Z15:=@List.nodup_cons
abbrev Z16:=@wpAny_newObj_type
abbrev Z18:=@List.take_length
abbrev Z1a:=@Option.some.inj
abbrev Z1b:=@wpAny_callSpecial?_slot
abbrev Z1c:=@PySem.W.mg_none_of
abbrev Z1d:=@Heap.get?_update_other
abbrev Z1e:=@Nat.zero_le
abbrev Z1f:=@List.mem_cons_of_mem
abbrev Z1g:=@wpAny_call_entry
abbrev Z1h:=@wpAny_setField_rec
abbrev Z1i:=@List.not_mem_nil
abbrev Z1j:=@decide_eq_false
abbrev Z1k:=@wpAny_loadPart_at
abbrev Z1l:=@List.getElem?_append_right
abbrev Z1m:=@Array.getElem?_eq_some_iff
abbrev Z1n:=@Nat.le_trans
abbrev Z1o:=@PyProof.Rows.boot_list
abbrev Z1p:=@Int.emod_lt_of_pos
abbrev Z1q:=@Nat.ne_of_gt
abbrev Z1r:=@Heap.get?_update_self
abbrev Z1s:=@Heap.size_push
abbrev Z1t:=@wpAny_setField
abbrev Z1v:=@Int.emod_nonneg
abbrev Z1w:=@wpAny_holding
abbrev Z1x:=@Bool.and_eq_true
abbrev Z1y:=@wpAny_standAt
abbrev Z1z:=@List.getElem?_map
abbrev Z20:=@decide_eq_true
abbrev Z21:=@wpAny_seqItems
abbrev Z22:=@beq_eq_false_iff_ne
abbrev Z23:=@List.getElem?_set_self
abbrev Z25:=@Array.getElem?_setIfInBounds_ne
abbrev Z26:=@List.getElem?_append_left
abbrev Z27:=@List.mem_cons_self
abbrev Z28:=@List.lookup_cons
abbrev Z29:=@Int.mul_le_mul_of_nonneg_left
abbrev Z2a:=@List.getElem?_set_ne
abbrev Z2b:=@wpAny_execs_nil
abbrev Z2c:=@List.mem_map
abbrev Z2d:=@Nat.lt_of_le_of_lt
abbrev Z2e:=@List.take_append_drop
end
namespace L2
open PySem PySem.Spec PyProof.Rows
abbrev Key:=Sum Int Str
def C4i:Key->Value->Bool
 | .inl k,v=>Value.isInt k v
 | .inr x,v=>Value.isStrOf x v
def keyH (w:World):Key->Int
 | .inl k=>hashInt k
 | .inr x=>hashStr w x
theorem A2v:∀{k:Key} {v:Value},C4i k v=true->(∃i t,k=Sum.inl i/\v=Value.int i t)\/(∃x t,k=Sum.inr x/\v=Value.str x t)
 | .inl i,v,h=>by
  obtain ⟨t,e⟩:=Value.isInt_shape (k:=i) (v:=v) h;exact .inl ⟨i,t,rfl,e⟩
 | .inr x,v,h=>by
  obtain ⟨t,e⟩:=Value.isStrOf_shape (x:=x) (v:=v) h;exact .inr ⟨x,t,rfl,e⟩
theorem C7q (i:Int) (t:Tok):C4i (.inl i) (.int i t)=true:=by simp [C4i,Value.isInt]
theorem C5m (x:Str) (t:Tok):C4i (.inr x) (.str x t)=true:=by simp [C4i,Value.isStrOf]
theorem D6k (a b:Int):decide ((Sum.inl a:Key)=Sum.inl b)=(a == b):=by
 by_cases e:a=b
 ·subst e;simp
 ·have h:¬(Sum.inl a:Key)=Sum.inl b:=λq=>e (Sum.inl.inj q);rw [Z1j h];exact (Z22.mpr e).symm
theorem D6o (a b:Str):decide ((Sum.inr a:Key)=Sum.inr b)=decide (a=b):=by
 by_cases e:a=b
 ·subst e;simp
 ·have h:¬(Sum.inr a:Key)=Sum.inr b:=λq=>e (Sum.inr.inj q);rw [Z1j h,Z1j e]
theorem D6c (a:Int) (b:Str):decide ((Sum.inl a:Key)=Sum.inr b)=false:=Z1j (λq=>nomatch q)
theorem D7f (a:Str) (b:Int):decide ((Sum.inr a:Key)=Sum.inl b)=false:=Z1j (λq=>nomatch q)
def A2c (prog:Program) (w:World):PySem.KeyKind prog w Key where
 is:=C4i
 hash:=keyH w
 inj:=λv a b ha hb=>by
  rcases A2v ha with ⟨i,t,rfl,rfl⟩ | ⟨x,t,rfl,rfl⟩
  ·rcases A2v hb with ⟨j,u,rfl,e⟩ | ⟨y,u,rfl,e⟩
   ·injection e with e1 _;rw [e1]
   ·exact nomatch e
  ·rcases A2v hb with ⟨j,u,rfl,e⟩ | ⟨y,u,rfl,e⟩
   ·exact nomatch e
   ·injection e with e1 _;rw [e1]
 byValue:=λk v h=>by
  rcases A2v h with ⟨i,t,rfl,rfl⟩ | ⟨x,t,rfl,rfl⟩ <;> rfl
 pyHash:=λhv h=>by
  rcases A2v hv with ⟨i,t,rfl,rfl⟩ | ⟨x,t,rfl,rfl⟩
  ·exact wpAny_pyHash_int h
  ·exact wpAny_pyHash_str h
 eqBool:=λhu hv h=>by
  rcases A2v hu with ⟨i,t,rfl,rfl⟩ | ⟨x,t,rfl,rfl⟩
  ·rcases A2v hv with ⟨j,u,rfl,rfl⟩ | ⟨y,u,rfl,rfl⟩
   ·rw [D6k] at h;exact wpAny_eqBool_int h
   ·rw [D6c] at h;exact SeqAt.EqAt.int_str i t y u _ _ _ _ h
  ·rcases A2v hv with ⟨j,u,rfl,rfl⟩ | ⟨y,u,rfl,rfl⟩
   ·rw [D7f] at h;exact SeqAt.EqAt.str_int x t j u _ _ _ _ h
   ·rw [D6o] at h;exact wpAny_eqBool_str h
 «strs»:=λk x t v h=>by
  rcases A2v h with ⟨i,u,rfl,e⟩ | ⟨y,u,rfl,e⟩
  ·exact nomatch e
  ·injection e with e1 _;subst e1;cases v <;> rfl
theorem C1f (prog:Program) (w:World) (i:Int) (t:Tok):(A2c prog w).is (.inl i) (.int i t)=true:=C7q i t
theorem B9z (prog:Program) (w:World) (x:Str) (t:Tok):(A2c prog w).is (.inr x) (.str x t)=true:=C5m x t
inductive V where
 | non | bl (b:Bool) | int (i:Int) | str (x:Str) | byt (b:Array UInt8) | flt (b:UInt64) | ref (a:Addr) | ty (n:String)
 deriving DecidableEq
def A2z:V->Value->Prop
 | .non,u=>u=Value.none
 | .bl b,u=>u=Value.bool b
 | .int i,u=>∃t,u=Value.int i t
 | .str x,u=>∃t,u=Value.str x t
 | .byt b,u=>∃t,u=Value.bytes b t
 | .flt b,u=>∃t,u=Value.float b t
 | .ref a,u=>u=Value.ref a
 | .ty n,u=>u=Value.type n
abbrev A2u:List V->List Value->Prop:=Paired A2z
theorem A2u.length {xs:List V} {us:List Value} (r:A2u xs us):xs.length=us.length:=Paired.length r
theorem A2u.get:∀{xs:List V} {us:List Value} {i:Nat} {x:V},A2u xs us->xs[i]? =some x->∃u,us[i]? =some u/\A2z x u
 | _,_,_,_,.nil,e=>by simp at e
 | _,_,0,_,.cons r _,e=>by simp at e;subst e;exact ⟨_,rfl,r⟩
 | _,_,i+1,x,.cons _ t,e=>by
  obtain ⟨u,h1,h2⟩:=A2u.get (i:=i) (x:=x) t (by simpa using e);exact ⟨u,by simpa using h1,h2⟩
theorem A2u.append:∀{xs ys:List V} {us ws:List Value},A2u xs us->A2u ys ws->A2u (xs++ys) (us++ws)
 | _,_,_,_,.nil,s=>s
 | _,_,_,_,.cons r t,s=> .cons r (A2u.append t s)
theorem A2u.take:∀{xs:List V} {us:List Value} (n:Nat),A2u xs us->A2u (xs.take n) (us.take n)
 | _,_,0,_=> .nil
 | _,_,_+1,.nil=> .nil
 | _,_,n+1,.cons r t=> .cons r (A2u.take n t)
theorem A2u.drop:∀{xs:List V} {us:List Value} (n:Nat),A2u xs us->A2u (xs.drop n) (us.drop n)
 | _,_,0,r=>r
 | _,_,_+1,.nil=> .nil
 | _,_,n+1,.cons _ t=>A2u.drop n t
def B5g:Option V->Option Value->Prop
 | some v,some u=>A2z v u
 | none,none=>True
 | _,_=>False
def KV {κ:Type}:List (κ×V)->List (κ×Value)->Prop:=Paired λ(p:κ×V) (q:κ×Value)=>p.1=q.1/\A2z p.2 q.2
def kV:Key->V
 | .inl i=> .int i
 | .inr x=> .str x
inductive HO where
 | lst (xs:List V)
 | tup (xs:List V)
 | dK (kvs:List (Key×V)) | dT (kvs:List (List Key×V))
 | set (S:Int->Bool) (n:Nat)
 | ins (C dx:Addr) (fs:List (Str×V))
 | own (x:Addr)
 | xd (fs:List (Str×V))
 | met (f x:Addr)
 | rng (lo hi:Int)
 | frz (o:Obj) (u:HO)
 | tbl (ps:Array Value)
 | ext (φ:Heap->Prop)
abbrev Hp:=Addr->Option HO
def upd (H:Hp) (a:Addr) (o:HO):Hp:=λb=>if b=a then some o else H b
theorem A0b {H:Hp} {a:Addr} {o:HO}:upd H a o a=some o:=by unfold upd;rw [Z12 rfl]
theorem A0h {H:Hp} {a b:Addr} {o:HO} (h:b≠a):upd H a o b=H b:=by unfold upd;rw [Z0t h]
theorem A6y {H:Hp} {a:Addr} {o u:HO}:upd (upd H a o) a u=upd H a u:=by
 funext b;unfold upd;split <;> rfl
theorem A3j {H:Hp} {a b:Addr} {o u:HO} (h:H a=some o) (h':H b=some u) (d:o≠u):a≠b:=by
 intro e;subst e;rw [h] at h';exact d (Z1a h')
theorem A0k {H:Hp} {a b:Addr} {o:HO} (h:H a=some o) (h':H b=none):a≠b:=by
 intro e;subst e;rw [h] at h';cases h'
section
variable (P:Program) (w:World)
def A1y (H:Hp) (h:Heap) (a:Addr):HO->Prop
 | .lst xs=>xs.length<=sizeLine/\∃(its:List Value) (n:Nat),A2u xs its/\h.get? a=some { cls:= .type "list",data:= .seq its.toArray n }
 | .tup xs=>xs.length<=sizeLine/\∃its:List Value,A2u xs its/\IsTup h a its.toArray
 | .dK kvs=>kvs.length<=sizeLine/\(a == sysModules)=false/\∃vs,KV kvs vs/\h.DictOf (A2c P w) a vs
 | .dT kvs=>kvs.length<=sizeLine/\(a == sysModules)=false/\∃xs:List (List Key×Addr×Value),
   Paired (λ(p:List Key×V) (q:List Key×Addr×Value)=>p.1=q.1/\H q.2.1=some (.tup (p.1.map kV))/\A2z p.2 q.2.2) kvs xs/\
   ∃o es ep,h.get? a=some o/\o.ExactDict/\o.data= .dict es ep/\es.toList=xs.map (entryOfKey (tupleKind (A2c P w)))/\(xs.map (·.1)).Nodup
 | .set S n=>h.SetOf (intKind P w) a S n
 | .ins C dx fs=>H dx=some (.own a)/\fs.length<=1000/\dx≠a/\h.get? a=some (PySem.W.instObj C dx)/\
   ∃mA,h.Ns1 dx mA/\(∀f,B5g (fs.lookup f) (mA f))/\PySem.Within mA (fs.map (·.1))
 | .own _=>∃o,h.get? a=some o
 | .xd fs=>∃mA,h.Ns1 a mA/\∀f,B5g (fs.lookup f) (mA f)
 | .rng lo hi=>∃t u v,h.get? a=some { cls:= .type "range",data:= .fields #[.int lo t,.int hi u,.int 1 v] }
 | .frz o u=>h.get? a=some o/\A1y H h a u
 | .tbl ps=>h.get? a=some { cls:= .none,data:= .fields ps }
 | .met f x=>h.get? a=some (PySem.W.methodObj (.ref f) (.ref x))
 | .ext φ=>φ h/\(∃o,h.get? a=some o)/\∀h1 h2:Heap,φ h1->(∀o,h1.get? a=some o->h2.get? a=some o)->φ h2
def HOk (H:Hp) (h:Heap):Prop:=∀a o,H a=some o->A1y P w H h a o
end
section
variable {P:Program} {w:World} {H H':Hp} {h h':Heap} {a:Addr} {o:HO}
theorem A1y.lt (x:A1y P w H h a o):a<h.objs.size:=by
 cases o with
 | lst xs=>obtain ⟨_,_,_,_,e⟩:=x;exact Z0a e
 | tup xs=>obtain ⟨_,_,_,p⟩:=x;exact p.lt
 | dK kvs=>obtain ⟨_,_,_,_,o,_,_,e,_⟩:=x;exact Z0a e
 | dT kvs=>obtain ⟨_,_,_,_,o,_,_,e,_⟩:=x;exact Z0a e
 | set S n=>obtain ⟨o,_,_,_,e,_⟩:=x;exact Z0a e
 | ins C dx fs=>obtain ⟨_,_,_,e,_⟩:=x;exact Z0a e
 | own y=>obtain ⟨_,e⟩:=x;exact Z0a e
 | xd fs=>obtain ⟨_,⟨_,_,_,e,_⟩,_⟩:=x;exact Z0a e
 | rng lo hi=>obtain ⟨_,_,_,e⟩:=x;exact Z0a e
 | frz ob u=>obtain ⟨e,_⟩:=x;exact Z0a e
 | tbl ps=>exact Z0a (show h.get? a=some _ from x)
 | met f y=>exact Z0a (show h.get? a=some _ from x)
 | ext φ=>obtain ⟨_,⟨_,e⟩,_⟩:=x;exact Z0a e
theorem Paired.mapP {α β:Type} {F G:α->β->Prop}:∀{l₁:List α} {l₂:List β},Paired F l₁ l₂->(∀a b,F a b->G a b)->Paired G l₁ l₂
 | _,_,.nil,_=> .nil
 | _,_,.cons r t,f=> .cons (f _ _ r) (Paired.mapP t f)
theorem A1y.stay (x:A1y P w H h a o) (k:∀b u,(b=a\/H b=some (.own a))->h.get? b=some u->h'.get? b=some u)
  (ho:∀b,H b=some (.own a)->H' b=some (.own a)) (ht:∀b xs,H b=some (.tup xs)->H' b=some (.tup xs)):A1y P w H' h' a o:=by
 induction o with
 | lst xs=>obtain ⟨z,its,n,r,e⟩:=x;exact ⟨z,its,n,r,k _ _ (.inl rfl) e⟩
 | tup xs=>obtain ⟨z,its,r,ob,e,c⟩:=x;exact ⟨z,its,r,ob,k _ _ (.inl rfl) e,c⟩
 | dK kvs=>obtain ⟨z,y,vs,r,ob,es,ep,e,c⟩:=x;exact ⟨z,y,vs,r,ob,es,ep,k _ _ (.inl rfl) e,c⟩
 | dT kvs =>
  obtain ⟨z,y,xs,r,ob,es,ep,e,c⟩:=x;exact ⟨z,y,xs,Paired.mapP r λp q z=>⟨z.1,ht _ _ z.2.1,z.2.2⟩,ob,es,ep,k _ _ (.inl rfl) e,c⟩
 | set S n=>obtain ⟨ob,es,ep,t,e,c⟩:=x;exact ⟨ob,es,ep,t,k _ _ (.inl rfl) e,c⟩
 | ins C dx fs =>
  obtain ⟨d,z,ne,e,mA,⟨od,es,ep,e2,c⟩,r⟩:=x;exact ⟨ho _ d,z,ne,k _ _ (.inl rfl) e,mA,⟨od,es,ep,k _ _ (.inr d) e2,c⟩,r⟩
 | own y=>obtain ⟨ob,e⟩:=x;exact ⟨ob,k _ _ (.inl rfl) e⟩
 | xd fs=>obtain ⟨mA,⟨od,es,ep,e,c⟩,r⟩:=x;exact ⟨mA,⟨od,es,ep,k _ _ (.inl rfl) e,c⟩,r⟩
 | rng lo hi=>obtain ⟨t,u,v,e⟩:=x;exact ⟨t,u,v,k _ _ (.inl rfl) e⟩
 | frz ob u ih=>obtain ⟨e,q⟩:=x;exact ⟨k _ _ (.inl rfl) e,ih q⟩
 | tbl ps =>
  have e:h.get? a=some { cls:= .none,data:= .fields ps }:=x;show h'.get? a=some { cls:= .none,data:= .fields ps };exact k a _ (.inl rfl) e
 | met f y =>
  have e:h.get? a=some (PySem.W.methodObj (.ref f) (.ref y)):=x;show h'.get? a=some (PySem.W.methodObj (.ref f) (.ref y));exact k a _ (.inl rfl) e
 | ext φ=>obtain ⟨p,⟨o,e⟩,st⟩:=x;exact ⟨st _ _ p λo q=>k _ _ (.inl rfl) q,⟨o,k _ _ (.inl rfl) e⟩,st⟩
theorem HOk.lt (x:HOk P w H h) (e:H a=some o):a<h.objs.size:=(x a o e).lt
theorem HOk.fresh (x:HOk P w H h) (e:h.objs.size<=a):H a=none:=by
 cases q:H a with
 | none=>rfl
 | some u=>exact absurd (Z0q (x.lt q) e) (Nat.lt_irrefl _)
theorem HOk.kept (x:HOk P w H h) (k:∀b u,h.get? b=some u->h'.get? b=some u):HOk P w H h':=λa o e =>
 (x a o e).stay (λb u _ q=>k b u q) (λ_ q=>q) λ_ _ q=>q
theorem HOk.laid (x:HOk P w H h) (k:∀b u,h.get? b=some u->h'.get? b=some u) (hp:h.objs.size<=a) (new:A1y P w (upd H a o) h' a o):HOk P w (upd H a o) h':=λb u e=>by
 have hn:=x.fresh hp;by_cases hb:b=a
 ·subst hb;rw [A0b] at e;cases e;exact new
 ·rw [A0h hb] at e;exact (x b u e).stay (λc v _ q=>k c v q) (λc q=>by rw [A0h (A0k q hn)];exact q) λc xs q=>by rw [A0h (A0k q hn)];exact q
end
def Rd (H:Hp) (a:Addr) (u:HO):Prop:=H a=some u\/∃o,H a=some (.frz o u)
theorem Rd.ok {P:Program} {w:World} {H:Hp} {h:Heap} {a:Addr} {u:HO} (r:Rd H a u) (x:HOk P w H h):A1y P w H h a u:=by
 rcases r with r | ⟨o,r⟩
 ·exact x a u r
 ·obtain ⟨_,q⟩:=x a _ r;exact q
def Mut:Option HO->Prop
 | some (.lst _)=>True
 | some (.dK _)=>True
 | some (.dT _)=>True
 | some (.set _ _)=>True
 | some (.ins _ _ _)=>True
 | some (.ext _)=>True
 | _=>False
section
variable {P:Program} {w:World} {H:Hp} {h h':Heap} {x e:Addr} {o':HO}
theorem HOk.write (ok:HOk P w H h) (mu:Mut (H x)) (he:e=x\/H e=some (.own x)) (k:∀b u,b≠e->h.get? b=some u->h'.get? b=some u) (heo:∃u,h'.get? e=some u)
  (new:A1y P w (upd H x o') h' x o'):HOk P w (upd H x o') h':=λb u q=>by
 have nown:∀c y,H c=some (.own y)->c≠x:=λc y r z=>by subst z;rw [r] at mu;exact mu
 have ntup:∀c xs,H c=some (.tup xs)->c≠x:=λc xs r z=>by subst z;rw [r] at mu;exact mu
 by_cases hb:b=x
 ·subst hb;rw [A0b] at q;cases q;exact new
 ·rw [A0h hb] at q;by_cases hbe:b=e
  ·have q':H b=some (.own x):=by
    rcases he with z | z
    ·exact absurd (hbe.trans z) hb
    ·rw [hbe];exact z
   rw [q] at q';cases q';obtain ⟨v,hv⟩:=heo;exact ⟨v,by rw [hbe];exact hv⟩
  ·refine (ok b u q).stay (λc v hc r=>k c v ?_ r) (λc r=>by rw [A0h (nown c b r)];exact r) λc xs r=>by rw [A0h (ntup c xs r)];exact r
   rcases hc with rfl | hc
   ·exact hbe
   ·rintro rfl;rcases he with z | z
    ·exact nown c b hc z
    ·rw [hc] at z;cases z;exact hb rfl
end
structure Un (fs ex:List Addr) (H H':Hp) (h h':Heap):Prop where
 keep:∀b o,h.get? b=some o->H b=none->b∉fs->b∉ex->h'.get? b=some o
 slot:∀b o,h.get? b=some o->H b=none->b∈fs->b∉ex->∃sl,h'.get? b=some { o with slots:=sl }
 free:∀b o,h.get? b=some o->H b=none->b∉ex->H' b=none
 there:∀b o,h.get? b=some o->b∉ex->∃o',h'.get? b=some o'
 tups:∀b xs,H b=some (.tup xs)->H' b=some (.tup xs)
 frzs:∀b o u,H b=some (.frz o u)->H' b=some (.frz o u)
 tbls:∀b ps,H b=some (.tbl ps)->∃more,H' b=some (.tbl (ps++more))
section
variable {fs fs' ex ex':List Addr} {H H1 H2:Hp} {h h1 h2 h':Heap} {a x e:Addr} {o:HO}
theorem Un.any (u:Un fs ex H H1 h h1) {b:Addr} {ob:Obj} (q:h.get? b=some ob) (n:H b=none) (hx:b∉ex):∃sl,h1.get? b=some { ob with slots:=sl }:=by
 by_cases hb:b∈fs
 ·exact u.slot b ob q n hb hx
 ·exact ⟨ob.slots,u.keep b ob q n hb hx⟩
theorem Un.kept (k:∀b u,h.get? b=some u->h'.get? b=some u):Un fs ex H H h h' :=
 ⟨λb ob q _ _ _=>k b ob q,λb ob q _ _ _=>⟨ob.slots,k b ob q⟩,λ_ _ _ n _=>n,λb ob q _=>⟨ob,k b ob q⟩,λ_ _ q=>q,λ_ _ _ q=>q,λ_ ps q=>⟨#[],by rw [q];simp⟩⟩
theorem Un.refl:Un fs ex H H h h:=Un.kept λ_ _ q=>q
theorem Un.laid (k:∀b u,h.get? b=some u->h'.get? b=some u) (hp:h.objs.size<=a) (hn:H a=none):Un fs ex H (upd H a o) h h' where
 keep:=λb u q _ _ _=>k b u q
 slot:=λb u q _ _ _=>⟨u.slots,k b u q⟩
 free:=λb u q n _=>by rw [A0h (Z0h (Z0q (Z0a q) hp))];exact n
 there:=λb u q _=>⟨u,k b u q⟩
 tups:=λb xs q=>by rw [A0h (A0k q hn)];exact q
 frzs:=λb u xs q=>by rw [A0h (A0k q hn)];exact q
 tbls:=λb ps q=>⟨#[],by rw [A0h (A0k q hn),q];simp⟩
theorem Un.write (mu:Mut (H x)) (he:e=x\/H e=some (.own x)) (k:∀b u,b≠e->h.get? b=some u->h'.get? b=some u) (heo:∃u,h'.get? e=some u):Un fs ex H (upd H x o) h h':=by
 have hx:∀b,H b=none->b≠x:=λb n z=>by subst z;rw [n] at mu;exact mu
 have hb:∀b,H b=none->b≠e:=λb n z=>by
  subst z;rcases he with r | r
  ·exact hx b n r
  ·rw [n] at r;cases r
 have hm:∀b u,H b=some u->¬Mut (some u)->b≠x:=λb u q nm z=>by subst z;rw [q] at mu;exact nm mu
 refine ⟨λb u q n _ _=>k b u (hb b n) q,λb u q n _ _=>⟨u.slots,k b u (hb b n) q⟩,λb u q n _=>by rw [A0h (hx b n)];exact n,λb u q _=> ?_,
  λb xs q=>by rw [A0h (hm b _ q λz=>z)];exact q,λb u xs q=>by rw [A0h (hm b _ q λz=>z)];exact q,λb ps q=>⟨#[],by rw [A0h (hm b _ q λz=>z),q];simp⟩⟩
 by_cases hbe:b=e
 ·subst hbe;exact heo
 ·exact ⟨u,k b u hbe q⟩
end
def trk (h:Heap) (H:Hp):List Addr:=(List.range h.objs.size).filter λa=>(H a).isSome
def C8u (h:Heap) (H:Hp):Heap:=PySem.W.hideAll h (trk h H)
theorem C5v (h:Heap) (H:Hp):(C8u h H).objs.size=h.objs.size:=PySem.W.hideAll_size _ _
theorem C9g {h:Heap} {H:Hp} {b:Addr} {o:Obj} (e:h.get? b=some o) (n:H b=none):(C8u h H).get? b=some o :=
 PySem.W.hideAll_get _ e λhm=>by
  have q:(H b).isSome=true:=(List.mem_filter.mp hm).2;rw [n] at q;simp at q
theorem D3b {h:Heap} {H:Hp} {b:Addr} {o:Obj} (e:(C8u h H).get? b=some o):h.get? b=some o/\H b=none:=by
 have e':h.get? b=some o:=PySem.W.of_hideAll (trk h H) e;refine ⟨e',?_⟩
 cases q:H b with
 | none=>rfl
 | some x =>
  have hm:b∈trk h H:=List.mem_filter.mpr ⟨List.mem_range.mpr (Z0a e'),by simp [q]⟩;have z:(C8u h H).get? b=none:=PySem.W.hideAll_none (trk h H) hm;rw [z] at e;cases e
structure Mod (K:PySem.W.Frag) (mg:Str->Option Value) (base:Heap):Prop where
 kin:K.In base
 glob:base.Ns mainGlobals mg
 blt:∃mb,base.Ns builtinsNs mb/\∀x:Str,x≠"__name__"->mb x=bootBuiltins x
 nolimit:base.NoLimit
structure Cx where
 prog:Program
 w:World
 K:PySem.W.Frag
 mg:Str->Option Value
 base:Heap
 A:Around
 N:List Str
 s₀:Shared
 H₀:Hp
 env:Env
 outer:List Env
 stack:List Env
 ex:List Addr
 fn:Str->Bool
 calm:Bool
 pn:List (Addr×Obj)
 xe:Value->Shared->Prop
def frs (l:List Env):List Addr:=l.filterMap (·.frame)
abbrev Cx.fs (X:Cx):List Addr:=frs X.outer
def Vis (sc:Scope) (x:Str):Prop:=sc.names.lookup x=some .local\/sc.names.lookup x=some .cell\/sc.names.lookup x=some .free
def Loc (sc:Scope) (x:Str):Prop:=sc.names.lookup x=some .local\/sc.names.lookup x=some .cell
def Look (env:Env) (h:Heap) (m:Str->Option Value) (x:Str) (u:Value):Prop :=
 (env.kindOf x=some .local/\m x=some u)\/((env.kindOf x=some .cell\/env.kindOf x=some .free)/\∃c,env.cells.lookup x=some c/\h.IsCell c (some u))
structure Cx.Ok (X:Cx):Prop where
 mod:Mod X.K X.mg X.base
 kind:X.env.scope.kind= .function
 glob:X.env.globals=mainGlobals
 blt:X.env.builtins=builtinsNs
 above:X.s₀.heap.objs.size<=X.env.locals
 inj:∀x y c,X.env.cells.lookup x=some c->X.env.cells.lookup y=some c->x=y
 has:∀x,(X.env.kindOf x=some .cell\/X.env.kindOf x=some .free)->∃c,X.env.cells.lookup x=some c
 cab:∀x c,X.fn x=true->X.env.cells.lookup x=some c->X.s₀.heap.objs.size<=c
 hd:X.calm=true->X.A.handled=none
 frames:X.A.frames=some X.stack
 stk:X.stack=X.outer\/(X.stack=X.env::X.outer/\X.env.frame=some X.env.locals)
 exf:∀b∈X.ex,b≠X.env.locals/\∀x c,X.env.cells.lookup x=some c->c≠b
 bs:∀b o,X.base.get? b=some o->X.s₀.heap.get? b=some o/\X.H₀ b=none
 bsz:X.base.objs.size<=X.s₀.heap.objs.size
 noex:∀b o,X.base.get? b=some o->b∉X.ex
 exfs:∀b∈X.ex,b∉X.fs
 funs:X.s₀.heap.FunFrames X.base X.outer
 frf:∀b∈X.fs,X.H₀ b=none
structure Inv (X:Cx) (pins:List (Addr×Obj)) (σ:List (Option V)) (H:Hp) (s:Shared):Prop where
 ok:X.Ok
 os:s.os=X.s₀.os
 bare:AllBare s.gens
 base:Un X.fs X.ex X.H₀ H X.s₀.heap s.heap
 loc:∃m,s.heap.Ns X.env.locals m/\∀(i:Nat) (x:Str) (v:V),X.N[i]? =some x->σ[i]? =some (some v)->Vis X.env.scope x->∃u,A2z v u/\Look X.env s.heap m x u
 cell:∀x c,X.env.cells.lookup x=some c->∃v,s.heap.IsCell c v
 free:H X.env.locals=none
 freeC:∀x c,X.env.cells.lookup x=some c->H c=none
 pin:∀p∈X.pn++pins,s.heap.get? p.1=some p.2/\H p.1=none/\p.1≠X.env.locals/\p.1∉X.fs/\∀v,p.2.data≠.cell v
 hok:HOk X.prog X.w H s.heap
 len:σ.length=X.N.length
section
variable {X:Cx} {pins:List (Addr×Obj)} {σ:List (Option V)} {H H':Hp} {s:Shared} {h':Heap}
theorem Cx.Ok.nofr (ok:X.Ok) {b:Addr} {o:Obj} (e:X.base.get? b=some o):b∉X.fs:=λhb=>by
 have:=(ok.funs.mem hb).1;rw [e] at this;cases this
theorem Inv.bs (I:Inv X pins σ H s):∀b o,X.base.get? b=some o->s.heap.get? b=some o/\H b=none:=λb o e =>
 ⟨I.base.keep b o (I.ok.bs b o e).1 (I.ok.bs b o e).2 (I.ok.nofr e) (I.ok.noex b o e),I.base.free b o (I.ok.bs b o e).1 (I.ok.bs b o e).2 (I.ok.noex b o e)⟩
theorem Inv.bk (I:Inv X pins σ H s):∀b o,X.base.get? b=some o->s.heap.get? b=some o:=λb o e=>(I.bs b o e).1
theorem Inv.mod (I:Inv X pins σ H s):Mod X.K X.mg X.base:=I.ok.mod
theorem Inv.kIn (I:Inv X pins σ H s):X.K.In s.heap:=I.ok.mod.kin.keeps I.bk
theorem Inv.lt (I:Inv X pins σ H s):X.env.locals<s.heap.objs.size:=let ⟨_,hn,_⟩:=I.loc;hn.lt
theorem Inv.sz (I:Inv X pins σ H s):X.s₀.heap.objs.size<=s.heap.objs.size:=Z1n I.ok.above (Nat.le_of_lt I.lt)
theorem Inv.nofs (I:Inv X pins σ H s) {a:Addr} (h:s.heap.objs.size<=a):a∉X.fs:=λhb=>by
 obtain ⟨_,o,ho,_⟩:=I.ok.funs.mem hb;exact absurd (Z0q (Z0a ho) (Z1n I.sz h)) (Nat.lt_irrefl _)
theorem Inv.cne (I:Inv X pins σ H s):∀x c,X.env.cells.lookup x=some c->c≠X.env.locals:=λx c e z=>by
 obtain ⟨v,o,ho,hd⟩:=I.cell x c e;obtain ⟨m,⟨o',es,ep,ho',hd',_⟩,_⟩:=I.loc;rw [z,ho'] at ho;cases ho;rw [hd'] at hd;cases hd
theorem Inv.funs (I:Inv X pins σ H s):s.heap.FunFrames X.base X.outer:=by
 have all:∀(l:List Env),(∀b∈frs l,b∈X.fs)->X.s₀.heap.FunFrames X.base l->s.heap.FunFrames X.base l:=by
  intro l
  induction l with
  | nil=>intro _ _;trivial
  | cons env r ih =>
   intro hs hl;obtain ⟨hk,⟨L,o,hf,hn,ho,hd⟩,hr⟩:=hl;have hL:L∈X.fs:=hs L (by unfold frs;rw [List.filterMap_cons,hf];exact Z27);obtain ⟨sl,e⟩:=I.base.slot L o ho (I.ok.frf L hL) hL λz=>I.ok.exfs L z hL;exact ⟨hk,⟨L,_,hf,hn,e,hd⟩,ih (λb hb=>hs b (by unfold frs;rw [List.filterMap_cons,hf];exact Z1f _ hb)) hr⟩
 exact all X.outer (λ_ hb=>hb) I.ok.funs
theorem Inv.stack (I:Inv X pins σ H s):s.heap.FunFrames X.base X.stack:=by
 rcases I.ok.stk with e | ⟨e,hf⟩
 ·rw [e];exact I.funs
 ·rw [e];obtain ⟨m,hn,_⟩:=I.loc;refine .cons (by rw [I.ok.kind];decide) hf hn ?_ I.funs;exact Heap.get?_none_of_le (Z1n I.ok.bsz I.ok.above)
theorem Inv.stkSub (I:Inv X pins σ H s):∀b∈frs X.stack,b∈X.env.locals::X.fs:=λb hb=>by
 rcases I.ok.stk with e | ⟨e,hf⟩
 ·rw [e] at hb;exact Z1f _ hb
 ·rw [e] at hb;unfold frs at hb;rw [List.filterMap_cons,hf] at hb;exact hb
theorem Inv.stkFree (I:Inv X pins σ H s):∀b∈frs X.stack,H b=none:=λb hb=>by
 rcases Z0e.mp (I.stkSub b hb) with e | hb
 ·rw [e];exact I.free
 ·obtain ⟨_,o,ho,_⟩:=I.ok.funs.mem hb;exact I.base.free b o ho (I.ok.frf b hb) λz=>I.ok.exfs b z hb
theorem Inv.step {g':Array GenState} {t':Nat} {d':Drawn} {ch:List Addr} (I:Inv X pins σ H s)
  (hch:∀b∈ch,(b∈X.ex\/X.s₀.heap.objs.size<=b)/\b≠X.env.locals/\(∀x c,X.env.cells.lookup x=some c->c≠b)/\∀p∈X.pn++pins,p.1≠b)
  (keep:∀b o,b≠X.env.locals->b∉X.fs->b∉ch->s.heap.get? b=some o->H b=none->h'.get? b=some o)
  (slot:∀b o,b≠X.env.locals->b∈X.fs->b∉ch->s.heap.get? b=some o->H b=none->∃sl,h'.get? b=some { o with slots:=sl }) (free:∀b o,b∉ch->s.heap.get? b=some o->H b=none->H' b=none)
  (there:∀b o,b∉ch->s.heap.get? b=some o->∃o',h'.get? b=some o')
  (tups:∀b xs,H b=some (.tup xs)->H' b=some (.tup xs)) (frzs:∀b o u,H b=some (.frz o u)->H' b=some (.frz o u)) (tbls:∀b ps,H b=some (.tbl ps)->∃more,H' b=some (.tbl (ps++more)))
  (ns:∀m,s.heap.Ns X.env.locals m->h'.Ns X.env.locals m) (hok:HOk X.prog X.w H' h') (hg:AllBare g') :
  Inv X pins σ H' { s with heap:=h',gens:=g',drawn:=d',toks:=t' }:=by
 have neL:∀b o,X.s₀.heap.get? b=some o->b≠X.env.locals:=λb o e=>Z0h (Z0q (Z0a e) I.ok.above)
 have neC:∀b o,X.s₀.heap.get? b=some o->b∉X.ex->b∉ch:=λb o e hx hb=>by
  rcases (hch b hb).1 with z | z
  ·exact hx z
  ·exact absurd (Z0q (Z0a e) z) (Nat.lt_irrefl _)
 have cellK:∀x c,X.env.cells.lookup x=some c->∀v,s.heap.IsCell c v->h'.IsCell c v:=λx c e v ⟨o,ho,hd⟩=>by
  have nch:c∉ch:=λz=>(hch c z).2.2.1 x c e rfl;by_cases hc:c∈X.fs
  ·obtain ⟨sl,q⟩:=slot c o (I.cne x c e) hc nch ho (I.freeC x c e);exact ⟨_,q,hd⟩
  ·exact ⟨o,keep c o (I.cne x c e) hc nch ho (I.freeC x c e),hd⟩
 refine ⟨I.ok,I.os,hg,⟨λb o e n hb hx=> ?_,λb o e n hb hx=> ?_,λb o e n hx=> ?_,λb o e hx=> ?_,λb xs e=>tups b xs (I.base.tups b xs e),λb o xs e=>frzs b o xs (I.base.frzs b o xs e),λb ps e=> ?_⟩,?_,λx c e=> ?_,?_,λx c e=> ?_,λp hp=> ?_,hok,I.len⟩
 ·exact keep b o (neL b o e) hb (neC b o e hx) (I.base.keep b o e n hb hx) (I.base.free b o e n hx)
 ·obtain ⟨sl,e1⟩:=I.base.slot b o e n hb hx;obtain ⟨sl',e2⟩:=slot b _ (neL b o e) hb (neC b o e hx) e1 (I.base.free b o e n hx);exact ⟨sl',e2⟩
 ·obtain ⟨o',e1⟩:=I.base.there b o e hx;exact free b o' (neC b o e hx) e1 (I.base.free b o e n hx)
 ·obtain ⟨o',e1⟩:=I.base.there b o e hx;exact there b o' (neC b o e hx) e1
 ·obtain ⟨m1,e1⟩:=I.base.tbls b ps e;obtain ⟨m2,e2⟩:=tbls b _ e1;exact ⟨m1++m2,by rw [e2,Array.append_assoc]⟩
 ·obtain ⟨m,hn,hl⟩:=I.loc;refine ⟨m,ns m hn,λi x v e1 e2 e3=> ?_⟩;obtain ⟨u,r,l⟩:=hl i x v e1 e2 e3;refine ⟨u,r,?_⟩;rcases l with l | ⟨k,c,e,z⟩
  ·exact .inl l
  ·exact .inr ⟨k,c,e,cellK x c e _ z⟩
 ·obtain ⟨v,z⟩:=I.cell x c e;exact ⟨v,cellK x c e v z⟩
 ·obtain ⟨m,⟨o,_,_,ho,_⟩,_⟩:=I.loc;exact free _ o (λz=>(hch _ z).2.1 rfl) ho I.free
 ·obtain ⟨v,o,ho,hd⟩:=I.cell x c e;exact free c o (λz=>(hch c z).2.2.1 x c e rfl) ho (I.freeC x c e)
 ·obtain ⟨e,n,ne,nf,d⟩:=I.pin p hp;have nch:p.1∉ch:=λz=>(hch p.1 z).2.2.2 p hp rfl;exact ⟨keep p.1 p.2 ne nf nch e n,free p.1 p.2 nch e n,ne,nf,d⟩
theorem Inv.un {t':Nat} (I:Inv X pins σ H s) (u:Un X.fs [] H H' s.heap h') (hok:HOk X.prog X.w H' h'):Inv X pins σ H' { s with heap:=h',toks:=t' }:=by
 obtain ⟨m,⟨o,es,ep,ho,r⟩,_⟩:=id I.loc;obtain ⟨sl,hL⟩:=u.any ho I.free (by simp)
 exact I.step (g':=s.gens) (d':=s.drawn) (ch:=[]) (λ_ z=>nomatch z) (λb o _ hb _ e n=>u.keep b o e n hb (by simp)) (λb o _ hb _ e n=>u.slot b o e n hb (by simp)) (λb o _ e n=>u.free b o e n (by simp)) (λb o _ e=>u.there b o e (by simp)) u.tups u.frzs u.tbls (λm' hm=>by
  obtain ⟨o',es',ep',ho',r'⟩:=hm;rw [ho] at ho';cases ho'
  exact ⟨_,es',ep',hL,r'⟩) hok I.bare
theorem Inv.call {g':Array GenState} {t':Nat} {d':Drawn} {ch:List Addr} (I:Inv X pins σ H s) (u:Un (frs X.stack) ch H H' s.heap h') (hok:HOk X.prog X.w H' h') (hg:AllBare g')
  (hch:∀b∈ch,(b∈X.ex\/X.s₀.heap.objs.size<=b)/\b≠X.env.locals/\(∀x c,X.env.cells.lookup x=some c->c≠b)/\∀p∈X.pn++pins,p.1≠b) :
  Inv X pins σ H' { s with heap:=h',gens:=g',drawn:=d',toks:=t' }:=by
 obtain ⟨m,⟨o,es,ep,ho,r⟩,_⟩:=id I.loc;obtain ⟨sl,hL⟩:=u.any ho I.free λz=>(hch _ z).2.1 rfl
 exact I.step (ch:=ch) hch (λb o hL hb hc e n=>u.keep b o e n (λz=>(Z0e.mp (I.stkSub b z)).elim hL hb) hc) (λb o _ _ hc e n=>u.any e n hc) (λb o hc e n=>u.free b o e n hc) (λb o hc e=>u.there b o e hc) u.tups u.frzs u.tbls (λm' hm=>by
  obtain ⟨o',es',ep',ho',r'⟩:=hm;rw [ho] at ho';cases ho'
  exact ⟨_,es',ep',hL,r'⟩) hok hg
theorem Inv.turned {t':Nat} {it:Addr} (I:Inv X pins σ H s) (k:∀b o,b≠it->s.heap.get? b=some o->h'.get? b=some o) (hn:H it=none) (hL:it≠X.env.locals)
  (h1:it∈X.ex\/X.s₀.heap.objs.size<=it) (h2:∀x c,X.env.cells.lookup x=some c->c≠it) (h3:∀p∈X.pn++pins,p.1≠it):Inv X pins σ H { s with heap:=h',toks:=t' }:=by
 have nit:∀b u,H b=some u->b≠it:=λb u e z=>by rw [z,hn] at e;cases e
 refine I.step (g':=s.gens) (d':=s.drawn) (ch:=[it]) (λb hb=> ?_) (λb o _ _ hc e _=>k b o (λz=>hc (by simp [z])) e) (λb o _ _ hc e _=>⟨o.slots,k b o (λz=>hc (by simp [z])) e⟩) (λ_ _ _ _ n=>n)
  (λb o hc e=>⟨o,k b o (λz=>hc (by simp [z])) e⟩) (λ_ _ e=>e) (λ_ _ _ e=>e) (λb ps e=>⟨#[],by rw [e];simp⟩) (λm hm=> ?_) (λb u e=> ?_) I.bare
 ·have e:b=it:=by simpa using hb
  subst e;exact ⟨h1,hL,h2,h3⟩
 ·obtain ⟨o,es,ep,ho,r⟩:=hm;exact ⟨o,es,ep,k _ o (Ne.symm hL) ho,r⟩
 ·refine (I.hok b u e).stay (λc v hc q=>k c v ?_ q) (λ_ q=>q) λ_ _ q=>q;rcases hc with z | z
  ·rw [z];exact nit b u e
  ·exact nit c _ z
theorem Inv.tok (I:Inv X pins σ H s) (t:Nat):Inv X pins σ H { s with toks:=t }:=I.un (h':=s.heap) (t':=t) Un.refl I.hok
theorem Inv.kept {t':Nat} (I:Inv X pins σ H s) (k:∀b u,s.heap.get? b=some u->h'.get? b=some u):Inv X pins σ H { s with heap:=h',toks:=t' }:=I.un (Un.kept k) (I.hok.kept k)
theorem Inv.laid {a:Addr} {o:HO} {t':Nat} (I:Inv X pins σ H s) (k:∀b u,s.heap.get? b=some u->h'.get? b=some u) (hp:s.heap.objs.size<=a) (new:A1y X.prog X.w (upd H a o) h' a o) :
  Inv X pins σ (upd H a o) { s with heap:=h',toks:=t' }:=I.un (Un.laid k hp (I.hok.fresh hp)) (I.hok.laid k hp new)
theorem Inv.write {x e:Addr} {o:HO} {t':Nat} (I:Inv X pins σ H s) (mu:Mut (H x)) (he:e=x\/H e=some (.own x)) (k:∀b u,b≠e->s.heap.get? b=some u->h'.get? b=some u) (heo:∃u,h'.get? e=some u)
  (new:A1y X.prog X.w (upd H x o) h' x o):Inv X pins σ (upd H x o) { s with heap:=h',toks:=t' }:=I.un (Un.write mu he k heo) (I.hok.write mu he k heo new)
theorem Inv.weak {σ':List (Option V)} (I:Inv X pins σ H s) (hl:σ'.length=σ.length) (w:∀(i:Nat) v,σ'[i]? =some (some v)->σ[i]? =some (some v)):Inv X pins σ' H s :=
 ⟨I.ok,I.os,I.bare,I.base,let ⟨m,hn,hl'⟩:=I.loc;⟨m,hn,λi x v e1 e2 e3=>hl' i x v e1 (w i v e2) e3⟩,I.cell,I.free,I.freeC,I.pin,I.hok,hl.trans I.len⟩
theorem Inv.pins_of {pins':List (Addr×Obj)} (I:Inv X pins σ H s) (h:∀p∈pins',s.heap.get? p.1=some p.2/\H p.1=none/\p.1≠X.env.locals/\p.1∉X.fs/\∀v,p.2.data≠.cell v):Inv X pins' σ H s :=
 ⟨I.ok,I.os,I.bare,I.base,I.loc,I.cell,I.free,I.freeC,λp hp=>(Z07.mp hp).elim (λz=>I.pin p (Z05 _ z)) (h p),I.hok,I.len⟩
theorem B6x {N:List Str} (hN:N.Nodup) {i j:Nat} {x:Str} (a:N[i]? =some x) (b:N[j]? =some x):i=j:=by
 obtain ⟨h1,e1⟩:=Z03.mp a;obtain ⟨h2,e2⟩:=Z03.mp b;exact (List.getElem_inj hN).mp (e1.trans e2.symm)
theorem B7z {M:Model} {A:Around} {E:Value->Shared->Prop} {i:Nat} {x:Str} {v:V} {u:Value} {Q:Unit->Shared->Prop} (I:Inv X pins σ H s) (hN:X.N.Nodup) (hi:X.N[i]? =some x) (hx:Loc X.env.scope x) (r:A2z v u)
  (h:∀s',Inv X pins (σ.set i (some v)) H s'->(∃a,Heap.SameBut a s.heap s'.heap/\(a=X.env.locals\/X.env.cells.lookup x=some a))->Q () s') (hf:X.fn x=true\/X.env.scope.names.lookup x=some .local:=by first | exact .inl rfl | exact .inr rfl | assumption):wpAny M A (storeName X.env x u) Q E s:=by
 obtain ⟨m,hn,hl⟩:=id I.loc;have hcls:(X.env.scope.kind == .class||(X.env.scope.kind == .module&&X.env.locals != X.env.globals))=false:=by rw [I.ok.kind];rfl
 have hiσ:i<σ.length:=by rw [I.len];exact (Z03.mp hi).1
 have cne:=I.cne
 have tracked:∀{a:Addr} {h':Heap},(∃o,s.heap.get? a=some o/\H a=none)->Heap.SameBut a s.heap h'->HOk X.prog X.w H h':=λ{a h'} ha hs b ob e=>by
  obtain ⟨_,_,hfree⟩:=ha;refine (I.hok b ob e).stay (λc w' hc q=>(hs.2 c ?_).trans q) (λ_ q=>q) λ_ _ q=>q;rintro rfl;rcases hc with rfl | hc
  ·rw [hfree] at e;cases e
  ·rw [hfree] at hc;cases hc
 rcases hx with hk | hk
 ·refine wpAny_storeName_local hk hn (λh' hn' hs=> ?_) hcls;obtain ⟨oL,_,_,hoL,_⟩:=id hn;refine h _ ⟨I.ok,I.os,I.bare,⟨λb o e n hb hx=> ?_,λb o e n hb hx=> ?_,I.base.free,λb o e hx=> ?_,I.base.tups,I.base.frzs,I.base.tbls⟩,⟨_,hn',λj y v' e1 e2 e3=> ?_⟩,λy c e=> ?_,I.free,I.freeC,λp hp=> ?_,tracked ⟨oL,hoL,I.free⟩ hs,by simpa using I.len⟩ ⟨_,hs,.inl rfl⟩
  ·exact (hs.2 b (Z0h (Z0q (Z0a e) I.ok.above))).trans (I.base.keep b o e n hb hx)
  ·obtain ⟨sl,e1⟩:=I.base.slot b o e n hb hx;exact ⟨sl,(hs.2 b (Z0h (Z0q (Z0a e) I.ok.above))).trans e1⟩
  ·obtain ⟨o',e1⟩:=I.base.there b o e hx;exact ⟨o',(hs.2 b (Z0h (Z0q (Z0a e) I.ok.above))).trans e1⟩
  ·by_cases hj:j=i
   ·subst hj;rw [hi] at e1;cases e1;rw [Z23 hiσ] at e2;cases e2;exact ⟨u,r,.inl ⟨hk,by simp⟩⟩
   ·rw [Z2a (Ne.symm hj)] at e2;obtain ⟨u',r',q⟩:=hl j y v' e1 e2 e3;refine ⟨u',r',?_⟩;rcases q with ⟨k,e⟩ | ⟨k,c,e,z⟩
    ·refine .inl ⟨k,?_⟩;have:y≠x:=λe=>hj (B6x hN e1 (e▸hi));simp [this,e]
    ·exact .inr ⟨k,c,e,z.sameBut hs (cne y c e)⟩
  ·obtain ⟨w',z⟩:=I.cell y c e;exact ⟨w',z.sameBut hs (cne y c e)⟩
  ·obtain ⟨e,n,ne,nf,d⟩:=I.pin p hp;exact ⟨(hs.2 p.1 ne).trans e,n,ne,nf,d⟩
 ·have hfn:X.fn x=true:=by
   rcases hf with z | z
   ·exact z
   ·rw [z] at hk;cases hk
  obtain ⟨c,hc⟩:=I.ok.has x (.inl hk);obtain ⟨w',z⟩:=I.cell x c hc;refine wpAny_storeName_cell I.ok.kind hk hc z (λh' hc' hs=> ?_);obtain ⟨oc,hoc,hocd⟩:=id z;refine h { s with heap:=h' } ⟨I.ok,I.os,I.bare,⟨λb o e n hb hx=> ?_,λb o e n hb hx=> ?_,I.base.free,λb o e hx=> ?_,I.base.tups,I.base.frzs,I.base.tbls⟩,⟨m,hn.sameBut hs (Ne.symm (cne x c hc)),λj y v' e1 e2 e3=> ?_⟩,λy c' e=> ?_,I.free,I.freeC,λp hp=> ?_,tracked ⟨oc,hoc,I.freeC x c hc⟩ hs,by simpa using I.len⟩ ⟨c,hs,.inr hc⟩
  ·exact (hs.2 b (Z0h (Z0q (Z0a e) (I.ok.cab x c hfn hc)))).trans (I.base.keep b o e n hb hx)
  ·obtain ⟨sl,e1⟩:=I.base.slot b o e n hb hx;exact ⟨sl,(hs.2 b (Z0h (Z0q (Z0a e) (I.ok.cab x c hfn hc)))).trans e1⟩
  ·obtain ⟨o',e1⟩:=I.base.there b o e hx;exact ⟨o',(hs.2 b (Z0h (Z0q (Z0a e) (I.ok.cab x c hfn hc)))).trans e1⟩
  ·by_cases hj:j=i
   ·subst hj;rw [hi] at e1;cases e1;rw [Z23 hiσ] at e2;cases e2;exact ⟨u,r,.inr ⟨.inl hk,c,hc,hc'⟩⟩
   ·rw [Z2a (Ne.symm hj)] at e2;obtain ⟨u',r',q⟩:=hl j y v' e1 e2 e3;refine ⟨u',r',?_⟩;rcases q with q | ⟨k,c',e,z'⟩
    ·exact .inl q
    ·refine .inr ⟨k,c',e,z'.sameBut hs ?_⟩;rintro rfl;exact hj (B6x hN e1 (I.ok.inj _ _ _ e hc▸hi))
  ·by_cases hcc:c'=c
   ·subst hcc;exact ⟨_,hc'⟩
   ·obtain ⟨w2,z2⟩:=I.cell y c' e;exact ⟨w2,z2.sameBut hs hcc⟩
  ·obtain ⟨e,n,ne,nf,d⟩:=I.pin p hp;refine ⟨(hs.2 p.1 ?_).trans e,n,ne,nf,d⟩;intro q;rw [q,hoc] at e;have q':oc=p.2:=Z1a e;exact d w' (by rw [<-q'];exact hocd)
theorem A8l {M:Model} {A:Around} {E:Value->Shared->Prop} {i:Nat} {x:Str} {v:V} {u:Value} {Q:Unit->Shared->Prop} (I:Inv X pins σ H s) (hN:X.N.Nodup) (hi:X.N[i]? =some x) (hx:Loc X.env.scope x) (r:A2z v u)
  (h:∀s',Inv X pins (σ.set i (some v)) H s'->Q () s') (hf:X.fn x=true\/X.env.scope.names.lookup x=some .local:=by first | exact .inl rfl | exact .inr rfl | assumption):wpAny M A (storeName X.env x u) Q E s :=
 B7z I hN hi hx r (λs' I' _=>h s' I') hf
theorem Inv.call' {s':Shared} {ch:List Addr} (I:Inv X pins σ H s) (ho:s'.os=s.os) (u:Un (frs X.stack) ch H H' s.heap s'.heap) (hok:HOk X.prog X.w H' s'.heap) (hg:AllBare s'.gens)
  (hch:∀b∈ch,(b∈X.ex\/X.s₀.heap.objs.size<=b)/\b≠X.env.locals/\(∀x c,X.env.cells.lookup x=some c->c≠b)/\∀p∈X.pn++pins,p.1≠b):Inv X pins σ H' s':=by
 obtain ⟨h',g',d',t',o'⟩:=s';have e:o'=s.os:=ho;subst e;exact I.call (g':=g') (t':=t') (d':=d') u hok hg hch
end
abbrev XK:=Value->Option Addr->Hp->Prop
abbrev St:=List (Option V)
abbrev VK:=V->Hp->Prop
abbrev TE:=St->Hp->VK->Prop
abbrev TT:=St->Hp->(Bool->Hp->Prop)->Prop
abbrev TA:=St->Hp->(List V->Hp->Prop)->Prop
structure B7w where
 nx:St->Hp->Prop
 rt:VK
 bk:St->Hp->Prop:=λ_ _=>False
 ct:St->Hp->Prop:=λ_ _=>False
abbrev TS:=B7w->St->Hp->Prop
def EP (X:Cx) (pins:List (Addr×Obj)) (σ:St) (Q:VK) (u:Value) (s':Shared):Prop:=∃v H',Inv X pins σ H' s'/\A2z v u/\Q v H'
def TP (X:Cx) (pins:List (Addr×Obj)) (σ:St) (Q:Bool->Hp->Prop) (b:Bool) (s':Shared):Prop:=∃H',Inv X pins σ H' s'/\Q b H'
def AP (X:Cx) (pins:List (Addr×Obj)) (σ:St) (Q:List V->Hp->Prop) (us:List Value) (s':Shared):Prop:=∃vs H',Inv X pins σ H' s'/\A2u vs us/\Q vs H'
def SP (X:Cx) (pins:List (Addr×Obj)) (D:B7w) (f:Flow) (s':Shared):Prop :=
 match f with
 | .next=>∃σ' H',Inv X pins σ' H' s'/\D.nx σ' H'
 | .brk=>∃σ' H',Inv X pins σ' H' s'/\D.bk σ' H'
 | .cont=>∃σ' H',Inv X pins σ' H' s'/\D.ct σ' H'
 | .ret u=>∃v σ' H',Inv X pins σ' H' s'/\A2z v u/\D.rt v H'
def PE (X:Cx) (e:Expr) (t:TE):Prop :=
 ∀(pins:List (Addr×Obj)) (s:Shared) (σ:St) (H:Hp) (Q:VK),Inv X pins σ H s->t σ H Q->wpAny (model X.prog X.w) X.A (eval e X.env) (EP X pins σ Q) X.xe s
def PT (X:Cx) (e:Expr) (t:TT):Prop :=
 ∀(pins:List (Addr×Obj)) (s:Shared) (σ:St) (H:Hp) (Q:Bool->Hp->Prop),Inv X pins σ H s->t σ H Q->wpAny (model X.prog X.w) X.A (isTrue e X.env (eval e X.env)) (TP X pins σ Q) X.xe s
def PW (X:Cx) (e:Expr) (t:TT):Prop :=
 ∀(whole:Sem Value) (pins:List (Addr×Obj)) (s:Shared) (σ:St) (H:Hp) (Q:Bool->Hp->Prop),Inv X pins σ H s->t σ H Q->wpAny (model X.prog X.w) X.A (isTrue e X.env whole) (TP X pins σ Q) X.xe s
theorem PW.pt {X:Cx} {e:Expr} {t:TT} (h:PW X e t):PT X e t:=h _
def PA (X:Cx) (es:List Expr) (t:TA):Prop :=
 ∀(pos:Pos) (pins:List (Addr×Obj)) (s:Shared) (σ:St) (H:Hp) (Q:List V->Hp->Prop),Inv X pins σ H s->t σ H Q->wpAny (model X.prog X.w) X.A (spliced (backTo pos (starEach es X.env))) (AP X pins σ Q) X.xe s
def PS (X:Cx) (st:Stmt) (t:TS):Prop :=
 ∀(pins:List (Addr×Obj)) (s:Shared) (σ:St) (H:Hp) (D:B7w),Inv X pins σ H s->t D σ H->wpAny (model X.prog X.w) X.A (exec st X.env) (SP X pins D) X.xe s
def PSs (X:Cx) (st:List Stmt) (t:TS):Prop :=
 ∀(pins:List (Addr×Obj)) (s:Shared) (σ:St) (H:Hp) (D:B7w),Inv X pins σ H s->t D σ H->wpAny (model X.prog X.w) X.A (execs st X.env) (SP X pins D) X.xe s
theorem thn {α:Type} {t:Sem α} {Q Q':α->Shared->Prop} {M:Model} {A:Around} {E:Value->Shared->Prop} {s:Shared} (h:wpAny M A t Q E s) (hQ:∀a s,Q a s->Q' a s):wpAny M A t Q' E s:=Z10 h hQ λ_ _ x=>x
section
variable {X:Cx}
def D8c (i:Nat):TE:=λσ H Q=>∃v,σ[i]? =some (some v)/\Q v H
def tC (v:V):TE:=λ_ H Q=>Q v H
theorem D7p {i:Nat} {x:Str} {pos:Pos} (hN:X.N[i]? =some x) (hv:Vis X.env.scope x) (hd:(x == ("__debug__":Str))=false:=by decide) (hcd:(x == ("__classdict__":Str))=false:=by decide):PE X (.Name x pos) (D8c i):=by
 intro pins s σ H Q I h;obtain ⟨v,e,h⟩:=h;obtain ⟨m,hn,hl⟩:=I.loc;obtain ⟨u,r,l⟩:=hl i x v hN e hv;have fin:EP X pins σ Q u s:=⟨v,H,I,r,h⟩;rcases l with ⟨hk,hm⟩ | ⟨hk,c,hc,hcell⟩
 ·exact wpAny_Name (wpAny_loadName_local I.ok.kind hk hn hm fin) hd
 ·rcases hk with hk | hk
  ·exact wpAny_Name (wpAny_loadName_cell I.ok.kind hk hc hcell fin) hd
  ·exact wpAny_Name (wpAny_loadName_free I.ok.kind hk hc hcell fin hcd) hd
theorem A0j {i j pos}:PE X (.Constant (.int i) j pos) (tC (.int i)):=λ_ _ _ H _ I h=>wpAny_Constant_int ⟨.int i,H,I.tok _,⟨_,rfl⟩,h⟩
theorem B3d {b j pos}:PE X (.Constant (.bool b) j pos) (tC (.bl b)):=λ_ _ _ H _ I h=>Constant_bool ⟨.bl b,H,I,rfl,h⟩
theorem B8c {j pos}:PE X (.Constant .none j pos) (tC .non):=λ_ _ _ H _ I h=>Constant_none ⟨.non,H,I,rfl,h⟩
theorem A3a {x j pos}:PE X (.Constant (.str x) j pos) (tC (.str x)):=λ_ _ _ H _ I h=>Calls.Constant_str ⟨.str x,H,I.tok _,⟨_,rfl⟩,h⟩
def Gl (X:Cx) (x:Str):Prop:=X.env.kindOf x=some .globalImplicit
theorem A5g {E:Value->Shared->Prop} {pins:List (Addr×Obj)} {s:Shared} {σ:St} {H:Hp} {x:Str} {u:Value} {pos:Pos} {Q:Value->Shared->Prop} (I:Inv X pins σ H s) (hg:Gl X x) (hm:X.mg x=some u) (h:Q u s)
  (hd:(x == ("__debug__":Str))=false:=by decide):wpAny (model X.prog X.w) X.A (eval (.Name x pos) X.env) Q E s :=
 Calls.Name_function_global I.ok.kind hg (Calls.loadGlobal_global (by rw [I.ok.glob];exact I.mod.glob.keeps I.bk) hm h) hd
theorem A7f {E:Value->Shared->Prop} {pins:List (Addr×Obj)} {s:Shared} {σ:St} {H:Hp} {x:Str} {u:Value} {pos:Pos} {Q:Value->Shared->Prop} (I:Inv X pins σ H s) (hg:Gl X x) (hm:X.mg x=none) (hv:bootBuiltins x=some u) (h:Q u s)
  (hn:x≠"__name__":=by decide) (hd:(x == ("__debug__":Str))=false:=by decide):wpAny (model X.prog X.w) X.A (eval (.Name x pos) X.env) Q E s:=by
 obtain ⟨mb,h1,h2⟩:=I.mod.blt;exact Calls.Name_function_global I.ok.kind hg (Calls.loadGlobal_builtin (by rw [I.ok.glob];exact I.mod.glob.keeps I.bk) hm (by rw [I.ok.blt];exact h1.keeps I.bk) ((h2 x hn).trans hv) h) hd
theorem A3t {x:Str} {v:V} {u:Value} {pos:Pos} (hg:Gl X x) (hm:X.mg x=some u) (r:A2z v u) (hd:(x == ("__debug__":Str))=false:=by decide):PE X (.Name x pos) (tC v) :=
 λ_ _ _ H _ I h=>A5g I hg hm ⟨v,H,I,r,h⟩ hd
theorem A4g {x:Str} {v:V} {u:Value} {pos:Pos} (hg:Gl X x) (hm:X.mg x=none) (hv:bootBuiltins x=some u) (r:A2z v u) (hn:x≠"__name__":=by decide) (hd:(x == ("__debug__":Str))=false:=by decide):PE X (.Name x pos) (tC v) :=
 λ_ _ _ H _ I h=>A7f I hg hm hv ⟨v,H,I,r,h⟩ hn hd
variable {a b:Expr} {ta tb:TE} {pos:Pos}
def PC (X:Cx) (op:CmpOp) (a b:Expr) (t:TE):Prop :=
 ∀(pins:List (Addr×Obj)) (s:Shared) (σ:St) (H:Hp) (Q:VK),Inv X pins σ H s->t σ H Q->
  wpAny (model X.prog X.w) X.A (eval a X.env) (λv s₁=>wpAny (model X.prog X.w) X.A (eval b X.env) (λu s₂=>wpAny (model X.prog X.w) X.A (compareOp op v u) (EP X pins σ Q) X.xe s₂) X.xe s₁) X.xe s
def tB (t:TE):TT:=λσ H Q=>t σ H λx H1=>∃c,x= .bl c/\Q c H1
theorem D5c {op:CmpOp} {t:TE} (h:PC X op a b t) (h1:behindInMarks op b=false:=by first | exact nobehind _ (by decide) (by decide) | rfl):PT X (.Compare a [op] [b] pos) (tB t):=by
 intro pins s σ H Q I hw;refine wpAny_isTrue_Compare1 (thn (h pins s σ H _ I hw) λv s1 h1=>thn h1 λu s2 h2=>thn h2 λc s3 ⟨x,H1,I1,r1,q1⟩=> ?_) h1;obtain ⟨d,rfl,q⟩:=q1;cases r1;exact wpAny_truthy_bool ⟨H1,I1,q⟩
theorem A2g {e:Expr} {t:TE} (h:PE X e t) (he:∀whole,isTrue e X.env whole=(do let v<-whole;standAt e.pos;holding [v] (truthy v)):=by intro _;rfl):PT X e (tB t):=by
 intro pins s σ H Q I hw;refine isTrue_plain (thn (h pins s σ H _ I hw) λv s1 ⟨x,H1,I1,r1,q1⟩=> ?_) (he _);obtain ⟨d,rfl,q⟩:=q1;cases r1;exact wpAny_truthy_bool ⟨H1,I1,q⟩
variable {tA tB':TT} {rest:List Expr}
def D8m (t u:TT):TT:=λσ H Q=>t σ H λc H1=>if c=true then u σ H1 Q else Q false H1
def tOr (t u:TT):TT:=λσ H Q=>t σ H λc H1=>if c=true then Q true H1 else u σ H1 Q
def tNot (t:TT):TT:=λσ H Q=>t σ H λc H1=>Q (!c) H1
theorem B0y (ha:PT X a tA):PW X (.BoolOp .And [a] pos) tA:=by
 intro wh pins s σ H Q I h;refine isTrue_and (thn (ha pins s σ H Q I h) λc s1 e=> ?_)
 cases c with
 | true=>exact isTrue_and_nil e
 | false=>exact e
theorem B5o (ha:PT X a tA):PW X (.BoolOp .Or [a] pos) tA:=by
 intro wh pins s σ H Q I h;refine isTrue_or (thn (ha pins s σ H Q I h) λc s1 e=> ?_)
 cases c with
 | false=>exact isTrue_or_nil e
 | true=>exact e
theorem B2r (ha:PT X a tA) (hb:PW X (.BoolOp .And (b::rest) pos) tB'):PW X (.BoolOp .And (a::b::rest) pos) (D8m tA tB'):=by
 intro wh pins s σ H Q I h;refine isTrue_and (thn (ha pins s σ H _ I h) λc s1 ⟨H1,I1,q1⟩=> ?_)
 cases c with
 | true=>exact hb wh pins s1 σ H1 Q I1 q1
 | false=>exact ⟨H1,I1,q1⟩
theorem B6k (ha:PT X a tA) (hb:PW X (.BoolOp .Or (b::rest) pos) tB'):PW X (.BoolOp .Or (a::b::rest) pos) (tOr tA tB'):=by
 intro wh pins s σ H Q I h;refine isTrue_or (thn (ha pins s σ H _ I h) λc s1 ⟨H1,I1,q1⟩=> ?_)
 cases c with
 | true=>exact ⟨H1,I1,q1⟩
 | false=>exact hb wh pins s1 σ H1 Q I1 q1
theorem B2m (ha:PT X a tA):PT X (.UnaryOp .Not a pos) (tNot tA):=by
 intro pins s σ H Q I h;exact isTrue_not (ha pins s σ H (λc H1=>Q (!c) H1) I h)
def E0a (ta tb:TE):TE:=λσ H Q=>ta σ H λx H1=>∃c,x= .bl c/\if c=true then tb σ H1 Q else Q (.bl false) H1
def D9z (ta:TE):TE:=λσ H Q=>ta σ H λx H1=>∃c,x= .bl c/\Q (.bl (!c)) H1
theorem B5s {op} {t:TE} (h:PE X a t):PE X (.BoolOp op [a] pos) t:=λpins s σ H Q I hw=>BoolOp_one (h pins s σ H Q I hw)
theorem A9s (ha:PE X a ta) (hb:PE X (.BoolOp .And (b::rest) pos) tb):PE X (.BoolOp .And (a::b::rest) pos) (E0a ta tb):=by
 intro pins s σ H Q I h;refine BoolOp_and (thn (ha pins s σ H _ I h) λv s1 ⟨x,H1,I1,r1,q1⟩=> ?_);obtain ⟨c,rfl,q1⟩:=q1;cases r1;refine wpAny_truthy_bool ?_
 cases c with
 | true=>exact hb pins s1 σ H1 Q I1 q1
 | false=>exact ⟨.bl false,H1,I1,rfl,q1⟩
theorem D1c (ha:PE X a ta):PE X (.UnaryOp .Not a pos) (D9z ta):=by
 intro pins s σ H Q I h;refine UnaryOp_ (thn (ha pins s σ H _ I h) λv s1 ⟨x,H1,I1,r1,q1⟩=> ?_);obtain ⟨c,rfl,q1⟩:=q1;cases r1;exact not_of (wpAny_truthy_bool ⟨.bl (!c),H1,I1,rfl,q1⟩)
end
def SqL (K:PySem.W.Frag) (H:Hp) (a:Addr) (xs:List V):Prop :=
 Rd H a (.lst xs)\/
  ∃(o:Obj) (its:Array Value) (n:Nat),K.lookup a=some o/\o.cls= .type "list"/\o.dict=none/\o.data= .seq its n/\its.size<=sizeLine/\A2u xs its.toList
def SqT (K:PySem.W.Frag) (H:Hp) (a:Addr) (xs:List V):Prop :=
 Rd H a (.tup xs)\/
  ∃(o:Obj) (its:Array Value) (n:Nat),K.lookup a=some o/\o.cls= .type "tuple"/\o.data= .seq its n/\its.size<=sizeLine/\A2u xs its.toList
def absV:Value->Option V
 | .none=>some .non
 | .bool b=>some (.bl b)
 | .int i _=>some (.int i)
 | .str x _=>some (.str x)
 | .bytes b _=>some (.byt b)
 | .float b _=>some (.flt b)
 | .ref a=>some (.ref a)
 | .type n=>some (.ty n)
 | _=>none
theorem A2z.abs {x:V} {u:Value} (r:A2z x u):absV u=some x:=by
 cases x with
 | non=>cases r;rfl
 | bl _=>cases r;rfl
 | int _=>obtain ⟨t,rfl⟩:=r;rfl
 | str _=>obtain ⟨t,rfl⟩:=r;rfl
 | byt _=>obtain ⟨t,rfl⟩:=r;rfl
 | flt _=>obtain ⟨t,rfl⟩:=r;rfl
 | ref _=>cases r;rfl
 | ty _=>cases r;rfl
theorem A2z.inj {x y:V} {u:Value} (r:A2z x u) (q:A2z y u):x=y:=Z1a (r.abs.symm.trans q.abs)
theorem A2u.inj:∀{xs ys:List V} {us:List Value},A2u xs us->A2u ys us->xs=ys
 | _,_,_,.nil,.nil=>rfl
 | _,_,_,.cons r t,.cons r' t'=>by rw [r.inj r',A2u.inj t t']
section
variable {X:Cx} {pins:List (Addr×Obj)} {σ:St} {H:Hp} {s:Shared} {a:Addr} {xs ys:List V}
theorem SqL.of {K:PySem.W.Frag} (h:H a=some (.lst xs)):SqL K H a xs:= .inl (.inl h)
theorem SqT.of {K:PySem.W.Frag} (h:H a=some (.tup xs)):SqT K H a xs:= .inl (.inl h)
theorem Inv.list (I:Inv X pins σ H s) (h:SqL X.K H a xs):∃its:List Value,A2u xs its/\PlainL s.heap a its.toArray/\xs.length<=sizeLine:=by
 rcases h with h | ⟨o,its,n,hk,hc,hd,hs,hz,r⟩
 ·obtain ⟨z,its,n,r,e⟩:=h.ok I.hok;exact ⟨its,r,⟨_,n,e,rfl,rfl,rfl⟩,z⟩
 ·refine ⟨its.toList,r,⟨o,n,I.kIn a o hk,hc,hd,by simpa using hs⟩,?_⟩;have e:=r.length;simp only [Array.length_toList] at e
  lia
theorem Inv.tuple (I:Inv X pins σ H s) (h:SqT X.K H a xs):∃its:List Value,A2u xs its/\IsTup s.heap a its.toArray/\xs.length<=sizeLine:=by
 rcases h with h | ⟨o,its,n,hk,hc,hs,hz,r⟩
 ·obtain ⟨z,its,r,p⟩:=h.ok I.hok;exact ⟨its,r,p,z⟩
 ·refine ⟨its.toList,r,⟨o,I.kIn a o hk,hc,n,by simpa using hs⟩,?_⟩;have e:=r.length;simp only [Array.length_toList] at e
  lia
theorem Inv.list_inj (I:Inv X pins σ H s) (h:SqL X.K H a xs) (h':SqL X.K H a ys):xs=ys:=by
 obtain ⟨its,r,⟨o,n,e,_,_,d⟩,_⟩:=I.list h;obtain ⟨its',r',⟨o',n',e',_,_,d'⟩,_⟩:=I.list h';rw [e] at e';cases e';rw [d] at d';injection d' with d1 _;have:its=its':=by simpa using congrArg Array.toList d1
 subst this;exact r.inj r'
theorem Inv.tuple_inj (I:Inv X pins σ H s) (h:SqT X.K H a xs) (h':SqT X.K H a ys):xs=ys:=by
 obtain ⟨its,r,⟨o,e,_,n,d⟩,_⟩:=I.tuple h;obtain ⟨its',r',⟨o',e',_,n',d'⟩,_⟩:=I.tuple h';rw [e] at e';cases e';rw [d] at d';injection d' with d1 _;have:its=its':=by simpa using congrArg Array.toList d1
 subst this;exact r.inj r'
end
abbrev Cx.wish (X:Cx) (E:Value->Shared->Prop):Cx:={ X with xe:=E }
abbrev Cx.nox (X:Cx):Cx:=X.wish λ_ _=>False
theorem Cx.Ok.wish {X:Cx} (ok:X.Ok) (E:Value->Shared->Prop):(X.wish E).Ok :=
 ⟨ok.mod,ok.kind,ok.glob,ok.blt,ok.above,ok.inj,ok.has,ok.cab,ok.hd,ok.frames,ok.stk,ok.exf,ok.bs,ok.bsz,ok.noex,ok.exfs,ok.funs,ok.frf⟩
theorem Cx.Ok.unwish {X:Cx} {E:Value->Shared->Prop} (ok:(X.wish E).Ok):X.Ok :=
 ⟨ok.mod,ok.kind,ok.glob,ok.blt,ok.above,ok.inj,ok.has,ok.cab,ok.hd,ok.frames,ok.stk,ok.exf,ok.bs,ok.bsz,ok.noex,ok.exfs,ok.funs,ok.frf⟩
section
variable {X:Cx} {pins:List (Addr×Obj)} {σ:St} {H:Hp} {s:Shared} {E:Value->Shared->Prop}
theorem Inv.wish (I:Inv X pins σ H s) (E:Value->Shared->Prop):Inv (X.wish E) pins σ H s:=⟨I.ok.wish E,I.os,I.bare,I.base,I.loc,I.cell,I.free,I.freeC,I.pin,I.hok,I.len⟩
theorem Inv.unwish (I:Inv (X.wish E) pins σ H s):Inv X pins σ H s:=⟨I.ok.unwish,I.os,I.bare,I.base,I.loc,I.cell,I.free,I.freeC,I.pin,I.hok,I.len⟩
theorem SP.unwish {D:B7w} {f:Flow} {s':Shared} (h:SP (X.wish E) pins D f s'):SP X pins D f s':=by
 cases f with
 | next=>obtain ⟨σ',H',I,q⟩:=h;exact ⟨σ',H',I.unwish,q⟩
 | brk=>obtain ⟨σ',H',I,q⟩:=h;exact ⟨σ',H',I.unwish,q⟩
 | cont=>obtain ⟨σ',H',I,q⟩:=h;exact ⟨σ',H',I.unwish,q⟩
 | ret u=>obtain ⟨v,σ',H',I,r,q⟩:=h;exact ⟨v,σ',H',I.unwish,r,q⟩
theorem PSs.nox {st:List Stmt} {t:TS} (h:PSs X.nox st t):PSs X st t:=λpins s σ H D I hw =>
 Z10 (h pins s σ H D (I.wish _) hw) (λ_ _ q=>q.unwish) λ_ _ z=>False.elim z
end
section
variable {X:Cx} {st:Stmt} {rest:List Stmt} {t u:TS} {e:Expr} {te:TE} {pos:Pos}
def D9h:TS:=λD σ H=>D.nx σ H
def tSeq (t u:TS):TS:=λD σ H=>t { D with nx:=u D } σ H
theorem A0v:PSs X [] D9h:=λ_ _ σ H _ I h=>Z2b ⟨σ,H,I,h⟩
theorem A0c (h1:PS X st t) (h2:PSs X rest u):PSs X (st::rest) (tSeq t u):=by
 intro pins s σ H D I h;refine wpAny_execs_cons (thn (h1 pins s σ H { D with nx:=u D } I h) λf s1 q=> ?_)
 cases f with
 | next =>
  obtain ⟨σ',H',I',q⟩:=q;exact h2 pins s1 σ' H' D I' q
 | ret v=>exact q
 | brk=>exact q
 | cont=>exact q
theorem A0e (h1:PS X st t):PSs X [st] t:=by
 intro pins s σ H D I h;refine wpAny_execs_cons (thn (h1 pins s σ H D I h) λf s1 q=> ?_)
 cases f with
 | next=>exact Z2b q
 | ret v=>exact q
 | brk=>exact q
 | cont=>exact q
theorem Inv.quiet {pins:List (Addr×Obj)} {σ:St} {H:Hp} {s:Shared} (I:Inv X pins σ H s):interactive X.env=false:=by simp [interactive,I.ok.kind]
def D8s (te:TE):TS:=λD σ H=>te σ H λ_ H1=>D.nx σ H1
theorem A2a (he:PE X e te) (hs:swapsWith e none pos.line X.env=pure false:=by rfl):PS X (.Expr e pos) (D8s te):=by
 intro pins s σ H D I h;exact wpAny_Expr_any (thn (he pins s σ H _ I h) λv s1 ⟨x,H1,I1,r1,q1⟩=>⟨σ,H1,I1,q1⟩) I.quiet hs
def tRet (te:TE):TS:=λD σ H=>te σ H D.rt
theorem A0y (he:PE X e te):PS X (.Return (some e) pos) (tRet te):=by
 intro pins s σ H D I h;exact wpAny_Return_some (thn (he pins s σ H _ I h) λv s1 ⟨x,H1,I1,r1,q1⟩=>⟨x,σ,H1,I1,r1,q1⟩)
def E0o (c:TT) (t u:TS):TS:=λD σ H=>c σ H λb H1=>if b=true then t D σ H1 else u D σ H1
theorem A1s {c:Expr} {a b:List Stmt} {tc:TT} (hc:PT X c tc) (ha:PSs X a t) (hb:PSs X b u):PS X (.If c a b pos) (E0o tc t u):=by
 intro pins s σ H D I h;refine wpAny_If (thn (hc pins s σ H _ I h) λd s1 ⟨H1,I1,q1⟩=> ?_)
 cases d with
 | true=>exact ha pins s1 σ H1 D I1 q1
 | false=>exact hb pins s1 σ H1 D I1 q1
def D7g:TS:=λ_ _ _=>False
theorem B2j:PS X st D7g:=λ_ _ _ _ _ _ h=>h.elim
end
abbrev TG:=V->St->Hp->(St->Hp->Prop)->Prop
abbrev TGs:=List V->St->Hp->(St->Hp->Prop)->Prop
def PG (X:Cx) (target:Expr) (t:TG):Prop :=
 ∀(pins:List (Addr×Obj)) (s:Shared) (σ:St) (H:Hp) (v:V) (u:Value) (Q:St->Hp->Prop),Inv X pins σ H s->A2z v u->t v σ H Q->
  wpAny (model X.prog X.w) X.A (assign target X.env u) (λ_ s'=>∃σ' H',Inv X pins σ' H' s'/\Q σ' H') X.xe s
def PGs (X:Cx) (ts:List Expr) (t:TGs):Prop :=
 ∀(pins:List (Addr×Obj)) (s:Shared) (σ:St) (H:Hp) (vs:List V) (us:List Value) (Q:St->Hp->Prop),Inv X pins σ H s->A2u vs us->t vs σ H Q->
  wpAny (model X.prog X.w) X.A (assignInOrder ((assignEach ts X.env).map (·.2)) us) (λ_ s'=>∃σ' H',Inv X pins σ' H' s'/\Q σ' H') X.xe s
section
variable {X:Cx} {pos:Pos}
def A8b (i:Nat):TG:=λv σ H Q=>Q (σ.set i (some v)) H
theorem A0m {i:Nat} {x:Str} (hN:X.N.Nodup) (hi:X.N[i]? =some x) (hx:Loc X.env.scope x) (hf:X.fn x=true\/X.env.scope.names.lookup x=some .local:=by first | exact .inl rfl | exact .inr rfl | assumption):PG X (.Name x pos) (A8b i):=by
 intro pins s σ H v u Q I r h;exact wpAny_assign_Name (A8l I hN hi hx r (λs' I'=>⟨_,H,I',h⟩) hf)
def D2k:TGs:=λvs σ H Q=>vs=[]/\Q σ H
def B0u (t:TG) (u:TGs):TGs:=λvs σ H Q=>∃v r,vs=v::r/\t v σ H λσ' H'=>u r σ' H' Q
theorem A2q:PGs X [] D2k:=by
 intro pins s σ H vs us Q I r h;obtain ⟨e,h⟩:=h;subst e;cases r;exact assignInOrder_nil ⟨σ,H,I,h⟩
theorem A0u {e:Expr} {es:List Expr} {t:TG} {u:TGs} (h1:PG X e t) (h2:PGs X es u)
  (hs:(assignEach (e::es) X.env).map (·.2)=assign e X.env::(assignEach es X.env).map (·.2):=by rfl):PGs X (e::es) (B0u t u):=by
 intro pins s σ H vs us Q I r h;obtain ⟨v,vr,e1,h⟩:=h;subst e1
 cases r with
 | cons r rr =>
  rw [hs];refine assignInOrder_cons (thn (h1 pins s σ H _ _ _ I r h) λ_ s1 ⟨σ1,H1,I1,q1⟩=> ?_);exact h2 pins s1 σ1 H1 _ _ Q I1 rr q1
def D4s (K:PySem.W.Frag) (n:Nat) (t:TGs):TG:=λv σ H Q=>∃a xs,v= .ref a/\SqT K H a xs/\xs.length=n/\t xs σ H Q
theorem A4j {es:List Expr} {k:Nat} {t:TGs} {n:Nat} (hc:X.calm=true) (h:PGs X es t)
  (hn:(assignEach es X.env).length=n:=by rfl) (hst:(assignEach es X.env).findIdx? (·.1)=none:=by rfl):PG X (.Tuple es k pos) (D4s X.K n t):=by
 intro pins s σ H v u Q I r hw;obtain ⟨a,xs,e1,hq,hl,hw⟩:=hw;subst e1;cases r;obtain ⟨its,rv,ht,hz⟩:=I.tuple hq;refine assign_Tuple_tuple (I.ok.hd hc) ht (by simp [hn,<-hl,rv.length]) hst λh' hx=> ?_;have I1:Inv X pins σ H { s with heap:=h' }:=I.kept (t':=s.toks) λb o e=>hx b o (Z0h (Z0a e)) e
 exact h pins _ σ H xs _ Q I1 (by simpa using rv) hw
def D8n (te:TE) (g:TG):TS:=λD σ H=>te σ H λx H1=>g x σ H1 D.nx
theorem D7z {tg e:Expr} {te:TE} {g:TG} (he:PE X e te) (hg:PG X tg g) (hs:swapsWithSole [tg] e pos.line X.env=pure false:=by rfl) (hw:swappedStores [tg] e X.env=pure none:=by rfl)
  (h1:(assignEach [tg] X.env).map (·.2)=[assign tg X.env]:=by rfl):PS X (.Assign [tg] e pos) (D8n te g):=by
 intro pins s σ H D I h;refine wpAny_Assign_stores (thn (he pins s σ H _ I h) λv s1 ⟨x,H1,I1,r1,q1⟩=> ?_) hs hw;rw [h1];exact thn (hg pins s1 σ H1 x v _ I1 r1 q1) λ_ s2 q=>q
theorem A0p {i:Nat} {x:Str} {e:Expr} {te:TE} {pos':Pos} (hN:X.N.Nodup) (hi:X.N[i]? =some x) (hx:Loc X.env.scope x) (he:PE X e te) (hs:swapsWith e (some (.Name x pos')) pos.line X.env=pure false:=by rfl) (hf:X.fn x=true\/X.env.scope.names.lookup x=some .local:=by first | exact .inl rfl | exact .inr rfl | assumption) :
  PS X (.Assign [.Name x pos'] e pos) (D8n te (A8b i)):=by
 intro pins s σ H D I h;refine wpAny_Assign_Name (thn (he pins s σ H _ I h) λv s1 ⟨y,H1,I1,r1,q1⟩=> ?_) hs;exact A8l I1 hN hi hx r1 (λs2 I2=>⟨_,H1,I2,q1⟩) hf
def D7m (c:TT) (tb:TS):TS:=λD σ H=>∃W:Nat->St->Hp->Prop,(∃m,W m σ H)/\∀m σ H,W m σ H->
 c σ H λb H1=>if b=true then∃N:St->Hp->Prop,(∀σ' H',N σ' H'->∃m',m'<m/\W m' σ' H')/\tb { D with nx:=N,ct:=N,bk:=D.nx } σ H1 else D.nx σ H1
theorem D0j {c:Expr} {body:List Stmt} {tc:TT} {tb:TS} (hp:PassesOwn (model X.prog X.w) X.A X.env X.xe) (hc:PT X c tc) (hb:PSs X body tb):PS X (.While c body [] pos) (D7m tc tb):=by
 intro pins s σ H D I h;obtain ⟨W,⟨m0,w0⟩,turn⟩:=h;refine wpAny_While (codeAny_whileLoop (λn s'=>∃σ' H',Inv X pins σ' H' s'/\W n σ' H') ?_ m0 ⟨σ,H,I,w0⟩);rintro n s1 ⟨σ1,H1,I1,w1⟩;refine wpAny_passesOwn hp (thn (hc pins s1 σ1 H1 _ I1 (turn n σ1 H1 w1)) λb s2 ⟨H2,I2,q2⟩=> ?_)
 cases b with
 | true =>
  obtain ⟨N,hN,q2⟩:=q2;rw [Z12 rfl];refine wpAny_passesOwn hp (thn (hb pins s2 σ1 H2 _ I2 q2) λf s3 q3=> ?_)
  cases f with
  | next =>
   obtain ⟨σ3,H3,I3,n3⟩:=q3;obtain ⟨m',hm,w3⟩:=hN σ3 H3 n3;exact ⟨m',hm,σ3,H3,I3,w3⟩
  | cont =>
   obtain ⟨σ3,H3,I3,n3⟩:=q3;obtain ⟨m',hm,w3⟩:=hN σ3 H3 n3;exact ⟨m',hm,σ3,H3,I3,w3⟩
  | brk=>exact q3
  | ret v=>exact q3
 | false =>
  rw [Z0t Z0v];exact Z2b ⟨σ1,H2,I2,q2⟩
end
structure It where
 go:Nat->Hp->Prop
 yld:Nat->Hp->V->Hp->Prop
 stop:Nat->Hp->Prop
def B3n (X:Cx) (pins:List (Addr×Obj)) (H:Hp) (b:Addr):Prop :=
 H b=none/\b≠X.env.locals/\b∉X.fs/\(b∈X.ex\/X.s₀.heap.objs.size<=b)/\(∀x c,X.env.cells.lookup x=some c->c≠b)/\∀p∈X.pn++pins,p.1≠b
theorem Inv.fpOk {X:Cx} {pins:List (Addr×Obj)} {σ:St} {H H':Hp} {s:Shared} {b:Addr} (I:Inv X pins σ H s) (hb:s.heap.objs.size<=b) (hn:H' b=none):B3n X pins H' b:=by
 refine ⟨hn,Z1q (Z0q I.lt hb),I.nofs hb,.inr (Z1n I.sz hb),λx c e z=> ?_,λp hp z=> ?_⟩
 ·obtain ⟨v,q⟩:=I.cell x c e;exact absurd (Z0q q.lt (by rw [z];exact hb)) (Nat.lt_irrefl _)
 ·exact absurd (Z0q (Z0a (I.pin p hp).1) (by rw [z];exact hb)) (Nat.lt_irrefl _)
structure C8f (P:Program) (w:World) (K:PySem.W.Frag) (tg:Expr) (J:It) (fp:List Addr) (it:Addr) (tn:Nat->Heap->Prop):Prop where
 mem:it∈fp
 obj:∀i h,tn i h->∀b∈fp,∃o,h.get? b=some o/\∀v,o.data≠.cell v
 keep:∀i h h',tn i h->(∀b∈fp,∀o,h.get? b=some o->h'.get? b=some o)->tn i h'
 item:∀(X:Cx),X.prog=P->X.w=w->X.K=K->X.calm=true->∀(i:Nat) (pins:List (Addr×Obj)) (s:Shared) (σ:St) (H:Hp) (E:Value->Shared->Prop),Inv X pins σ H s->(∀b∈fp,B3n X pins H b)->tn i s.heap->J.go i H->
  wpAny (model P w) X.A (pyNext (.ref it)) (λr s1=>∃u,r=some u/\
   wpAny (model P w) X.A (letOwnedTupleGo tg (.ref it) u) (λ_ s2=>∃x H',Inv X pins σ H' s2/\A2z x u/\J.yld i H x H'/\tn (i+1) s2.heap/\∀b∈fp,H' b=none) E s1) E s
 done:∀(X:Cx),X.prog=P->X.w=w->X.K=K->X.calm=true->∀(i:Nat) (pins:List (Addr×Obj)) (s:Shared) (σ:St) (H:Hp) (E:Value->Shared->Prop),Inv X pins σ H s->(∀b∈fp,B3n X pins H b)->tn i s.heap->J.stop i H->
  wpAny (model P w) X.A (pyNext (.ref it)) (λr s1=>r=none/\Inv X pins σ H s1) E s
 self:∀(A:Around) (i:Nat) (s:Shared) (Q:Value->Shared->Prop) (E:Value->Shared->Prop),tn i s.heap->Q (.ref it) s->wpAny (model P w) A (pyIter (.ref it)) Q E s
abbrev TI:=St->Hp->(It->Hp->Prop)->Prop
def PIE (X:Cx) (pins:List (Addr×Obj)) (σ:St) (tg:Expr) (R:It->Hp->Prop) (itv:Value) (s2:Shared):Prop :=
 ∃(it:Addr) (fp:List Addr) (tn:Nat->Heap->Prop) (J:It) (H':Hp),itv= .ref it/\Inv X pins σ H' s2/\C8f X.prog X.w X.K tg J fp it tn/\tn 0 s2.heap/\(∀b∈fp,B3n X pins H' b)/\R J H'
def PI (X:Cx) (tg iter:Expr) (wi:TI):Prop :=
 ∀(pins:List (Addr×Obj)) (s:Shared) (σ:St) (H:Hp) (R:It->Hp->Prop),Inv X pins σ H s->wi σ H R->
  wpAny (model X.prog X.w) X.A (eval iter X.env) (λv s1=>wpAny (model X.prog X.w) X.A (pyIter v) (PIE X pins σ tg R) X.xe s1) X.xe s
theorem C4k {M:Model} {A:Around} {E:Value->Shared->Prop} {s:Shared} {tg:Expr} {it:Addr} {u:Value} {o:Obj} {n:String} {vs:Array Value} {Q:Unit->Shared->Prop} (ho:s.heap.get? it=some o) (hc:o.cls= .type n) (hd:o.data= .fields vs)
  (hn:["enumerate","zip","dict_itemiterator","dict_reverseitemiterator","odict_iterator","itertools.zip_longest","itertools.pairwise"].contains n=false) (hQ:Q () s):wpAny M A (letOwnedTupleGo tg (.ref it) u) Q E s:=by
 unfold letOwnedTupleGo
 cases tg <;> first
  | exact Z04 hQ
  | (cases u <;> first
    | exact Z04 hQ
    | (refine Z00 (wpAny_load ho ?_);rw [hc,hd];show wpAny M A (if (["enumerate","zip","dict_itemiterator","dict_reverseitemiterator","odict_iterator","itertools.zip_longest","itertools.pairwise"].contains n&&vs[0]? == some (rawInt _))=true then _ else _) Q E s;rw [Z0t (by intro h;rw [hn,Bool.false_and] at h;cases h)];exact Z04 hQ))
def Itl (K:PySem.W.Frag) (a:Addr):It :=
 ⟨λi H=>∃xs x,SqL K H a xs/\xs[i]? =some x,λi H x H'=>H'=H/\∀xs,SqL K H a xs->xs[i]? =some x,λi H=>∃xs,SqL K H a xs/\xs.length<=i⟩
def Itt (K:PySem.W.Frag) (a:Addr):It :=
 ⟨λi H=>∃xs x,SqT K H a xs/\xs[i]? =some x,λi H x H'=>H'=H/\∀xs,SqT K H a xs->xs[i]? =some x,λi H=>∃xs,SqT K H a xs/\xs.length<=i⟩
def Itr (lo:Int) (n:Nat):It:=⟨λi _=>i<n,λi H x H'=>H'=H/\x= .int (lo+i),λi _=>n<=i⟩
theorem C5x {P:Program} {w:World} {K:PySem.W.Frag} {tg:Expr} (a it:Addr):C8f P w K tg (Itl K a) [it] it (λi h=>h.IsListIter it a i) where
 mem:=by simp
 obj:=λi h st b hb=>by
  have e:b=it:=by simpa using hb
  subst e;obtain ⟨o,e,c,d⟩:=st;exact ⟨o,e,λv z=>by rw [d] at z;cases z⟩
 keep:=λi h h' st k=>st.at λo e=>k it (by simp) o e
 item:=by
  intro X hP hw hK hc i pins s σ H E I hf st hg;subst hP hw hK;obtain ⟨xs,x,hq,hx⟩:=hg;obtain ⟨its,rv,p,hz⟩:=I.list hq;obtain ⟨u,hu,ru⟩:=rv.get hx;obtain ⟨f0,f1,f2,f3,f4,f5⟩:=hf it (by simp);refine wpAny_pyNext_list_item st p.isList (x:=u) (by simpa using hu) λh' st' sb=> ?_;have I1:Inv X pins σ H { s with heap:=h' }:=I.turned (t':=s.toks) (λb o hb e=>(sb.2 b hb).trans e) f0 f1 f3 f4 f5
  obtain ⟨o,e,c,d⟩:=id st';exact ⟨u,rfl,C4k (s:={ s with heap:=h' }) e c d (by decide) ⟨x,H,I1,ru,⟨rfl,λys hy=>by rw [I.list_inj hy hq];exact hx⟩,st',λb hb=>(hf b hb).1⟩⟩
 done:=by
  intro X hP hw hK hc i pins s σ H E I hf st hg;subst hP hw hK;obtain ⟨xs,hq,hx⟩:=hg;obtain ⟨its,rv,p,hz⟩:=I.list hq;obtain ⟨f0,f1,f2,f3,f4,f5⟩:=hf it (by simp);have hl:=rv.length;exact wpAny_pyNext_list_end (I.ok.hd hc) st p.isList (by simp;lia) λh' eb=>⟨rfl,I.turned (t':=s.toks) (λb o hb e=>eb b o hb e) f0 f1 f3 f4 f5⟩
 self:=λ_ _ _ _ _ st h=>wpAny_pyIter_listiter st h
theorem C3k {P:Program} {w:World} {K:PySem.W.Frag} {tg:Expr} (a it:Addr):C8f P w K tg (Itt K a) [it] it (λi h=>h.IsTupleIter it a i) where
 mem:=by simp
 obj:=λi h st b hb=>by
  have e:b=it:=by simpa using hb
  subst e;obtain ⟨o,e,c,d⟩:=st;exact ⟨o,e,λv z=>by rw [d] at z;cases z⟩
 keep:=λi h h' st k=>st.at λo e=>k it (by simp) o e
 item:=by
  intro X hP hw hK hc i pins s σ H E I hf st hg;subst hP hw hK;obtain ⟨xs,x,hq,hx⟩:=hg;obtain ⟨its,rv,p,hz⟩:=I.tuple hq;obtain ⟨u,hu,ru⟩:=rv.get hx;obtain ⟨f0,f1,f2,f3,f4,f5⟩:=hf it (by simp);refine wpAny_pyNext_tuple_item st (show s.heap.IsTuple a its.toArray from p) (x:=u) (by simpa using hu) λh' st' sb=> ?_;have I1:Inv X pins σ H { s with heap:=h' }:=I.turned (t':=s.toks) (λb o hb e=>(sb.2 b hb).trans e) f0 f1 f3 f4 f5
  obtain ⟨o,e,c,d⟩:=id st';exact ⟨u,rfl,C4k (s:={ s with heap:=h' }) e c d (by decide) ⟨x,H,I1,ru,⟨rfl,λys hy=>by rw [I.tuple_inj hy hq];exact hx⟩,st',λb hb=>(hf b hb).1⟩⟩
 done:=by
  intro X hP hw hK hc i pins s σ H E I hf st hg;subst hP hw hK;obtain ⟨xs,hq,hx⟩:=hg;obtain ⟨its,rv,p,hz⟩:=I.tuple hq;obtain ⟨f0,f1,f2,f3,f4,f5⟩:=hf it (by simp);have hl:=rv.length;exact wpAny_pyNext_tuple_end (I.ok.hd hc) st (show s.heap.IsTuple a its.toArray from p) (by simp;lia) λh' eb=>⟨rfl,I.turned (t':=s.toks) (λb o hb e=>eb b o hb e) f0 f1 f3 f4 f5⟩
 self:=λ_ _ _ _ _ st h=>wpAny_pyIter_tupleiter st h
theorem C3c {P:Program} {w:World} {K:PySem.W.Frag} {tg:Expr} (it:Addr) (lo:Int) (n:Nat):C8f P w K tg (Itr lo n) [it] it (λi h=>IsRangeIter h it (lo+(i:Nat)*1) ((n:Int)-(i:Nat)) 1) where
 mem:=by simp
 obj:=λi h st b hb=>by
  have e:b=it:=by simpa using hb
  subst e
  exact ⟨_,st,λv z=>by
   have z':Data.fields _=Data.cell v:=z
   cases z'⟩
 keep:=λi h h' st k=>k it (by simp) _ st
 item:=by
  intro X hP hw hK hc i pins s σ H E I hf st hg;subst hP hw hK;obtain ⟨f0,f1,f2,f3,f4,f5⟩:=hf it (by simp);have W:=Walks.range (prog:=X.prog) (w:=X.w) (I.ok.hd hc) it lo 1 n;refine W.item i s _ _ hg st λv h' tk hv st' kk=> ?_;obtain ⟨t,rfl⟩:=hv;have I1:Inv X pins σ H { s with heap:=h',toks:=tk }:=I.turned (λb o hb e=>kk b o (by simpa using hb) e) f0 f1 f3 f4 f5
  refine ⟨_,rfl,C4k (s:={ s with heap:=h',toks:=tk }) (n:="range_iterator") st' rfl rfl (by decide) ⟨.int (lo+i),H,I1,⟨t,?_⟩,⟨rfl,rfl⟩,st',λb hb=>(hf b hb).1⟩⟩
  rw [Int.mul_one]
 done:=by
  intro X hP hw hK hc i pins s σ H E I hf st hg;subst hP hw hK;obtain ⟨f0,f1,f2,f3,f4,f5⟩:=hf it (by simp);exact wpAny_pyNext_range_end (I.ok.hd hc) st (by have:n<=i:=hg;lia) λh' eb=>⟨rfl,I.turned (t':=s.toks) (λb o hb e=>eb b o hb e) f0 f1 f3 f4 f5⟩
 self:=λ_ _ _ _ _ st h=>wpAny_pyIter_rangeiter st h
section
variable {X:Cx} {tg:Expr}
def D5z (K:PySem.W.Frag) (tl:TE):TI:=λσ H R=>tl σ H λx H1=>∃a,x= .ref a/\(∃xs,SqL K H1 a xs)/\R (Itl K a) H1
def E0i (K:PySem.W.Frag) (tl:TE):TI:=λσ H R=>tl σ H λx H1=>∃a,x= .ref a/\(∃xs,SqT K H1 a xs)/\R (Itt K a) H1
theorem A1k {l:Expr} {tl:TE} (hl:PE X l tl):PI X tg l (D5z X.K tl):=by
 intro pins s σ H R I h;refine thn (hl pins s σ H _ I h) λv s1 ⟨x,H1,I1,r1,q1⟩=> ?_;obtain ⟨a,e,⟨xs,hq⟩,q⟩:=q1;subst e;cases r1;obtain ⟨its,rv,p,hz⟩:=I1.list hq;refine wpAny_pyIter_list p.isList ?_;refine ⟨s1.heap.objs.size,[s1.heap.objs.size],_,_,H1,rfl,I1.kept (t':=s1.toks) λb o e=>Z01 _ e,C5x a _,⟨_,Z0c _ rfl,rfl,rfl⟩,λb hb=> ?_,q⟩;have e:b=s1.heap.objs.size:=by simpa using hb
 subst e;exact I1.fpOk (Z09 _) (I1.hok.fresh (Z09 _))
theorem D8d {l:Expr} {tl:TE} (hl:PE X l tl):PI X tg l (E0i X.K tl):=by
 intro pins s σ H R I h;refine thn (hl pins s σ H _ I h) λv s1 ⟨x,H1,I1,r1,q1⟩=> ?_;obtain ⟨a,e,⟨xs,hq⟩,q⟩:=q1;subst e;cases r1;obtain ⟨its,rv,p,hz⟩:=I1.tuple hq;refine wpAny_pyIter_tuple (show s1.heap.IsTuple a its.toArray from p) ?_;refine ⟨s1.heap.objs.size,[s1.heap.objs.size],_,_,H1,rfl,I1.kept (t':=s1.toks) λb o e=>Z01 _ e,C3k a _,⟨_,Z0c _ rfl,rfl,rfl⟩,λb hb=> ?_,q⟩;have e:b=s1.heap.objs.size:=by simpa using hb
 subst e;exact I1.fpOk (Z09 _) (I1.hok.fresh (Z09 _))
theorem C9z {pins:List (Addr×Obj)} {σ:St} {H:Hp} {s:Shared} {R:It->Hp->Prop} {E:Value->Shared->Prop} {lo hi:Int} {t u v:Tok} {tk:Nat} (I:Inv X pins σ H s) (h1: -(2^62)<=lo) (h2:lo<2^62) (h3: -(2^62)<=hi) (h4:hi<2^62)
  (q:R (Itr lo (hi-lo).toNat) H):wpAny (model X.prog X.w) X.A (pyIter (.ref s.heap.objs.size)) (PIE X pins σ tg R) E { s with heap:=s.heap.push { cls:= .type "range",data:= .fields #[.int lo t,.int hi u,.int 1 v] },toks:=tk }:=by
 refine wpAny_pyIter_range (IsRange.new ..) (small_one h1 h2 h3 h4) ?_;have I1:Inv X pins σ H { s with heap:=s.heap.push { cls:= .type "range",data:= .fields #[.int lo t,.int hi u,.int 1 v] },toks:=tk }:=I.kept λb o e=>Z01 _ e
 refine ⟨(s.heap.push { cls:= .type "range",data:= .fields #[.int lo t,.int hi u,.int 1 v] }).objs.size,[(s.heap.push { cls:= .type "range",data:= .fields #[.int lo t,.int hi u,.int 1 v] }).objs.size],_,_,H,rfl,
  I1.kept (t':=tk) λb o e=>Z01 _ e,C3c _ lo (hi-lo).toNat,?_,λb hb=> ?_,q⟩
 ·have e1:lo+((0:Nat):Int)*1=lo:=by simp
  have e2:(((hi-lo).toNat:Nat):Int)-((0:Nat):Int)=Builtin.Range.rangeSize lo hi 1:=by rw [rangeSize_one];split <;> lia
  show IsRangeIter _ _ (lo+((0:Nat):Int)*1) ((((hi-lo).toNat:Nat):Int)-((0:Nat):Int)) 1;rw [e1,e2];exact Z0c _ rfl
 ·have e:b=(s.heap.push { cls:= .type "range",data:= .fields #[.int lo t,.int hi u,.int 1 v] }).objs.size:=by simpa using hb
  subst e;exact I1.fpOk (Z09 _) (I1.hok.fresh (Z09 _))
def D9u (ta:TA):TI:=λσ H R=>ta σ H λvs H1=>∃j:Int,vs=[.int j]/\-(2^62)<=j/\j<2^62/\R (Itr 0 j.toNat) H1
theorem B0l {a:Expr} {ta:TA} {p pos:Pos} (hg:Gl X "range") (hm:X.mg "range"=none) (ha:PA X [a] ta) (hs:starEach [a] X.env=[(false,eval a X.env)]:=by rfl):PI X tg (.Call (.Name "range" p) [a] [] pos) (D9u ta):=by
 intro pins s σ H R I h;refine Call_ (A7f I hg hm boot_range (PyProof.Rows.callWith_type1 (thn (ha pos pins s σ H _ I h) λus s1 ⟨vs,H1,I1,r1,q1⟩=> ?_) hs rfl));obtain ⟨j,e,q1,q2,q⟩:=q1;subst e
 cases r1 with
 | cons r rr =>
  cases rr
  obtain ⟨t,rfl⟩:=r;exact call_range_1 (C9z I1 (by lia) (by lia) q1 q2 (by simpa using q))
def E0p (wi:TI) (g:TG) (tb:TS):TS:=λD σ H=>wi σ H λJ H1=>∃W:Nat->Nat->St->Hp->Prop,(∃m,W 0 m σ H1)/\∀i m σ H,W i m σ H->
 (J.stop i H/\D.nx σ H)\/(J.go i H/\∃N:St->Hp->Prop,(∀σ' H',N σ' H'->∃m',m'<m/\W (i+1) m' σ' H')/\∀x H',J.yld i H x H'->g x σ H' λσ2 H2=>tb { D with nx:=N,ct:=N,bk:=D.nx } σ2 H2)
def B3y (fp:List Addr) (h:Heap):List (Addr×Obj):=fp.filterMap λb=>(h.get? b).map λo=>(b,o)
theorem A2y {fp:List Addr} {h:Heap} {b:Addr} {o:Obj} (hb:b∈fp) (e:h.get? b=some o):(b,o)∈B3y fp h:=List.mem_filterMap.mpr ⟨b,hb,by rw [e];rfl⟩
theorem C7k {fp:List Addr} {h:Heap} {p:Addr×Obj} (hp:p∈B3y fp h):p.1∈fp/\h.get? p.1=some p.2:=by
 obtain ⟨b,hb,e⟩:=List.mem_filterMap.mp hp
 cases q:h.get? b with
 | none=>rw [q] at e;cases e
 | some o =>
  rw [q] at e;have e':(b,o)=p:=Z1a e;subst e';exact ⟨hb,q⟩
theorem Inv.pinned {pins:List (Addr×Obj)} {σ:St} {H:Hp} {s:Shared} {fp:List Addr} (I:Inv X pins σ H s) (hf:∀b∈fp,B3n X pins H b) (ho:∀b∈fp,∃o,s.heap.get? b=some o/\∀v,o.data≠.cell v):Inv X (pins++B3y fp s.heap) σ H s :=
 I.pins_of λp hp=>(Z07.mp hp).elim (λz=>I.pin p (Z02 _ z)) λz=>by
  obtain ⟨hb,e⟩:=C7k z;obtain ⟨f0,f1,f2,_⟩:=hf p.1 hb;obtain ⟨o,e',d⟩:=ho p.1 hb;rw [e] at e';cases e';exact ⟨e,f0,f1,f2,d⟩
theorem Inv.unpinned {pins pl:List (Addr×Obj)} {σ:St} {H:Hp} {s:Shared} (I:Inv X (pins++pl) σ H s):Inv X pins σ H s:=I.pins_of λp hp=>I.pin p (Z02 _ (Z05 _ hp))
theorem A1x {iter:Expr} {body:List Stmt} {wi:TI} {g:TG} {tb:TS} {pos:Pos} (hp:PassesOwn (model X.prog X.w) X.A X.env X.xe) (hc:X.calm=true) (hi:PI X tg iter wi) (hg:PG X tg g) (hb:PSs X body tb)
  (hs:∀x,foldedSetIterable iter X.env x=pure x:=by intro _;rfl):PS X (.For tg iter body [] pos) (E0p wi g tb):=by
 intro pins s σ H D I h;refine wpAny_For (thn (hi pins s σ H _ I h) λv s1 h1=>thn h1 λitv s2 h2=> ?_) hs;obtain ⟨it,fp,tn,J,H2,e,I2,T,st2,f2,W,⟨m0,w0⟩,turn⟩:=h2;subst e;have stat:∀{H':Hp},(∀b∈fp,H' b=none)->∀b∈fp,B3n X pins H' b:=λhn b hb=>⟨hn b hb,(f2 b hb).2⟩;refine codeAny_forLoop_any (λn s'=>∃i σ' H',Inv X pins σ' H' s'/\tn i s'.heap/\(∀b∈fp,H' b=none)/\W i n σ' H') ?_ m0 ⟨0,σ,H2,I2,st2,λb hb=>(f2 b hb).1,w0⟩;rintro n s3 ⟨i,σ3,H3,I3,st3,fr3,w3⟩;rcases turn i n σ3 H3 w3 with ⟨stop,qn⟩ | ⟨go,N,hN,step⟩
 ·refine wpAny_passesOwn hp (thn (T.done X rfl rfl rfl hc i pins s3 σ3 H3 X.xe I3 (stat fr3) st3 stop) λr s4 ⟨hr,I4⟩=> ?_);subst hr;exact Z2b ⟨σ3,H3,I4,qn⟩
 ·refine wpAny_passesOwn hp (thn (T.item X rfl rfl rfl hc i pins s3 σ3 H3 X.xe I3 (stat fr3) st3 go) λr s4 ⟨u,hr,h4⟩=> ?_);subst hr;refine wpAny_passesOwn hp (thn h4 λ_ s5 ⟨x,H5,I5,r5,y5,st5,fr5⟩=> ?_);have I5':=I5.pinned (stat fr5) (T.obj _ _ st5);refine wpAny_passesOwn hp (thn (hg _ s5 σ3 H5 x u _ I5' r5 (step x H5 y5)) λ_ s6 ⟨σ6,H6,I6,q6⟩=> ?_);refine wpAny_passesOwn hp (thn (hb _ s6 σ6 H6 _ I6 q6) λf s7 q7=> ?_)
  have again:∀{σ7:St} {H7:Hp},Inv X (pins++B3y fp s5.heap) σ7 H7 s7->N σ7 H7->∃m,m<n/\∃i σ' H',Inv X pins σ' H' s7/\tn i s7.heap/\(∀b∈fp,H' b=none)/\W i m σ' H':=λ{σ7 H7} I7 n7=>by
   obtain ⟨m',hm,w7⟩:=hN σ7 H7 n7;refine ⟨m',hm,i+1,σ7,H7,I7.unpinned,T.keep _ _ _ st5 λb hb o e=>(I7.pin (b,o) (Z02 _ (Z02 _ (A2y hb e)))).1,λb hb=> ?_,w7⟩;obtain ⟨o,e,d⟩:=T.obj _ _ st5 b hb;exact (I7.pin (b,o) (Z02 _ (Z02 _ (A2y hb e)))).2.1
  cases f with
  | next=>obtain ⟨σ7,H7,I7,n7⟩:=q7;exact again I7 n7
  | cont=>obtain ⟨σ7,H7,I7,n7⟩:=q7;exact again I7 n7
  | brk=>obtain ⟨σ7,H7,I7,q7⟩:=q7;exact ⟨σ7,H7,I7.unpinned,q7⟩
  | ret v=>obtain ⟨x7,σ7,H7,I7,r7,q7⟩:=q7;exact ⟨x7,σ7,H7,I7.unpinned,r7,q7⟩
end
theorem A1r {K:PySem.W.Frag} {a:Addr} {xs:List V} {g:TG} {tb:TS} {D:B7w} {σ:St} {H:Hp} (Pv:Nat->St->Hp->Prop) (h0:Pv 0 σ H) (hl:∀i σ H,i<=xs.length->Pv i σ H->SqL K H a xs)
  (hs:∀i x σ H,xs[i]? =some x->Pv i σ H->g x σ H λσ2 H2=>tb { D with nx:=Pv (i+1),ct:=Pv (i+1),bk:=D.nx } σ2 H2) (hd:∀σ H,Pv xs.length σ H->D.nx σ H) :
  ∃W:Nat->Nat->St->Hp->Prop,(∃m,W 0 m σ H)/\∀i m σ H,W i m σ H->
   ((Itl K a).stop i H/\D.nx σ H)\/((Itl K a).go i H/\∃N:St->Hp->Prop,(∀σ' H',N σ' H'->∃m',m'<m/\W (i+1) m' σ' H')/\∀x H',(Itl K a).yld i H x H'->g x σ H' λσ2 H2=>tb { D with nx:=N,ct:=N,bk:=D.nx } σ2 H2):=by
 refine ⟨λi m σ H=>m=xs.length-i/\i<=xs.length/\Pv i σ H,⟨xs.length,by simp,Z1e _,h0⟩,?_⟩;rintro i m σ H ⟨rfl,hi,p⟩;have q:=hl i σ H hi p;by_cases hlt:i<xs.length
 ·refine .inr ⟨⟨xs,xs[i],q,by simp [hlt]⟩,Pv (i+1),λσ' H' p'=>⟨xs.length-(i+1),by lia,rfl,hlt,p'⟩,λx H' y=> ?_⟩;obtain ⟨e,y⟩:=y;subst e;exact hs i x σ _ (y xs q) p
 ·have e:i=xs.length:=by lia
  subst e;exact .inl ⟨⟨xs,q,Z09 _⟩,hd σ H p⟩
theorem B4d {lo:Int} {n:Nat} {g:TG} {tb:TS} {D:B7w} {σ:St} {H:Hp} (Pv:Nat->St->Hp->Prop) (h0:Pv 0 σ H)
  (hs:∀i σ H,i<n->Pv i σ H->g (.int (lo+i)) σ H λσ2 H2=>tb { D with nx:=Pv (i+1),ct:=Pv (i+1),bk:=D.nx } σ2 H2) (hd:∀σ H,Pv n σ H->D.nx σ H) :
  ∃W:Nat->Nat->St->Hp->Prop,(∃m,W 0 m σ H)/\∀i m σ H,W i m σ H->
   ((Itr lo n).stop i H/\D.nx σ H)\/((Itr lo n).go i H/\∃N:St->Hp->Prop,(∀σ' H',N σ' H'->∃m',m'<m/\W (i+1) m' σ' H')/\∀x H',(Itr lo n).yld i H x H'->g x σ H' λσ2 H2=>tb { D with nx:=N,ct:=N,bk:=D.nx } σ2 H2):=by
 refine ⟨λi m σ H=>m=n-i/\i<=n/\Pv i σ H,⟨n,by simp,Z1e _,h0⟩,?_⟩;rintro i m σ H ⟨rfl,hi,p⟩;by_cases hlt:i<n
 ·refine .inr ⟨hlt,Pv (i+1),λσ' H' p'=>⟨n-(i+1),by lia,rfl,hlt,p'⟩,λx H' y=> ?_⟩;obtain ⟨e,y⟩:=y;subst e y;exact hs i σ _ hlt p
 ·have e:i=n:=by lia
  subst e;exact .inl ⟨Z09 _,hd σ H p⟩
abbrev R2:=V->V->Hp->VK->Prop
def OpR (X:Cx) (f:Value->Value->Sem Value) (r:R2):Prop :=
 ∀(pins:List (Addr×Obj)) (s:Shared) (σ:St) (H:Hp) (x y:V) (v u:Value) (Q:VK),Inv X pins σ H s->A2z x v->A2z y u->r x y H Q->
  wpAny (model X.prog X.w) X.A (f v u) (EP X pins σ Q) X.xe s
def UnR (X:Cx) (f:Value->Sem Value) (r:V->Hp->VK->Prop):Prop :=
 ∀(pins:List (Addr×Obj)) (s:Shared) (σ:St) (H:Hp) (x:V) (v:Value) (Q:VK),Inv X pins σ H s->A2z x v->r x H Q->
  wpAny (model X.prog X.w) X.A (f v) (EP X pins σ Q) X.xe s
def B1g (X:Cx) (f:Value) (r:List V->Hp->VK->Prop):Prop :=
 ∀(pins:List (Addr×Obj)) (s:Shared) (σ:St) (H:Hp) (xs:List V) (us:List Value) (Q:VK),Inv X pins σ H s->A2u xs us->r xs H Q->
  wpAny (model X.prog X.w) X.A (call f us) (EP X pins σ Q) X.xe s
def tOp (r:R2) (ta tb:TE):TE:=λσ H Q=>ta σ H λx H1=>tb σ H1 λy H2=>r x y H2 Q
def tUn (r:V->Hp->VK->Prop) (ta:TE):TE:=λσ H Q=>ta σ H λx H1=>r x H1 Q
def rI (C:Int->Int->Prop) (g:Int->Int->V):R2:=λx y H Q=>∃i j,x= .int i/\y= .int j/\C i j/\Q (g i j) H
def rI0 (g:Int->Int->V):R2:=λx y H Q=>∃i j,x= .int i/\y= .int j/\Q (g i j) H
def rU (g:Int->V):V->Hp->VK->Prop:=λx H Q=>∃i,x= .int i/\Q (g i) H
section
variable {X:Cx} {a b c:Expr} {ta tb tc:TE} {pos:Pos}
theorem D8v (ha:PE X a ta) (hb:PE X b tb) {pins:List (Addr×Obj)} {s:Shared} {σ:St} {H:Hp} {R:V->V->Hp->Prop} (I:Inv X pins σ H s)
  (h:ta σ H λx H1=>tb σ H1 λy H2=>R x y H2) {Q:Value->Shared->Prop} {f:Value->Value->Sem Value}
  (hf:∀v u s2 x y H2,Inv X pins σ H2 s2->A2z x v->A2z y u->R x y H2->wpAny (model X.prog X.w) X.A (f v u) Q X.xe s2) :
  wpAny (model X.prog X.w) X.A (eval a X.env) (λv s₁=>wpAny (model X.prog X.w) X.A (eval b X.env) (λu s₂=>wpAny (model X.prog X.w) X.A (f v u) Q X.xe s₂) X.xe s₁) X.xe s:=by
 refine thn (ha pins s σ H _ I h) λv s1 ⟨x,H1,I1,r1,q1⟩=> ?_;refine thn (hb pins s1 σ H1 _ I1 q1) λu s2 ⟨y,H2,I2,r2,q2⟩=> ?_;exact hf v u s2 x y H2 I2 r1 r2 q2
theorem A0t {op:Operator} {r:R2} (ho:OpR X (binaryOp op) r) (ha:PE X a ta) (hb:PE X b tb):PE X (.BinOp a op b pos) (tOp r ta tb):=by
 intro pins s σ H Q I h;exact wpAny_BinOp (D8v ha hb I h λv u s2 x y H2 I2 rx ry q=>ho pins s2 σ H2 x y v u Q I2 rx ry q)
theorem D6n {op:UnaryOp} {r:V->Hp->VK->Prop} (ho:UnR X (unaryOp op) r) (ha:PE X a ta):PE X (.UnaryOp op a pos) (tUn r ta):=by
 intro pins s σ H Q I h;exact UnaryOp_ (thn (ha pins s σ H _ I h) λv s1 ⟨x,H1,I1,r1,q1⟩=>ho pins s1 σ H1 x v Q I1 r1 q1)
theorem opI {f:Value->Value->Sem Value} {C:Int->Int->Prop} {g:Int->Int->Int}
  (rule:∀(i j:Int) (t u:Tok) (s:Shared) (Q:Value->Shared->Prop) (E:Value->Shared->Prop),C i j->Q (.int (g i j) s.toks) { s with toks:=s.toks+1 }->wpAny (model X.prog X.w) X.A (f (.int i t) (.int j u)) Q E s) :
  OpR X f (rI C λi j=> .int (g i j)):=by
 intro pins s σ H x y v u Q I rx ry h;obtain ⟨i,j,rfl,rfl,hc,q⟩:=h;obtain ⟨t,rfl⟩:=rx;obtain ⟨t',rfl⟩:=ry;exact rule i j t t' s _ _ hc ⟨.int (g i j),H,I.tok _,⟨_,rfl⟩,q⟩
theorem E0j {f:Value->Value->Sem Value} {g:Int->Int->Int}
  (rule:∀(i j:Int) (t u:Tok) (s:Shared) (Q:Value->Shared->Prop) (E:Value->Shared->Prop),Q (.int (g i j) s.toks) { s with toks:=s.toks+1 }->wpAny (model X.prog X.w) X.A (f (.int i t) (.int j u)) Q E s) :
  OpR X f (rI0 λi j=> .int (g i j)):=by
 intro pins s σ H x y v u Q I rx ry h;obtain ⟨i,j,rfl,rfl,q⟩:=h;obtain ⟨t,rfl⟩:=rx;obtain ⟨t',rfl⟩:=ry;exact rule i j t t' s _ _ ⟨.int (g i j),H,I.tok _,⟨_,rfl⟩,q⟩
theorem D8g {f:Value->Value->Sem Value} {g:Int->Int->Bool}
  (rule:∀(i j:Int) (t u:Tok) (s:Shared) (Q:Value->Shared->Prop) (E:Value->Shared->Prop),Q (.bool (g i j)) s->wpAny (model X.prog X.w) X.A (f (.int i t) (.int j u)) Q E s) :
  OpR X f (rI0 λi j=> .bl (g i j)):=by
 intro pins s σ H x y v u Q I rx ry h;obtain ⟨i,j,rfl,rfl,q⟩:=h;obtain ⟨t,rfl⟩:=rx;obtain ⟨t',rfl⟩:=ry;exact rule i j t t' s _ _ ⟨.bl (g i j),H,I,rfl,q⟩
def CDiv (i j:Int):Prop:=0<j/\j<1073741824
def CPow (i j:Int):Prop:=0<=j/\j<=1000000/\i.natAbs<2^64
def D9i (i j:Int):Prop:=(-(2^64)<i/\i<2^64)\/(-(2^64)<j/\j<2^64)
theorem D9i.ok {i j:Int} (h:D9i i j):IntMulOk i j:=by
 rcases h with ⟨h1,h2⟩ | ⟨h1,h2⟩
 ·exact .of_left (intBits_le_64 h1 h2)
 ·exact .of_right (intBits_le_64 h1 h2)
theorem A4h:OpR X (binaryOp .Add) (rI0 λi j=> .int (i+j)):=E0j λ_ _ _ _ _ _ _ q=>add_int q
theorem A6p:OpR X (binaryOp .Sub) (rI0 λi j=> .int (i-j)):=E0j λ_ _ _ _ _ _ _ q=>sub_int q
theorem B3t:OpR X (binaryOp .Mult) (rI D9i λi j=> .int (i*j)):=opI λ_ _ _ _ _ _ _ hc q=>mul_int q hc.ok
theorem A3b:OpR X (binaryOp .FloorDiv) (rI CDiv λi j=> .int (i/j)):=opI λi j _ _ _ _ _ hc q=>by
 have h1:(0:Int)<j:=hc.1;have h2:j<1073741824:=hc.2;exact floordiv_int (by lia) (by rw [Int.fdiv_eq_ediv_of_nonneg i (by lia)];exact q) (.inl (PyProof.noPylong_small (by lia)))
theorem A2b:OpR X (binaryOp .Mod) (rI (λ_ j=>0<j) λi j=> .int (i%j)):=opI λi j _ _ _ _ _ hc q=>by
 have h1:(0:Int)<j:=hc;exact mod_int' (by lia) (by rw [Int.fmod_eq_emod_of_nonneg i (by lia)];exact q)
theorem B5b:OpR X (binaryOp .Pow) (rI CPow λi j=> .int (i^j.toNat)):=opI λ_ _ _ _ _ _ _ hc q=>pow_int_small hc.1 hc.2.1 hc.2.2 q
theorem unI {f:Value->Sem Value} {g:Int->Int}
  (rule:∀(i:Int) (t:Tok) (s:Shared) (Q:Value->Shared->Prop) (E:Value->Shared->Prop),Q (.int (g i) s.toks) { s with toks:=s.toks+1 }->wpAny (model X.prog X.w) X.A (f (.int i t)) Q E s) :
  UnR X f (rU λi=> .int (g i)):=by
 intro pins s σ H x v Q I rx h;obtain ⟨i,rfl,q⟩:=h;obtain ⟨t,rfl⟩:=rx;exact rule i t s _ _ ⟨.int (g i),H,I.tok _,⟨_,rfl⟩,q⟩
theorem D1z:UnR X (unaryOp .USub) (rU λi=> .int (-i)):=unI λ_ _ _ _ _ q=>neg_int q
end
def E0m:V->V->Bool
 | .non,.non=>true | .non,.int _=>true | .int _,.non=>true | .non,.bl _=>true | .bl _,.non=>true | .non,.str _=>true | .str _,.non=>true
 | .int _,.int _=>true | .bl _,.bl _=>true | .str _,.str _=>true | .byt _,.byt _=>true
 | .int _,.str _=>true | .str _,.int _=>true | .bl _,.str _=>true | .str _,.bl _=>true
 | _,_=>false
def rEq:R2:=λx y H Q=>E0m x y=true/\Q (.bl (decide (x=y))) H
def rNe:R2:=λx y H Q=>E0m x y=true/\Q (.bl (!decide (x=y))) H
theorem C4y {i j:Int}:decide (V.int i=V.int j)=(i == j):=by
 rw [Bool.eq_iff_iff];simp
theorem D2e {i j:Bool}:decide (V.bl i=V.bl j)=(i == j):=by
 rw [Bool.eq_iff_iff];simp
theorem C6f {i j:Str}:decide (V.str i=V.str j)=(i == j):=by
 rw [Bool.eq_iff_iff];simp
theorem C7s {i j:Array UInt8}:decide (V.byt i=V.byt j)=(i.toList == j.toList):=by
 rw [Bool.eq_iff_iff];cases i;cases j;simp
section
variable {X:Cx} {a b c:Expr} {ta tb tc:TE} {pos:Pos}
theorem A2f {pins:List (Addr×Obj)} {σ:St} {H:Hp} {s:Shared} {Q:VK} {k k':Bool} (I:Inv X pins σ H s) (q:Q (.bl k) H) (e:k=k'):EP X pins σ Q (.bool k') s:=by
 subst e;exact ⟨.bl k,H,I,rfl,q⟩
theorem A5l:OpR X (compareOp .Eq) rEq:=by
 intro pins s σ H x y v u Q I rx ry h;obtain ⟨hs,q⟩:=h
 cases x with
 | non =>
  cases rx
  cases y with
  | non=>cases ry;exact PySem.EqNone.eq_none_none (A2f I q (by simp))
  | bl j=>cases ry;exact PySem.EqNone.eq_none_bool (A2f I q (by simp))
  | int j=>obtain ⟨t',rfl⟩:=ry;exact PySem.EqNone.eq_none_int (A2f I q (by simp))
  | str j=>obtain ⟨t',rfl⟩:=ry;exact PySem.EqNone.eq_none_str (A2f I q (by simp))
  | _=>exact absurd (show false=true from hs) Z0v
 | bl i =>
  cases rx
  cases y with
  | non=>cases ry;exact PySem.EqNone.eq_bool_none (A2f I q (by simp))
  | bl j=>cases ry;exact eq_bool (A2f I q D2e)
  | str j=>obtain ⟨t',rfl⟩:=ry;exact PySem.EqMixed.eq_bool_str (A2f I q (by simp))
  | _=>exact absurd (show false=true from hs) Z0v
 | int i =>
  obtain ⟨t,rfl⟩:=rx
  cases y with
  | non=>cases ry;exact PySem.EqNone.eq_int_none (A2f I q (by simp))
  | int j=>obtain ⟨t',rfl⟩:=ry;exact eq_int (A2f I q C4y)
  | str j=>obtain ⟨t',rfl⟩:=ry;exact PySem.EqMixed.eq_int_str (A2f I q (by simp))
  | _=>exact absurd (show false=true from hs) Z0v
 | str i =>
  obtain ⟨t,rfl⟩:=rx
  cases y with
  | non=>cases ry;exact PySem.EqNone.eq_str_none (A2f I q (by simp))
  | bl j=>cases ry;exact PySem.EqMixed.eq_str_bool (A2f I q (by simp))
  | int j=>obtain ⟨t',rfl⟩:=ry;exact PySem.EqMixed.eq_str_int (A2f I q (by simp))
  | str j=>obtain ⟨t',rfl⟩:=ry;exact eq_str (A2f I q C6f)
  | _=>exact absurd (show false=true from hs) Z0v
 | byt i =>
  obtain ⟨t,rfl⟩:=rx
  cases y with
  | byt j=>obtain ⟨t',rfl⟩:=ry;exact PySem.W.eq_bytes (A2f I q C7s)
  | _=>exact absurd (show false=true from hs) Z0v
 | _=>cases y <;> exact absurd (show false=true from hs) Z0v
theorem B7n:OpR X (compareOp .NotEq) rNe:=by
 intro pins s σ H x y v u Q I rx ry h;obtain ⟨hs,q⟩:=h
 cases x with
 | non =>
  cases rx
  cases y with
  | non=>cases ry;exact PySem.EqNone.ne_none_none (A2f I q (by simp))
  | bl j=>cases ry;exact PySem.EqNone.ne_none_bool (A2f I q (by simp))
  | int j=>obtain ⟨t',rfl⟩:=ry;exact PySem.EqNone.ne_none_int (A2f I q (by simp))
  | str j=>obtain ⟨t',rfl⟩:=ry;exact PySem.EqNone.ne_none_str (A2f I q (by simp))
  | _=>exact absurd (show false=true from hs) Z0v
 | bl i =>
  cases rx
  cases y with
  | non=>cases ry;exact PySem.EqNone.ne_bool_none (A2f I q (by simp))
  | bl j=>cases ry;exact ne_bool (A2f I q (congrArg not D2e))
  | str j=>obtain ⟨t',rfl⟩:=ry;exact PySem.EqMixed.ne_bool_str (A2f I q (by simp))
  | _=>exact absurd (show false=true from hs) Z0v
 | int i =>
  obtain ⟨t,rfl⟩:=rx
  cases y with
  | non=>cases ry;exact PySem.EqNone.ne_int_none (A2f I q (by simp))
  | int j=>obtain ⟨t',rfl⟩:=ry;exact ne_int (A2f I q (congrArg not C4y))
  | str j=>obtain ⟨t',rfl⟩:=ry;exact PySem.EqMixed.ne_int_str (A2f I q (by simp))
  | _=>exact absurd (show false=true from hs) Z0v
 | str i =>
  obtain ⟨t,rfl⟩:=rx
  cases y with
  | non=>cases ry;exact PySem.EqNone.ne_str_none (A2f I q (by simp))
  | bl j=>cases ry;exact PySem.EqMixed.ne_str_bool (A2f I q (by simp))
  | int j=>obtain ⟨t',rfl⟩:=ry;exact PySem.EqMixed.ne_str_int (A2f I q (by simp))
  | str j=>obtain ⟨t',rfl⟩:=ry;exact ne_str (A2f I q (congrArg not C6f))
  | _=>exact absurd (show false=true from hs) Z0v
 | byt i =>
  obtain ⟨t,rfl⟩:=rx
  cases y with
  | byt j=>obtain ⟨t',rfl⟩:=ry;exact PySem.W.ne_bytes (A2f I q (congrArg not C7s))
  | _=>exact absurd (show false=true from hs) Z0v
 | _=>cases y <;> exact absurd (show false=true from hs) Z0v
theorem C3h:OpR X (compareOp .Lt) (rI0 λi j=> .bl (decide (i<j))):=D8g λ_ _ _ _ _ _ _ q=>lt_int q
theorem C6t:OpR X (compareOp .LtE) (rI0 λi j=> .bl (decide (i<=j))):=D8g λ_ _ _ _ _ _ _ q=>le_int q
theorem B8n:OpR X (compareOp .Gt) (rI0 λi j=> .bl (decide (j<i))):=D8g λ_ _ _ _ _ _ _ q=>gt_int q
theorem E0d:OpR X (compareOp .GtE) (rI0 λi j=> .bl (decide (j<=i))):=D8g λ_ _ _ _ _ _ _ q=>ge_int q
theorem C5n:OpR X (compareOp .Is) (λx y H Q=>y= .non/\Q (.bl (decide (x= .non))) H):=by
 intro pins s σ H x y v u Q I rx ry h;obtain ⟨rfl,q⟩:=h;cases ry;refine is_none_gen (A2f I q ?_)
 cases x <;> first
  | (cases rx;rfl)
  | (obtain ⟨t,rfl⟩:=rx;rfl)
theorem A1h (b:Expr) {op:CmpOp} (h:op≠.In:=by decide) (h2:op≠.NotIn:=by decide):behindInMarks op b=false:=by
 have e1:(op == CmpOp.In)=false:=by cases op <;> first | rfl | exact absurd rfl h
 have e2:(op == CmpOp.NotIn)=false:=by cases op <;> first | rfl | exact absurd rfl h2
 cases b <;> simp [behindInMarks,e1,e2]
theorem A5n {op:CmpOp} {r:R2} (ho:OpR X (compareOp op) r) (ha:PE X a ta) (hb:PE X b tb) (hm:behindInMarks op b=false):PE X (.Compare a [op] [b] pos) (tOp r ta tb):=by
 intro pins s σ H Q I h;exact wpAny_Compare1 (D8v ha hb I h λv u s2 x y H2 I2 rx ry q=>ho pins s2 σ H2 x y v u Q I2 rx ry q) hm
def D3r (t:TE):TT:=λσ H Q=>t σ H λx H'=>∃k,x= .bl k/\Q k H'
theorem A0x {op:CmpOp} {r:R2} (ho:OpR X (compareOp op) r) (ha:PE X a ta) (hb:PE X b tb) (hm:behindInMarks op b=false):PT X (.Compare a [op] [b] pos) (D3r (tOp r ta tb)):=by
 intro pins s σ H Q I h
 refine wpAny_isTrue_Compare1 (thn (ha pins s σ H _ I h) λv s1 ⟨x,H1,I1,r1,q1⟩=>thn (hb pins s1 σ H1 _ I1 q1) λu s2 ⟨y,H2,I2,r2,q2⟩ =>
  thn (ho pins s2 σ H2 x y v u _ I2 r1 r2 q2) λc s3 ⟨z,H3,I3,r3,k,e,q3⟩=> ?_) hm
 subst e;cases r3;exact wpAny_truthy_bool ⟨H3,I3,q3⟩
def D6q (r r':R2) (ta tb tc:TE):TE:=λσ H Q=>ta σ H λx H1=>tb σ H1 λy H2=>r x y H2 λz H3=>∃k,z= .bl k/\
 (if k=true then tc σ H3 λw' H4=>r' y w' H4 Q else Q (.bl false) H3)
theorem B7b {op op':CmpOp} {r r':R2} (ho:OpR X (compareOp op) r) (ho':OpR X (compareOp op') r') (ha:PE X a ta) (hb:PE X b tb) (hc:PE X c tc)
  (hm:lastMarks [op,op'] [b,c]=false:=by with_unfolding_all rfl):PE X (.Compare a [op,op'] [b,c] pos) (D6q r r' ta tb tc):=by
 intro pins s σ H Q I h
 refine Compare_chain (thn (ha pins s σ H _ I h) λv s1 ⟨x,H1,I1,r1,q1⟩=>chain_link (thn (hb pins s1 σ H1 _ I1 q1) λu s2 ⟨y,H2,I2,r2,q2⟩ =>
  thn (ho pins s2 σ H2 x y v u _ I2 r1 r2 q2) λd s3 ⟨z,H3,I3,r3,k,e,q3⟩=> ?_)) hm
 subst e;cases r3;refine wpAny_truthy_bool ?_
 cases k with
 | false=>exact ite_ff ⟨.bl false,H3,I3,rfl,q3⟩
 | true=>exact ite_tt (chain_last (thn (hc pins s3 σ H3 _ I3 q3) λw' s4 ⟨z',H4,I4,r4,q4⟩=>ho' pins s4 σ H4 y z' u w' Q I4 r2 r4 q4))
theorem C1t:(sizeLine:Nat)<2^63:=by rw [sizeLine_eq];decide
theorem B8h {x:V} {us:List Value} (r:A2u [x] us):∃u,us=[u]/\A2z x u:=by
 cases r with
 | cons r1 r2=>cases r2;exact ⟨_,rfl,r1⟩
theorem B4u {x y:V} {us:List Value} (r:A2u [x,y] us):∃u w',us=[u,w']/\A2z x u/\A2z y w':=by
 cases r with
 | cons r1 r2 =>
  cases r2 with
  | cons r3 r4=>cases r4;exact ⟨_,_,rfl,r1,r3⟩
theorem C5s (hc:X.calm=true):B1g X (.builtin "min") (λxs H Q=>∃i j,xs=[.int i,.int j]/\Q (.int (if j<i then j else i)) H):=by
 intro pins s σ H xs us Q I r h;obtain ⟨i,j,rfl,q⟩:=h;obtain ⟨u,w',rfl,⟨t,rfl⟩,⟨t',rfl⟩⟩:=B4u r;refine min_two_ints (I.ok.hd hc) λh' tk k=>⟨_,H,I.kept k,?_,q⟩;by_cases hj:j<i
 ·rw [Z12 hj,Z12 hj];exact ⟨_,rfl⟩
 ·rw [Z0t hj,Z0t hj];exact ⟨_,rfl⟩
end
structure D2v (h:Heap) (x dx C:Addr) (mA:Str->Option Value):Prop where
 obj:h.get? x=some (PySem.W.instObj C dx)
 ns:h.Ns1 dx mA
 ne:dx≠x
theorem C6a {h:Heap} {dx:Addr} {mA:Str->Option Value} (n:h.Ns1 dx mA):∃od,h.get? dx=some od/\∀name,PySem.W.lookIn name od=some (mA name):=by
 obtain ⟨o,es,ep,ho,hd,hk,_,hm⟩:=n;refine ⟨o,ho,λname=> ?_⟩;have e:=hm name;unfold nsFind findBy at e;rw [<-Array.find?_toList] at e;unfold PySem.W.lookIn;rw [hd];dsimp only;split
 ·rename_i y q;rw [q] at e;exact congrArg some e
 ·rename_i q;rw [q] at e
  have a:es.toList.any (·.refKey)=false:=by
   rw [List.any_eq_false];intro y hy;obtain ⟨z,t,hkey⟩:=hk y (Array.mem_toList_iff.mp hy);simp [DictEntry.refKey,hkey]
  have a':¬es.toList.any (·.refKey)=true:=by rw [a];exact Z0v
  rw [Z0t a'];exact congrArg some e
theorem D2v.look {h:Heap} {x dx C:Addr} {mA:Str->Option Value} (I:D2v h x dx C mA):∃od,PySem.W.InstAt h x (PySem.W.instObj C dx) C (some od)/\∀name,PySem.W.lookIn name od=some (mA name) :=
 let ⟨od,ho,hl⟩:=C6a I.ns
 ⟨od,⟨I.obj,rfl,rfl,ho⟩,hl⟩
section
variable {prog:Program} {w:World} {A:Around} {E:Value->Shared->Prop} {s:Shared} {K:PySem.W.Frag} {x dx C f:Addr} {mA:Str->Option Value} {name:Str} {v:Value}
theorem A2j {expr:Bool} {Q:Value->Shared->Prop} (X:K.In s.heap) (I:D2v s.heap x dx C mA) (hg:PySem.W.plainGet K C name=true) (hh:PySem.W.hasDictIn K C=true)
  (ha:PySem.W.findIn K (.ref C) name=some none) (hv:mA name=some v) (hv':PySem.W.handedIn v=true) (h:Q v { s with toks:=s.toks+1 }) :
  wpAny (model prog w) A (getAttr (.ref x) name expr) Q E s:=by
 obtain ⟨od,J,hl⟩:=I.look;exact PySem.W.get_value X J (PySem.W.plainGet_of hg).1 (PySem.W.findObj_own hh ha rfl (by rw [hl,hv])) hv' h
theorem D0o {pl:Sem Bool} {Q:Value×List Value->Shared->Prop} (X:K.In s.heap) (I:D2v s.heap x dx C mA) (hg:PySem.W.plainGet K C name=true)
  (hf:PySem.W.findIn K (.ref C) name=some (some (.ref f))) (ht:PySem.W.isFn K (.ref f)=true) (hv:mA name=none) (h:Q (.ref f,[.ref x]) s) :
  wpAny (model prog w) A (getMethod (.ref x) name pl) Q E s:=by
 obtain ⟨od,J,hl⟩:=I.look;exact PySem.W.method_fn X J (PySem.W.plainGet_of hg).1 (PySem.W.plainGet_of hg).2 hf (beq_iff_eq.mp ht) (by show (PySem.W.lookIn name od).map (·.isSome)=some false;rw [hl,hv];rfl) h
theorem D3n {ns:List Str} {Q:Unit->Shared->Prop} (X:K.In s.heap) (I:D2v s.heap x dx C mA)
  (hs:PySem.W.findIn K (.ref C) "__setattr__"=some (some (.builtin "object.__setattr__"))) (hp:PySem.W.plainOver K C=true) (ht:PySem.W.takerIn K C name=some none) (hh:PySem.W.hasDictIn K C=true)
  (hw:PySem.Within mA ns) (hsz:ns.length<=sizeLine)
  (h:∀h',D2v h' x dx C (λy=>if y=name then some v else mA y)->Heap.SameBut dx s.heap h'->Q () { s with heap:=h',toks:=s.toks+2 }) :
  wpAny (model prog w) A (setAttr (.ref x) name v) Q E s:=by
 obtain ⟨od,J,hl⟩:=I.look;refine PySem.W.set_plain X J hs (PySem.W.osa_open (s:={ s with toks:=s.toks+1 }) (r:=none) X J hp ht λb=> ?_)
 obtain ⟨cd,hc,hd'⟩:=PySem.W.any_some hh;have hx:s.heap.get? x=some ⟨.ref C,some dx,.plain,#[]⟩:=I.obj;refine Z00 (Z04 (Z00 (Z00 (wpAny_loadPart hx (Z00 (PySem.W.Looks.here (s:={ s with toks:=s.toks+1 }) (PySem.W.looks_clsIn X hc) ?_))))));rw [hd'];refine Z04 (a:=some dx) (Z00 (Z04 (Z00 ?_)));refine wpAny_nsSet1 (s:={ s with toks:=s.toks+1 }) I.ns λh' hn2 hs2=> ?_
 obtain ⟨oD,esD,epD,hoD,hdD,hcD⟩:=hn2.count (PySem.Within.cons name v hw);refine Z00 (wpAny_lookBehind hoD (by rw [hdD];exact pastItsLine_dict (Z1n hcD (by rw [Z0y];lia))) ?_);exact Z04 (h _ ⟨(hs2.2 _ (Ne.symm I.ne)).trans I.obj,hn2,I.ne⟩ hs2)
theorem D0t {R:Result->Shared->Prop} {vs:List Value} {kw:List (Str×Value)} (X:K.In s.heap) (hm:PySem.W.makesIn K C=true)
  (hi:PySem.W.findIn K (.ref C) "__init__"=some (some (.ref f))) (hf:PySem.W.typeIn K (.ref f)=some (.type "function"))
  (h:codeAny (model prog w) (A.under (.builtin "type.__call__" ⟨.ref C::vs,kw⟩)) (.call (.ref f) ⟨.ref (s.heap.objs.size+1)::vs,kw⟩) (PySem.W.InitBack (s.heap.objs.size+1) R)
   { s with heap:=(s.heap.push PySem.W.emptyDict).push (PySem.W.instObj C s.heap.objs.size) }) :
  codeAny (model prog w) A (.call (.ref C) ⟨vs,kw⟩) R s:=by
 obtain ⟨hh,g,d,t,os⟩:=s;exact PySem.W.make_core (PySem.W.makes_of X hm) (PySem.W.looks_findIn X hi) (λself=>PySem.W.bind_fn X self hf) (.inl rfl) h
end
def A5w (f:Str) (v:V):List (Str×V)->List (Str×V)
 | []=>[(f,v)]
 | (g,x)::r=>if g=f then (g,v)::r else (g,x)::A5w f v r
theorem B4a (f g:Str) (v:V):∀fs:List (Str×V),(A5w f v fs).lookup g=if g=f then some v else fs.lookup g
 | []=>by
  show List.lookup g [(f,v)]=_;by_cases h:g=f
  ·have hb:(g == f)=true:=beq_iff_eq.mpr h;simp only [List.lookup,hb,Z12 h]
  ·have hb:(g == f)=false:=Z22.mpr h;simp only [List.lookup,hb,Z0t h]
 | (k,x)::r=>by
  have ih:=B4a f g v r;rw [show A5w f v ((k,x)::r)=(if k=f then (k,v)::r else (k,x)::A5w f v r) from rfl];by_cases hk:k=f
  ·rw [Z12 hk];by_cases h:g=k
   ·have hb:(g == k)=true:=beq_iff_eq.mpr h;simp only [List.lookup,hb,Z12 (h.trans hk)]
   ·have hb:(g == k)=false:=Z22.mpr h;simp only [List.lookup,hb,Z0t (λe:g=f=>h (e.trans hk.symm))]
  ·rw [Z0t hk];by_cases h:g=k
   ·have hb:(g == k)=true:=beq_iff_eq.mpr h;simp only [List.lookup,hb,Z0t (λe:g=f=>hk (h.symm.trans e))]
   ·have hb:(g == k)=false:=Z22.mpr h;simp only [List.lookup,hb];exact ih
theorem B2p (f:Str) (v:V):∀fs:List (Str×V),f∈(A5w f v fs).map (·.1)/\∀g,g∈fs.map (·.1)->g∈(A5w f v fs).map (·.1)
 | []=>⟨by simp [A5w],λg h=>by simp at h⟩
 | (k,x)::r=>by
  obtain ⟨i1,i2⟩:=B2p f v r;rw [show A5w f v ((k,x)::r)=(if k=f then (k,v)::r else (k,x)::A5w f v r) from rfl];by_cases hk:k=f
  ·rw [Z12 hk];subst hk;exact ⟨by simp,λg h=>by simpa using h⟩
  ·rw [Z0t hk];refine ⟨?_,λg h=> ?_⟩
   ·rw [Z0p];exact Z1f _ i1
   ·rw [Z0p] at h⊢;rcases Z0e.mp h with e | e
    ·exact Z0e.mpr (.inl e)
    ·exact Z1f _ (i2 g e)
theorem B3q (f:Str) (v:V):∀fs:List (Str×V),(A5w f v fs).length<=fs.length+1
 | []=>by simp [A5w]
 | (k,x)::r=>by
  have ih:=B3q f v r;rw [show A5w f v ((k,x)::r)=(if k=f then (k,v)::r else (k,x)::A5w f v r) from rfl];by_cases hk:k=f
  ·rw [Z12 hk,Z0y,Z0y];lia
  ·rw [Z0t hk,Z0y,Z0y];lia
theorem B5g.some_of {v:V} {o:Option Value} (r:B5g (some v) o):∃u,o=some u/\A2z v u:=by
 cases o with
 | none=>exact (show False from r).elim
 | some u=>exact ⟨u,rfl,r⟩
theorem B5g.none_of {o:Option Value} (r:B5g none o):o=none:=by
 cases o with
 | none=>rfl
 | some u=>exact (show False from r).elim
theorem B9u {v:V} {u:Value} (r:A2z v u):PySem.W.handedIn u=true:=by
 cases v with
 | non=>cases (show u=Value.none from r);rfl
 | bl b=>cases (show u=Value.bool b from r);rfl
 | int i=>obtain ⟨t,e⟩:=(show∃t,u=Value.int i t from r);cases e;rfl
 | str x=>obtain ⟨t,e⟩:=(show∃t,u=Value.str x t from r);cases e;rfl
 | byt b=>obtain ⟨t,e⟩:=(show∃t,u=Value.bytes b t from r);cases e;rfl
 | flt b=>obtain ⟨t,e⟩:=(show∃t,u=Value.float b t from r);cases e;rfl
 | ref a=>cases (show u=Value.ref a from r);rfl
 | ty n=>cases (show u=Value.type n from r);rfl
section
variable {P:Program} {w:World} {H H':Hp} {h h':Heap} {a C dx:Addr} {fs fs':List (Str×V)}
theorem B3g (hok:HOk P w H h) (e:H a=some (.ins C dx fs)):∃mA,D2v h a dx C mA/\(∀f,B5g (fs.lookup f) (mA f))/\PySem.Within mA (fs.map (·.1))/\fs.length<=1000/\H dx=some (.own a):=by
 obtain ⟨d,z,ne,ob,mA,n,r,q⟩:=(show A1y P w H h a (.ins C dx fs) from hok a _ e);exact ⟨mA,⟨ob,n,ne⟩,r,q,z,d⟩
end
structure Cls (K:PySem.W.Frag) (C:Addr):Prop where
 pg:PySem.W.plainGet K C Str.empty=true
 hd:PySem.W.hasDictIn K C=true
 po:PySem.W.plainOver K C=true
 sa:PySem.W.findIn K (.ref C) "__setattr__"=some (some (.builtin "object.__setattr__"))
theorem Cls.get {K:PySem.W.Frag} {C:Addr} (c:Cls K C) (f:Str):PySem.W.plainGet K C f=true:=c.pg
def A1u (K:PySem.W.Frag) (C:Addr) (f:Str):Prop:=PySem.W.findIn K (.ref C) f=some none
theorem A1u.taker {K:PySem.W.Frag} {C:Addr} {f:Str} (n:A1u K C f):PySem.W.takerIn K C f=some none:=by
 unfold PySem.W.takerIn;rw [show PySem.W.findIn K (.ref C) f=some none from n];rfl
structure D8j (K:PySem.W.Frag) (C:Addr) (m:Str) (f:Addr):Prop where
 at_:PySem.W.findIn K (.ref C) m=some (some (.ref f))
 fn:PySem.W.isFn K (.ref f)=true
 kp:PySem.W.keepIn K (.ref f)=true
section
variable {X:Cx} {pins:List (Addr×Obj)} {σ:St} {H:Hp} {s:Shared} {a C dx:Addr} {fs:List (Str×V)} {f:Str} {v:V} {A:Around} {E:Value->Shared->Prop}
theorem C3o {b:Bool} {Q:Value->Shared->Prop} (I:Inv X pins σ H s) (e:H a=some (.ins C dx fs)) (c:Cls X.K C) (n:A1u X.K C f) (l:fs.lookup f=some v)
  (h:∀u s',Inv X pins σ H s'->A2z v u->Q u s'):wpAny (model X.prog X.w) A (getAttr (.ref a) f b) Q E s:=by
 obtain ⟨mA,O,r,_,_,_⟩:=B3g I.hok e;obtain ⟨u,hu,ru⟩:=B5g.some_of (v:=v) (o:=mA f) (by rw [<-l];exact r f);exact A2j I.kIn O (c.get f) c.hd n hu (B9u ru) (h u _ (I.tok _) ru)
theorem C3p {m:Str} {g:Addr} {pl:Sem Bool} {Q:Value×List Value->Shared->Prop} (I:Inv X pins σ H s) (e:H a=some (.ins C dx fs)) (c:Cls X.K C) (k:D8j X.K C m g) (l:fs.lookup m=none)
  (h:Q (.ref g,[.ref a]) s):wpAny (model X.prog X.w) A (getMethod (.ref a) m pl) Q E s:=by
 obtain ⟨mA,O,r,_,_,_⟩:=B3g I.hok e;have hn:mA m=none:=B5g.none_of (by rw [<-l];exact r m);exact D0o I.kIn O (c.get m) k.at_ k.fn hn h
theorem C4n {y:V} {u:Value} {Q:Unit->Shared->Prop} (I:Inv X pins σ H s) (e:H a=some (.ins C dx fs)) (c:Cls X.K C) (n:A1u X.K C f) (hl:fs.length<1000) (ry:A2z y u)
  (h:∀s',Inv X pins σ (upd H a (.ins C dx (A5w f y fs))) s'->Q () s'):wpAny (model X.prog X.w) A (setAttr (.ref a) f u) Q E s:=by
 obtain ⟨mA,O,r,wi,_,ho⟩:=B3g I.hok e;have hz:(fs.map (·.1)).length<=sizeLine:=by rw [Z08,sizeLine_eq];lia
 refine D3n I.kIn O c.sa c.po n.taker c.hd wi hz λh' O' sb=>h _ ?_;have hd:∃o,h'.get? dx=some o:=let ⟨o,_,_,e',_⟩:=O'.ns;⟨o,e'⟩;refine I.write (x:=a) (e:=dx) (by rw [e];exact True.intro) (.inr ho) (λb q hb z=>(sb.2 b hb).trans z) hd ?_;refine ⟨by rw [A0h O.ne];exact ho,?_,O.ne,O'.obj,_,O'.ns,λg=> ?_,λg hg=> ?_⟩
 ·have:=B3q f y fs;lia
 ·show B5g ((A5w f y fs).lookup g) (if g=f then some u else mA g);rw [B4a];by_cases q:g=f
  ·rw [Z12 q,Z12 q];exact ry
  ·rw [Z0t q,Z0t q];exact r g
 ·by_cases q:g=f
  ·rw [q];exact (B2p f y fs).1
  ·refine (B2p f y fs).2 g (wi g λz=>hg ?_);show (if g=f then some u else mA g)=none;rw [Z0t q];exact z
theorem Inv.made (I:Inv X pins σ H s):Inv X pins σ (upd (upd H s.heap.objs.size (.own (s.heap.objs.size+1))) (s.heap.objs.size+1) (.ins C s.heap.objs.size []))
  { s with heap:=(s.heap.push PySem.W.emptyDict).push (PySem.W.instObj C s.heap.objs.size) }:=by
 have e1:(s.heap.push PySem.W.emptyDict).get? s.heap.objs.size=some PySem.W.emptyDict:=Z0c s.heap rfl
 have e2:((s.heap.push PySem.W.emptyDict).push (PySem.W.instObj C s.heap.objs.size)).get? (s.heap.objs.size+1)=some (PySem.W.instObj C s.heap.objs.size):=by
  have:=Z0c (s.heap.push PySem.W.emptyDict) (o:=PySem.W.instObj C s.heap.objs.size) rfl
  rwa [Z1s] at this
 have e3:(s.heap.push PySem.W.emptyDict).Ns s.heap.objs.size (λ_=>none):=⟨PySem.W.emptyDict,#[],_,e1,rfl,(λe he=>absurd he (by simp)),λ_=>rfl⟩;have I1:=I.laid (a:=s.heap.objs.size) (o:= .own (s.heap.objs.size+1)) (h':=s.heap.push PySem.W.emptyDict) (t':=s.toks) (λb u q=>Z01 _ q) (Z09 _) ⟨_,e1⟩;refine I1.laid (a:=s.heap.objs.size+1) (o:= .ins C s.heap.objs.size []) (t':=s.toks) (λb u q=>Z01 _ q) (Nat.le_of_eq (Z1s _ _)) ?_;have ne:s.heap.objs.size≠s.heap.objs.size+1:=Z0h (Nat.lt_succ_self _);refine ⟨by rw [A0h ne,A0b],Z1e _,ne,e2,λ_=>none,(Heap.Ns1.of_empty e3).at λo q=>Z01 _ q,λ_=>True.intro,λy hy=>absurd rfl hy⟩
theorem C6c {prog:Program} {w:World} {env:Env} {e:Expr} {f:Str} {pos:Pos} {s:Shared} {Q:Value->Shared->Prop} (hb:attributeBase e f env (eval e env)=eval e env)
  (h:wpAny (model prog w) A (eval e env) (λo s₁=>wpAny (model prog w) A (getAttr o f true) Q E s₁) E s):wpAny (model prog w) A (eval (.Attribute e f pos) env) Q E s :=
 Attribute_any_ h (by rw [arm_eval_Attribute,hb])
end
def E0k (K:PySem.W.Frag) (ta:TE) (f:Str):TE:=λσ H Q=>ta σ H λx H1=>∃a C dx fs v,x= .ref a/\H1 a=some (.ins C dx fs)/\Cls K C/\A1u K C f/\fs.lookup f=some v/\Q v H1
def sFld (K:PySem.W.Frag) (ta tv:TE) (f:Str):TS:=λD σ H=>tv σ H λy H1=>ta σ H1 λx H2=>∃a C dx fs,x= .ref a/\H2 a=some (.ins C dx fs)/\Cls K C/\A1u K C f/\fs.length<1000/\
 D.nx σ (upd H2 a (.ins C dx (A5w f y fs)))
section
variable {X:Cx} {o e value:Expr} {f:Str} {pos pos' tpos:Pos} {ta tv:TE}
theorem A0s (he:PE X e ta) (hb:attributeBase e f X.env (eval e X.env)=eval e X.env):PE X (.Attribute e f pos) (E0k X.K ta f):=by
 intro pins s σ H Q I h;refine C6c hb (thn (he pins s σ H _ I h) λu s1 ⟨x,H1,I1,rx,a,C,dx,fs,v,ex,ea,c,n,l,q⟩=> ?_);subst ex;obtain rfl:u=Value.ref a:=rx;exact C3o I1 ea c n l λu' s2 I2 ru=>⟨v,H1,I2,ru,q⟩
theorem A3e (ha:PE X o ta) (hv:PE X value tv) (hs:swapsWith value (some (.Attribute o f pos')) pos.line X.env=pure false):PS X (.Assign [.Attribute o f pos'] value pos) (sFld X.K ta tv f):=by
 intro pins s σ H D I h;refine plainObj_wpAny_Assign_Attribute (thn (hv pins s σ H _ I h) λu s1 ⟨y,H1,I1,ry,q⟩=>thn (ha pins s1 σ H1 _ I1 q) λov s2 ⟨x,H2,I2,rx,a,C,dx,fs,ex,ea,c,n,l,q2⟩=> ?_) hs;subst ex;obtain rfl:ov=Value.ref a:=rx;exact C4n I2 ea c n l ry λs3 I3=>⟨σ,_,I3,q2⟩
end
section
variable {X:Cx} {pins:List (Addr×Obj)} {σ:St} {H:Hp} {s:Shared} {A:Around} {E:Value->Shared->Prop} {Q:Value->Shared->Prop} {c:Value} {b:Bool}
inductive A9o (K:PySem.W.Frag) (H:Hp):V->Value->Prop where
 | non:A9o K H .non (.type "NoneType")
 | bl (x:Bool):A9o K H (.bl x) (.type "bool")
 | int (i:Int):A9o K H (.int i) (.type "int")
 | str (x:Str):A9o K H (.str x) (.type "str")
 | flt (x:UInt64):A9o K H (.flt x) (.type "float")
 | lst {a:Addr} {xs:List V} (e:H a=some (.lst xs)):A9o K H (.ref a) (.type "list")
 | frz {a:Addr} {o:Obj} {xs:List V} (e:H a=some (.frz o (.lst xs))):A9o K H (.ref a) (.type "list")
 | tup {a:Addr} {xs:List V} (e:H a=some (.tup xs)):A9o K H (.ref a) (.type "tuple")
 | dK {a:Addr} {kvs:List (Key×V)} (e:H a=some (.dK kvs)):A9o K H (.ref a) (.type "dict")
 | dT {a:Addr} {kvs:List (List Key×V)} (e:H a=some (.dT kvs)):A9o K H (.ref a) (.type "dict")
 | ins {a C dx:Addr} {fs:List (Str×V)} (e:H a=some (.ins C dx fs)) (cl:Cls K C) (ha:PySem.W.findIn K (.ref C) "__class__"=some (some (.builtin "object.__class__")))
   (hn:PySem.W.specialIn K (.builtin "object.__class__") "__get__"=some (some (.builtin "getset_descriptor.__get__"))) (htk:PySem.W.takesIn K (.builtin "object.__class__")=some true)
   (hm:PySem.W.mroIn K C (.type "object")=some true):A9o K H (.ref a) (.ref C)
theorem C5i {x:V} {u t:Value} (I:Inv X pins σ H s) (rx:A2z x u) (ty:A9o X.K H x t) (e:PySem.W.kitOne X.K t c=some b) (h:∀tk,Q (.bool b) { s with toks:=tk }) :
  wpAny (model X.prog X.w) A (call (.builtin "isinstance") [u,c]) Q E s:=by
 cases ty with
 | non=>cases (show u=Value.none from rx);exact PySem.W.kia_one PySem.W.kitx_none I.kIn True.intro e (λz=>nomatch z) h
 | bl y=>cases (show u=Value.bool y from rx);exact PySem.W.kia_one PySem.W.kitx_bool I.kIn True.intro e (λz=>nomatch z) h
 | int i=>obtain ⟨t,q⟩:=(show∃t,u=Value.int i t from rx);cases q;exact PySem.W.kia_one PySem.W.kitx_int I.kIn True.intro e (λz=>nomatch z) h
 | str y=>obtain ⟨t,q⟩:=(show∃t,u=Value.str y t from rx);cases q;exact PySem.W.kia_one PySem.W.kitx_str I.kIn True.intro e (λz=>nomatch z) h
 | flt y=>obtain ⟨t,q⟩:=(show∃t,u=Value.float y t from rx);cases q;exact PySem.W.kia_one PySem.W.kitx_float I.kIn True.intro e (λz=>nomatch z) h
 | @lst a xs ea =>
  cases (show u=Value.ref a from rx)
  obtain ⟨_,_,n,_,h1⟩:=(show A1y X.prog X.w H s.heap a (.lst xs) from I.hok a _ ea);exact PySem.W.kia_one PySem.W.kitx_list I.kIn ⟨_,h1,rfl⟩ e (λz=>nomatch z) h
 | @frz a ob xs ea =>
  cases (show u=Value.ref a from rx)
  obtain ⟨_,_,_,n,_,h1⟩:=(show A1y X.prog X.w H s.heap a (.frz ob (.lst xs)) from I.hok a _ ea);exact PySem.W.kia_one PySem.W.kitx_list I.kIn ⟨_,h1,rfl⟩ e (λz=>nomatch z) h
 | @tup a xs ea =>
  cases (show u=Value.ref a from rx)
  obtain ⟨_,_,_,p⟩:=(show A1y X.prog X.w H s.heap a (.tup xs) from I.hok a _ ea);obtain ⟨o,h1,h2,_⟩:=p;exact PySem.W.kia_one PySem.W.kitx_tuple I.kIn ⟨o,h1,h2⟩ e (λz=>nomatch z) h
 | @dK a kvs ea =>
  cases (show u=Value.ref a from rx)
  obtain ⟨_,_,vs,_,p⟩:=(show A1y X.prog X.w H s.heap a (.dK kvs) from I.hok a _ ea);obtain ⟨o,es,ep,h1,h2,_⟩:=p;exact PySem.W.kia_one PySem.W.kitx_dict I.kIn ⟨o,h1,h2.1⟩ e (λz=>nomatch z) h
 | @dT a kvs ea =>
  cases (show u=Value.ref a from rx)
  obtain ⟨_,_,xs,_,o,es,ep,h1,h2,_⟩:=(show A1y X.prog X.w H s.heap a (.dT kvs) from I.hok a _ ea);exact PySem.W.kia_one PySem.W.kitx_dict I.kIn ⟨o,h1,h2.1⟩ e (λz=>nomatch z) h
 | @ins a C dx fs ea cl ha hn htk hm =>
  cases (show u=Value.ref a from rx)
  obtain ⟨mA,O,_⟩:=B3g I.hok ea;obtain ⟨od,J,_⟩:=O.look;exact PySem.W.kia_one (PySem.W.kitx_own (cl.get _) cl.hd ha hn htk hm) I.kIn J e (λz=>nomatch z) h
end
structure A7p (k:Nat) (A:Around):Prop where
 hd:A.handled=none
 dp:A.depth+3*k+5<recursionLimit
 un:A.units+16*k+200<cLine
 gd:A.guards=some []
theorem A7p.mono {j k:Nat} {A:Around} (r:A7p k A) (h:j<=k):A7p j A:=⟨r.hd,by have:=r.dp;lia,by have:=r.un;lia,r.gd⟩
theorem A7p.deeper {k:Nat} {A:Around} (r:A7p (k+1) A) (env:Env):A7p k (A.deeper env) :=
 ⟨r.hd,by have:=r.dp;show A.depth+1+3*k+5<_;lia,by have:=r.un;show A.units+3+16*k+200<_;lia,r.gd⟩
theorem C4g {A:Around} {C:Addr} {us:List Value} {kw:List (Str×Value)}:(A.under (.builtin "type.__call__" ⟨.ref C::us,kw⟩)).depth=A.depth+1:=by
 first | rfl | simp [Around.under,Code.weight,Code.isCreation,Code.isGuard,Code.isCaller,Code.frames,Code.isFrame,guardIds]
theorem C4e {A:Around} {C:Addr} {us:List Value} {kw:List (Str×Value)}:(A.under (.builtin "type.__call__" ⟨.ref C::us,kw⟩)).units=A.units+1:=by
 first | rfl | simp [Around.under,Code.cUnits,Code.frames,Code.isFrame]
theorem C0e {A:Around} {C:Addr} {us:List Value} {kw:List (Str×Value)}:(A.under (.builtin "type.__call__" ⟨.ref C::us,kw⟩)).guards=A.guards:=by
 show pushGuards (Code.guards (.builtin "type.__call__" ⟨.ref C::us,kw⟩)) A.guards=A.guards;have h:Code.isGuard (.builtin "type.__call__" ⟨.ref C::us,kw⟩)=false:=by first | rfl | (simp [Code.isGuard,guardIds]) | decide
 unfold Code.guards;rw [h];cases A.guards <;> rfl
theorem A7p.make {k:Nat} {A:Around} (r:A7p (k+1) A) (C:Addr) (us:List Value) (kw:List (Str×Value)):A7p k (A.under (.builtin "type.__call__" ⟨.ref C::us,kw⟩)) :=
 ⟨r.hd,by have:=r.dp;rw [C4g];lia,by have:=r.un;rw [C4e];lia,by rw [C0e];exact r.gd⟩
theorem A7p.depth {k:Nat} {A:Around} (r:A7p k A):A.depth<recursionLimit:=by have:=r.dp;lia
theorem A7p.units {k:Nat} {A:Around} (r:A7p k A):A.units+64<cLine:=by have:=r.un;lia
theorem A7p.units0 {k:Nat} {A:Around} (r:A7p k A):A.units<cLine:=by have:=r.un;lia
def tNil:TA:=λ_ H Q=>Q [] H
def D9q (ta:TE) (tr:TA):TA:=λσ H Q=>ta σ H λx H1=>tr σ H1 λxs H2=>Q (x::xs) H2
section
variable {X:Cx} {e:Expr} {es:List Expr} {te:TE} {t:TA} {pos:Pos}
theorem A0d:PA X [] tNil:=λ_ _ _ _ H Q I h=>Calls.spliced_nil ⟨[],H,I,.nil,h⟩
theorem A0a (ha:PE X e te) (hr:PA X es t) (hs:starEach (e::es) X.env=(false,eval e X.env)::starEach es X.env:=by rfl):PA X (e::es) (D9q te t):=by
 intro pos pins s σ H Q I h;rw [hs];show wpAny _ _ (spliced ((false,eval e X.env)::backTo pos (starEach es X.env))) _ _ s;refine Calls.spliced_cons (thn (ha pins s σ H _ I h) λu s1 ⟨x,H1,I1,r1,q1⟩=> ?_);exact thn (hr pos pins s1 σ H1 _ I1 q1) λus s2 ⟨xs,H2,I2,r2,q2⟩=>⟨x::xs,H2,I2,.cons r1 r2,q2⟩
def tTup (t:TA):TE:=λσ H Q=>t σ H λxs H1=>xs.length<=sizeLine/\∀p,H1 p=none->Q (.ref p) (upd H1 p (.tup xs))
def tLst (t:TA):TE:=λσ H Q=>t σ H λxs H1=>xs.length<=sizeLine/\∀p,H1 p=none->Q (.ref p) (upd H1 p (.lst xs))
theorem A3v {x1} (h:PA X es t):PE X (.Tuple es x1 pos) (tTup t):=by
 intro pins s σ H Q I hq;refine wpAny_Tuple_spliced (thn (h pos pins s σ H _ I hq) λus s1 ⟨xs,H1,I1,r,z,q⟩=>⟨by rw [<-r.length];exact z,?_⟩);have hf:H1 s1.heap.objs.size=none:=I1.hok.fresh (Z09 _);refine ⟨.ref s1.heap.objs.size,upd H1 s1.heap.objs.size (.tup xs),I1.laid (t':=s1.toks) (λb u e=>Z01 _ e) (Z09 _) ?_,rfl,q _ hf⟩;exact ⟨z,us,r,⟨_,Z0c _ rfl,rfl,_,rfl⟩⟩
theorem A2p (h:PA X es t):PE X (.List es pos) (tLst t):=by
 intro pins s σ H Q I hq;refine wpAny_List_spliced (thn (h pos pins s σ H _ I hq) λus s1 ⟨xs,H1,I1,r,z,q⟩=>⟨by rw [<-r.length];exact z,?_⟩);have hf:H1 s1.heap.objs.size=none:=I1.hok.fresh (Z09 _);refine ⟨.ref s1.heap.objs.size,upd H1 s1.heap.objs.size (.lst xs),I1.laid (t':=s1.toks) (λb u e=>Z01 _ e) (Z09 _) ?_,rfl,q _ hf⟩;exact ⟨z,us,0,r,Z0c _ rfl⟩
end
abbrev Sp:=List V->Hp->VK->XK->Prop
abbrev CXT:=List Env->Hp->Shared->XK->Value->Shared->Prop
structure C8h (P:Program) (w:World) (K:PySem.W.Frag) (mg:Str->Option Value) (base:Heap) (A:Around) (outer:List Env) (s:Shared) (H:Hp):Prop where
 frames:A.frames=some outer
 mod:Mod K mg base
 bs:∀b o,base.get? b=some o->s.heap.get? b=some o/\H b=none
 bsz:base.objs.size<=s.heap.objs.size
 funs:s.heap.FunFrames base outer
 frf:∀b∈frs outer,H b=none
 hok:HOk P w H s.heap
 bare:AllBare s.gens
def CE (outer:List Env) (P:Program) (w:World) (H:Hp) (s:Shared) (Q:VK) (u:Value) (s':Shared):Prop :=
 ∃v H',s'.os=s.os/\AllBare s'.gens/\Un (frs outer) [] H H' s.heap s'.heap/\HOk P w H' s'.heap/\A2z v u/\Q v H'
def CR (CX:CXT) (outer:List Env) (P:Program) (w:World) (H:Hp) (s:Shared) (Q:VK) (E:XK) (r:Result) (s':Shared):Prop :=
 match r with
 | .ok (.ret u)=>CE outer P w H s Q u s'
 | .ok _=>False
 | .error e=>CX outer H s E e s'
structure A2e (P:Program) (w:World) (K:PySem.W.Frag) (mg:Str->Option Value) (base:Heap) (CX:CXT) (k:Nat) (f:Addr) (fd:FuncData) (ps:List Str) (sp:Sp):Prop where
 len:∀vs H Q E,sp vs H Q E->vs.length=ps.length
 run:∀(A:Around) (outer:List Env) (s:Shared) (H:Hp) (args:Args) (us:List Value) (vs:List V) (Q:VK) (E:XK),A7p k A->C8h P w K mg base A outer s H->BindsTo s fd args (ps.zip us)->A2u vs us->sp vs H Q E->
  codeAny (model P w) A (.call (.ref f) args) (CR CX outer P w H s Q E) s
theorem A2e.mono {P:Program} {w:World} {K:PySem.W.Frag} {mg:Str->Option Value} {base:Heap} {CX:CXT} {j k:Nat} {f:Addr} {fd:FuncData} {ps:List Str} {sp:Sp} (F:A2e P w K mg base CX j f fd ps sp) (h:j<=k) :
  A2e P w K mg base CX k f fd ps sp:=⟨F.len,λA outer s H args us vs Q E hr=>F.run A outer s H args us vs Q E (hr.mono h)⟩
theorem C8h.make {P:Program} {w:World} {K:PySem.W.Frag} {mg:Str->Option Value} {base:Heap} {A:Around} {outer:List Env} {s:Shared} {H:Hp} (e:C8h P w K mg base A outer s H) (C:Addr) (us:List Value) (kw:List (Str×Value)) :
  C8h P w K mg base (A.under (.builtin "type.__call__" ⟨.ref C::us,kw⟩)) outer s H:=⟨by first | exact e.frames | (simpa [Around.under,Code.envs,Code.isFrame,pushEnvs] using e.frames),e.mod,e.bs,e.bsz,e.funs,e.frf,e.hok,e.bare⟩
section
variable {X:Cx} {pins:List (Addr×Obj)} {σ:St} {H:Hp} {s s':Shared}
theorem Inv.env0 (I:Inv X pins σ H s):C8h X.prog X.w X.K X.mg X.base X.A X.stack s H :=
 ⟨I.ok.frames,I.ok.mod,I.bs,Z1n I.ok.bsz I.sz,I.stack,I.stkFree,I.hok,I.bare⟩
theorem Inv.after {Q:VK} {u:Value} (I:Inv X pins σ H s) (h:CE X.stack X.prog X.w H s Q u s'):EP X pins σ Q u s':=by
 obtain ⟨v,H',os,bare,un,hok,r,q⟩:=h;obtain ⟨hh,g,d,t,os'⟩:=s';obtain rfl:os'=s.os:=os;exact ⟨v,H',I.call (h':=hh) (g':=g) (d':=d) (t':=t) (ch:=[]) un hok bare (λb z=>absurd z (by simp)),r,q⟩
end
def D7c (sp:Sp) (dvs:List V) (E:XK) (t:TA):TE:=λσ H Q=>t σ H λvs H1=>sp (vs++dvs) H1 Q E
def E0e (C:Addr) (m:Str) (sp:Sp) (dvs:List V) (E:XK) (ta:TE) (t:TA):TE:=λσ H Q=>ta σ H λx H1=>∃a dx fs,x= .ref a/\H1 a=some (.ins C dx fs)/\fs.lookup m=none/\
 t σ H1 λvs H2=>sp (x::(vs++dvs)) H2 Q E
def D9w (C:Addr) (sp:Sp) (dvs:List V) (E:XK) (t:TA):TE:=λσ H Q=>t σ H λvs H1=>∀x dx,H1 x=none->H1 dx=none->dx≠x->
 sp (.ref x::(vs++dvs)) (upd (upd H1 dx (.own x)) x (.ins C dx [])) (λv H2=>v= .non/\Q (.ref x) H2) E
def A1i (K:PySem.W.Frag) (fd:FuncData) (ps:List Str) (ds:List Value):Prop :=
 ∀(s:Shared) (us:List Value),K.In s.heap->(us++ds).length=ps.length->BindsTo s fd ⟨us,[]⟩ (ps.zip (us++ds))
theorem A1i.all {K:PySem.W.Frag} {fd:FuncData} {ps:List Str} (h:∀us:List Value,us.length=ps.length->bindArgs fd ⟨us,[]⟩=pure (ps.zip us)):A1i K fd ps []:=λs us _ hl=>by
 rw [Z0u] at hl⊢;exact .of_eq (h us hl)
def A8o (CX:CXT) (X:Cx) (E:XK):Prop:=∀(pins:List (Addr×Obj)) (σ:St) (H:Hp) (s:Shared) (e:Value) (s':Shared),Inv X pins σ H s->CX X.stack H s E e s'->X.xe e s'
section
variable {X:Cx} {CX:CXT} {k:Nat} {f C:Addr} {fd:FuncData} {ps:List Str} {sp:Sp} {dvs:List V} {ds:List Value} {E:XK} {x m:Str} {p pos apos:Pos} {e o:Expr} {es:List Expr} {ta:TE} {t:TA}
theorem D1y {pins:List (Addr×Obj)} {σ:St} {H:Hp} {s:Shared} {Q:VK} {us:List Value} {vs:List V} (F:A2e X.prog X.w X.K X.mg X.base CX k f fd ps sp) (hr:A7p k X.A) (hb:A1i X.K fd ps ds) (hd:A2u dvs ds) (hx:A8o CX X E)
  (I:Inv X pins σ H s) (r:A2u vs us) (h:sp (vs++dvs) H Q E):wpAny (model X.prog X.w) X.A (call (.ref f) us) (EP X pins σ Q) X.xe s:=by
 have r2:A2u (vs++dvs) (us++ds):=r.append hd;have hl:(us++ds).length=ps.length:=by rw [<-r2.length];exact F.len _ _ _ _ h
 refine wpAny_call (codeAny_mono (F.run X.A X.stack s H ⟨us,[]⟩ (us++ds) (vs++dvs) Q E hr I.env0 (hb s us I.kIn hl) r2 h) λr s' hq=> ?_)
 cases r with
 | error e=>exact hx pins σ H s e s' I hq
 | ok fl =>
  cases fl with
  | ret u=>exact I.after hq
  | next=>exact False.elim hq
  | brk=>exact False.elim hq
  | cont=>exact False.elim hq
theorem A0l (F:A2e X.prog X.w X.K X.mg X.base CX k f fd ps sp) (hr:A7p k X.A) (hg:Gl X x) (hm:X.mg x=some (.ref f)) (hk:PySem.W.keepIn X.K (.ref f)=true) (hb:A1i X.K fd ps ds) (hd:A2u dvs ds) (hx:A8o CX X E)
  (ha:PA X (e::es) t) (hdb:(x == ("__debug__":Str))=false:=by decide) (he:starEach (e::es) X.env=(false,eval e X.env)::starEach es X.env:=by rfl) (hpl:(backTo pos (starEach es X.env)).any (·.1)=false:=by rfl) :
  PE X (.Call (.Name x p) (e::es) [] pos) (D7c sp dvs E t):=by
 intro pins s σ H Q I h;refine wpAny_Call_Name_kw (A5g I hg hm ?_ hdb);refine PySem.W.callWith_K (h₀:=X.base) I.ok.mod.kin hk (thn (ha pos pins s σ H _ I h) λus s1 ⟨vs,H1,I1,r,q⟩=>⟨I1.kIn,?_⟩) he hpl;exact D1y F hr hb hd hx I1 r q
theorem C7c {pl:Sem Bool} (he:PE X o ta) (c:Cls X.K C) (hm:D8j X.K C m f) (F:A2e X.prog X.w X.K X.mg X.base CX k f fd ps sp) (hr:A7p k X.A) (hb:A1i X.K fd ps ds) (hd:A2u dvs ds) (hx:A8o CX X E) (ha:PA X (e::es) t)
  (hst:starEach (e::es) X.env=(false,eval e X.env)::starEach es X.env:=by rfl) (hpl:(backTo pos (starEach es X.env)).any (·.1)=false:=by rfl)
  (ht:eval (.Call (.Attribute o m apos) (e::es) [] pos) X.env=(do
   let ov<-eval o X.env
   standAt apos.atName
   let (f,first)<-holding [ov] (getMethod ov m pl)
   callWith pos f first (backTo pos (starEach (e::es) X.env)) (backToKw pos (keywordEach [] X.env))):=by rfl) :
  PE X (.Call (.Attribute o m apos) (e::es) [] pos) (E0e C m sp dvs E ta t):=by
 intro pins s σ H Q I h;refine PySem.W.methodCall_KW (pl:=pl) (thn (he pins s σ H _ I h) λu s1 ⟨x,H1,I1,rx,a,dx,fs,ex,ea,l,q⟩=> ?_) ht;subst ex;obtain rfl:u=Value.ref a:=rx;refine C3p I1 ea c hm l ?_;refine PySem.W.callWith_K (first:=[.ref a]) (h₀:=X.base) I.ok.mod.kin hm.kp (thn (ha pos pins s1 σ H1 _ I1 q) λus s2 ⟨vs,H2,I2,r,q2⟩=>⟨I2.kIn,?_⟩) hst hpl;exact D1y (us:= .ref a::us) (vs:= .ref a::vs) F hr hb hd hx I2 (.cons rfl r) q2
structure Mk (K:PySem.W.Frag) (C f:Addr):Prop where
 makes:PySem.W.makesIn K C=true
 init:PySem.W.findIn K (.ref C) "__init__"=some (some (.ref f))
 fn:PySem.W.isFn K (.ref f)=true
 kp:PySem.W.keepIn K (.ref C)=true
theorem C9q {pins:List (Addr×Obj)} {σ:St} {H:Hp} {s:Shared} {Q:VK} {us:List Value} {vs:List V} (M:Mk X.K C f) (F:A2e X.prog X.w X.K X.mg X.base CX k f fd ps sp) (hr:A7p (k+1) X.A) (hb:A1i X.K fd ps ds) (hd:A2u dvs ds)
  (hx:A8o CX X E) (I:Inv X pins σ H s) (r:A2u vs us)
  (h:∀x dx,H x=none->H dx=none->dx≠x->sp (.ref x::(vs++dvs)) (upd (upd H dx (.own x)) x (.ins C dx [])) (λv H2=>v= .non/\Q (.ref x) H2) E) :
  wpAny (model X.prog X.w) X.A (call (.ref C) us) (EP X pins σ Q) X.xe s:=by
 have hq:=h (s.heap.objs.size+1) s.heap.objs.size (I.hok.fresh (Nat.le_succ _)) (I.hok.fresh (Z09 _)) (Z0h (Nat.lt_succ_self _));have I2:=Inv.made (C:=C) I;have r2:A2u (V.ref (s.heap.objs.size+1)::(vs++dvs)) (Value.ref (s.heap.objs.size+1)::(us++ds)):= .cons rfl (r.append hd)
 have hl:(Value.ref (s.heap.objs.size+1)::us++ds).length=ps.length:=by
  have e:=r2.length;rw [F.len _ _ _ _ hq] at e;exact e.symm
 refine wpAny_call (D0t (f:=f) I.kIn M.makes M.init (beq_iff_eq.mp M.fn) (codeAny_mono (F.run _ X.stack _ _ ⟨Value.ref (s.heap.objs.size+1)::us,[]⟩ (Value.ref (s.heap.objs.size+1)::(us++ds)) _ _ E (hr.make C us [])
  (I2.env0.make C us []) (hb _ (Value.ref (s.heap.objs.size+1)::us) I2.kIn hl) r2 hq) λr s' hq'=> ?_))
 cases r with
 | error e=>exact hx pins σ _ _ e s' I2 hq'
 | ok fl =>
  cases fl with
  | ret u =>
   obtain ⟨v,H',I3,rv,ev,q3⟩:=I2.after hq';subst ev;exact ⟨rv,⟨V.ref (s.heap.objs.size+1),H',I3,rfl,q3⟩⟩
  | next=>exact False.elim hq'
  | brk=>exact False.elim hq'
  | cont=>exact False.elim hq'
theorem A2l (M:Mk X.K C f) (F:A2e X.prog X.w X.K X.mg X.base CX k f fd ps sp) (hr:A7p (k+1) X.A) (hg:Gl X x) (hm:X.mg x=some (.ref C)) (hb:A1i X.K fd ps ds) (hd:A2u dvs ds) (hx:A8o CX X E)
  (ha:PA X (e::es) t) (hdb:(x == ("__debug__":Str))=false:=by decide) (he:starEach (e::es) X.env=(false,eval e X.env)::starEach es X.env:=by rfl) (hpl:(backTo pos (starEach es X.env)).any (·.1)=false:=by rfl) :
  PE X (.Call (.Name x p) (e::es) [] pos) (D9w C sp dvs E t):=by
 intro pins s σ H Q I h;refine wpAny_Call_Name_kw (A5g I hg hm ?_ hdb);refine PySem.W.callWith_K (h₀:=X.base) I.ok.mod.kin M.kp (thn (ha pos pins s σ H _ I h) λus s1 ⟨vs,H1,I1,r,q⟩=>⟨I1.kIn,?_⟩) he hpl;exact C9q M F hr hb hd hx I1 r q
end
section
variable {X:Cx} {CX:CXT} {k:Nat} {f C:Addr} {fd:FuncData} {ps ks:List Str} {sp:Sp} {E:XK} {x m:Str} {p pos apos kpos:Pos} {e o:Expr} {es:List Expr} {kws:List Keyword} {te ta:TE} {t tk:TA} {nm:Option Str}
variable {g:List Value->List Value->List Value} {gV:List V->List V->List V}
end
structure A0o (N P:List Str) (sc:Scope):Prop where
 kind:sc.kind= .function
 co:sc.isCoroutine=false
 gen:sc.isGenerator=false
 nd:N.Nodup
 pre:N.take P.length=P
 par:∀x∈P,sc.names.lookup x=some .local\/sc.names.lookup x=some .cell
 nofree:∀y∈sc.names,y.2≠.free
theorem B9f {kindOf:Str->Option NameKind} {x:Str}:∀{binds:List (Str×Value)} {m:Str->Option Value},(∀v,(x,v)∉binds)->bindL kindOf binds m x=m x
 | [],_,_=>rfl
 | (n,v)::r,m,h=>by
  unfold bindL;rw [B9f λw hw=>h w (Z1f _ hw)];split
  ·have:x≠n:=by rintro rfl;exact h v Z27
   simp [this]
  ·rfl
theorem B8u {kindOf:Str->Option NameKind} {x:Str}:∀{binds:List (Str×Value)} {m:Str->Option Value},(∀v,(x,v)∉binds)->bindC kindOf binds m x=m x
 | [],_,_=>rfl
 | (n,v)::r,m,h=>by
  unfold bindC;rw [B8u λw hw=>h w (Z1f _ hw)];split
  ·rfl
  ·have:x≠n:=by rintro rfl;exact h v Z27
   simp [this]
theorem B8e {kindOf:Str->Option NameKind} {x:Str} {v:Value}:∀{P:List Str} {vs:List Value} {i:Nat} {m:Str->Option Value},P.Nodup->P[i]? =some x->vs[i]? =some v->kindOf x=some .local->
  bindL kindOf (P.zip vs) m x=some v
 | [],_,_,_,_,h,_,_=>by simp at h
 | _::_,[],_,_,_,_,h,_=>by simp at h
 | p::P,w::vs,0,m,nd,h1,h2,hk=>by
  simp at h1 h2;subst h1;subst h2;show bindL kindOf ((p,w)::P.zip vs) m p=_;unfold bindL;rw [B9f λv hv=>(Z15.mp nd).1 (List.of_mem_zip hv).1,Z12 hk];simp
 | p::P,w::vs,i+1,m,nd,h1,h2,hk=>by
  show bindL kindOf ((p,w)::P.zip vs) m x=_;unfold bindL;exact B8e (i:=i) (Z15.mp nd).2 (by simpa using h1) (by simpa using h2) hk
theorem B8f {kindOf:Str->Option NameKind} {x:Str} {v:Value}:∀{P:List Str} {vs:List Value} {i:Nat} {m:Str->Option Value},P.Nodup->P[i]? =some x->vs[i]? =some v->kindOf x≠some .local->
  bindC kindOf (P.zip vs) m x=some v
 | [],_,_,_,_,h,_,_=>by simp at h
 | _::_,[],_,_,_,_,h,_=>by simp at h
 | p::P,w::vs,0,m,nd,h1,h2,hk=>by
  simp at h1 h2;subst h1;subst h2;show bindC kindOf ((p,w)::P.zip vs) m p=_;unfold bindC;rw [B8u λv hv=>(Z15.mp nd).1 (List.of_mem_zip hv).1,Z0t hk];simp
 | p::P,w::vs,i+1,m,nd,h1,h2,hk=>by
  show bindC kindOf ((p,w)::P.zip vs) m x=_;unfold bindC;exact B8f (i:=i) (Z15.mp nd).2 (by simpa using h1) (by simpa using h2) hk
def B2a (N:List Str) (vs:List V):St:=vs.map some++List.replicate (N.length-vs.length) none
def C8b (CX:CXT) (P:Program) (w:World) (K:PySem.W.Frag) (mg:Str->Option Value) (base:Heap) (N:List Str) (qual:Str) (scope:Scope) (f:Addr) (cd:Value) (A:Around) (outer:List Env) (s:Shared) (H:Hp) (E:XK):Cx where
 prog:=P
 w:=w
 K:=K
 mg:=mg
 base:=base
 A:=A.deeper (envOfC qual scope s.heap.objs.size f cd)
 N:=N
 s₀:=s
 H₀:=H
 env:=envOfC qual scope s.heap.objs.size f cd
 outer:=outer
 stack:=envOfC qual scope s.heap.objs.size f cd::outer
 ex:=[]
 calm:=true
 fn:=λ_=>true
 pn:=[]
 xe:=λe s'=>wpAny (model P w) (A.deeper (envOfC qual scope s.heap.objs.size f cd)) (leaving (envOfC qual scope s.heap.objs.size f cd) e) (λ_ s''=>CX outer H s E e s'') (λe' s''=>CX outer H s E e' s'') s'
theorem C2o {sc:Scope} {n:Nat} {x:Str} (h:sc.names.lookup x=some .cell):∃c,(cellsFrom n sc.names []).lookup x=some c:=by
 have q:=PySem.W.cellsFrom_some sc.names n [] (.inl h);exact Option.isSome_iff_exists.mp q
theorem B8a {CX:CXT} {P:Program} {w:World} {K:PySem.W.Frag} {mg:Str->Option Value} {base:Heap} {N ps:List Str} {qual:Str} {scope:Scope} {f:Addr} {cd:Value} {A:Around} {outer:List Env} {s s1:Shared} {H:Hp} {E:XK} {us:List Value} {vs:List V}
  (S:A0o N ps scope) (hd:A.handled=none) (e0:C8h P w K mg base A outer s H) (hl:vs.length=ps.length) (r:A2u vs us)
  (x:InCallC s s.heap.objs.size (bindL (envOfC qual scope s.heap.objs.size f cd).kindOf (ps.zip us) λ_=>none) (cellsFrom (s.heap.objs.size+1) scope.names []) (bindC (envOfC qual scope s.heap.objs.size f cd).kindOf (ps.zip us) λ_=>none) s1) :
  Inv (C8b CX P w K mg base N qual scope f cd A outer s H E) [] (B2a N vs) H s1:=by
 have hpl:ps.length<=N.length:=by have:=congrArg List.length S.pre;rw [Z0x] at this;lia
 obtain ⟨h1,tk,rfl,hk⟩:=x.done;have noA:∀b:Addr,b∉(C8b CX P w K mg base N qual scope f cd A outer s H E).ex:=λb z=>absurd (show b∈([]:List Addr) from z) (by simp)
 refine ⟨⟨e0.mod,S.kind,rfl,rfl,Z09 _,λy z c h1 h2=> ?_,λy hy=> ?_,λy c _ h=> ?_,λ_=>hd,Around.frames_deeper e0.frames,.inr ⟨rfl,rfl⟩,λb z=>absurd z (noA b),e0.bs,e0.bsz,λb _ _=>noA b,λb z=>absurd z (noA b),e0.funs,e0.frf⟩,
  rfl,e0.bare,Un.kept hk,⟨_,x.toInCall.ns,λi y v h1 h2 h3=> ?_⟩,λy c h=>⟨_,x.cell y c h⟩,e0.hok.fresh (Z09 _),λy c h=> ?_,λp hp=>absurd (show p∈([]:List (Addr×Obj)) from hp) (by simp),e0.hok.kept hk,?_⟩
 ·exact name_of_addr x.apart (PySem.mem_of_lookup h1) (PySem.mem_of_lookup h2)
 ·have hy:scope.names.lookup y=some .cell\/scope.names.lookup y=some .free:=hy;rcases hy with hy | hy
  ·exact C2o hy
  ·exact absurd rfl (S.nofree _ (PySem.mem_of_lookup hy))
 ·exact Nat.le_of_lt (x.above y c (PySem.mem_of_lookup h))
 ·have hi:i<vs.length:=by
   unfold B2a at h2;by_cases hi:i<vs.length
   ·exact hi
   ·rw [Z1l (by simpa using hi)] at h2;rw [List.getElem?_replicate] at h2;split at h2 <;> cases h2
  have ha:vs[i]? =some v:=by
   unfold B2a at h2;rw [Z26 (by simpa using hi),Z1z] at h2
   cases e:vs[i]? with
   | none=>rw [e] at h2;cases h2
   | some a=>rw [e] at h2;cases h2;rfl
  obtain ⟨u,hu,rv⟩:=r.get ha
  have hp:ps[i]? =some y:=by
   rw [<-S.pre,List.getElem?_take_of_lt (by lia)];exact h1
  have ndP:ps.Nodup:=by rw [<-S.pre];exact S.nd.sublist (List.take_sublist _ _)
  refine ⟨u,rv,?_⟩;rcases S.par y (Z13 hp) with k | k
  ·exact .inl ⟨k,B8e ndP hp hu k⟩
  ·obtain ⟨c,e⟩:=C2o (n:=s.heap.objs.size+1) k;refine .inr ⟨.inl k,c,e,?_⟩;have q:=x.cell y c e;rw [B8f ndP hp hu (by show scope.names.lookup y≠_;rw [k];decide)] at q;exact q
 ·exact e0.hok.fresh (Nat.le_of_lt (x.above y c (PySem.mem_of_lookup h)))
 ·unfold B2a;show _=N.length;rw [Z06,Z08,List.length_replicate]
  lia
theorem D7o {CX:CXT} {P:Program} {w:World} {K:PySem.W.Frag} {mg:Str->Option Value} {base:Heap} {k:Nat} {f:Addr} {name qual:Str} {params:Arguments} {body:List Stmt} {scope:Scope} {dV kV doc pm cdv ct oc:Value} {an od:Option Addr}
  {osl:Array (Option Value)} {N ps:List Str} {sp:Sp} (lk:K.lookup f=some ⟨oc,od,.func (PySem.W.fnOf name qual params body scope dV kV doc pm an cdv ct),osl⟩) (hcd:PySem.W.codeIn K cdv qual=true) (S:A0o N ps scope)
  (len:∀vs H Q E,sp vs H Q E->vs.length=ps.length)
  (hbody:∀(A:Around) (outer:List Env) (s:Shared) (H:Hp) (vs:List V) (Q:VK) (E:XK),A7p k (A.deeper (envOfC qual scope s.heap.objs.size f cdv))->sp vs H Q E->
   ∃t,PSs (C8b CX P w K mg base N qual scope f cdv A outer s H E) body t/\t { nx:=λ_ H'=>Q .non H',rt:=Q } (B2a N vs) H) :
  A2e P w K mg base CX (k+1) f (PySem.W.fnOf name qual params body scope dV kV doc pm an cdv ct) ps sp:=by
 refine ⟨len,λA outer s H args us vs Q E hr e0 hb r hsp=> ?_⟩;have hl:=len _ _ _ _ hsp;have KX:K.In s.heap:=e0.mod.kin.keeps λb o e=>(e0.bs b o e).1;have lim:s.heap.NoLimit:=e0.mod.nolimit.keeps λb o e=>(e0.bs b o e).1
 have hkind:∀y∈ps.zip us,scope.names.lookup y.1=some .local\/(scope.names.lookup y.1=some .cell/\((cellsFrom (s.heap.objs.size+1) scope.names []).lookup y.1).isSome=true):=λ⟨n,v⟩ hy=>by
  rcases S.par n (List.of_mem_zip hy).1 with q | q
  ·exact .inl q
  ·exact .inr ⟨q,PySem.W.cellsFrom_some _ _ _ (.inl q)⟩
 refine codeAny_call_function hr.depth (KX _ _ lk) rfl S.co S.gen rfl (PySem.W.codeRec_of KX hcd) (hb _ _ _ _ ?_);refine wpAny_newFunctionEnv_cells S.kind hkind λenv he s1 x=> ?_;subst he;refine ⟨lim.keeps x.toInCall.keep,codeAny_func ?_⟩;obtain ⟨t,ht,hq⟩:=hbody A outer s H vs Q E (hr.deeper _) hsp;have I:Inv (C8b CX P w K mg base N qual scope f cdv A outer s H E) [] (B2a N vs) H s1:=B8a S hr.hd e0 hl r x;refine Z10 (ht [] s1 (B2a N vs) H _ I hq) (λfl s' hs=> ?_) λe s' hs=>hs
 have fin:∀{σ':St} {H':Hp} {v:V} {u:Value},Inv (C8b CX P w K mg base N qual scope f cdv A outer s H E) [] σ' H' s'->A2z v u->Q v H'->CE outer P w H s Q u s' :=
  λ{σ' H' v u} J rv q=>⟨v,H',J.os,J.bare,J.base,J.hok,rv,q⟩
 cases fl with
 | ret u =>
  obtain ⟨v,σ',H',J,rv,q⟩:=hs;exact fin J rv q
 | next =>
  obtain ⟨σ',H',J,q⟩:=hs;exact fin (v:=V.non) (u:=Value.none) J rfl q
 | brk =>
  obtain ⟨_,_,_,q⟩:=hs;exact False.elim q
 | cont =>
  obtain ⟨_,_,_,q⟩:=hs;exact False.elim q
section
variable {X:Cx} {x:Str} {p pos:Pos} {e:Expr} {es:List Expr} {t:TA} {id T:String} {r:List V->Hp->VK->Prop}
def tCB (r:List V->Hp->VK->Prop) (t:TA):TE:=λσ H Q=>t σ H λvs H1=>r vs H1 Q
theorem A0q (hc:B1g X (.builtin id) r) (hg:Gl X x) (hm:X.mg x=none) (hv:bootBuiltins x=some (.builtin id)) (ha:PA X (e::es) t) (hn:x≠"__name__":=by decide) (hdb:(x == ("__debug__":Str))=false:=by decide)
  (he:starEach (e::es) X.env=(false,eval e X.env)::starEach es X.env:=by rfl) (hpl:(backTo pos (starEach es X.env)).any (·.1)=false:=by rfl):PE X (.Call (.Name x p) (e::es) [] pos) (tCB r t):=by
 intro pins s σ H Q I h;refine wpAny_Call_Name_kw (A7f I hg hm hv ?_ hn hdb);exact PyProof.Rows.callWith_builtin1 (thn (ha pos pins s σ H _ I h) λus s1 ⟨vs,H1,I1,r1,q1⟩=>hc pins s1 σ H1 vs us Q I1 r1 q1) he hpl
theorem A3q (hc:B1g X (.type T) r) (hg:Gl X x) (hm:X.mg x=none) (hv:bootBuiltins x=some (.type T)) (ha:PA X (e::es) t) (hn:x≠"__name__":=by decide) (hdb:(x == ("__debug__":Str))=false:=by decide)
  (he:starEach (e::es) X.env=(false,eval e X.env)::starEach es X.env:=by rfl) (hpl:(backTo pos (starEach es X.env)).any (·.1)=false:=by rfl):PE X (.Call (.Name x p) (e::es) [] pos) (tCB r t):=by
 intro pins s σ H Q I h;refine wpAny_Call_Name_kw (A7f I hg hm hv ?_ hn hdb);exact PyProof.Rows.callWith_type1 (thn (ha pos pins s σ H _ I h) λus s1 ⟨vs,H1,I1,r1,q1⟩=>hc pins s1 σ H1 vs us Q I1 r1 q1) he hpl
end
end L2
namespace HT
open PySem PyProof.Rows
section
open PySem.SeqAt
open PySem.AutoSeq1 (wpAny_loadPart')
open PySem.MeetsSeq PySem.MeetsSeq2 PySem.MeetsSeq3
end
section
variable {prog:Program} {w:World} {A:Around} {E:Value->Shared->Prop} {s:Shared}
theorem cat_tup {t b:Addr} {vs ws:List Value} {Q:Value->Shared->Prop} (ht:IsTup s.heap t vs.toArray) (hb:IsTup s.heap b ws.toArray) (hv:vs≠[])
  (h1:ws=[]->Q (.ref t) s) (h2:ws≠[]->Q (.ref s.heap.objs.size) { s with heap:=s.heap.push { cls:= .type "tuple",data:= .seq (vs++ws).toArray } })
  (hsz:vs.length+ws.length<=sizeLine):wpAny (model prog w) A (binaryOp .Add (.ref t) (.ref b)) Q E s:=by
 obtain ⟨⟨cls,dd,data,sl⟩,ho,hc,n,hd⟩:=id ht;obtain ⟨⟨cls2,dd2,data2,sl2⟩,ho2,hc2,n2,hd2⟩:=id hb;simp only at hc hd hc2 hd2;subst hc hd hc2 hd2;have e:vs.toArray++ws.toArray=(vs++ws).toArray:=by simp
 by_cases hw:ws=[]
 ·exact concat_meets ⟨_,ho,rfl⟩ ⟨_,ho2,rfl⟩ noFill_tuple_add seq_tuple_add PySem.F.slot_tuple_add PySem.F.entry_tuple_add (PySem.F.args_tuple_add_2 _ _)
   (tuple_addW1 t b vs.toArray ws.toArray n n2 dd dd2 sl sl2 (by simpa using hv) (by simp [hw])) ⟨ho,ho2,h1 hw⟩
 ·refine concat_meets ⟨_,ho,rfl⟩ ⟨_,ho2,rfl⟩ noFill_tuple_add seq_tuple_add PySem.F.slot_tuple_add PySem.F.entry_tuple_add (PySem.F.args_tuple_add_2 _ _)
   (tuple_addW2 t b vs.toArray ws.toArray n n2 dd dd2 sl sl2 (by simpa using hv) (by simpa using hw) (by rw [Z0g,Z0g];exact hsz)) ⟨ho,ho2,?_⟩
  rw [e];exact h2 hw
def sIx (n d:Nat):Option Int->Nat
 | none=>d
 | some v=>if v<0 then (v+(n:Int)).toNat else min v.toNat n
end
end HT
namespace L2
open PySem PySem.Spec PyProof.Rows
abbrev TO:=St->Hp->(Option Int->Hp->Prop)->Prop
def PO (X:Cx) (e:Option Expr) (t:TO):Prop :=
 ∀(pins:List (Addr×Obj)) (s:Shared) (σ:St) (H:Hp) (Q:Option Int->Hp->Prop),Inv X pins σ H s->t σ H Q->
  wpAny (model X.prog X.w) X.A (evalPart e X.env) (λu s'=>∃o H',Inv X pins σ H' s'/\IsPart u o/\Q o H') X.xe s
def D3g:TO:=λ_ H Q=>Q none H
def D9v (t:TE):TO:=λσ H Q=>t σ H λx H1=>∃i,x= .int i/\Q (some i) H1
section
variable {X:Cx} {e:Expr} {te:TE} {lo hi:Option Expr} {tl th:TO} {pos p2:Pos}
theorem B2q:PO X none D3g:=by
 intro pins s σ H Q I h;rw [evalPart_none];exact Z04 ⟨none,H,I,.none,h⟩
theorem B3w (h:PE X e te):PO X (some e) (D9v te):=by
 intro pins s σ H Q I hw;rw [evalPart_some];refine thn (h pins s σ H _ I hw) λu s1 ⟨x,H1,I1,r1,q1⟩=> ?_;obtain ⟨i,rfl,q⟩:=q1;obtain ⟨t,rfl⟩:=r1;exact ⟨some i,H1,I1,.int i t,q⟩
def SlR (X:Cx) (r:V->Option Int->Option Int->Hp->VK->Prop):Prop :=
 ∀(pins:List (Addr×Obj)) (s:Shared) (σ:St) (H:Hp) (x:V) (v vl vu:Value) (lo hi:Option Int) (sl:Addr) (Q:VK),Inv X pins σ H s->A2z x v->s.heap.IsSliceOf sl vl vu .none->IsPart vl lo->IsPart vu hi->r x lo hi H Q->
  ∃T id,typeLookup (.type T) "__getitem__"=pure (some (.builtin id))/\s.TypeIs v T/\wpAny (model X.prog X.w) X.A (getItem v (.ref sl)) (EP X pins σ Q) X.xe s
def tSl (r:V->Option Int->Option Int->Hp->VK->Prop) (te:TE) (tl th:TO):TE:=λσ H Q=>te σ H λx H1=>tl σ H1 λl H2=>th σ H2 λu H3=>r x l u H3 Q
theorem B0r {r:V->Option Int->Option Int->Hp->VK->Prop} (hr:SlR X r) (he:PE X e te) (hl:PO X lo tl) (hu:PO X hi th):PE X (.Subscript e (.Slice lo hi none p2) pos) (tSl r te tl th):=by
 intro pins s σ H Q I h;refine Subscript_ (thn (he pins s σ H _ I h) λv s1 ⟨x,H1,I1,r1,q1⟩=> ?_);refine wpAny_Slice (thn (hl pins s1 σ H1 _ I1 q1) λvl s2 ⟨l,H2,I2,pl,q2⟩=>thn (hu pins s2 σ H2 _ I2 q2) λvu s3 ⟨u,H3,I3,pu,q3⟩=> ?_);rw [evalPart_none];refine Z04 ?_;have I4:Inv X pins σ H3 { s3 with heap:=s3.heap.push { cls:= .type "slice",data:= .fields #[vl,vu,.none] } }:=I3.kept (t':=s3.toks) λb ob q=>Z01 _ q
 obtain ⟨T,id,hT,ht,hg⟩:=hr pins { s3 with heap:=s3.heap.push { cls:= .type "slice",data:= .fields #[vl,vu,.none] } } σ H3 x v vl vu l u s3.heap.objs.size Q I4 r1 (Heap.IsSliceOf.new ..) pl pu q3;show wpAny (model X.prog X.w) X.A (subscriptTail e (.Slice lo hi none p2) v (.ref s3.heap.objs.size)) (EP X pins σ Q) X.xe { s3 with heap:=s3.heap.push { cls:= .type "slice",data:= .fields #[vl,vu,.none] } };exact tail_any (ops:=[.ref s3.heap.objs.size,v]) ht hT hg (by with_unfolding_all rfl)
def D1q (xs:List V) (lo hi:Option Int):List V:=(xs.drop (HT.sIx xs.length 0 lo)).take (HT.sIx xs.length xs.length hi-HT.sIx xs.length 0 lo)
theorem C1a (xs:List V) (lo hi:Option Int):(D1q xs lo hi).length<=xs.length:=by
 unfold D1q;rw [Z0x,List.length_drop]
 lia
def D9b (K:PySem.W.Frag):R2:=λx y H Q=>∃a b xs ys,x= .ref a/\y= .ref b/\SqT K H a xs/\SqT K H b ys/\xs≠[]/\xs.length+ys.length<=sizeLine/\
 (ys=[]->Q (.ref a) H)/\(ys≠[]->∀p,H p=none->Q (.ref p) (upd H p (.tup (xs++ys))))
theorem A2u.nil_iff {xs:List V} {us:List Value} (r:A2u xs us):us=[]↔xs=[]:=by
 cases r with
 | nil=>simp
 | cons _ _=>simp
theorem D3h:OpR X (binaryOp .Add) (D9b X.K):=by
 intro pins s σ H x y v u Q I rx ry h;obtain ⟨a,b,xs,ys,rfl,rfl,ha,hb,hx,hz,q1,q2⟩:=h;cases rx;cases ry;obtain ⟨its,r1,p1,_⟩:=I.tuple ha;obtain ⟨its2,r2,p2,_⟩:=I.tuple hb;refine HT.cat_tup p1 p2 (λz=>hx (r1.nil_iff.mp z)) (λz=>⟨.ref a,H,I,rfl,q1 (r2.nil_iff.mp z)⟩) (λz=> ?_) (by rw [<-r1.length,<-r2.length];exact hz);refine ⟨.ref s.heap.objs.size,_,I.laid (t':=s.toks) (o:= .tup (xs++ys)) (λb ob q=>Z01 _ q) (Z09 _) ?_,rfl,q2 (λw=>z (r2.nil_iff.mpr w)) _ (I.hok.fresh (Z09 _))⟩;exact ⟨by rw [Z06];exact hz,_,r1.append r2,IsTup.new _ _⟩
end
def ixN (n:Nat) (i:Int):Option Nat:=if 0<=i then (if i<n then some i.toNat else none) else if -(n:Int)<=i then some (i+n).toNat else none
def atI {α:Type} (xs:List α) (i:Int):Option α:=(ixN xs.length i).bind λj=>xs[j]?
theorem D4o {n:Nat} {i:Int} {j:Nat} (h:ixN n i=some j):seqIndex? i n=some j/\j<n/\-(n:Int)<=i/\i<n:=by
 unfold ixN at h;by_cases h0:0<=i
 ·rw [Z12 h0] at h;by_cases h1:i<n
  ·rw [Z12 h1] at h;have e:i.toNat=j:=Z1a h;exact ⟨by rw [seqIndex_of h0 h1,e],by lia,by lia,h1⟩
  ·rw [Z0t h1] at h;cases h
 ·rw [Z0t h0] at h;by_cases h1: -(n:Int)<=i
  ·rw [Z12 h1] at h;have e:(i+n).toNat=j:=Z1a h;exact ⟨by rw [seqIndex_neg (by lia) h1,e],by lia,h1,by lia⟩
  ·rw [Z0t h1] at h;cases h
theorem C5b {α:Type} {xs:List α} {i:Int} {v:α} (h:atI xs i=some v):∃j,seqIndex? i xs.length=some j/\xs[j]? =some v/\j<xs.length/\-(xs.length:Int)<=i/\i<xs.length:=by
 unfold atI at h
 cases e:ixN xs.length i with
 | none=>rw [e] at h;cases h
 | some j =>
  rw [e] at h;obtain ⟨h1,h2,h3,h4⟩:=D4o e;exact ⟨j,h1,h,h2,h3,h4⟩
theorem A3d {α:Type} {xs:List α} {j:Nat} {v:α} (h:xs[j]? =some v):atI xs (j:Int)=some v:=by
 have hj:j<xs.length:=(Z03.mp h).1
 have e:ixN xs.length (j:Int)=some j:=by
  unfold ixN;rw [Z12 (by lia),Z12 (by lia)];simp
 unfold atI;rw [e];exact h
theorem D0s {α:Type} (xs:List α) (v:α):atI (xs++[v]) (-1)=some v:=by
 have hl:(xs++[v]).length=xs.length+1:=by simp
 have e:ixN (xs++[v]).length (-1)=some xs.length:=by
  unfold ixN;rw [hl,Z0t (by decide),Z12 (by lia)];congr 1
  lia
 unfold atI;rw [e];show (xs++[v])[xs.length]? =some v;simp
def D3u (b:Expr):Prop:=∀o i,subscripted b false o i=operate [o,i] (getItem o i)
def IxR (X:Cx) (r:R2):Prop :=
 ∀(value slice:Expr) (pins:List (Addr×Obj)) (s:Shared) (σ:St) (H:Hp) (x y:V) (v u:Value) (Q:VK),Inv X pins σ H s->A2z x v->A2z y u->r x y H Q->
  subscripted slice false v u=operate [v,u] (getItem v u)->wpAny (model X.prog X.w) X.A (subscriptTail value slice v u) (EP X pins σ Q) X.xe s
def MtR (X:Cx) (id:String) (r:V->List V->Hp->VK->Prop):Prop :=
 ∀(pins:List (Addr×Obj)) (s:Shared) (σ:St) (H:Hp) (x:V) (xs:List V) (v:Value) (us:List Value) (Q:VK),Inv X pins σ H s->A2z x v->A2u xs us->r x xs H Q->
  wpAny (model X.prog X.w) X.A (call (.builtin id) (v::us)) (EP X pins σ Q) X.xe s
section
variable {X:Cx} {a b:Expr} {ta tb:TE} {pos:Pos}
theorem A3x {r:R2} (hr:IxR X r) (ha:PE X a ta) (hb:PE X b tb) (hs:D3u b):PE X (.Subscript a b pos) (tOp r ta tb):=by
 intro pins s σ H Q I h;exact Subscript_ (D8v ha hb I h λv u s2 x y H2 I2 rx ry q=>hr a b pins s2 σ H2 x y v u Q I2 rx ry q (hs _ _))
def E0n (K:PySem.W.Frag):R2:=λx y H Q=>∃p xs i v,x= .ref p/\y= .int i/\SqL K H p xs/\atI xs i=some v/\Q v H
def D8u (K:PySem.W.Frag):R2:=λx y H Q=>∃p xs i v,x= .ref p/\y= .int i/\SqT K H p xs/\atI xs i=some v/\Q v H
theorem A8g:IxR X (E0n X.K):=by
 intro value slice pins s σ H x y v u Q I rx ry h hs;obtain ⟨p,xs,i,z,rfl,rfl,hq,he,q⟩:=h;cases rx;obtain ⟨t,rfl⟩:=ry;obtain ⟨its,r,pl,hz⟩:=I.list hq;obtain ⟨j,h1,h2,h3,h4,h5⟩:=C5b he;obtain ⟨w,ew,rw'⟩:=r.get h2;have hl:=r.length;have hn:=C1t;have fin:EP X pins σ Q w s:=⟨z,H,I,rw',q⟩;by_cases h0:0<=i
 ·have hj:i.toNat=j:=by
   rw [seqIndex_of h0 h5] at h1;exact Z1a h1
  exact item_listR pl.isList h0 (by lia) (by rw [hj];simpa using ew) fin hs
 ·have hj:(i+(its.toArray.size:Int)).toNat=j:=by
   rw [seqIndex_neg (by lia) h4] at h1;rw [Z0g,<-hl];exact Z1a h1
  exact subscriptTail_builtinR (x:=w) pl.isList.typeIs slot_list_getitem.lookup
   (wpAny_getItem_list_neg (Q:=λr s'=>r=w/\EP X pins σ Q r s') pl.isList (by lia) (by rw [Z0g] <;> lia) (by lia) (by rw [hj];simpa using ew) ⟨rfl,fin⟩) hs
theorem A4i:IxR X (D8u X.K):=by
 intro value slice pins s σ H x y v u Q I rx ry h hs;obtain ⟨p,xs,i,z,rfl,rfl,hq,he,q⟩:=h;cases rx;obtain ⟨t,rfl⟩:=ry;obtain ⟨its,r,pl,hz⟩:=I.tuple hq;obtain ⟨j,h1,h2,h3,h4,h5⟩:=C5b he;obtain ⟨w,ew,rw'⟩:=r.get h2;have hl:=r.length;have hn:=C1t;have fin:EP X pins σ Q w s:=⟨z,H,I,rw',q⟩
 exact subscriptTail_builtinR (x:=w) pl.typeIs slot_tuple_getitem.lookup
  (getItem_tuple (j:=j) (Q:=λr s'=>r=w/\EP X pins σ Q r s') pl (by lia) (by lia) (by rw [Z0g,<-hl];exact h1) (by simpa using ew) ⟨rfl,fin⟩) hs
theorem B8k (lo hi:Option Int) (n:Nat):(sliceBounds lo hi none n).1=((HT.sIx n 0 lo:Nat):Int)/\(sliceBounds lo hi none n).2.1=((HT.sIx n n hi:Nat):Int)/\(sliceBounds lo hi none n).2.2=1:=by
 refine ⟨?_,?_,rfl⟩
 ·cases lo with
  | none=>simp [sliceBounds,HT.sIx]
  | some i =>
   simp only [sliceBounds,HT.sIx,Option.getD_none,show (1:Int)>0 by decide,if_true];by_cases h:i<0
   ·simp only [h,if_true] <;> lia
   ·simp only [h,if_false] <;> lia
 ·cases hi with
  | none=>simp [sliceBounds,HT.sIx]
  | some i =>
   simp only [sliceBounds,HT.sIx,Option.getD_none,show (1:Int)>0 by decide,if_true];by_cases h:i<0
   ·simp only [h,if_true] <;> lia
   ·simp only [h,if_false] <;> lia
theorem B6q (its:List Value) (lo hi:Option Int):slicePick its.toArray lo hi none=((its.drop (HT.sIx its.length 0 lo)).take (HT.sIx its.length its.length hi-HT.sIx its.length 0 lo)).toArray:=by
 obtain ⟨h1,h2,h3⟩:=B8k lo hi its.toArray.size;unfold slicePick;rw [h1,h2,h3];simp only [sliceRange_one,pick_run,Z0g] <;> rfl
def rSlL (K:PySem.W.Frag):V->Option Int->Option Int->Hp->VK->Prop:=λx lo hi H Q=>∃a xs,x= .ref a/\SqL K H a xs/\∀p,H p=none->Q (.ref p) (upd H p (.lst (D1q xs lo hi)))
theorem B3s:SlR X (rSlL X.K):=by
 intro pins s σ H x v vl vu lo hi sl Q I rx hs pl pu h;obtain ⟨a,xs,rfl,hx,q⟩:=h;cases rx;obtain ⟨its,r,ht,hz⟩:=I.list hx;have hlen:=r.length;refine ⟨"list",_,slot_list_getitem.lookup,ht.isList.typeIs,?_⟩;refine wpAny_getItem_list_slice ht.isList hs pl pu .none (by simp) ?_ (by rw [Z0g] <;> lia);rw [B6q,<-hlen];refine ⟨.ref s.heap.objs.size,_,I.laid (t':=s.toks) (o:= .lst (D1q xs lo hi)) (λb ob q=>Z01 _ q) (Z09 _) ?_,rfl,q _ (I.hok.fresh (Z09 _))⟩;exact ⟨Z1n (C1a xs lo hi) hz,_,0,(r.drop (HT.sIx xs.length 0 lo)).take (HT.sIx xs.length xs.length hi-HT.sIx xs.length 0 lo),Z0c _ rfl⟩
def B6m:V->Bool
 | .non=>true
 | .bl _=>true
 | .int _=>true
 | .str _=>true
 | _=>false
def eqV:V->V->Bool
 | .non,.non=>true
 | .bl a,.bl b=>a == b
 | .bl a,.int b=>(if a then 1 else 0) == b
 | .int a,.bl b=>a == (if b then 1 else 0)
 | .int a,.int b=>a == b
 | .str a,.str b=>a == b
 | _,_=>false
theorem D6h {A:Around} {s:Shared} {y x:V} {u v:Value} (ry:A2z y u) (rx:A2z x v) (fy:B6m y=true) (fx:B6m x=true):SeqAt.EqAt A s u v (eqV y x):=by
 cases y with
 | non =>
  cases ry
  cases x with
  | non=>cases rx;exact SeqAt.EqAt.same _
  | bl b=>cases rx;exact SeqAt.EqAt.none_bool b
  | int b=>obtain ⟨t,rfl⟩:=rx;exact SeqAt.EqAt.none_int b t
  | str b=>obtain ⟨t,rfl⟩:=rx;exact SeqAt.EqAt.none_str b t
  | _=>exact absurd (show false=true from fx) Z0v
 | bl a =>
  cases ry
  cases x with
  | non=>cases rx;exact SeqAt.EqAt.bool_none a
  | bl b=>cases rx;exact SeqAt.EqAt.bool_bool a b
  | int b=>obtain ⟨t,rfl⟩:=rx;exact SeqAt.EqAt.bool_int a b t
  | str b=>obtain ⟨t,rfl⟩:=rx;exact SeqAt.EqAt.bool_str a b t
  | _=>exact absurd (show false=true from fx) Z0v
 | int a =>
  obtain ⟨t',rfl⟩:=ry
  cases x with
  | non=>cases rx;exact SeqAt.EqAt.int_none a t'
  | bl b=>cases rx;exact SeqAt.EqAt.int_bool a t' b
  | int b=>obtain ⟨t,rfl⟩:=rx;exact SeqAt.EqAt.int_int a t' b t
  | str b=>obtain ⟨t,rfl⟩:=rx;exact SeqAt.EqAt.int_str a t' b t
  | _=>exact absurd (show false=true from fx) Z0v
 | str a =>
  obtain ⟨t',rfl⟩:=ry
  cases x with
  | non=>cases rx;exact SeqAt.EqAt.str_none a t'
  | bl b=>cases rx;exact SeqAt.EqAt.str_bool a t' b
  | int b=>obtain ⟨t,rfl⟩:=rx;exact SeqAt.EqAt.str_int a t' b t
  | str b=>obtain ⟨t,rfl⟩:=rx;exact SeqAt.EqAt.str_str a t' b t
  | _=>exact absurd (show false=true from fx) Z0v
 | _=>exact absurd (show false=true from fy) Z0v
def eqU (x:V) (u:Value):Bool:=match u with
 | .none=>eqV .non x
 | .bool b=>eqV (.bl b) x
 | .int i _=>eqV (.int i) x
 | .str z _=>eqV (.str z) x
 | _=>false
theorem D1s {x y:V} {u:Value} (r:A2z y u) (f:B6m y=true):eqU x u=eqV y x:=by
 cases y with
 | non=>cases r;rfl
 | bl b=>cases r;rfl
 | int i=>obtain ⟨t,rfl⟩:=r;rfl
 | str z=>obtain ⟨t,rfl⟩:=r;rfl
 | _=>exact absurd (show false=true from f) Z0v
theorem B2o {x:V}:∀{xs:List V} {us:List Value},A2u xs us->xs.all B6m=true->us.any (eqU x)=xs.any λy=>eqV y x
 | _,_,.nil,_=>rfl
 | y::xs,u::us,.cons r t,f=>by
  rw [List.all_cons,Z1x] at f;rw [List.any_cons,List.any_cons,D1s r f.1,B2o t f.2]
theorem B0t {A:Around} {s:Shared} {x:V} {v:Value} (rx:A2z x v) (fx:B6m x=true):∀{xs:List V} {us:List Value},A2u xs us->xs.all B6m=true->∀u∈us,SeqAt.EqAt A s u v (eqU x u)
 | _,_,.nil,_=>λu hu=>by cases hu
 | y::xs,u::us,.cons r t,f=>λu' hu=>by
  rw [List.all_cons,Z1x] at f;rcases Z0e.mp hu with rfl | hu
  ·rw [D1s r f.1];exact D6h r rx f.1 fx
  ·exact B0t rx fx t f.2 u' hu
def inV (x:V) (xs:List V):Bool:=xs.any λy=>eqV y x
def rIn (K:PySem.W.Frag) (neg:Bool):R2:=λx y H Q=>∃p xs,y= .ref p/\(SqL K H p xs\/SqT K H p xs)/\B6m x=true/\xs.all B6m=true/\Q (.bl (if neg then !inV x xs else inV x xs)) H
theorem B0d:OpR X (compareOp .In) (rIn X.K false):=by
 intro pins s σ H x y v u Q I rx ry h;obtain ⟨p,xs,rfl,hq,fx,fs,q⟩:=h;cases ry;rcases hq with hq | hq
 ·obtain ⟨its,r,pl,hz⟩:=I.list hq;refine SeqAt.in_listAt (eqU x) pl.isList (λw hw=>B0t rx fx r fs w (by simpa using hw)) ⟨.bl _,H,I,rfl,?_⟩;rw [show its.toArray.any (eqU x)=its.any (eqU x) by simp,B2o r fs];exact q
 ·obtain ⟨its,r,pl,hz⟩:=I.tuple hq;refine SeqAt.in_tupleAt (eqU x) pl (λw hw=>B0t rx fx r fs w (by simpa using hw)) ⟨.bl _,H,I,rfl,?_⟩;rw [show its.toArray.any (eqU x)=its.any (eqU x) by simp,B2o r fs];exact q
theorem A3w:OpR X (compareOp .NotIn) (rIn X.K true):=by
 intro pins s σ H x y v u Q I rx ry h;obtain ⟨p,xs,rfl,hq,fx,fs,q⟩:=h;cases ry;rcases hq with hq | hq
 ·obtain ⟨its,r,pl,hz⟩:=I.list hq;refine SeqAt.notIn_listAt (eqU x) pl.isList (λw hw=>B0t rx fx r fs w (by simpa using hw)) ⟨.bl _,H,I,rfl,?_⟩;rw [show its.toArray.any (eqU x)=its.any (eqU x) by simp,B2o r fs];exact q
 ·obtain ⟨its,r,pl,hz⟩:=I.tuple hq;refine SeqAt.notIn_tupleAt (eqU x) pl (λw hw=>B0t rx fx r fs w (by simpa using hw)) ⟨.bl _,H,I,rfl,?_⟩;rw [show its.toArray.any (eqU x)=its.any (eqU x) by simp,B2o r fs];exact q
theorem A1a:B1g X (.builtin "len") (λxs H Q=>∃p ys,xs=[.ref p]/\(SqL X.K H p ys\/SqT X.K H p ys)/\Q (.int ys.length) H):=by
 intro pins s σ H xs us Q I r h;obtain ⟨p,ys,rfl,hq,q⟩:=h;obtain ⟨u,rfl,rx⟩:=B8h r;cases rx;have hn:=C1t;rcases hq with hq | hq
 ·obtain ⟨its,r',pl,hz⟩:=I.list hq;have hlen:=r'.length;exact Calls.call_len_list pl.isList (by simp only [Z0g] <;> lia) ⟨.int ys.length,H,I.tok _,⟨s.toks+1,by rw [Z0g,hlen]⟩,q⟩
 ·obtain ⟨its,r',pl,hz⟩:=I.tuple hq;have hlen:=r'.length;exact len_tuple pl (by simp only [Z0g] <;> lia) ⟨.int ys.length,H,I.tok _,⟨s.toks+1,by rw [Z0g,hlen]⟩,q⟩
theorem B9d:B1g X (.builtin "len") (λxs H Q=>∃z,xs=[.str z]/\z.length<=sizeLine/\Q (.int z.length) H):=by
 intro pins s σ H xs us Q I r h;obtain ⟨z,rfl,hz,q⟩:=h;obtain ⟨u,rfl,t,rfl⟩:=B8h r;have hn:=C1t;exact len_str (by lia) ⟨.int z.length,H,I.tok _,⟨_,rfl⟩,q⟩
theorem A7t:B1g X (.type "list") (λxs H Q=>∃p ys,xs=[.ref p]/\(SqL X.K H p ys\/SqT X.K H p ys)/\∀l,H l=none->Q (.ref l) (upd H l (.lst ys))):=by
 intro pins s σ H xs us Q I r h;obtain ⟨p,ys,rfl,hq,q⟩:=h;obtain ⟨u,rfl,rx⟩:=B8h r;cases rx
 have fin:∀(its:List Value),A2u ys its->ys.length<=sizeLine->∀(h':Heap) (c':Nat),(∀b o',s.heap.get? b=some o'->h'.get? b=some o')->
   h'.get? s.heap.objs.size=some { cls:= .type "list",dict:=none,data:= .seq its.toArray c',slots:= #[] }->EP X pins σ Q (.ref s.heap.objs.size) { s with heap:=h' }:=λits r' hz h' c' kp e =>
  ⟨.ref s.heap.objs.size,_,I.laid (t':=s.toks) kp (Z09 _) (show A1y X.prog X.w _ h' _ (.lst ys) from ⟨hz,its,c',r',e⟩),rfl,q _ (I.hok.fresh (Z09 _))⟩
 rcases hq with hq | hq
 ·obtain ⟨its,r',pl,hz⟩:=I.list hq;have hlen:=r'.length;obtain ⟨o,ho,hc,n,hd⟩:=pl.isList;exact call_list_seq p (.inl rfl) ho hc hd (λh' c' kp e=>fin its r' hz h' c' kp e) (by simp only [Z0g] <;> lia)
 ·obtain ⟨its,r',pl,hz⟩:=I.tuple hq;have hlen:=r'.length;obtain ⟨o,ho,hc,n,hd⟩:=pl;exact call_list_seq p (.inr rfl) ho hc hd (λh' c' kp e=>fin its r' hz h' c' kp e) (by simp only [Z0g] <;> lia)
theorem A4d:B1g X (.type "tuple") (λxs H Q=>∃p ys,xs=[.ref p]/\((SqL X.K H p ys/\∀l,H l=none->Q (.ref l) (upd H l (.tup ys)))\/(SqT X.K H p ys/\Q (.ref p) H))):=by
 intro pins s σ H xs us Q I r h;obtain ⟨p,ys,rfl,h⟩:=h;obtain ⟨u,rfl,rx⟩:=B8h r;cases rx;rcases h with ⟨hq,q⟩ | ⟨hq,q⟩
 ·obtain ⟨its,r',pl,hz⟩:=I.list hq;have hlen:=r'.length;refine call_tuple_list pl.isList (λh' kp=> ?_) (by simp only [Z0g] <;> lia);have I1:Inv X pins σ H { s with heap:=h' }:=I.kept (t':=s.toks) kp
  have I2:Inv X pins σ (upd H h'.objs.size (.tup ys)) { s with heap:=h'.push { cls:= .type "tuple",data:= .seq its.toArray } } :=
   I1.laid (t':=s.toks) (λb o e=>Z01 _ e) (Z09 _) (show A1y X.prog X.w _ _ _ (.tup ys) from ⟨hz,its,r',IsTup.new _ _⟩)
  exact ⟨.ref h'.objs.size,_,I2,rfl,q _ (I1.hok.fresh (Z09 _))⟩
 ·obtain ⟨its,r',pl,hz⟩:=I.tuple hq;exact call_tuple_same pl ⟨.ref p,H,I,rfl,q⟩
def tyV (K:PySem.W.Frag) (T:String) (x:V) (H:Hp):Prop:=match x with
 | .str _=>T="str"
 | .int _=>T="int"
 | .ref p=>(T="list"/\∃xs,SqL K H p xs)\/(T="tuple"/\∃o,K.lookup p=some o/\o.cls= .type "tuple"/\o.dict=none)\/
   (T="dict"/\((∃kvs,H p=some (.dK kvs))\/∃kvs,H p=some (.dT kvs)))\/(T="set"/\∃S n,H p=some (.set S n))
 | _=>False
theorem D1v {pins:List (Addr×Obj)} {σ:St} {H:Hp} {s:Shared} {T:String} {x:V} {v:Value} (I:Inv X pins σ H s) (r:A2z x v) (ty:tyV X.K T x H) :
  s.TypeIs v T/\∀a,v= .ref a->∃ob,s.heap.get? a=some ob/\ob.dict=none:=by
 cases x with
 | str z =>
  obtain ⟨t,rfl⟩:=r;cases (show T="str" from ty);exact ⟨typeIs_str s z t,λ_ e=>nomatch e⟩
 | int i =>
  obtain ⟨t,rfl⟩:=r;cases (show T="int" from ty);exact ⟨typeIs_int s i t,λ_ e=>nomatch e⟩
 | ref p =>
  cases r
  rcases ty with ⟨rfl,xs,hq⟩ | ⟨rfl,o,hk,hc,hd⟩ | ⟨rfl,hk⟩ | ⟨rfl,S,n,hk⟩
  ·obtain ⟨its,_,pl,_⟩:=I.list hq;refine ⟨pl.isList.typeIs,λa e=> ?_⟩;cases e;obtain ⟨o,n,e,c,hd,_⟩:=pl;exact ⟨o,e,hd⟩
  ·refine ⟨⟨o,I.kIn p o hk,hc⟩,λa e=> ?_⟩;cases e;exact ⟨o,I.kIn _ o hk,hd⟩
  ·have z:∃o,s.heap.get? p=some o/\o.ExactDict:=by
    rcases hk with ⟨kvs,hk⟩ | ⟨kvs,hk⟩
    ·obtain ⟨_,_,_,_,o,_,_,e,ex,_⟩:=I.hok p _ hk;exact ⟨o,e,ex⟩
    ·obtain ⟨_,_,_,_,o,_,_,e,ex,_⟩:=I.hok p _ hk;exact ⟨o,e,ex⟩
   obtain ⟨o,e,ex⟩:=z;refine ⟨⟨o,e,ex.1⟩,λa e2=> ?_⟩;cases e2;exact ⟨o,e,ex.2.1⟩
  ·obtain ⟨o,_,_,_,e,ex,_⟩:=I.hok p _ hk;refine ⟨⟨o,e,ex.1⟩,λa e2=> ?_⟩;cases e2;exact ⟨o,e,ex.2.1⟩
 | _=>exact False.elim ty
def tBM0 (K:PySem.W.Frag) (T:String) (r:V->List V->Hp->VK->Prop) (to:TE):TE:=λσ H Q=>to σ H λx H1=>tyV K T x H1/\r x [] H1 Q
def tBM (K:PySem.W.Frag) (T:String) (r:V->List V->Hp->VK->Prop) (to:TE) (t:TA):TE:=λσ H Q=>to σ H λx H1=>tyV K T x H1/\t σ H1 λxs H2=>r x xs H2 Q
variable {o e:Expr} {es:List Expr} {to:TE} {t:TA} {name:Str} {apos cpos:Pos} {T id:String} {r:V->List V->Hp->VK->Prop}
theorem D1n (pa:PlainAttrs T) (slot:Slot T name id) (hty:typeOf (.builtin id)=pure (.type "method_descriptor")) (hm:MtR X id r) (ho:PE X o to)
  (hbase:attributeBase o name X.env (eval o X.env)=eval o X.env:=by rfl) (hline:(apos.endLine == cpos.line)=true:=by rfl):PE X (.Call (.Attribute o name apos) [] [] cpos) (tBM0 X.K T r to):=by
 intro pins s σ H Q I h;refine wpAny_Call_method0_late hbase hline (thn (ho pins s σ H _ I h) λv s1 ⟨x,H1,I1,r1,ty,q1⟩=> ?_);obtain ⟨h1,h2⟩:=D1v I1 r1 ty;exact ⟨T,id,pa,slot,hty,h1,h2,Calls.callWith_builtin rfl (PySem.evalArgs_none (hm pins s1 σ H1 x [] v [] Q I1 r1 .nil q1))⟩
theorem B4w (pa:PlainAttrs T) (slot:Slot T name id) (hty:typeOf (.builtin id)=pure (.type "method_descriptor")) (hm:MtR X id r) (ho:PE X o to) (ha:PA X (e::es) t)
  (hbase:attributeBase o name X.env (eval o X.env)=eval o X.env:=by rfl)
  (hfew:((backTo cpos (starEach (e::es) X.env)).all (λx=> !x.1)&&(backToKw cpos (keywordEach [] X.env)).all (λx=>x.1.isSome)
   && decide ((e::es).length+([]:List Keyword).length+(if ([]:List Keyword).isEmpty then 0 else 1)<30))=true:=by rfl)
  (hline:(apos.endLine == cpos.line)=true:=by rfl) (hs:starEach (e::es) X.env=(false,eval e X.env)::starEach es X.env:=by rfl) (hplain:(backTo cpos (starEach es X.env)).any (·.1)=false:=by rfl) :
  PE X (.Call (.Attribute o name apos) (e::es) [] cpos) (tBM X.K T r to t):=by
 intro pins s σ H Q I h;refine wpAny_Call_method_late hbase hfew hline rfl (thn (ho pins s σ H _ I h) λv s1 ⟨x,H1,I1,r1,ty,q1⟩=> ?_);obtain ⟨h1,h2⟩:=D1v I1 r1 ty;refine ⟨T,id,pa,slot,hty,h1,h2,?_⟩;have hA:=ha cpos pins s1 σ H1 _ I1 q1;rw [hs] at hA⊢;refine Calls.callWith_builtin (by show (false||(backTo cpos (starEach es X.env)).any (·.1))=false;rw [hplain] <;> rfl) (Calls.evalArgs_plain ?_);exact thn hA λus s2 ⟨vs,H2,I2,r2,q2⟩=>hm pins s2 σ H2 x vs v us Q I2 r1 r2 q2
end
def MtM (X:Cx) (id:String) (r:V->List V->Hp->VK->Prop):Prop :=
 ∀(pins:List (Addr×Obj)) (s:Shared) (σ:St) (H:Hp) (x:V) (xs:List V) (v:Value) (us:List Value) (Q:VK),Inv X pins σ H s->A2z x v->A2u xs us->r x xs H Q->
  wpAny (model X.prog X.w) X.A (call (.builtin id) (v::us)) (EP X pins σ Q) X.xe s
theorem A2u.one:∀{x:V} {us:List Value},A2u [x] us->∃u,us=[u]/\A2z x u
 | _,_,.cons r .nil=>⟨_,rfl,r⟩
theorem A2u.zero:∀{us:List Value},A2u [] us->us=[]
 | _,.nil=>rfl
theorem A2u.dropLast {xs:List V} {us:List Value} (h:A2u xs us):A2u xs.dropLast us.dropLast:=by
 induction h with
 | nil=>exact .nil
 | cons r t ih =>
  cases t with
  | nil=>exact .nil
  | cons q t'=>exact .cons r ih
theorem C3i {α:Type} (l:List α):l.eraseIdx (l.length-1)=l.dropLast:=by
 induction l with
 | nil=>rfl
 | cons a r ih =>
  cases r with
  | nil=>rfl
  | cons b r =>
   have e:(a::b::r).length-1=((b::r).length-1)+1:=by
    have h1:(a::b::r).length=r.length+2:=rfl;have h2:(b::r).length=r.length+1:=rfl
    lia
   rw [e,List.eraseIdx_cons_succ,ih]
   all_goals rfl
section
variable {X:Cx} {pins:List (Addr×Obj)} {σ:St} {H:Hp} {s:Shared} {l b:Addr} {xs ys zs:List V}
theorem Inv.lset {its its':List Value} {n:Nat} {f:Array Value->Array Value} {t':Nat} (I:Inv X pins σ H s) (hH:H l=some (.lst xs))
  (e:s.heap.get? l=some { cls:= .type "list",data:= .seq its.toArray n }) (hf:f its.toArray=its'.toArray) (hv:A2u ys its') (hz:ys.length<=sizeLine) :
  Inv X pins σ (upd H l (.lst ys)) { s with heap:=s.heap.update l (Obj.mapSeq f),toks:=t' }:=by
 have q:=PySem.IsL.update e f;rw [hf] at q;refine I.write (x:=l) (e:=l) (by rw [hH];exact trivial) (.inl rfl) (λb' u hb hu=>(Z1d s.heap (Obj.mapSeq f) (Ne.symm hb)).trans hu) ⟨_,q⟩ ?_;exact ⟨hz,its',_,hv,q⟩
theorem Inv.lnew {its:List Value} {t':Nat} (I:Inv X pins σ H s) (hv:A2u ys its) (hz:ys.length<=sizeLine) :
  Inv X pins σ (upd H s.heap.objs.size (.lst ys)) { s with heap:=s.heap.push { cls:= .type "list",data:= .seq its.toArray },toks:=t' } :=
 I.laid (λ_ _ q=>Z01 _ q) (Z09 _) ⟨hz,its,0,hv,Z0c _ rfl⟩
theorem Inv.fresh (I:Inv X pins σ H s):H s.heap.objs.size=none:=I.hok.fresh (Z09 _)
theorem Inv.lstM (I:Inv X pins σ H s) (hH:H l=some (.lst xs)):xs.length<=sizeLine/\∃(its:List Value) (n:Nat),A2u xs its/\xs.length=its.length/\s.heap.get? l=some { cls:= .type "list",data:= .seq its.toArray n }:=by
 obtain ⟨z,its,n,r,e⟩:=I.hok l _ hH;exact ⟨z,its,n,r,r.length,e⟩
theorem D0u {n:Nat} (h:n<=sizeLine):Builtin.List.listTooLong n=false:=by
 unfold Builtin.List.listTooLong;exact Z1j (by lia)
end
section
variable {X:Cx}
def C1n:V->List V->Hp->VK->Prop:=λx vs H Q=>∃l xs y,x= .ref l/\vs=[y]/\H l=some (.lst xs)/\xs.length<sizeLine/\Q .non (upd H l (.lst (xs++[y])))
theorem A2x:MtM X "list.append" C1n:=by
 intro pins s σ H x vs v us Q I rx rv h;obtain ⟨l,xs,y,rfl,rfl,hH,hz,q⟩:=h;cases rx;obtain ⟨u,rfl,ru⟩:=rv.one;obtain ⟨z,its,n,r,hl,e⟩:=I.lstM hH;refine call_meets F.slot_list_append ⟨_,e,rfl⟩ F.entry_list_append (F.args_list_append_2 _ _) (PySem.list_append l its.toArray n u (by rw [Z0g];lia)) ⟨e,?_⟩;refine ⟨.non,_,I.lset (its':=its++[u]) hH e (by simp) (r.append (.cons ru .nil)) ?_,rfl,q⟩;rw [Z06,Z0j]
 lia
def D2m:V->List V->Hp->VK->Prop:=λx vs H Q=>∃l b xs zs,x= .ref l/\vs=[.ref b]/\H l=some (.lst xs)/\H b=some (.lst zs)/\xs.length+zs.length<=sizeLine/\Q .non (upd H l (.lst (xs++zs)))
theorem C5q:MtM X "list.extend" D2m:=by
 intro pins s σ H x vs v us Q I rx rv h;obtain ⟨l,b,xs,zs,rfl,rfl,hH,hB,hz,q⟩:=h;cases rx;obtain ⟨u,rfl,ru⟩:=rv.one;cases ru;obtain ⟨z,its,n,r,hl,e⟩:=I.lstM hH;obtain ⟨z2,its2,n2,r2,hl2,e2⟩:=I.lstM hB;have hsz:its.toArray.size+its2.toArray.size<=sizeLine:=by rw [Z0g,Z0g];lia
 have hlong:¬(!its.toArray.isEmpty&&Builtin.List.listTooLong (its.toArray.size+its2.toArray.size))=true:=by
  rw [D0u hsz,Bool.and_false];exact Z0v
 refine call_meets F.slot_list_extend ⟨_,e,rfl⟩ F.entry_list_extend (F.args_list_extend_2 _ _)
  (AutoSeq1.list_extend_list_list_0 l its.toArray n b its2.toArray n2 hlong (by rw [Z0g];lia) (by lia)) ⟨e,e2,?_⟩
 refine ⟨.non,_,I.lset (its':=its++its2) hH e (by simp) (r.append r2) ?_,rfl,q⟩;rw [Z06]
 lia
def rPop:V->List V->Hp->VK->Prop:=λx vs H Q=>∃l xs y,x= .ref l/\vs=[]/\H l=some (.lst xs)/\xs[xs.length-1]? =some y/\Q y (upd H l (.lst xs.dropLast))
theorem D5g:MtM X "list.pop" rPop:=by
 intro pins s σ H x vs v us Q I rx rv h;obtain ⟨l,xs,y,rfl,rfl,hH,hy,q⟩:=h;cases rx;have hus:=rv.zero;subst hus;obtain ⟨z,its,n,r,hl,e⟩:=I.lstM hH;obtain ⟨u,hu,ru⟩:=r.get hy
 have hy':its.toArray[its.toArray.size-1]? =some u:=by
  show its.toArray[its.length-1]? =some u;rw [<-Array.getElem?_toList,<-hl];exact hu
 refine call_meets F.slot_list_pop ⟨_,e,rfl⟩ F.entry_list_pop (F.args_list_pop_1 _) (MeetsSeq.list_pop_last l its.toArray n u hy' (by rw [Z0g];lia)) ⟨e,?_⟩;refine ⟨y,_,I.lset (its':=its.dropLast) hH e ?_ r.dropLast ?_,ru,q⟩
 ·show its.toArray.eraseIdxIfInBounds (its.toArray.size-1)=its.dropLast.toArray;rw [Z0g,List.eraseIdxIfInBounds_toArray,C3i]
 ·rw [List.length_dropLast]
  lia
def rCat:R2:=λx y H Q=>∃l b xs zs,x= .ref l/\y= .ref b/\H l=some (.lst xs)/\H b=some (.lst zs)/\xs.length+zs.length<=sizeLine/\∀p,H p=none->Q (.ref p) (upd H p (.lst (xs++zs)))
theorem A8i:OpR X (binaryOp .Add) rCat:=by
 intro pins s σ H x y v u Q I rx ry h;obtain ⟨l,b,xs,zs,rfl,rfl,hH,hB,hz,q⟩:=h;cases rx;cases ry;obtain ⟨z,its,n,r,hl,e⟩:=I.lstM hH;obtain ⟨z2,its2,n2,r2,hl2,e2⟩:=I.lstM hB;refine PySem.P.add_list e e2 ?_ (by rw [Z0g,Z0g];lia);have ea:its.toArray++its2.toArray=(its++its2).toArray:=by simp
 rw [ea];exact ⟨.ref _,_,I.lnew (t':=s.toks) (r.append r2) (by rw [Z06];lia),rfl,q _ I.fresh⟩
end
section
variable {prog:Program} {w:World} {A:Around} {E:Value->Shared->Prop} {s:Shared}
set_option maxRecDepth 100000 in
end
section
variable {X:Cx}
end
section
variable {κ:Type} [DecidableEq κ]
def A4u (kvs:List (κ×V)) (k:κ):Option V:=(kvs.find? λkv=>decide (kv.1=k)).map (·.2)
def A8p (kvs:List (κ×V)) (k:κ) (v:V):List (κ×V) :=
 if (kvs.any λkv=>decide (kv.1=k))=true then kvs.map (λkv=>if kv.1=k then (kv.1,v) else kv) else kvs++[(k,v)]
theorem A3g {p:κ×V} {r:List (κ×V)} {k:κ} (e:p.1=k):A4u (p::r) k=some p.2:=by simp [A4u,List.find?_cons,e]
theorem A3r {p:κ×V} {r:List (κ×V)} {k:κ} (e:¬p.1=k):A4u (p::r) k=A4u r k:=by simp [A4u,List.find?_cons,e]
theorem B0m (k:κ):∀kvs:List (κ×V),(kvs.any λkv=>decide (kv.1=k))=(A4u kvs k).isSome
 | []=>rfl
 | p::r=>by
  rw [List.any_cons];by_cases e:p.1=k
  ·simp only [A3g e,Z20 e,Bool.true_or,Option.isSome_some]
  ·rw [A3r e,Z1j e,Bool.false_or];exact B0m k r
theorem C2r (k j:κ) (y:V):∀kvs:List (κ×V),A4u (kvs.map λkv=>if kv.1=k then (kv.1,y) else kv) j=(A4u kvs j).map λx=>if j=k then y else x
 | []=>rfl
 | p::r=>by
  have ih:=C2r k j y r;rw [Z0p];by_cases h:p.1=k
  ·rw [Z12 h];by_cases e:p.1=j
   ·rw [A3g (p:=(p.1,y)) e,A3g e,Option.map_some,Z12 (e.symm.trans h)]
   ·rw [A3r (p:=(p.1,y)) e,A3r e,ih]
  ·rw [Z0t h];by_cases e:p.1=j
   ·rw [A3g (p:=p) e,A3g e,Option.map_some,Z0t (λz=>h (e.trans z))]
   ·rw [A3r (p:=p) e,A3r e,ih]
theorem B9i (k j:κ) (y:V):∀kvs:List (κ×V),A4u kvs k=none->A4u (kvs++[(k,y)]) j=if j=k then some y else A4u kvs j
 | [],_=>by
  by_cases e:k=j
  ·rw [Z12 e.symm];exact A3g (p:=(k,y)) e
  ·rw [Z0t (λz=>e z.symm)];exact A3r (p:=(k,y)) e
 | p::r,hn=>by
  rw [List.cons_append];have hk:¬p.1=k:=λz=>by rw [A3g z] at hn;cases hn
  rw [A3r hk] at hn;have ih:=B9i k j y r hn;by_cases e:p.1=j
  ·rw [A3g e,A3g e,Z0t (λz=>hk (e.trans z))]
  ·rw [A3r e,A3r e,ih]
theorem A5z (kvs:List (κ×V)) (k j:κ) (y:V):A4u (A8p kvs k y) j=if j=k then some y else A4u kvs j:=by
 unfold A8p;by_cases a:(kvs.any λkv=>decide (kv.1=k))=true
 ·rw [Z12 a,C2r];rw [B0m] at a;by_cases e:j=k
  ·obtain ⟨x,hx⟩:=Option.isSome_iff_exists.mp a;rw [Z12 e,e,hx,Option.map_some,Z12 rfl]
  ·rw [Z0t e]
   cases A4u kvs j with
   | none=>rfl
   | some x=>rw [Option.map_some,Z0t e]
 ·rw [Z0t a];refine B9i k j y kvs ?_;rw [B0m] at a
  cases q:A4u kvs k with
  | none=>rfl
  | some x=>rw [q] at a;exact (a rfl).elim
theorem A5o (kvs:List (κ×V)) (k:κ) (v:V):(A8p kvs k v).length<=kvs.length+1:=by
 unfold A8p;split
 ·rw [Z08];lia
 ·rw [Z06,Z0y,List.length_nil];lia
theorem C9r {kvs:List (κ×V)} {k:κ} (v:V) (h:A4u kvs k=none):A8p kvs k v=kvs++[(k,v)]:=by
 unfold A8p;rw [B0m,h];exact Z0t (by decide)
theorem B5g.isSome_eq {o:Option V} {u:Option Value} (r:B5g o u):o.isSome=u.isSome:=by
 cases o with
 | none=>cases u with
  | none=>rfl
  | some _=>exact (show False from r).elim
 | some _=>cases u with
  | none=>exact (show False from r).elim
  | some _=>rfl
theorem KV.val {kvs:List (κ×V)} {vs:List (κ×Value)} (r:KV kvs vs) (k:κ):B5g (A4u kvs k) (valueAt vs k):=by
 unfold KV at r
 induction r with
 | nil=>exact True.intro
 | @cons p q ps qs h t ih =>
  obtain ⟨h1,h2⟩:=h;by_cases e:p.1=k
  ·have e':q.1=k:=h1.symm.trans e;have b:valueAt (q::qs) k=some q.2:=by simp [valueAt,List.find?_cons,e']
   rw [A3g e,b];exact h2
  ·have e':¬q.1=k:=λz=>e (h1.trans z);have b:valueAt (q::qs) k=valueAt qs k:=by simp [valueAt,List.find?_cons,e']
   rw [A3r e,b];exact ih
theorem KV.any {kvs:List (κ×V)} {vs:List (κ×Value)} (r:KV kvs vs) (k:κ):(kvs.any λkv=>decide (kv.1=k))=vs.any λkv=>decide (kv.1=k):=by
 unfold KV at r
 induction r with
 | nil=>rfl
 | cons h t ih=>rw [List.any_cons,List.any_cons,ih,h.1]
theorem KV.repl {kvs:List (κ×V)} {vs:List (κ×Value)} (r:KV kvs vs) (k:κ) {y:V} {u:Value} (ry:A2z y u) :
  KV (kvs.map λkv=>if kv.1=k then (kv.1,y) else kv) (vs.map λkv=>if kv.1=k then (kv.1,u) else kv):=by
 unfold KV at r⊢
 induction r with
 | nil=>exact .nil
 | @cons p q ps qs h t ih =>
  rw [Z0p,Z0p];refine .cons ?_ ih;obtain ⟨h1,h2⟩:=h;by_cases e:p.1=k
  ·rw [Z12 e,Z12 (h1.symm.trans e)];exact ⟨h1,ry⟩
  ·rw [Z0t e,Z0t (λz=>e (h1.trans z))];exact ⟨h1,h2⟩
theorem KV.put {kvs:List (κ×V)} {vs:List (κ×Value)} (r:KV kvs vs) (k:κ) {y:V} {u:Value} (ry:A2z y u):KV (A8p kvs k y) (stored vs k u):=by
 unfold A8p stored;rw [r.any k];by_cases e:(vs.any λkv=>decide (kv.1=k))=true
 ·rw [Z12 e,Z12 e];exact r.repl k ry
 ·rw [Z0t e,Z0t e];exact Paired.snoc r ⟨rfl,ry⟩
theorem KV.length {kvs:List (κ×V)} {vs:List (κ×Value)} (r:KV kvs vs):kvs.length=vs.length:=Paired.length r
end
theorem C0p {P:Program} {w:World} {k:Key} {u:Value} (r:A2z (kV k) u):(A2c P w).is k u=true:=by
 cases k with
 | inl i=>obtain ⟨t,e⟩:=(show∃t,u=Value.int i t from r);subst e;exact C1f P w i t
 | inr x=>obtain ⟨t,e⟩:=(show∃t,u=Value.str x t from r);subst e;exact B9z P w x t
theorem B7x {P:Program} {w:World}:∀{ks:List Key} {us:List Value},A2u (ks.map kV) us->ItemsAre (A2c P w) ks us
 | [],_,r=>by rw [List.map_nil] at r;cases r;exact .nil
 | k::ks,_,r=>by
  rw [Z0p] at r
  cases r with
  | cons h t=>exact .cons (C0p h) (B7x t)
abbrev KT (H:Hp):List (List Key×V)->List (List Key×Addr×Value)->Prop:=Paired λp q=>p.1=q.1/\H q.2.1=some (.tup (p.1.map kV))/\A2z p.2 q.2.2
theorem KT.val {H:Hp} {kvs:List (List Key×V)} {xs:List (List Key×Addr×Value)} (r:KT H kvs xs) (k:List Key):B5g (A4u kvs k) ((atKey xs k).map (·.2)):=by
 induction r with
 | nil=>exact True.intro
 | @cons p q ps qs h t ih =>
  obtain ⟨h1,_,h2⟩:=h;by_cases e:p.1=k
  ·have e':q.1=k:=h1.symm.trans e;have b:atKey (q::qs) k=some q.2:=by simp [atKey,List.find?_cons,e']
   rw [A3g e,b];exact h2
  ·have e':¬q.1=k:=λz=>e (h1.trans z);have b:atKey (q::qs) k=atKey qs k:=by simp [atKey,List.find?_cons,e']
   rw [A3r e,b];exact ih
theorem KT.repl {H:Hp} {kvs:List (List Key×V)} {xs:List (List Key×Addr×Value)} (r:KT H kvs xs) (k:List Key) {y:V} {u:Value} (ry:A2z y u) :
  KT H (kvs.map λkv=>if kv.1=k then (kv.1,y) else kv) (xs.map (putAt k u)):=by
 induction r with
 | nil=>exact .nil
 | @cons p q ps qs h t ih =>
  rw [Z0p,Z0p];refine .cons ?_ ih;obtain ⟨h1,h2,h3⟩:=h;unfold putAt;by_cases e:p.1=k
  ·rw [Z12 e,Z12 (h1.symm.trans e)];exact ⟨h1,h2,ry⟩
  ·rw [Z0t e,Z0t (λz=>e (h1.trans z))];exact ⟨h1,h2,h3⟩
theorem KT.put {H:Hp} {kvs:List (List Key×V)} {xs:List (List Key×Addr×Value)} (r:KT H kvs xs) (k:List Key) {b:Addr} {y:V} {u:Value} (hb:H b=some (.tup (k.map kV))) (ry:A2z y u) :
  KT H (A8p kvs k y) (storedH xs k b u):=by
 have e:(kvs.any λkv=>decide (kv.1=k))=(atKey xs k).isSome:=by
  rw [B0m,(r.val k).isSome_eq,Option.isSome_map]
 unfold A8p storedH;rw [e];by_cases q:(atKey xs k).isSome=true
 ·rw [Z12 q,Z12 q];exact r.repl k ry
 ·rw [Z0t q,Z0t q];exact Paired.snoc r ⟨rfl,hb,ry⟩
theorem KT.keeps {H H':Hp} {kvs:List (List Key×V)} {xs:List (List Key×Addr×Value)} (r:KT H kvs xs) (ht:∀b ys,H b=some (.tup ys)->H' b=some (.tup ys)):KT H' kvs xs :=
 Paired.mapP r λ_ _ z=>⟨z.1,ht _ _ z.2.1,z.2.2⟩
section
variable {P:Program} {w:World} {H:Hp} {h:Heap} {a:Addr}
theorem D5j {u:HO} (ok:HOk P w H h) (e:Rd H a u):A1y P w H h a u:=e.ok ok
theorem C9o {kvs:List (Key×V)} (ok:HOk P w H h) (e:Rd H a (.dK kvs)):kvs.length<=sizeLine/\(a == sysModules)=false/\∃vs,KV kvs vs/\h.DictOf (A2c P w) a vs :=
 show A1y P w H h a (.dK kvs) from D5j ok e
theorem D3a {kvs:List (Key×V)} (ok:HOk P w H h) (e:H a=some (.dK kvs)):kvs.length<=sizeLine/\(a == sysModules)=false/\∃vs,KV kvs vs/\h.DictOf (A2c P w) a vs:=C9o ok (.inl e)
theorem C2d {ks:List Key} (ok:HOk P w H h) (e:H a=some (.tup (ks.map kV))):(tupleKind (A2c P w)).is h ks a:=by
 obtain ⟨_,its,r,o,h1,h2,n,h3⟩:=(show A1y P w H h a (.tup (ks.map kV)) from ok a _ e);exact ⟨o,its.toArray,n,h1,h2,h3,by simpa using B7x r⟩
theorem D0v {kvs:List (List Key×V)} (ok:HOk P w H h) (e:Rd H a (.dT kvs)):kvs.length<=sizeLine/\(a == sysModules)=false/\
  ∃xs,KT H kvs xs/\h.DictOfH (tupleKind (A2c P w)) a xs:=by
 obtain ⟨z,y,xs,r,o,es,ep,h1,h2,h3,h4,h5⟩:=(show A1y P w H h a (.dT kvs) from D5j ok e);refine ⟨z,y,xs,r,o,es,ep,h1,h2,h3,h4,λx hx=> ?_,h5⟩
 have all:∀{l:List (List Key×V)} {m:List (List Key×Addr×Value)},KT H l m->∀x∈m,(tupleKind (A2c P w)).is h x.1 x.2.1:=by
  intro l m q
  induction q with
  | nil=>intro x hx;exact nomatch hx
  | @cons p q ps qs hq t ih =>
   intro x hx;rcases Z0e.mp hx with e | hx
   ·subst e;exact C2d ok (by rw [<-hq.1];exact hq.2.1)
   ·exact ih x hx
 exact all r x hx
theorem E0h {kvs:List (List Key×V)} (ok:HOk P w H h) (e:H a=some (.dT kvs)):kvs.length<=sizeLine/\(a == sysModules)=false/\
  ∃xs,KT H kvs xs/\h.DictOfH (tupleKind (A2c P w)) a xs:=D0v ok (.inl e)
end
def B2l (H:Hp) (a:Addr) (y:V) (r:Option V):Prop :=
 (∃kvs k,Rd H a (.dK kvs)/\y=kV k/\r=A4u kvs k)\/∃kvs k b,Rd H a (.dT kvs)/\y= .ref b/\H b=some (.tup (k.map kV))/\r=A4u kvs k
def C8i (H:Hp) (a:Addr) (y v:V) (H':Hp):Prop :=
 (∃kvs k,H a=some (.dK kvs)/\y=kV k/\kvs.length<sizeLine/\H'=upd H a (.dK (A8p kvs k v)))\/
 ∃kvs k b,H a=some (.dT kvs)/\y= .ref b/\H b=some (.tup (k.map kV))/\kvs.length<sizeLine/\H'=upd H a (.dT (A8p kvs k v))
theorem B2l.k {H:Hp} {a:Addr} {kvs:List (Key×V)} {k:Key} (e:H a=some (.dK kvs)):B2l H a (kV k) (A4u kvs k):= .inl ⟨kvs,k,.inl e,rfl,rfl⟩
theorem C8i.k {H:Hp} {a:Addr} {kvs:List (Key×V)} {k:Key} {v:V} (e:H a=some (.dK kvs)) (hl:kvs.length<sizeLine):C8i H a (kV k) v (upd H a (.dK (A8p kvs k v))):= .inl ⟨kvs,k,e,rfl,hl,rfl⟩
section
variable {X:Cx} {pins:List (Addr×Obj)} {σ:St} {H:Hp} {s:Shared} {a:Addr} {y v:V} {u r:Value} {o:Option V} {A:Around} {E:Value->Shared->Prop}
theorem Inv.big (I:Inv X pins σ H s):sysModules<s.heap.objs.size:=by
 have h:mainGlobals<s.heap.objs.size:=(I.mod.glob.keeps I.bk).lt;exact Nat.lt_trans (by decide) h
theorem C5u {Q:Value->Shared->Prop} (hu:A.units+1<cLine) (I:Inv X pins σ H s) (g:B2l H a y (some v)) (ry:A2z y u) (h:∀w' s',Inv X pins σ H s'->A2z v w'->Q w' s') :
  wpAny (model X.prog X.w) A (getItem (.ref a) u) Q E s:=by
 rcases g with ⟨kvs,k,e,ey,l⟩ | ⟨kvs,k,b,e,ey,eb,l⟩
 ·subst ey;obtain ⟨z,hd,vs,rel,dd⟩:=C9o I.hok e;obtain ⟨w',hw,rw'⟩:=B5g.some_of (v:=v) (o:=valueAt vs k) (by rw [l];exact rel.val k);exact wpAny_getItem_of (C0p ry) dd.mapOf hw (h w' _ (I.tok _) rw')
 ·subst ey;cases (show u=Value.ref b from ry);obtain ⟨z,hd,xs,rel,dd⟩:=D0v I.hok e;obtain ⟨w',hw,rw'⟩:=B5g.some_of (v:=v) (o:=(atKey xs k).map (·.2)) (by rw [l];exact rel.val k);obtain ⟨p,hp,hp2⟩:=Z0i.mp hw;refine wpAny_getItem_heap (tupleKind_room_in1 hu) (C2d I.hok eb) dd hp ?_;rw [hp2];exact h w' _ (I.tok _) rw'
theorem D3m {Q:Value->Shared->Prop} (hu:A.units+1<cLine) (I:Inv X pins σ H s) (g:B2l H a y o) (ry:A2z y u) (h:∀s',Inv X pins σ H s'->Q (.bool (!o.isSome)) s') :
  wpAny (model X.prog X.w) A (compareOp .NotIn u (.ref a)) Q E s:=by
 rcases g with ⟨kvs,k,e,ey,l⟩ | ⟨kvs,k,b,e,ey,eb,l⟩
 ·subst ey;obtain ⟨z,hd,vs,rel,dd⟩:=C9o I.hok e;refine wpAny_notIn_of (C0p ry) hd dd.mapOf ?_;rw [<-(rel.val k).isSome_eq,<-l];exact h _ (I.tok _)
 ·subst ey;cases (show u=Value.ref b from ry);obtain ⟨z,hd,xs,rel,dd⟩:=D0v I.hok e;refine wpAny_notIn_heap (tupleKind_room_in1 hu) (C2d I.hok eb) hd dd ?_;have q:=(rel.val k).isSome_eq;rw [Option.isSome_map] at q;rw [<-q,<-l];exact h _ (I.tok _)
theorem C0w {h':Heap} {t':Nat} {ob:HO} (I:Inv X pins σ H s) (mu:Mut (H a)) (hs:Heap.SameBut a s.heap h') (he:∃q,h'.get? a=some q) (new:A1y X.prog X.w (upd H a ob) h' a ob) :
  Inv X pins σ (upd H a ob) { s with heap:=h',toks:=t' } :=
 I.write (x:=a) (e:=a) mu (.inl rfl) (λb q hb z=>(hs.2 b hb).trans z) he new
theorem D1g {P:Program} {w:World} {H':Hp} {h':Heap} {kvs:List (Key×V)} {vs:List (Key×Value)} (z:kvs.length<=sizeLine) (hd:(a == sysModules)=false) (rel:KV kvs vs) (dd:h'.DictOf (A2c P w) a vs) :
  A1y P w H' h' a (.dK kvs):=⟨z,hd,vs,rel,dd⟩
theorem C5t {H':Hp} {Q:Unit->Shared->Prop} (hu:A.units+1<cLine) (I:Inv X pins σ H s) (g:C8i H a y v H') (ry:A2z y u) (rv:A2z v r) (h:∀s',Inv X pins σ H' s'->Q () s') :
  wpAny (model X.prog X.w) A (setItem (.ref a) u r) Q E s:=by
 rcases g with ⟨kvs,k,e,ey,l,eH⟩ | ⟨kvs,k,b,e,ey,eb,l,eH⟩
 ·subst ey eH;obtain ⟨z,hd,vs,rel,dd⟩:=D3a I.hok e;have hz:vs.length<=sizeLine:=by rw [<-rel.length];exact z
  have hl:(A8p kvs k v).length<=sizeLine:=by have:=A5o kvs k v;lia
  refine wpAny_setItem_pairs (hsz:=hz) (C0p ry) dd λh' dd' hs=>h _ ?_;have he:∃q,h'.get? a=some q:=let ⟨q,_,_,hq,_⟩:=dd';⟨q,hq⟩;exact C0w I (by rw [e];exact True.intro) hs he (D1g hl hd (rel.put k rv) dd')
 ·subst ey eH;cases (show u=Value.ref b from ry);obtain ⟨z,hd,xs,rel,dd⟩:=E0h I.hok e;have hz:xs.length<=sizeLine:=by rw [<-Paired.length rel];exact z
  have hl:(A8p kvs k v).length<=sizeLine:=by have:=A5o kvs k v;lia
  refine wpAny_setItem_heap (hsz:=hz) (tupleKind_room_in1 hu) (C2d I.hok eb) dd λh' dd' hs=>h _ ?_;obtain ⟨q,es,ep,hq,h2,h3,h4,_,h5⟩:=dd';refine C0w I (by rw [e];exact True.intro) hs ⟨q,hq⟩ ⟨hl,hd,_,(rel.put k eb rv).keeps λc ys ec=> ?_,q,es,ep,hq,h2,h3,h4,h5⟩;rw [A0h (A3j ec e (λz=>nomatch z))];exact ec
end
section
variable {X:Cx} {pins:List (Addr×Obj)} {σ:St} {H:Hp} {s:Shared} {a:Addr} {kvs:List (Key×V)} {k:Key} {u:Value} {A:Around} {E:Value->Shared->Prop}
end
def E0l (i:Expr):Prop:=∀ov iv,subscripted i false ov iv=operate [ov,iv] (getItem ov iv)
theorem D4u {prog:Program} {w:World} {A:Around} {E:Value->Shared->Prop} {s:Shared} {env:Env} {value slice:Expr} {pos:Pos} {T id:String} {Q:Value->Shared->Prop}
  (hl:typeLookup (.type T) "__getitem__"=pure (some (.builtin id))) (hs:E0l slice)
  (h:wpAny (model prog w) A (eval value env) (λo s₁=>wpAny (model prog w) A (eval slice env) (λi s₂=>s₂.TypeIs o T/\wpAny (model prog w) A (getItem o i) Q E s₂) E s₁) E s) :
  wpAny (model prog w) A (eval (.Subscript value slice pos) env) Q E s:=by
 refine Subscript_ (Z10 h (λo s₁ h₁=>Z10 h₁ (λi s₂ h₂=> ?_) λ_ _ x=>x) λ_ _ x=>x);obtain ⟨hT,h₂⟩:=h₂;unfold subscriptTail;refine Z00 ?_;rw [getitemInPython_of_ne hT.not_modules];refine Z00 (wpAny_specialOf hT hl ?_)
 have fin:wpAny (model prog w) A (subscripted slice false o i) (λr s₃=>wpAny (model prog w) A (letTemporaryGo value o r >>= λ_=>pure r) Q E s₃) E s₂:=by
  rw [hs o i];exact wpAny_operating (Z10 h₂ (λr s₃ h₃=>Z00 (wpAny_letTemporaryGo (Z04 h₃))) λ_ _ x=>x)
 first
  | exact Z04 (Z00 fin)
  | exact Z00 (Z04 (Z00 fin))
  | exact Z00 fin
theorem C0t {X:Cx} {pins:List (Addr×Obj)} {σ:St} {H:Hp} {s:Shared} {a:Addr} {y:V} {o:Option V} (I:Inv X pins σ H s) (g:B2l H a y o):s.TypeIs (.ref a) "dict":=by
 rcases g with ⟨kvs,k,e,_,_⟩ | ⟨kvs,k,b,e,_,_,_⟩
 ·obtain ⟨_,_,vs,_,dd⟩:=C9o I.hok e;exact dd.typeIs
 ·obtain ⟨_,_,xs,_,dd⟩:=D0v I.hok e;exact dd.typeIs
def D9o (td ty:TE):TE:=λσ H Q=>td σ H λx H1=>ty σ H1 λy H2=>∃a v,x= .ref a/\B2l H2 a y (some v)/\Q v H2
def D4l (ty td:TE):TE:=λσ H Q=>ty σ H λy H1=>td σ H1 λx H2=>∃a o,x= .ref a/\B2l H2 a y o/\Q (.bl (!o.isSome)) H2
def D9x (td ty tv:TE):TS:=λD σ H=>tv σ H λv H1=>td σ H1 λx H2=>ty σ H2 λy H3=>∃a H4,x= .ref a/\C8i H3 a y v H4/\D.nx σ H4
section
variable {X:Cx} {o i e value:Expr} {pos pos' tpos:Pos} {td ty tv:TE}
theorem A4c (hu:X.A.units+1<cLine) (ho:PE X o td) (hi:PE X i ty) (hs:E0l i):PE X (.Subscript o i pos) (D9o td ty):=by
 intro pins s σ H Q I h;refine D4u PySem.F.slot_dict_getitem.lookup hs (thn (ho pins s σ H _ I h) λu s1 ⟨x,H1,I1,rx,q1⟩=>thn (hi pins s1 σ H1 _ I1 q1) λiv s2 ⟨y,H2,I2,ry,a,v,ex,g,q2⟩=> ?_);subst ex;obtain rfl:u=Value.ref a:=rx;exact ⟨C0t I2 g,C5u hu I2 g ry λw' s3 I3 rw'=>⟨v,H2,I3,rw',q2⟩⟩
theorem C5a (hu:X.A.units+1<cLine) (hi:PE X i ty) (ho:PE X o td):PC X .NotIn i o (D4l ty td):=by
 intro pins s σ H Q I h;refine thn (hi pins s σ H _ I h) λiv s1 ⟨y,H1,I1,ry,q1⟩=>thn (ho pins s1 σ H1 _ I1 q1) λu s2 ⟨x,H2,I2,rx,a,ov,ex,g,q2⟩=> ?_;subst ex;obtain rfl:u=Value.ref a:=rx;exact D3m hu I2 g ry λs3 I3=>⟨.bl (!ov.isSome),H2,I3,rfl,q2⟩
theorem B1e (hu:X.A.units+1<cLine) (ho:PE X o td) (hi:PE X i ty) (hv:PE X value tv) (hs:swapsWith value (some (.Subscript o i pos')) pos.line X.env=pure false) :
  PS X (.Assign [.Subscript o i pos'] value pos) (D9x td ty tv):=by
 intro pins s σ H D I h;refine wpAny_Assign_Subscript (thn (hv pins s σ H _ I h) λr s1 ⟨v,H1,I1,rv,q1⟩=>thn (ho pins s1 σ H1 _ I1 q1) λu s2 ⟨x,H2,I2,rx,q2⟩=>thn (hi pins s2 σ H2 _ I2 q2) λiv s3 ⟨y,H3,I3,ry,a,H4,ex,g,q3⟩=> ?_) hs;subst ex;obtain rfl:u=Value.ref a:=rx;exact C5t hu I3 g ry rv λs4 I4=>⟨σ,H4,I4,q3⟩
end
theorem C2w {P:Program} {w:World} {H:Hp} (h:Heap) (hb:sysModules<h.objs.size):A1y P w H (h.push { cls:= .type "dict",data:= .dict #[] }) h.objs.size (.dK []) :=
 ⟨Z1e _,Z22.mpr (Ne.symm (Z0h hb)),[],.nil,Heap.DictOf.new h⟩
def D6d:TE:=λ_ H Q=>∀p,H p=none->Q (.ref p) (upd H p (.dK []))
section
variable {X:Cx} {pos:Pos}
theorem C2p:PE X (.Dict [] [] pos) D6d:=λpins s σ H Q I h =>
 wpAny_Dict_empty ⟨.ref s.heap.objs.size,_,I.laid (a:=s.heap.objs.size) (o:= .dK []) (t':=s.toks) (λ_ _ q=>Z01 _ q) (Z09 _) (C2w s.heap I.big),rfl,h _ (I.hok.fresh (Z09 _))⟩
end
def C7o:List (TE×TE)->St->Hp->(List (V×V)->Hp->Prop)->Prop
 | [],_,H,Q=>Q [] H
 | (tk,tv)::r,σ,H,Q=>tk σ H λx H1=>tv σ H1 λy H2=>C7o r σ H2 λps H3=>Q ((x,y)::ps) H3
abbrev VV:List (V×V)->List (Value×Value)->Prop:=Paired λp q=>A2z p.1 q.1/\A2z p.2 q.2
def PPs (X:Cx) (pos:Pos) (keys:List (Option Expr)) (values:List Expr) (trs:List (TE×TE)):Prop :=
 ∀(pins:List (Addr×Obj)) (s:Shared) (σ:St) (H:Hp) (Q:List (V×V)->Hp->Prop),Inv X pins σ H s->C7o trs σ H Q->
  wpAny (model X.prog X.w) X.A (evalPairs (pairTrees keys values X.env pos)) (λvs s'=>∃ps H',Inv X pins σ H' s'/\VV ps vs/\Q ps H') X.xe s
theorem D4q {X:Cx} {pos:Pos}:PPs X pos [] [] []:=λpins s σ H Q I h=>pairTrees_nil_walk ⟨[],H,I,.nil,h⟩
theorem C9n {X:Cx} {pos:Pos} {k v:Expr} {ks:List (Option Expr)} {vs:List Expr} {tk tv:TE} {trs:List (TE×TE)} (hk:PE X k tk) (hv:PE X v tv) (hr:PPs X pos ks vs trs) :
  PPs X pos (some k::ks) (v::vs) ((tk,tv)::trs):=λpins s σ H Q I h =>
 pairTrees_cons_walk (thn (hk pins s σ H _ I h) λu s1 ⟨x,H1,I1,rx,q1⟩=>thn (hv pins s1 σ H1 _ I1 q1) λw2 s2 ⟨y,H2,I2,ry,q2⟩ =>
  thn (hr pins s2 σ H2 _ I2 q2) λws s3 ⟨ps,H3,I3,rel,q3⟩=>⟨(x,y)::ps,H3,I3,.cons ⟨rx,ry⟩ rel,q3⟩)
def A1b (kvs more:List (Key×V)):List (Key×V):=more.foldl (λacc kv=>A8p acc kv.1 kv.2) kvs
theorem KV.merge:∀{more:List (Key×V)} {rs:List (Key×Value)} {kvs:List (Key×V)} {vs:List (Key×Value)},KV more rs->KV kvs vs->KV (A1b kvs more) (merged vs rs):=by
 intro more rs kvs vs r;unfold KV at r
 induction r generalizing kvs vs with
 | nil=>intro q;exact q
 | @cons p q ps qs h t ih =>
  intro r0
  have e:KV (A8p kvs p.1 p.2) (stored vs q.1 q.2):=by
   have:=r0.put p.1 h.2;rw [<-h.1];exact this
  exact ih e
theorem A2t:∀(more kvs:List (Key×V)),(A1b kvs more).length<=kvs.length+more.length
 | [],kvs=>by show kvs.length<=kvs.length+0;lia
 | p::r,kvs=>by
  have h1:=A2t r (A8p kvs p.1 p.2);have h2:=A5o kvs p.1 p.2;show (A1b (A8p kvs p.1 p.2) r).length<=_;rw [Z0y];lia
theorem B5f {P:Program} {w:World}:∀{kvs:List (Key×V)} {ws:List (Value×Value)},VV (kvs.map λkv=>(kV kv.1,kv.2)) ws->∃rs,Carries (A2c P w) ws rs/\KV kvs rs
 | [],_,r=>by rw [List.map_nil] at r;cases r;exact ⟨[],True.intro,.nil⟩
 | p::kvs,_,r=>by
  rw [Z0p] at r
  cases r with
  | @cons a b as bs h t =>
   obtain ⟨rs,c,q⟩:=B5f (P:=P) (w:=w) t;obtain ⟨b1,b2⟩:=b;exact ⟨(p.1,b2)::rs,⟨C0p h.1,rfl,c⟩,.cons ⟨rfl,h.2⟩ q⟩
def D9e (trs:List (TE×TE)):TE:=λσ H Q=>∀p,H p=none->C7o trs σ (upd H p (.dK [])) λps H2=>H2 p=some (.dK [])/\∃kvs:List (Key×V),ps=kvs.map (λkv=>(kV kv.1,kv.2))/\kvs.length<=15/\Q (.ref p) (upd H2 p (.dK (A1b [] kvs)))
theorem D2j {X:Cx} {pos:Pos} {keys:List (Option Expr)} {values:List Expr} {trs:List (TE×TE)} (h:PPs X pos keys values trs) (hall:keys.all (·.isSome)=true) (hl:keys.length=values.length) (h0:keys≠[])
  (h15:keys.length<=15):PE X (.Dict keys values pos) (D9e trs):=by
 intro pins s σ H Q I q;have hn:=I.hok.fresh (Z09 s.heap.objs.size);have I1:=I.laid (a:=s.heap.objs.size) (o:= .dK []) (h':=s.heap.push { cls:= .type "dict",data:= .dict #[] }) (t':=s.toks) (λ_ _ q=>Z01 _ q) (Z09 _) (C2w s.heap I.big);refine wpAny_Dict_walk (knd:=A2c X.prog X.w) hall hl h0 h15 (thn (h pins _ σ _ _ I1 (q _ hn)) λws s2 ⟨ps,H2,I2,rel,e,kvs,ep,lk,q2⟩=> ?_);subst ep;obtain ⟨rs,c,rk⟩:=B5f (P:=X.prog) (w:=X.w) rel;obtain ⟨z,hd,vs0,r0,dd⟩:=D3a I2.hok e;cases r0;refine ⟨rs,c,dd,λh' dd' hs=>⟨.ref s.heap.objs.size,_,?_,rfl,q2⟩⟩
 have hz:(A1b [] kvs).length<=sizeLine:=by
  have h1:=A2t kvs [];rw [List.length_nil] at h1;rw [sizeLine_eq];lia
 have he:∃q,h'.get? s.heap.objs.size=some q:=let ⟨q,_,_,hq,_⟩:=dd';⟨q,hq⟩;exact C0w I2 (by rw [e];exact True.intro) hs he (D1g hz hd (rk.merge .nil) dd')
section
variable {X:Cx} {pins:List (Addr×Obj)} {σ:St} {H:Hp} {s:Shared} {a:Addr} {y d:V} {u r:Value} {o:Option V} {A:Around} {E:Value->Shared->Prop}
end
section
variable {X:Cx} {o e f:Expr} {apos cpos:Pos} {td ty tx:TE}
end
section
variable {X:Cx} {pins:List (Addr×Obj)} {σ:St} {H:Hp} {s:Shared} {a:Addr} {kvs:List (Key×V)} {A:Around} {E:Value->Shared->Prop}
end
section
variable {X:Cx} {pins:List (Addr×Obj)} {σ:St} {H:Hp} {s:Shared} {a:Addr} {y:V} {u:Value} {A:Around} {E:Value->Shared->Prop}
end
end L2
namespace Att
open PySem PySem.W PySem.Calls PyProof.Rows
theorem B4b {P:Params} {h:Heap}:∀(ns:List Int) (vs:List Value),WellAll P h vs (ns.map WData.int)->IntsAre vs ns:=by
 intro ns
 induction ns with
 | nil =>
  intro vs w;rw [List.map_nil] at w;cases w;exact .nil
 | cons n ns ih =>
  intro vs w;rw [Z0p] at w
  cases w with
  | cons a b =>
   cases a
   exact .cons _ _ (ih _ b)
theorem C8a {l:OpenLaw} {n:Nat} (hn:l.most=some n) {P:Params} {h:Heap} {args:List WData} {vals:List Value}
  (hpre:l.row.toRowW.claim.pre args=true) (hwl:WellAll P h vals args) :
  ∃a vs ns,vals=[Value.ref a]/\args=[WData.list (ns.map WData.int)]/\h.get? a=some { cls:= .type "list",data:= .seq vs.toArray }/\IntsAre vs ns/\ns.length<=n:=by
 have hsh:WShape.hasAll [] args [.list .int]=true:=(pre_splitW hpre).1;have hc:l.pre.holds [] { args:=args }=true:=(pre_splitW hpre).2;obtain ⟨d,r,rfl,h1,h2⟩:=hasAllW_cons hsh;obtain rfl:=hasAllW_nil h2;obtain ⟨xs,rfl,h3⟩:=hasW_list h1;obtain ⟨ns,rfl⟩:=items_int h3
 have hlen:ns.length<=n:=by
  unfold OpenLaw.pre at hc
  have h4:(WTm.not (.lt (.lit (.int (n:Int))) (.len (.arg 0)))).holds [] { args:=[.list (ns.map .int)] }=true:=by
   have h4:=(holds_andW hc).1;rw [hn] at h4;exact h4
  have h5:=condW_of h4 (w_not (w_lt w_lit (w_len_list (w_arg rfl))));rw [Z08] at h5;refine Nat.le_of_not_lt λq=> ?_;have q':(n:Int)<((ns.length:Nat):Int):=by lia
  first
   | (rw [Z20 q'] at h5;exact absurd h5 (by decide))
   | (simp at h5;lia)
 cases hwl with
 | cons w1 w2 =>
  cases w2
  cases w1 with
  | list ho hall=>exact ⟨_,_,ns,rfl,rfl,ho,B4b ns _ hall,hlen⟩
theorem C6u (l:OpenLaw) (args:List WData):l.row.toRowW.claim.post args (.bool true) args=true :=
 postW_of (r:=l.row.toRowW) (X:=(true == true))
  (show WShape.has [] (.bool true) .bool=true by first | rfl | decide | simp [WShape.has,WShape.arms,WShape.armsAll])
  (show (WTm.eq .res (.lit (.bool true))).value [] { args:=args,res:=some (.bool true),after:=args }=some (.bool (true == true)) from w_eq_bool (w_res rfl) w_lit) rfl
theorem attach_call {l:OpenLaw} {n:Nat} {q:Program} {loose:List Str} {XP:(Str->Option Value)->Heap->Prop} {YP:World->Heap->Prop} {d:DefRec}
  (hn:l.most=some n) (hdf:d.params.defaults=[])
  (call:∀(w:World) (s₀ s₁:Shared) (mg mb:Str->Option Value) (fa:Addr) (o:Obj) (pm cd doc:Value) (a:Addr) (vs:List Value) (ns:List Int),
   Ground q loose [] XP w s₀ mg mb s₁.heap->YP w s₁.heap->
   s₁.heap.get? fa=some o->o.data= .func (docDef d.name d.params d.body d.scope pm cd doc)->s₁.heap.CodeRec cd d.name->mg d.name=some (.ref fa)->
   s₁.heap.get? a=some { cls:= .type "list",data:= .seq vs.toArray }->IntsAre vs ns->ns.length<=n->s₁.gens= #[]->
   codeAny (model l.prog w) callerA (.call (.ref fa) ⟨[.ref a],[]⟩) (λr s'=>r= .ok (.ret (.bool true))/\OldK s₁.heap s'.heap/\s'.os=s₁.os/\AllBare s'.gens) s₁) :
  WalkO q loose XP YP l.row.toRowW d [] (λf vs=>PySem.call f vs):=by
 intro w s₀ s₁ mg mb G Y fa o pm cd doc dV kV ho hd hcd hD hmg hg args vals as hpre hlay hrd hwl hlo;obtain rfl:dV= .none:=Dflts.none hD hdf;obtain rfl:kV= .none:=Dflts.noKw hD;obtain ⟨a,vs,ns,rfl,rfl,hobj,hints,hlen⟩:=C8a hn hpre hwl;refine enter_call (codeAny_mono (call w s₀ s₁ mg mb fa o pm cd doc a vs ns G Y ho (fd_plain hd) hcd hmg hobj hints hlen hg) λr s' hq=> ?_);obtain ⟨rfl,h2,h3,h4⟩:=hq;exact ⟨.inl ⟨.bool true,.bool true,[],rfl,λ_=>rfl,.bool true,C6u l _,λ_=>⟨List.Pairwise.nil,λ_ hm=>(nomatch hm)⟩⟩,h2,h3,h4⟩
section
variable {prog:Program} {w:World} {A:Around} {E:Value->Shared->Prop} {s:Shared} {K:Frag}
end
end Att
namespace L2
open PySem PySem.Spec PyProof.Rows
theorem B8v:∀{vs:List Value} {ns:List Int},IntsAre vs ns->A2u (ns.map V.int) vs
 | _,_,.nil=> .nil
 | _,_,.cons n t h=> .cons ⟨t,rfl⟩ (B8v h)
def D9k (H:Hp):Prop:=∀b,H b=none\/∃o xs,H b=some (.frz o (.lst xs))
theorem C9t {P:Program} {w:World} {K:PySem.W.Frag} {mg mb:Str->Option Value} {CX:CXT} {k:Nat} {fa a:Addr} {fd:FuncData} {x:Str} {sp:Sp} {s₁:Shared} {vs:List Value} {ns:List Int}
  (KX:K.In s₁.heap) (hns:s₁.heap.Ns mainGlobals mg) (hb:s₁.heap.Ns builtinsNs mb) (hbb:∀x:Str,x≠"__name__"->mb x=bootBuiltins x) (hlim:s₁.heap.NoLimit) (hg:s₁.gens= #[])
  (ha:s₁.heap.get? a=some { cls:= .type "list",data:= .seq vs.toArray }) (hi:IntsAre vs ns) (hl:ns.length<=sizeLine) (hr:A7p k callerA)
  (F:∀base:Heap,K.In base->base.Ns mainGlobals mg->A2e P w K mg base CX k fa fd [x] sp) (hbind:∀(s:Shared) (u:Value),BindsTo s fd ⟨[u],[]⟩ [(x,u)])
  (hsp:∀H:Hp,D9k H->SqL K H a (ns.map V.int)->sp [.ref a] H (λv _=>v= .bl true) λ_ _ _=>False)
  (hCX:∀H e s',CX [] H s₁ (λ_ _ _=>False) e s'->False) :
  codeAny (model P w) callerA (.call (.ref fa) ⟨[.ref a],[]⟩) (λr s'=>r= .ok (.ret (.bool true))/\OldK s₁.heap s'.heap/\s'.os=s₁.os/\AllBare s'.gens) s₁:=by
 have rv:=B8v hi;have lenV:=hi.length
 have core:∀H:Hp,D9k H->SqL K H a (ns.map V.int)->HOk P w H s₁.heap->(∀b,H b≠none->b=a)->(H a≠none->K.lookup a=none)->
   codeAny (model P w) callerA (.call (.ref fa) ⟨[.ref a],[]⟩) (λr s'=>r= .ok (.ret (.bool true))/\OldK s₁.heap s'.heap/\s'.os=s₁.os/\AllBare s'.gens) s₁:=by
  intro H hO hS hok hA hK;have base_of:∀{b:Addr} {o:Obj},s₁.heap.get? b=some o->H b=none->(C8u s₁.heap H).get? b=some o:=λe n=>C9g e n
  have noA:∀{b:Addr} {o:Obj} {es:Array DictEntry} {ep:Nat},s₁.heap.get? b=some o->o.data= .dict es ep->H b=none:=λ{b o es ep} e d=>by
   cases q:H b with
   | none=>rfl
   | some u =>
    have e':b=a:=hA b (by rw [q];simp);subst e';rw [ha] at e;cases e;have d':Data.seq vs.toArray _=Data.dict es ep:=d;cases d'
  have nsK:∀{b:Addr} {m:Str->Option Value},s₁.heap.Ns b m->(C8u s₁.heap H).Ns b m:=λ{b m} ⟨o,es,ep,e,d,r⟩=>⟨o,es,ep,base_of e (noA e d),d,r⟩
  have hKb:K.In (C8u s₁.heap H):=λb o e=>base_of (KX b o e) (by
   cases q:H b with
   | none=>rfl
   | some u =>
    have e':b=a:=hA b (by rw [q];simp);subst e'
    rw [hK (by rw [q];simp)] at e;cases e)
  have hM:Mod K mg (C8u s₁.heap H):=⟨hKb,nsK hns,⟨mb,nsK hb,hbb⟩,let ⟨mc,h1,h2⟩:=hlim;⟨mc,nsK h1,h2⟩⟩;have e0:C8h P w K mg (C8u s₁.heap H) callerA [] s₁ H:=⟨rfl,hM,λb o e=>D3b e,Nat.le_of_eq (C5v _ _),trivial,λb hb=>absurd (show b∈([]:List Addr) from hb) (by simp),hok,.of_eq hg⟩;refine codeAny_mono ((F _ hKb (nsK hns)).run callerA [] s₁ H ⟨[.ref a],[]⟩ [.ref a] [.ref a] _ _ hr e0 (hbind s₁ (.ref a)) (.cons rfl .nil) (hsp H hO hS)) λr s' h=> ?_
  cases r with
  | error e=>exact (hCX H e s' h).elim
  | ok fl =>
   cases fl with
   | next=>exact False.elim h
   | brk=>exact False.elim h
   | cont=>exact False.elim h
   | ret u =>
    obtain ⟨v,H',os,bare,un,hok',r',q⟩:=h;have q':v= .bl true:=q;subst q';obtain rfl:u=Value.bool true:=r';refine ⟨rfl,OldK.of_keep λb o e=> ?_,os,bare⟩
    cases q:H b with
    | none=>exact un.keep b o e q (by intro z;exact absurd (show b∈([]:List Addr) from z) (by simp)) (by simp)
    | some u =>
     rcases hO b with z | ⟨ob,xs,z⟩
     ·rw [q] at z;cases z
     ·have z2:=un.frzs b ob _ z;obtain ⟨e1,_⟩:=hok b _ z;obtain ⟨e2,_⟩:=hok' b _ z2;rw [e] at e1;cases e1;exact e2
 cases hk:K.lookup a with
 | some o =>
  have e:=KX a o hk;rw [ha] at e;cases e;refine core (λ_=>none) (λ_=> .inl rfl) (.inr ⟨_,vs.toArray,_,hk,rfl,rfl,rfl,by rw [Z0g,lenV];exact hl,by simpa using rv⟩) (λb u z=>by have z':(none:Option HO)=some u:=z;cases z') (λb z=>absurd rfl z) λz=>absurd rfl z
 | none =>
  refine core (λb=>if b=a then some (.frz { cls:= .type "list",data:= .seq vs.toArray } (.lst (ns.map V.int))) else none) (λb=> ?_) (.inl (.inr ⟨{ cls:= .type "list",data:= .seq vs.toArray },Z12 rfl⟩)) (λb u z=> ?_) (λb z=> ?_) λ_=>hk
  ·by_cases hb:b=a
   ·exact .inr ⟨_,_,Z12 hb⟩
   ·exact .inl (Z0t hb)
  ·by_cases hb:b=a
   ·have z':=(Z12 hb).symm.trans z;cases z';subst hb;exact ⟨ha,by rw [Z08];exact hl,vs,_,rv,ha⟩
   ·have z':=(Z0t hb).symm.trans z;cases z'
  ·by_cases hb:b=a
   ·exact hb
   ·exact absurd (Z0t hb) z
theorem D4r {l:PySem.W.OpenLaw} {n k:Nat} {q:Program} {loose:List Str} {XP:(Str->Option Value)->Heap->Prop} {YP:World->Heap->Prop} {d:DefRec} {K:Params->PySem.W.Frag} {CX:World->CXT} {sp:World->Sp} {x:Str}
  (hn:l.most=some n) (hn2:n<=sizeLine) (hdf:d.params.defaults=[]) (hr:A7p k callerA)
  (hY:∀(w:World) (h:Heap),YP w h->(K w.params).In h)
  (F:∀(w:World) (mg:Str->Option Value) (fa:Addr) (h:Heap),(K w.params).In h->h.Ns mainGlobals mg->mg d.name=some (.ref fa)->
   ∃fd:FuncData,(∀(s:Shared) (u:Value),BindsTo s fd ⟨[u],[]⟩ [(x,u)])/\
    ∀base:Heap,(K w.params).In base->base.Ns mainGlobals mg->A2e l.prog w (K w.params) mg base (CX w) k fa fd [x] (sp w))
  (hsp:∀(w:World) (H:Hp) (a:Addr) (ns:List Int),ns.length<=n->D9k H->SqL (K w.params) H a (ns.map V.int)->sp w [.ref a] H (λv _=>v= .bl true) λ_ _ _=>False)
  (hCX:∀(w:World) (H:Hp) (s:Shared) (e:Value) (s':Shared),CX w [] H s (λ_ _ _=>False) e s'->False) :
  PySem.W.WalkO q loose XP YP l.row.toRowW d [] (λf vs=>PySem.call f vs):=by
 refine Att.attach_call hn hdf λw s₀ s₁ mg mb fa o pm cd doc a vs ns G Y ho hd hcd hmg hobj hints hlen hg=> ?_;have KX:=hY w _ Y;obtain ⟨fd,hb,hF⟩:=F w mg fa _ KX G.T.g hmg;exact C9t KX G.T.g G.T.b G.T.builtins G.T.nolimit hg hobj hints (Z1n hlen hn2) hr hF hb (λH hO hS=>hsp w H a ns hlen hO hS) λH e s'=>hCX w H s₁ e s'
def A4x (s:Stmt) (j:Nat):Stmt:=match s with
 | .ClassDef _ _ _ body _ _ _ _ _ _ _=>body.getD j (.Pass ⟨0,0,0,0⟩)
 | _=> .Pass ⟨0,0,0,0⟩
def A8t (s:Stmt):Arguments:=match s with
 | .FunctionDef _ a _ _ _ _ _ _ _ _=>a
 | _=>{ posonlyargs:=[],args:=[],vararg:=none,kwonlyargs:=[],kw_defaults:=[],kwarg:=none,defaults:=[] }
def A6h (s:Stmt):List Stmt:=match s with
 | .FunctionDef _ _ b _ _ _ _ _ _ _=>b
 | _=>[]
def A0i (s:Stmt):Scope:=match s with
 | .FunctionDef _ _ _ _ _ _ sc _ _ _=>sc
 | _=>{ kind:= .function,names:=[],isGenerator:=false,isCoroutine:=false }
abbrev CX0:CXT:=λ_ _ _ _ _ _=>False
abbrev E0:XK:=λ_ _ _=>False
theorem A0z {X:Cx}:A8o CX0 X E0:=λ_ _ _ _ _ _ _ h=>h.elim
structure Fun (K:PySem.W.Frag) (x qual:Str) (st:Stmt) (f:Addr) (fd:FuncData):Prop where
 ex:∃(oc:Value) (od:Option Addr) (kV doc pm:Value) (an:Option Addr) (cdv ct:Value) (osl:Array (Option Value)),
  fd=PySem.W.fnOf x qual (A8t st) (A6h st) (A0i st) .none kV doc pm an cdv ct/\K.lookup f=some ⟨oc,od,.func fd,osl⟩/\PySem.W.codeIn K cdv qual=true
 kp:PySem.W.keepIn K (.ref f)=true
section
variable {P:Program} {w:World} {K:PySem.W.Frag} {mg:Str->Option Value} {base:Heap}
theorem Fun.ok {x qual:Str} {st:Stmt} {f:Addr} {fd:FuncData} {N ps:List Str} {k:Nat} {sp:Sp} (F:Fun K x qual st f fd) (S:A0o N ps (A0i st)) (len:∀vs H Q E,sp vs H Q E->vs.length=ps.length)
  (hbody:∀(cdv:Value) (A:Around) (outer:List Env) (s:Shared) (H:Hp) (vs:List V) (Q:VK) (E:XK),A7p k (A.deeper (envOfC qual (A0i st) s.heap.objs.size f cdv))->sp vs H Q E->
   ∃t,PSs (C8b CX0 P w K mg base N qual (A0i st) f cdv A outer s H E).nox (A6h st) t/\t { nx:=λ_ H'=>Q .non H',rt:=Q } (B2a N vs) H):A2e P w K mg base CX0 (k+1) f fd ps sp:=by
 obtain ⟨oc,od,kV,doc,pm,an,cdv,ct,osl,rfl,lk,hcd⟩:=F.ex;refine D7o lk hcd S len λA outer s H vs Q E hr hsp=> ?_;obtain ⟨t,h,q⟩:=hbody cdv A outer s H vs Q E hr hsp;exact ⟨t,h.nox,q⟩
theorem Fun.binds {x qual:Str} {st:Stmt} {f:Addr} {fd:FuncData} {ps:List Str} (F:Fun K x qual st f fd)
  (h:∀(kV doc pm:Value) (an:Option Addr) (cdv ct:Value) (us:List Value),us.length=ps.length->bindArgs (PySem.W.fnOf x qual (A8t st) (A6h st) (A0i st) .none kV doc pm an cdv ct) ⟨us,[]⟩=pure (ps.zip us)):A1i K fd ps []:=by
 obtain ⟨oc,od,kV,doc,pm,an,cdv,ct,osl,rfl,lk,hcd⟩:=F.ex;exact .all (h kV doc pm an cdv ct)
theorem D1m {x qual:Str} {st:Stmt} {f:Addr} {oc:Value} {od an:Option Addr} {osl:Array (Option Value)} {kV doc pm cdv ct:Value} (l:K.lookup f=some ⟨oc,od,.func (PySem.W.fnOf x qual (A8t st) (A6h st) (A0i st) .none kV doc pm an cdv ct),osl⟩)
  (c:PySem.W.codeIn K cdv qual=true) (k:PySem.W.keepIn K (.ref f)=true):Fun K x qual st f (PySem.W.fnOf x qual (A8t st) (A6h st) (A0i st) .none kV doc pm an cdv ct):=⟨⟨oc,od,kV,doc,pm,an,cdv,ct,osl,rfl,l,c⟩,k⟩
end
theorem B0b {A:Around} {k:Nat} (hr:A7p k A):A.units+1<cLine:=Z2d (Nat.add_le_add_left (by decide:1<=64) _) hr.units
section
variable {X:Cx}
theorem pv (i:Nat) {x:Str} {pos:Pos} (hN:X.N[i]? =some x:=by rfl) (hv:Vis X.env.scope x:=by first | exact Or.inl rfl | exact Or.inr (Or.inl rfl) | exact Or.inr (Or.inr rfl)) (hd:(x == ("__debug__":Str))=false:=by decide)
  (hcd:(x == ("__classdict__":Str))=false:=by decide):PE X (.Name x pos) (D8c i):=D7p hN hv hd hcd
end
theorem A3o {A B:Prop} (h:B):if false=true then A else B:=by
 rw [Z0t Z0v];exact h
theorem B4j {A B:Prop} (h:A):if true=true then A else B:=by
 rw [Z12 rfl];exact h
theorem D5q {c A B:Prop} [Decidable c] (h1:c->A) (h2:¬c->B):if c then A else B:=by
 by_cases h:c
 ·rw [Z12 h];exact h1 h
 ·rw [Z0t h];exact h2 h
def A0n (H H':Hp):Prop:=∀b o,H b=some o->H' b=some o
theorem A0n.refl (H:Hp):A0n H H:=λ_ _ h=>h
theorem A0n.trans {H H1 H2:Hp} (a:A0n H H1) (b:A0n H1 H2):A0n H H2:=λc o h=>b c o (a c o h)
theorem A0n.free {H H':Hp} (e:A0n H H') {l:Addr} (h:H' l=Option.none):H l=Option.none:=by
 cases q:H l with
 | none=>rfl
 | some o =>
  rw [e l o q] at h;cases h
section
variable {κ:Type} [DecidableEq κ]
end
section
variable {X:Cx}
def tCut (t u:TS):TS:=λD σ H=>∃M:St->Hp->Prop,t { D with nx:=M } σ H/\∀σ' H',M σ' H'->u D σ' H'
theorem A9a {st:Stmt} {rest:List Stmt} {t u:TS} (h1:PS X st t) (h2:PSs X rest u):PSs X (st::rest) (tCut t u):=by
 intro pins s σ H D I h;obtain ⟨M,h,hm⟩:=h;refine wpAny_execs_cons (thn (h1 pins s σ H { D with nx:=M } I h) λf s1 q=> ?_)
 cases f with
 | next =>
  obtain ⟨σ',H',I',q⟩:=q;exact h2 pins s1 σ' H' D I' (hm _ _ q)
 | ret v=>exact q
 | brk=>exact q
 | cont=>exact q
def rIsi (K:PySem.W.Frag):List V->Hp->VK->Prop:=λxs H Q=>∃x c t b,xs=[x,c]/\A9o K H x t/\(∀u,A2z c u->PySem.W.kitOne K t u=some b)/\Q (.bl b) H
theorem A1f:B1g X (.builtin "isinstance") (rIsi X.K):=by
 intro pins s σ H xs us Q I r h;obtain ⟨x,c,t,b,rfl,ty,e,q⟩:=h;obtain ⟨u,w',rfl,ru,rw'⟩:=B4u r;exact C5i I ru ty (e w' rw') λtk=>⟨.bl b,H,I.tok tk,rfl,q⟩
theorem B0e {K:PySem.W.Frag} (T:String):∀u,A2z (.ty T) u->PySem.W.kitOne K (.type T) u=some true:=by
 intro u h;cases (show u=Value.type T from h);unfold PySem.W.kitOne;rw [Z12 (beq_self_eq_true _)]
theorem C1v {K:PySem.W.Frag} {T U:String} {b:Bool} (h:(Value.type T == Value.type U)=false) (hm:PySem.W.kitMeta U=true) (hs:(PySem.fastBuiltinMro T).map (·.contains (Value.type U))=some b) :
  ∀u,A2z (.ty U) u->PySem.W.kitOne K (.type T) u=some b:=by
 intro u z;cases (show u=Value.type U from z);unfold PySem.W.kitOne;rw [Z0t (by rw [h];exact Z0v)];show (if PySem.W.kitMeta U=true then PySem.W.subIn K (.type T) (.type U) else none)=some b;rw [Z12 hm];exact hs
def D7x (K:PySem.W.Frag):R2:=λx y H Q=>∃a b xs ys,x= .ref a/\y= .ref b/\SqT K H a xs/\SqT K H b ys/\ys≠[]/\xs.length+ys.length<=sizeLine/\
 (xs=[]->Q (.ref b) H)/\(xs≠[]->∀p,H p=none->Q (.ref p) (upd H p (.tup (xs++ys))))
theorem C1z:OpR X (binaryOp .Add) (D7x X.K):=by
 intro pins s σ H x y v u Q I rx ry h;obtain ⟨a,b,xs,ys,rfl,rfl,ha,hb,hy,hz,q1,q2⟩:=h;by_cases hx:xs=[]
 ·subst hx;cases rx;cases ry;obtain ⟨its,r1,p1,_⟩:=I.tuple ha;obtain ⟨its2,r2,p2,_⟩:=I.tuple hb;have e1:its=[]:=r1.nil_iff.mpr rfl;obtain ⟨⟨cls,dd,data,sl⟩,ho,hc,n,hd⟩:=id p1;obtain ⟨⟨cls2,dd2,data2,sl2⟩,ho2,hc2,n2,hd2⟩:=id p2;simp only at hc hd hc2 hd2;subst hc hd hc2 hd2
  exact concat_meets ⟨_,ho,rfl⟩ ⟨_,ho2,rfl⟩ noFill_tuple_add seq_tuple_add PySem.F.slot_tuple_add PySem.F.entry_tuple_add (PySem.F.args_tuple_add_2 _ _)
   (tuple_addW0 a b its.toArray its2.toArray n n2 dd dd2 sl sl2 (by simp [e1])) ⟨ho,ho2,⟨.ref b,H,I,rfl,q1 rfl⟩⟩
 ·exact D3h pins s σ H _ _ v u Q I rx ry ⟨a,b,xs,ys,rfl,rfl,ha,hb,hx,hz,λz=>absurd z hy,λ_=>q2 hx⟩
end
structure Nx (it l:Addr) (st:Nat->Heap->Prop) (src:Array Value->Heap->Prop):Prop where
 item:∀{prog:Program} {w:World} {A:Around} {E:Value->Shared->Prop} {s:Shared} {k:Nat} {xs:Array Value} {x:Value} {Q:Value->Shared->Prop},st k s.heap->src xs s.heap->xs[k]? =some x->
  (∀h',st (k+1) h'->Heap.SameBut it s.heap h'->Q x { s with heap:=h' })->wpAny (model prog w) A (Builtin.SmallTypes.nextOf (.ref it)) Q E s
 fin:∀{prog:Program} {w:World} {A:Around} {E:Value->Shared->Prop} {s:Shared} {k:Nat} {xs:Array Value} {Q:Value->Shared->Prop},A.handled=none->st k s.heap->src xs s.heap->xs[k]? =none->
  (∀h' e,Heap.ExtBut it s.heap h'->(∃o,h'.get? e=some o/\o.cls= .type "StopIteration")->E (.ref e) { s with heap:=h' })->wpAny (model prog w) A (Builtin.SmallTypes.nextOf (.ref it)) Q E s
 mv:∀{k:Nat} {h h':Heap},st k h->(∀o,h.get? it=some o->h'.get? it=some o)->st k h'
 mvS:∀{xs:Array Value} {h h':Heap},src xs h->(∀o,h.get? l=some o->h'.get? l=some o)->src xs h'
 ob:∀{k:Nat} {h:Heap},st k h->∃o,h.get? it=some o/\∀v,o.data≠.cell v
theorem A1o (it l:Addr):Nx it l (λk h=>h.IsListIter it l k) (λxs h=>h.IsList l xs) where
 item:=wpAny_nextOf_list_item
 fin:=wpAny_nextOf_list_end
 mv:=λx e=>x.at e
 mvS:=λx e=>x.at e
 ob:=λ⟨o,e,_,d⟩=>⟨o,e,λv z=>by rw [d] at z;cases z⟩
section
variable {prog:Program} {w:World} {A:Around} {E:Value->Shared->Prop} {s:Shared}
theorem B1p {it l:Addr} {k:Nat} {xs:Array Value} {x:Value} {Q:Value->Shared->Prop} (hi:s.heap.IsTupleIter it l k) (hl:s.heap.IsTuple l xs) (hx:xs[k]? =some x)
  (hQ:∀h',h'.IsTupleIter it l (k+1)->Heap.SameBut it s.heap h'->Q x { s with heap:=h' }):wpAny (model prog w) A (Builtin.SmallTypes.nextOf (.ref it)) Q E s:=by
 obtain ⟨o,ho,hc,hd⟩:=id hi;obtain ⟨ol,hol,_,nl,hdl⟩:=hl;unfold Builtin.SmallTypes.nextOf;refine Z00 (Z1b (name:=Str.ofString "__next__") hi.typeIs F.slot_tuple_iterator_next (Z1g F.slot_tuple_iterator_next hi.typeIs F.entry_tuple_iterator_next ?_ (F.args_tuple_iterator_next_1 _)));show wpAny _ _ (field (.ref it) 0 >>= _) _ _ s;refine Z00 (Z11 ho hd (x:= .ref l) rfl ?_);show wpAny _ _ (if (Value.ref l == Value.none)=true then _ else _) _ _ s;rw [Z0t (show¬((Value.ref l == Value.none)=true) from Z0v)];show wpAny _ _ (field (.ref it) 1 >>= _) _ _ s;refine Z00 (Z11 ho hd (x:= .int k 0) rfl ?_);show wpAny _ _ (seqItems? (.ref l) >>= _) _ _ s;refine Z00 (Z21 hol hdl ?_);simp only [Int.toNat_natCast,hx];refine Z00 (Z1t ho hd (by simp) (Z04 ⟨x,rfl,Z04 (hQ _ ?_ (Heap.SameBut.update ..))⟩));exact ⟨_,Z1r _ ho (Obj.isFreed_of_fields (Obj.data_mapFields hd _)),(Obj.cls_mapFields ..).trans hc,by rw [Obj.data_mapFields hd];simp [rawInt]⟩
theorem B2f {it l:Addr} {k:Nat} {xs:Array Value} {Q:Value->Shared->Prop} (hh:A.handled=none) (hi:s.heap.IsTupleIter it l k) (hl:s.heap.IsTuple l xs) (hx:xs[k]? =none)
  (hE:∀h' e,Heap.ExtBut it s.heap h'->(∃o,h'.get? e=some o/\o.cls= .type "StopIteration")->E (.ref e) { s with heap:=h' }):wpAny (model prog w) A (Builtin.SmallTypes.nextOf (.ref it)) Q E s:=by
 obtain ⟨o,ho,hc,hd⟩:=id hi;obtain ⟨ol,hol,_,nl,hdl⟩:=hl;unfold Builtin.SmallTypes.nextOf;refine Z00 (Z1b (name:=Str.ofString "__next__") hi.typeIs F.slot_tuple_iterator_next (Z1g F.slot_tuple_iterator_next hi.typeIs F.entry_tuple_iterator_next ?_ (F.args_tuple_iterator_next_1 _)));show wpAny _ _ (field (.ref it) 0 >>= _) _ _ s;refine Z00 (Z11 ho hd (x:= .ref l) rfl ?_);show wpAny _ _ (if (Value.ref l == Value.none)=true then _ else _) _ _ s;rw [Z0t (show¬((Value.ref l == Value.none)=true) from Z0v)];show wpAny _ _ (field (.ref it) 1 >>= _) _ _ s;refine Z00 (Z11 ho hd (x:= .int k 0) rfl ?_);show wpAny _ _ (seqItems? (.ref l) >>= _) _ _ s;refine Z00 (Z21 hol hdl ?_);simp only [Int.toNat_natCast,hx];refine Z00 (wpAny_rule (Z00 (Z1t ho hd (by simp) ?_)));show wpAny _ _ (newExc (.type "StopIteration") [] >>= _) _ _ _;refine Z00 ?_;simp only [newExc,newTuple];refine Z00 (Z16 ?_ (by size_fits));refine Z00 (m:=firstArgMember _ _) (wpAny_of_eq (a:=Value.none) (by first | rfl | (simp only [firstArgMember];rfl)) ?_);refine Z16 ?_ (by size_fits);simp only [raiseNew];refine Z00 (wpAny_handled ?_)
 first | rw [show A.in1.handled=none from hh] | rw [hh]
 refine Z00 (Z04 (wpAny_throw ?_));exact hE _ _ (((Heap.SameBut.update ..).extBut.push _).push _) ⟨_,Z0c _ rfl,rfl⟩
end
theorem A1g (it l:Addr):Nx it l (λk h=>h.IsTupleIter it l k) (λxs h=>h.IsTuple l xs) where
 item:=B1p
 fin:=B2f
 mv:=λ⟨o,e,r⟩ f=>⟨o,f _ e,r⟩
 mvS:=λ⟨o,e,r⟩ f=>⟨o,f _ e,r⟩
 ob:=λ⟨o,e,_,d⟩=>⟨o,e,λv z=>by rw [d] at z;cases z⟩
section
variable {z TI TO i1 i2 l1 l2:Addr} {st1 st2:Nat->Heap->Prop} {src1 src2:Array Value->Heap->Prop} {prog:Program} {w:World} {A:Around} {E:Value->Shared->Prop} {s:Shared}
theorem A9z (N1:Nx i1 l1 st1 src1) (N2:Nx i2 l2 st2 src2) {k1 k2:Nat} {xs ys:Array Value} {x y a b:Value} {Q:Option Value->Shared->Prop} (D:ZipApart z TI TO i1 i2 l1 l2)
  (hz:IsZip s.heap z TI TO .none) (hTI:IsPair s.heap TI (.ref i1) (.ref i2)) (hTO:IsPair s.heap TO a b) (h1:st1 k1 s.heap) (h2:st2 k2 s.heap) (hl1:src1 xs s.heap) (hl2:src2 ys s.heap) (hx:xs[k1]? =some x) (hy:ys[k2]? =some y)
  (hQ:∀h',IsZip h' z TI TO (rawInt s.heap.objs.size)->IsPair h' TO x y->st1 (k1+1) h'->st2 (k2+1) h'->IsPair h' s.heap.objs.size x y->
   (∀c o,c≠z->c≠TO->c≠i1->c≠i2->s.heap.get? c=some o->h'.get? c=some o)->Q (some (.ref s.heap.objs.size)) { s with heap:=h' }):wpAny (model prog w) A (pyNext (.ref z)) Q E s:=by
 have hT:s.TypeIs (.ref z) "zip":=⟨_,hz,rfl⟩;unfold pyNext;refine Z00 (wpAny_attempt (Z1b (name:=Str.ofString "__next__") hT F.slot_zip_next (Z1g F.slot_zip_next hT F.entry_zip_next ?_ (F.args_zip_next_1 _))));show wpAny _ _ (field (.ref z) 2 >>= _) _ _ _;refine Z00 (Z11 hz rfl (x:= .bool false) rfl ?_);show wpAny _ _ (field (.ref z) 3 >>= _) _ _ _;refine Z00 (Z11 hz rfl (x:= .ref TI) rfl ?_);refine Z00 (Z21 hTI rfl ?_);show wpAny _ _ (Builtin.SmallTypes.ownedTupleIsFree (.ref z) >>= _) _ _ _;refine Z00 ?_;unfold Builtin.SmallTypes.ownedTupleIsFree;refine Z00 (Z11 hz rfl (x:= .none) rfl (Z04 ?_));simp only [if_true];refine Z00 (wpAny_rule ?_);refine Z00 (Z11 hz rfl (x:= .ref TO) rfl ?_);refine Z00 (Z1h hz (by simp) λg1 z1 b1=> ?_)
 replace z1:IsZip g1 z TI TO .ellipsis:=z1
 refine Z00 ?_;simp only [List.zipIdx_cons,List.zipIdx_nil,List.forIn_cons,List.forIn_nil];refine Z00 (Z00 (wpAny_onRaise ?_));show wpAny _ _ (Builtin.SmallTypes.nextOf (.ref i1) >>= _) _ _ _;refine Z00 (N1.item (N1.mv h1 λo e=>b1.extBut _ _ D.i1z e) (N1.mvS hl1 λo e=>b1.extBut _ _ D.l1z e) hx λg2 t2 b2=>Z04 ?_);have p2:IsPair g2 TO a b:=b2.extBut _ _ D.TOi1 (b1.extBut _ _ D.TOz hTO);refine Z00 (Z21 p2 rfl ?_);refine Z00 (wpAny_updateSeq_pair p2 λg3 p3 b3=> ?_)
 replace p3:IsPair g3 TO x b:=p3
 refine Z00 (wpAny_letGo (Z04 ?_));refine Z00 (Z00 (wpAny_onRaise ?_));show wpAny _ _ (Builtin.SmallTypes.nextOf (.ref i2) >>= _) _ _ _;refine Z00 (N2.item (N2.mv h2 λo e=>b3.extBut _ _ D.TOi2.symm (b2.extBut _ _ D.i12.symm (b1.extBut _ _ D.i2z e))) (N2.mvS hl2 λo e=>b3.extBut _ _ D.l2TO (b2.extBut _ _ D.l2i1 (b1.extBut _ _ D.l2z e))) hy λg4 t4 b4=>Z04 ?_);have p4:IsPair g4 TO x b:=b4.extBut _ _ D.TOi2 p3;refine Z00 (Z21 p4 rfl ?_);refine Z00 (wpAny_updateSeq_pair p4 λg5 p5 b5=> ?_)
 replace p5:IsPair g5 TO x y:=p5
 refine Z00 (wpAny_letGo (Z04 (Z04 ?_)));refine Z00 (Z21 p5 rfl ?_);refine Z00 (wpAny_newTuple ?_);have hsz:g5.objs.size=s.heap.objs.size:=by rw [b5.1,b4.1,b3.1,b2.1,b1.1]
 have z5:IsZip g5 z TI TO .ellipsis:=b5.extBut _ _ D.TOz.symm (b4.extBut _ _ D.i2z.symm (b3.extBut _ _ D.TOz.symm (b2.extBut _ _ D.i1z.symm z1)));have k5:∀c o,c≠z->c≠TO->c≠i1->c≠i2->s.heap.get? c=some o->g5.get? c=some o:=λc o c1 c2 c3 c4 e=>b5.extBut _ _ c2 (b4.extBut _ _ c4 (b3.extBut _ _ c2 (b2.extBut _ _ c3 (b1.extBut _ _ c1 e))));have s1:st1 (k1+1) g5:=N1.mv t2 λo e=>b5.extBut _ _ D.TOi1.symm (b4.extBut _ _ D.i12 (b3.extBut _ _ D.TOi1.symm e));have s2:st2 (k2+1) g5:=N2.mv t4 λo e=>b5.extBut _ _ D.TOi2.symm e;have zlt:z<g5.objs.size:=Z0a z5;show wpAny _ _ (Builtin.SmallTypes.ownedTupleHandOut (.ref z) (.ref g5.objs.size) >>= _) _ _ _;refine Z00 ?_;unfold Builtin.SmallTypes.ownedTupleHandOut;have z6:IsZip (g5.push { cls:= .type "tuple",data:= .seq #[x,y] }) z TI TO .ellipsis:=Z01 _ z5;refine Z00 (Z1h z6 (by simp) λg7 z7 b7=> ?_)
 replace z7:IsZip g7 z TI TO (rawInt g5.objs.size):=z7
 refine Z1h z7 (by simp) λg8 z8 b8=> ?_
 replace z8:IsZip g8 z TI TO (rawInt g5.objs.size):=z8
 have up:∀c o,c≠z->g5.get? c=some o->g8.get? c=some o:=λc o c1 e=>b8.extBut _ _ c1 (b7.extBut _ _ c1 (Z01 _ e));have p8:IsPair g8 g5.objs.size x y:=b8.extBut _ _ (Z1q zlt) (b7.extBut _ _ (Z1q zlt) (Z0c _ rfl));rw [hsz] at z8 p8;refine Z04 ⟨_,rfl,Z04 ?_⟩;show Q (some (.ref g5.objs.size)) _;rw [hsz];exact hQ g8 z8 (up _ _ D.TOz p5) (N1.mv s1 λo e=>up _ o D.i1z e) (N2.mv s2 λo e=>up _ o D.i2z e) p8 λc o c1 c2 c3 c4 e=>up c o c1 (k5 c o c1 c2 c3 c4 e)
theorem B7d (N1:Nx i1 l1 st1 src1) (N2:Nx i2 l2 st2 src2) {k1 k2:Nat} {xs ys:Array Value} {a b:Value} {Q:Option Value->Shared->Prop} (hh:A.handled=none) (D:ZipApart z TI TO i1 i2 l1 l2)
  (hz:IsZip s.heap z TI TO .none) (hTI:IsPair s.heap TI (.ref i1) (.ref i2)) (hTO:IsPair s.heap TO a b) (h1:st1 k1 s.heap) (h2:st2 k2 s.heap) (hl1:src1 xs s.heap) (hl2:src2 ys s.heap) (hend:xs[k1]? =none\/ys[k2]? =none)
  (hQ:∀h',(∀c o,c≠z->c≠TO->c≠i1->c≠i2->s.heap.get? c=some o->h'.get? c=some o)->Q none { s with heap:=h' }):wpAny (model prog w) A (pyNext (.ref z)) Q E s:=by
 have hT:s.TypeIs (.ref z) "zip":=⟨_,hz,rfl⟩;unfold pyNext
 have fin:∀(h':Heap) (e:Addr),(∀c o,c≠z->c≠TO->c≠i1->c≠i2->s.heap.get? c=some o->h'.get? c=some o)->(∃o,h'.get? e=some o/\o.cls= .type "StopIteration")->
   wpAny (model prog w) A (isInstance (.ref e) (.type "StopIteration") >>= λb=>if b=true then pure none else throw (.ref e)) Q E { s with heap:=h' }:=λh' e hk ⟨o,ho,hc⟩ =>
  Z00 (wpAny_isInstance (T:="StopIteration") (b:=true) ⟨o,ho,hc⟩ isSubtype_stop (Z04 (hQ _ hk)))
 refine Z00 (wpAny_attempt (Z1b (name:=Str.ofString "__next__") hT F.slot_zip_next (Z1g F.slot_zip_next hT F.entry_zip_next ?_ (F.args_zip_next_1 _))));show wpAny _ _ (field (.ref z) 2 >>= _) _ _ _;refine Z00 (Z11 hz rfl (x:= .bool false) rfl ?_);show wpAny _ _ (field (.ref z) 3 >>= _) _ _ _;refine Z00 (Z11 hz rfl (x:= .ref TI) rfl ?_);refine Z00 (Z21 hTI rfl ?_);show wpAny _ _ (Builtin.SmallTypes.ownedTupleIsFree (.ref z) >>= _) _ _ _;refine Z00 ?_;unfold Builtin.SmallTypes.ownedTupleIsFree;refine Z00 (Z11 hz rfl (x:= .none) rfl (Z04 ?_));simp only [if_true];refine Z00 (wpAny_rule ?_);refine Z00 (Z11 hz rfl (x:= .ref TO) rfl ?_);refine Z00 (Z1h hz (by simp) λg1 z1 b1=> ?_)
 replace z1:IsZip g1 z TI TO .ellipsis:=z1
 refine Z00 ?_;simp only [List.zipIdx_cons,List.zipIdx_nil,List.forIn_cons,List.forIn_nil];refine Z00 (Z00 (wpAny_onRaise ?_));show wpAny _ _ (Builtin.SmallTypes.nextOf (.ref i1) >>= _) _ _ _;have u1:=N1.mv h1 λo e=>b1.extBut _ _ D.i1z e;have v1:=N1.mvS hl1 λo e=>b1.extBut _ _ D.l1z e
 cases hx:xs[k1]? with
 | none =>
  refine Z00 (N1.fin hh u1 v1 hx λg2 e b2 he=> ?_);obtain ⟨oe,hoe,hce⟩:=he;have z2:IsZip g2 z TI TO .ellipsis:=b2 _ _ D.i1z.symm z1;have ez:e≠z:=λx=>by subst x;rw [z2] at hoe;cases hoe;simp at hce
  exact Z1h z2 (by simp) λg3 _ b3=>fin g3 e (λc o c1 _ c3 _ x=>b3.extBut _ _ c1 (b2 _ _ c3 (b1.extBut _ _ c1 x))) ⟨oe,b3.extBut _ _ ez hoe,hce⟩
 | some x =>
  have hy:ys[k2]? =none:=by
   rcases hend with h | h
   ·rw [hx] at h;cases h
   ·exact h
  refine Z00 (N1.item u1 v1 hx λg2 t2 b2=>Z04 ?_);have p2:IsPair g2 TO a b:=b2.extBut _ _ D.TOi1 (b1.extBut _ _ D.TOz hTO);refine Z00 (Z21 p2 rfl ?_);refine Z00 (wpAny_updateSeq_pair p2 λg3 p3 b3=> ?_);refine Z00 (wpAny_letGo (Z04 ?_));refine Z00 (Z00 (wpAny_onRaise ?_));show wpAny _ _ (Builtin.SmallTypes.nextOf (.ref i2) >>= _) _ _ _;refine Z00 (N2.fin hh (N2.mv h2 λo e=>b3.extBut _ _ D.TOi2.symm (b2.extBut _ _ D.i12.symm (b1.extBut _ _ D.i2z e))) (N2.mvS hl2 λo e=>b3.extBut _ _ D.l2TO (b2.extBut _ _ D.l2i1 (b1.extBut _ _ D.l2z e))) hy λg4 e b4 he=> ?_);obtain ⟨oe,hoe,hce⟩:=he;have z4:IsZip g4 z TI TO .ellipsis:=b4 _ _ D.i2z.symm (b3.extBut _ _ D.TOz.symm (b2.extBut _ _ D.i1z.symm z1));have ez:e≠z:=λx=>by subst x;rw [z4] at hoe;cases hoe;simp at hce
  exact Z1h z4 (by simp) λg5 _ b5=>fin g5 e (λc o c1 c2 c3 c4 x=>b5.extBut _ _ c1 (b4 _ _ c4 (b3.extBut _ _ c2 (b2.extBut _ _ c3 (b1.extBut _ _ c1 x))))) ⟨oe,b5.extBut _ _ ez hoe,hce⟩
end
section
variable {X:Cx} {pins:List (Addr×Obj)} {σ:St} {H:Hp} {s:Shared} {h':Heap}
theorem Inv.turnedNew {t':Nat} {ts:List Addr} {a:Addr} {o:HO} (I:Inv X pins σ H s) (k:∀b u,b∉ts->s.heap.get? b=some u->h'.get? b=some u) (f:∀b∈ts,B3n X pins H b) (hp:s.heap.objs.size<=a)
  (new:A1y X.prog X.w (upd H a o) h' a o):Inv X pins σ (upd H a o) { s with heap:=h',toks:=t' }:=by
 have nt:∀b u,H b=some u->b∉ts:=λb u e z=>by have:=(f b z).1;rw [e] at this;cases this
 have na:∀b u,s.heap.get? b=some u->b≠a:=λb u e=>Z0h (Z0q (Z0a e) hp);have ha:H a=none:=I.hok.fresh hp
 refine I.step (g':=s.gens) (d':=s.drawn) (ch:=ts) (λb hb=>⟨(f b hb).2.2.2.1,(f b hb).2.1,(f b hb).2.2.2.2.1,(f b hb).2.2.2.2.2⟩) (λb u _ _ hc e _=>k b u hc e) (λb u _ _ hc e _=>⟨u.slots,k b u hc e⟩)
  (λb u _ e n=>by rw [A0h (na b u e)];exact n) (λb u hc e=>⟨u,k b u hc e⟩) (λb xs e=>by rw [A0h (A0k e ha)];exact e) (λb u xs e=>by rw [A0h (A0k e ha)];exact e)
  (λb ps e=>⟨#[],by rw [A0h (A0k e ha),e];simp⟩) (λm hm=> ?_) (λb u e=> ?_) I.bare
 ·obtain ⟨ob,es,ep,ho,r⟩:=hm;exact ⟨ob,es,ep,k _ ob (λz=>(f _ z).2.1 rfl) ho,r⟩
 ·by_cases hb:b=a
  ·subst hb;rw [A0b] at e;cases e;exact new
  ·rw [A0h hb] at e;refine (I.hok b u e).stay (λc v hc q=>k c v ?_ q) (λc q=>by rw [A0h (A0k q ha)];exact q) λc xs q=>by rw [A0h (A0k q ha)];exact q
   rcases hc with rfl | hc
   ·exact nt _ _ e
   ·exact nt _ _ hc
theorem Inv.turnedL {t':Nat} {ts:List Addr} (I:Inv X pins σ H s) (k:∀b u,b∉ts->s.heap.get? b=some u->h'.get? b=some u) (f:∀b∈ts,B3n X pins H b):Inv X pins σ H { s with heap:=h',toks:=t' }:=by
 have nt:∀b u,H b=some u->b∉ts:=λb u e z=>by have:=(f b z).1;rw [e] at this;cases this
 refine I.step (g':=s.gens) (d':=s.drawn) (ch:=ts) (λb hb=>⟨(f b hb).2.2.2.1,(f b hb).2.1,(f b hb).2.2.2.2.1,(f b hb).2.2.2.2.2⟩) (λb u _ _ hc e _=>k b u hc e) (λb u _ _ hc e _=>⟨u.slots,k b u hc e⟩)
  (λb u _ e n=>n) (λb u hc e=>⟨u,k b u hc e⟩) (λb xs e=>e) (λb u xs e=>e) (λb ps e=>⟨#[],by rw [e];simp⟩) (λm hm=> ?_) (λb u e=> ?_) I.bare
 ·obtain ⟨ob,es,ep,ho,r⟩:=hm;exact ⟨ob,es,ep,k _ ob (λz=>(f _ z).2.1 rfl) ho,r⟩
 ·refine (I.hok b u e).stay (λc v hc q=>k c v ?_ q) (λc q=>q) λc xs q=>q;rcases hc with rfl | hc
  ·exact nt _ _ e
  ·exact nt _ _ hc
end
def Itz (K:PySem.W.Frag) (a b:Addr):It :=
 ⟨λi H=>∃xs ys x y,SqL K H a xs/\SqT K H b ys/\xs[i]? =some x/\ys[i]? =some y,
  λi H v H'=>∃p,H p=none/\v= .ref p/\∃x y,(∀xs,SqL K H a xs->xs[i]? =some x)/\(∀ys,SqT K H b ys->ys[i]? =some y)/\H'=upd H p (.tup [x,y]),
  λi H=>∃xs ys,SqL K H a xs/\SqT K H b ys/\(xs.length<=i\/ys.length<=i)⟩
def D7q (z TI TO i1 i2 a b:Addr) (i:Nat) (h:Heap):Prop:=IsZip h z TI TO .none/\IsPair h TI (.ref i1) (.ref i2)/\(∃u v,IsPair h TO u v)/\h.IsListIter i1 a i/\h.IsTupleIter i2 b i
theorem C9e {P:Program} {w:World} {K:PySem.W.Frag} {elts:List Expr} {kk:Nat} {pos:Pos} {z TI TO i1 i2 a b:Addr} (D:ZipApart z TI TO i1 i2 a b) :
  C8f P w K (.Tuple elts kk pos) (Itz K a b) [z,TI,TO,i1,i2] z (D7q z TI TO i1 i2 a b) where
 mem:=by simp
 obj:=λi h st c hc=>by
  obtain ⟨h1,h2,⟨u,v,h3⟩,h4,h5⟩:=st;simp only [Z0e,Z1i,or_false] at hc;rcases hc with rfl | rfl | rfl | rfl | rfl
  ·exact ⟨_,h1,λv z=>by cases (show Data.fields _=Data.cell v from z)⟩
  ·exact ⟨_,h2,λv z=>by cases (show Data.seq _ _=Data.cell v from z)⟩
  ·exact ⟨_,h3,λv z=>by cases (show Data.seq _ _=Data.cell v from z)⟩
  ·exact (A1o _ a).ob h4
  ·exact (A1g _ b).ob h5
 keep:=λi h h' st k=>by
  obtain ⟨h1,h2,⟨u,v,h3⟩,h4,h5⟩:=st;exact ⟨k z (by simp) _ h1,k TI (by simp) _ h2,⟨u,v,k TO (by simp) _ h3⟩,(A1o i1 a).mv h4 λo e=>k i1 (by simp) o e,(A1g i2 b).mv h5 λo e=>k i2 (by simp) o e⟩
 item:=by
  intro X hP hw hK hc i pins s σ H E I hf st hg;subst hP hw hK;obtain ⟨xs,ys,x,y,hq1,hq2,hx,hy⟩:=hg;obtain ⟨its,rv,p1,_⟩:=I.list hq1;obtain ⟨its2,rv2,p2,_⟩:=I.tuple hq2;obtain ⟨u,hu,ru⟩:=rv.get hx;obtain ⟨u2,hu2,ru2⟩:=rv2.get hy;obtain ⟨h1,h2,⟨o1,o2,h3⟩,h4,h5⟩:=st;refine A9z (A1o i1 a) (A1g i2 b) D h1 h2 h3 h4 h5 p1.isList (show s.heap.IsTuple b its2.toArray from p2) (x:=u) (by simpa using hu) (y:=u2) (by simpa using hu2) λh' z1 z2 z3 z4 z5 kp=> ?_;refine ⟨_,rfl,wpAny_letOwnedTupleGo_zip (s:={ s with heap:=h' }) z1 λg zg sb=> ?_⟩
  have nz:s.heap.objs.size≠z:=Z1q (Z0a h1);have n2:TI<s.heap.objs.size:=Z0a h2;have n3:TO<s.heap.objs.size:=Z0a h3;have n4:i1<s.heap.objs.size:=let ⟨_,e,_⟩:=(A1o i1 a).ob h4;Z0a e;have n5:i2<s.heap.objs.size:=let ⟨_,e,_⟩:=(A1g i2 b).ob h5;Z0a e;have zq:IsPair g s.heap.objs.size u u2:=sb.extBut _ _ nz z5
  have I1:Inv X pins σ (upd H s.heap.objs.size (.tup [x,y])) { s with heap:=g,toks:=s.toks }:=I.turnedNew (ts:=[z,TI,TO,i1,i2]) (λc o hc e=>by
   simp only [Z0e,Z1i,or_false,not_or] at hc
   exact sb.extBut _ _ hc.1 (kp c o hc.1 hc.2.2.1 hc.2.2.2.1 hc.2.2.2.2 e)) hf (Z09 _) ⟨by show 2<=sizeLine;decide,[u,u2],.cons ru (.cons ru2 .nil),⟨_,zq,rfl,_,rfl⟩⟩
  refine ⟨.ref s.heap.objs.size,_,I1,rfl,⟨_,I.hok.fresh (Z09 _),rfl,x,y,λzs hz=>by rw [I.list_inj hz hq1];exact hx,λzs hz=>by rw [I.tuple_inj hz hq2];exact hy,rfl⟩,
   ⟨zg,sb.extBut _ _ D.TIz (kp _ _ D.TIz D.TITO D.TIi1 D.TIi2 h2),⟨_,_,sb.extBut _ _ D.TOz z2⟩,(A1o i1 a).mv z3 λo e=>sb.extBut _ _ D.i1z e,(A1g i2 b).mv z4 λo e=>sb.extBut _ _ D.i2z e⟩,λc hc=> ?_⟩
  have hcn:c≠s.heap.objs.size:=by
   simp only [Z0e,Z1i,or_false] at hc;rcases hc with rfl | rfl | rfl | rfl | rfl
   ·exact nz.symm
   ·exact Z0h n2
   ·exact Z0h n3
   ·exact Z0h n4
   ·exact Z0h n5
  rw [A0h hcn];exact (hf c hc).1
 done:=by
  intro X hP hw hK hc i pins s σ H E I hf st hg;subst hP hw hK;obtain ⟨xs,ys,hq1,hq2,hx⟩:=hg;obtain ⟨its,rv,p1,_⟩:=I.list hq1;obtain ⟨its2,rv2,p2,_⟩:=I.tuple hq2;have e1:=rv.length;have e2:=rv2.length;obtain ⟨h1,h2,⟨o1,o2,h3⟩,h4,h5⟩:=st;refine B7d (A1o i1 a) (A1g i2 b) (I.ok.hd hc) D h1 h2 h3 h4 h5 p1.isList (show s.heap.IsTuple b its2.toArray from p2) (by simp;lia) λh' kp=>⟨rfl,?_⟩
  exact I.turnedL (t':=s.toks) (ts:=[z,TI,TO,i1,i2]) (λc o hc e=>by
   simp only [Z0e,Z1i,or_false,not_or] at hc
   exact kp c o hc.1 hc.2.2.1 hc.2.2.2.1 hc.2.2.2.2 e) hf
 self:=λ_ _ _ _ _ st h=>wpAny_pyIter_zip st.1 h
abbrev D8l (h:Heap) (l1 l2:Addr):Heap:=(zipH1 h l1).push { cls:= .type "tuple_iterator",data:= .fields #[.ref l2,.int 0 0] }
abbrev D8h (h:Heap) (l1 l2:Addr):Heap:=(D8l h l1 l2).push { cls:= .type "tuple",data:= .seq #[.ref h.objs.size,.ref (zipH1 h l1).objs.size] }
abbrev D8i (h:Heap) (l1 l2:Addr):Heap:=(D8h h l1 l2).push { cls:= .type "tuple",data:= .seq #[.none,.none] }
abbrev D4y (h:Heap) (l1 l2:Addr):Heap:=(D8i h l1 l2).push { cls:= .type "zip",data:= .fields #[.none,.bool false,.bool false,.ref (D8l h l1 l2).objs.size,.ref (D8h h l1 l2).objs.size] }
theorem B8l (l1 l2:Addr) (xs ys:Array Value):Meets (Builtin.«zip.__new__» ⟨[.type "zip",.ref l1,.ref l2],[]⟩) (λ_ R s=>s.heap.IsList l1 xs/\s.heap.IsTuple l2 ys/\
  R (.ok (.ret (.ref (D8i s.heap l1 l2).objs.size))) { s with heap:=D4y s.heap l1 l2 }) :=
 .of_wp λprog w A R s h=>by
  obtain ⟨hp,g,d,tk,os⟩:=s;obtain ⟨hl1,hl2,h⟩:=h;have hsub:=sub_zip;have hL1:Heap.IsList (Shared.heap ⟨hp,g,d,tk,os⟩) l1 xs:=hl1;have hL2:Heap.IsTuple (Shared.heap ⟨hp.push { cls:= .type "list_iterator",data:= .fields #[.ref l1,.int 0 0] },g,d,tk,os⟩) l2 ys:=Heap.IsTuple.push hl2 _
  wp_walk using wpAny_pyIter_list hL1,wpAny_pyIter_tuple hL2
  exact ⟨_,rfl,h⟩
theorem B3i {prog:Program} {w:World} {A:Around} {E:Value->Shared->Prop} {s:Shared} {l1 l2:Addr} {xs ys:Array Value} {Q:Value->Shared->Prop} (hl1:s.heap.IsList l1 xs) (hl2:s.heap.IsTuple l2 ys)
  (h:∀h',D7q (s.heap.objs.size+4) (s.heap.objs.size+2) (s.heap.objs.size+3) s.heap.objs.size (s.heap.objs.size+1) l1 l2 0 h'->(∀c o,s.heap.get? c=some o->h'.get? c=some o)->Q (.ref (s.heap.objs.size+4)) { s with heap:=h' }) :
  wpAny (model prog w) A (call (.type "zip") [.ref l1,.ref l2]) Q E s:=by
 refine callType_new F.called_zip (by decide) (F.typeCall_zip_2 _ _) (F.newCall_zip_2 _ _) (λobj=>F.args_object_init_3 obj _ _) F.entry_zip_new (B8l l1 l2 xs ys) ⟨hl1,hl2,?_⟩;have z1:(zipH1 s.heap l1).objs.size=s.heap.objs.size+1:=Z1s ..;have z2:(D8l s.heap l1 l2).objs.size=s.heap.objs.size+2:=by rw [Z1s,z1]
 have z3:(D8h s.heap l1 l2).objs.size=s.heap.objs.size+3:=by rw [Z1s,z2]
 have z4:(D8i s.heap l1 l2).objs.size=s.heap.objs.size+4:=by rw [Z1s,z3]
 have q5:(D4y s.heap l1 l2).get? (D8i s.heap l1 l2).objs.size=some _:=Z0c _ rfl;have q4:(D4y s.heap l1 l2).get? (D8h s.heap l1 l2).objs.size=some _:=Z01 _ (Z0c _ rfl);have q3:(D4y s.heap l1 l2).get? (D8l s.heap l1 l2).objs.size=some _:=Z01 _ (Z01 _ (Z0c _ rfl));have q2:(D4y s.heap l1 l2).get? (zipH1 s.heap l1).objs.size=some _:=Z01 _ (Z01 _ (Z01 _ (Z0c _ rfl)));have q1:(D4y s.heap l1 l2).get? s.heap.objs.size=some _:=Z01 _ (Z01 _ (Z01 _ (Z01 _ (Z0c _ rfl))));show _/\_;rw [z2,z3,z4] at q5;rw [z1,z2] at q3;rw [z3] at q4;rw [z1] at q2;rw [z4];exact ⟨⟨_,q5,rfl⟩,h _ ⟨q5,q3,⟨_,_,q4⟩,⟨_,q1,rfl,rfl⟩,⟨_,q2,rfl,rfl⟩⟩ λc o x=>Z01 _ (Z01 _ (Z01 _ (Z01 _ (Z01 _ x))))⟩
def iZip (K:PySem.W.Frag) (ta:TA):TI:=λσ H R=>ta σ H λvs H1=>∃a b xs ys,vs=[.ref a,.ref b]/\SqL K H1 a xs/\SqT K H1 b ys/\R (Itz K a b) H1
theorem D0c {X:Cx} {elts:List Expr} {kk:Nat} {tpos:Pos} {a b:Expr} {ta:TA} {p pos:Pos} (hg:Gl X "zip") (hm:X.mg "zip"=none) (ha:PA X [a,b] ta) (hs:starEach [a,b] X.env=[(false,eval a X.env),(false,eval b X.env)]:=by rfl) (hs2:starEach [b] X.env=[(false,eval b X.env)]:=by rfl) :
  PI X (.Tuple elts kk tpos) (.Call (.Name "zip" p) [a,b] [] pos) (iZip X.K ta):=by
 intro pins s σ H R I h;refine Call_ (A7f I hg hm boot_zip (PyProof.Rows.callWith_type1 (thn (ha pos pins s σ H _ I h) λus s1 ⟨vs,H1,I1,r1,q1⟩=> ?_) (by rw [hs,hs2]) (by rw [hs2];rfl)));obtain ⟨l1,l2,xs,ys,e,hq1,hq2,q⟩:=q1;subst e;obtain ⟨u,u2,rfl,ru,ru2⟩:=B4u r1;cases ru;cases ru2;obtain ⟨its,rv,p1,_⟩:=I1.list hq1;obtain ⟨its2,rv2,p2,_⟩:=I1.tuple hq2;have t1:l1<s1.heap.objs.size:=let ⟨_,e,_⟩:=p1.isList;Z0a e;have t2:l2<s1.heap.objs.size:=p2.lt;refine B3i p1.isList (show s1.heap.IsTuple l2 its2.toArray from p2) λh' zs kp=>wpAny_pyIter_zip zs.1 ?_;have I2:Inv X pins σ H1 { s1 with heap:=h' }:=I1.kept (t':=s1.toks) kp;refine ⟨_,[s1.heap.objs.size+4,s1.heap.objs.size+2,s1.heap.objs.size+3,s1.heap.objs.size,s1.heap.objs.size+1],_,_,H1,rfl,I2,C9e (zipApart_new t1 t2),zs,λc hc=> ?_,q⟩
 have hle:s1.heap.objs.size<=c:=by
  simp only [Z0e,Z1i,or_false] at hc;rcases hc with rfl | rfl | rfl | rfl | rfl
  ·exact Nat.le_add_right _ _
  ·exact Nat.le_add_right _ _
  ·exact Nat.le_add_right _ _
  ·exact Z09 _
  ·exact Nat.le_add_right _ _
 exact I1.fpOk hle (I1.hok.fresh hle)
theorem D3j {K:PySem.W.Frag} {a b:Addr} {xs ys:List V} {g:TG} {tb:TS} {D:B7w} {σ:St} {H:Hp} (Pv:Nat->St->Hp->Prop) (h0:Pv 0 σ H) (hl:∀i σ H,Pv i σ H->SqL K H a xs/\SqT K H b ys) (hlen:xs.length=ys.length)
  (hs:∀i x y σ H p,xs[i]? =some x->ys[i]? =some y->Pv i σ H->H p=none->g (.ref p) σ (upd H p (.tup [x,y])) λσ2 H2=>tb { D with nx:=Pv (i+1),ct:=Pv (i+1),bk:=D.nx } σ2 H2) (hd:∀σ H,Pv xs.length σ H->D.nx σ H) :
  ∃W:Nat->Nat->St->Hp->Prop,(∃m,W 0 m σ H)/\∀i m σ H,W i m σ H->
   ((Itz K a b).stop i H/\D.nx σ H)\/((Itz K a b).go i H/\∃N:St->Hp->Prop,(∀σ' H',N σ' H'->∃m',m'<m/\W (i+1) m' σ' H')/\∀x H',(Itz K a b).yld i H x H'->g x σ H' λσ2 H2=>tb { D with nx:=N,ct:=N,bk:=D.nx } σ2 H2):=by
 refine ⟨λi m σ H=>m=xs.length-i/\i<=xs.length/\Pv i σ H,⟨xs.length,by simp,Z1e _,h0⟩,?_⟩;rintro i m σ H ⟨rfl,hi,p⟩;obtain ⟨q1,q2⟩:=hl i σ H p;by_cases hlt:i<xs.length
 ·have e1:xs[i]? =some xs[i]:=Z0b hlt;have e2:ys[i]? =some (ys[i]'(by lia)):=Z0b _;refine .inr ⟨⟨xs,ys,_,_,q1,q2,e1,e2⟩,Pv (i+1),λσ' H' p'=>⟨xs.length-(i+1),by lia,rfl,hlt,p'⟩,λv H' y=> ?_⟩;obtain ⟨c,hc,rfl,x,z,f1,f2,rfl⟩:=y;exact hs i x z σ H c (f1 xs q1) (f2 ys q2) p hc
 ·have e:i=xs.length:=by lia
  subst e;exact .inl ⟨⟨xs,ys,q1,q2,.inl (Z09 _)⟩,hd σ H p⟩
def Itv (K:PySem.W.Frag) (a:Addr) (n:Nat):It :=
 ⟨λi H=>∃xs x,SqL K H a xs/\xs.length=n/\i<n/\xs[n-1-i]? =some x,λi H x H'=>H'=H/\∀xs,SqL K H a xs->xs[n-1-i]? =some x,λi _=>i=n⟩
theorem D0l {P:Program} {w:World} {K:PySem.W.Frag} {tg:Expr} (a it:Addr) (n:Nat):C8f P w K tg (Itv K a n) [it] it (λi h=>h.IsRevIter it a ((n:Int)-1-(i:Int))) where
 mem:=by simp
 obj:=λi h st b hb=>by
  have e:b=it:=by simpa using hb
  subst e;obtain ⟨o,e,c,d⟩:=st;exact ⟨o,e,λv z=>by rw [d] at z;cases z⟩
 keep:=λi h h' st k=>st.at λo e=>k it (by simp) o e
 item:=by
  intro X hP hw hK hc i pins s σ H E I hf st hg;subst hP hw hK;obtain ⟨xs,x,hq,hn,hi,hx⟩:=hg;obtain ⟨its,rv,p,hz⟩:=I.list hq;obtain ⟨u,hu,ru⟩:=rv.get hx;obtain ⟨f0,f1,f2,f3,f4,f5⟩:=hf it (by simp);have e1:(n:Int)-1-(i:Int)=((n-1-i:Nat):Int):=by lia
  rw [e1] at st;refine wpAny_pyNext_rev_item st p.isList (x:=u) (by simpa using hu) λh' st' sb=> ?_;have I1:Inv X pins σ H { s with heap:=h' }:=I.turned (t':=s.toks) (λb o hb e=>(sb.2 b hb).trans e) f0 f1 f3 f4 f5
  have e2:((n-1-i:Nat):Int)-1=(n:Int)-1-((i+1:Nat):Int):=by lia
  rw [e2] at st';obtain ⟨o,e,c,d⟩:=id st';exact ⟨u,rfl,C4k (s:={ s with heap:=h' }) e c d (by decide) ⟨x,H,I1,ru,⟨rfl,λys hy=>by rw [I.list_inj hy hq];exact hx⟩,st',λb hb=>(hf b hb).1⟩⟩
 done:=by
  intro X hP hw hK hc i pins s σ H E I hf st hg;subst hP hw hK;have hi:i=n:=hg;subst hi;obtain ⟨f0,f1,f2,f3,f4,f5⟩:=hf it (by simp);have e1:(i:Int)-1-(i:Int)= -1:=by lia
  rw [e1] at st;exact wpAny_pyNext_rev_end (I.ok.hd hc) st λh' eb=>⟨rfl,I.turned (t':=s.toks) (λb o hb e=>eb b o hb e) f0 f1 f3 f4 f5⟩
 self:=λ_ _ _ _ _ st h=>wpAny_pyIter_revIter st h
def iRev (K:PySem.W.Frag) (ta:TA):TI:=λσ H R=>ta σ H λvs H1=>∃a xs,vs=[.ref a]/\SqL K H1 a xs/\R (Itv K a xs.length) H1
theorem D1j {X:Cx} {tg:Expr} {a:Expr} {ta:TA} {p pos:Pos} (hg:Gl X "reversed") (hm:X.mg "reversed"=none) (ha:PA X [a] ta) (hs:starEach [a] X.env=[(false,eval a X.env)]:=by rfl) :
  PI X tg (.Call (.Name "reversed" p) [a] [] pos) (iRev X.K ta):=by
 intro pins s σ H R I h;refine Call_ (A7f I hg hm boot_reversed (PyProof.Rows.callWith_type1 (thn (ha pos pins s σ H _ I h) λus s1 ⟨vs,H1,I1,r1,q1⟩=> ?_) hs rfl));obtain ⟨l,xs,e,hq,q⟩:=q1;subst e;obtain ⟨u,rfl,ru⟩:=B8h r1;cases ru;obtain ⟨its,rv,p1,_⟩:=I1.list hq;have en:(its.toArray.size:Int)-1=(xs.length:Int)-1-((0:Nat):Int):=by rw [Z0g,<-rv.length];lia
 refine call_reversed_list p1.isList ?_;rw [en];have st:(s1.heap.push (revObj l ((xs.length:Int)-1-((0:Nat):Int)))).IsRevIter s1.heap.objs.size l ((xs.length:Int)-1-((0:Nat):Int)):=⟨_,Z0c _ rfl,rfl,rfl⟩;refine wpAny_pyIter_revIter (s:={ s1 with heap:=s1.heap.push (revObj l ((xs.length:Int)-1-((0:Nat):Int))) }) st ?_;refine ⟨_,[s1.heap.objs.size],_,_,H1,rfl,I1.kept (t':=s1.toks) λb o e=>Z01 _ e,D0l l _ xs.length,st,λb hb=> ?_,q⟩
 have e:b=s1.heap.objs.size:=by simpa using hb
 subst e;exact I1.fpOk (Z09 _) (I1.hok.fresh (Z09 _))
theorem D4b {K:PySem.W.Frag} {a:Addr} {xs:List V} {g:TG} {tb:TS} {D:B7w} {σ:St} {H:Hp} (Pv:Nat->St->Hp->Prop) (h0:Pv 0 σ H) (hl:∀i σ H,Pv i σ H->SqL K H a xs)
  (hs:∀i x σ H,i<xs.length->xs[xs.length-1-i]? =some x->Pv i σ H->g x σ H λσ2 H2=>tb { D with nx:=Pv (i+1),ct:=Pv (i+1),bk:=D.nx } σ2 H2) (hd:∀σ H,Pv xs.length σ H->D.nx σ H) :
  ∃W:Nat->Nat->St->Hp->Prop,(∃m,W 0 m σ H)/\∀i m σ H,W i m σ H->
   ((Itv K a xs.length).stop i H/\D.nx σ H)\/((Itv K a xs.length).go i H/\∃N:St->Hp->Prop,(∀σ' H',N σ' H'->∃m',m'<m/\W (i+1) m' σ' H')/\∀x H',(Itv K a xs.length).yld i H x H'->g x σ H' λσ2 H2=>tb { D with nx:=N,ct:=N,bk:=D.nx } σ2 H2):=by
 refine ⟨λi m σ H=>m=xs.length-i/\i<=xs.length/\Pv i σ H,⟨xs.length,by simp,Z1e _,h0⟩,?_⟩;rintro i m σ H ⟨rfl,hi,p⟩;have q:=hl i σ H p;by_cases hlt:i<xs.length
 ·refine .inr ⟨⟨xs,xs[xs.length-1-i],q,rfl,hlt,Z0b _⟩,Pv (i+1),λσ' H' p'=>⟨xs.length-(i+1),by lia,rfl,hlt,p'⟩,λx H' y=> ?_⟩;obtain ⟨e,y⟩:=y;subst e;exact hs i x σ _ hlt (y xs q) p
 ·have e:i=xs.length:=by lia
  subst e;exact .inl ⟨rfl,hd σ H p⟩
structure C8j (X:Cx) (scope:Scope) (cl:List (Str×Addr)):Prop where
 eq:closureFor scope X.env=pure cl
 sub:∀x c,cl.lookup x=some c->X.env.cells.lookup x=some c
 has:∀x,((relabel scope X.env).names.lookup x=some .cell\/(relabel scope X.env).names.lookup x=some .free)->∃c,cl.lookup x=some c
 kind:scope.kind= .function
 ncell:∀y∈scope.names,y.2≠.cell
 names:∀y∈scope.names,y.2= .local->scope.names.lookup y.1=some .local
def blk (X:Cx) (N':List Str) (scope:Scope) (cl:List (Str×Addr)) (C:Addr) (s₀:Shared) (H₀:Hp) (fp:List Addr):Cx :=
 { X with N:=N',s₀:=s₀,H₀:=H₀,env:=compEnvC scope cl C X.env,outer:=X.stack,ex:=fp,fn:=λ_=>false,pn:=[],xe:=λ_ _=>False }
def A5v (ix:List (Option Nat)) (σ:St):St:=ix.map λo=>o.bind λj=>(σ[j]?).bind id
section
variable {X:Cx} {pins:List (Addr×Obj)} {σ:St} {H:Hp} {s:Shared} {N':List Str} {scope:Scope} {cl:List (Str×Addr)} {fp:List Addr} {ix:List (Option Nat)}
def C8w (X:Cx) (N':List Str) (scope:Scope) (ix:List (Option Nat)):Prop :=
 ix.length=N'.length/\∀i j:Nat,ix[i]? =some (some j)->∃x,N'[i]? =some x/\X.N[j]? =some x/\(X.env.scope.names.lookup x=some .cell\/X.env.scope.names.lookup x=some .free)/\
  ((relabel scope X.env).names.lookup x=some .cell\/(relabel scope X.env).names.lookup x=some .free)
theorem D5t (I:Inv X pins σ H s) (ck:C8j X scope cl) (f:∀b∈fp,B3n X pins H b) (hlt:∀b∈fp,b<s.heap.objs.size):(blk X N' scope cl s.heap.objs.size s H fp).Ok where
 mod:=I.ok.mod
 kind:=ck.kind
 glob:=I.ok.glob
 blt:=I.ok.blt
 above:=Z09 _
 inj:=λx y c h1 h2=>I.ok.inj x y c (ck.sub x c h1) (ck.sub y c h2)
 has:=λx h=>ck.has x h
 cab:=λx c h=>by cases h
 hd:=I.ok.hd
 frames:=I.ok.frames
 stk:= .inl rfl
 exf:=λb hb=>⟨Z0h (hlt b hb),λx c h=>(f b hb).2.2.2.2.1 x c (ck.sub x c h)⟩
 bs:=I.bs
 bsz:=Z1n I.ok.bsz I.sz
 noex:=λb o e hb=>by
  rcases (f b hb).2.2.2.1 with z | z
  ·exact I.ok.noex b o e z
  ·exact absurd (Z0q (Z0a (I.ok.bs b o e).1) z) (Nat.lt_irrefl _)
 exfs:=λb hb hs=>by
  rcases Z0e.mp (I.stkSub b hs) with z | z
  ·exact (f b hb).2.1 z
  ·exact (f b hb).2.2.1 z
 funs:=I.stack
 frf:=I.stkFree
theorem B2t (I:Inv X pins σ H s) (ck:C8j X scope cl) (io:C8w X N' scope ix) (f:∀b∈fp,B3n X pins H b) (hlt:∀b∈fp,b<s.heap.objs.size) {h':Heap} {m:Str->Option Value} {t':Nat}
  (hn:h'.Ns s.heap.objs.size m) (k:∀b o,s.heap.get? b=some o->h'.get? b=some o):Inv (blk X N' scope cl s.heap.objs.size s H fp) [] (A5v ix σ) H { s with heap:=h',toks:=t' }:=by
 have cl':∀x c,cl.lookup x=some c->∃v,s.heap.IsCell c v:=λx c h=>I.cell x c (ck.sub x c h);refine ⟨D5t I ck f hlt,rfl,I.bare,Un.kept k,⟨m,hn,λi x v e1 e2 e3=> ?_⟩,λx c e=> ?_,I.hok.fresh (Z09 _),λx c e=>I.freeC x c (ck.sub x c e),(λp hp=>by cases hp),I.hok.kept k,?_⟩
 ·unfold A5v at e2;rw [Z1z] at e2
  cases hi:ix[i]? with
  | none=>rw [hi] at e2;cases e2
  | some o =>
   rw [hi] at e2
   cases o with
   | none=>cases Z1a e2
   | some j =>
    have e2':(σ[j]?).bind id=some v:=Z1a e2;obtain ⟨x',n1,n2,k1,k2⟩:=io.2 i j hi;have ex:x'=x:=Z1a (n1.symm.trans e1);subst ex
    have es:σ[j]? =some (some v):=by
     cases q:σ[j]? with
     | none=>rw [q] at e2';cases e2'
     | some w =>
      rw [q] at e2';exact congrArg some e2'
    obtain ⟨m0,_,hl⟩:=I.loc;obtain ⟨u,ru,lo⟩:=hl j x' v n2 es (k1.elim (λz=> .inr (.inl z)) λz=> .inr (.inr z));refine ⟨u,ru,.inr ⟨k2,?_⟩⟩;obtain ⟨c,hc⟩:=ck.has x' k2;refine ⟨c,hc,?_⟩;rcases lo with ⟨z,_⟩ | ⟨_,c',hc',ic⟩
    ·exfalso;have z':X.env.scope.names.lookup x'=some .local:=z;rcases k1 with k1 | k1 <;> (rw [z'] at k1;cases k1)
    ·have ec:c'=c:=Z1a (hc'.symm.trans (ck.sub x' c hc));subst ec;obtain ⟨o,ho,hd⟩:=ic;exact ⟨o,k _ _ ho,hd⟩
 ·obtain ⟨v,o,ho,hd⟩:=cl' x c e;exact ⟨v,o,k _ _ ho,hd⟩
 ·unfold A5v;rw [Z08];exact io.1
theorem C0o (I:Inv X pins σ H s) (f:∀b∈fp,B3n X pins H b) {σ':St} {H':Hp} {s':Shared} {pl:List (Addr×Obj)} (J:Inv (blk X N' scope cl s.heap.objs.size s H fp) pl σ' H' s') {h':Heap} (sb:Heap.SameBut s.heap.objs.size s'.heap h') :
  Inv X pins σ H' { s' with heap:=h' }:=by
 have nC:∀b o,s.heap.get? b=some o->b≠s.heap.objs.size:=λb o e=>Z0h (Z0a e);have hC:H' s.heap.objs.size=none:=J.free;have u:Un (frs X.stack) fp H H' s.heap s'.heap:=J.base
 refine I.call' (ch:=fp) (s':={ s' with heap:=h' }) J.os ⟨λb o e n hb hx=>(sb.2 b (nC b o e)).trans (u.keep b o e n hb hx),λb o e n hb hx=> ?_,u.free,λb o e hx=> ?_,u.tups,u.frzs,u.tbls⟩ (λb o e=> ?_) J.bare
  (λb hb=>⟨(f b hb).2.2.2.1,(f b hb).2.1,(f b hb).2.2.2.2.1,(f b hb).2.2.2.2.2⟩)
 ·obtain ⟨sl,q⟩:=u.slot b o e n hb hx;exact ⟨sl,(sb.2 b (nC b o e)).trans q⟩
 ·obtain ⟨o',q⟩:=u.there b o e hx;exact ⟨o',(sb.2 b (nC b o e)).trans q⟩
 ·refine (J.hok b o e).stay (λc v hc q=>(sb.2 c ?_).trans q) (λc q=>q) λc xs q=>q;rcases hc with rfl | hc
  ·exact A0k e hC
  ·exact A0k hc hC
end
def A3f:St->St->Prop
 | [],_=>True
 | none::r,_::r'=>A3f r r'
 | none::r,[]=>A3f r []
 | some v::r,w::r'=>w=some v/\A3f r r'
 | some _::_,[]=>False
theorem A3f.get:∀{a b:St},A3f a b->∀(j:Nat) v,a[j]? =some (some v)->b[j]? =some (some v)
 | [],_,_,_,_,e=>by simp at e
 | none::r,_::r',h,0,v,e=>by simp at e
 | none::r,_::r',h,j+1,v,e=>by simpa using A3f.get (a:=r) (b:=r') h j v (by simpa using e)
 | none::r,[],h,0,v,e=>by simp at e
 | none::r,[],h,j+1,v,e=>by have:=A3f.get (a:=r) (b:=[]) h j v (by simpa using e);simp at this
 | some w::r,_::r',h,0,v,e=>by
  have e':w=v:=by simpa using e
  subst e'
  simpa using h.1
 | some _::r,_::r',h,j+1,v,e=>by simpa using A3f.get (a:=r) (b:=r') h.2 j v (by simpa using e)
section
variable {X:Cx}
def D5u (ix:List (Option Nat)) (wi:TI) (g:TG) (te:TE):TE:=λσ H Q=>wi σ H λJ H1=>∀D,H1 D=none->∃W:Nat->Nat->Hp->Prop,(∃m,W 0 m (upd H1 D (.lst [])))/\∀i m H2,W i m H2->
 (J.stop i H2/\Q (.ref D) H2)\/(J.go i H2/\∃N:VK,(∀y H5,N y H5->∃xs,H5 D=some (.lst xs)/\xs.length<sizeLine/\∃m',m'<m/\W (i+1) m' (upd H5 D (.lst (xs++[y]))))/\∀x H3,J.yld i H2 x H3->g x (A5v ix σ) H3 λσ4 H4=>A3f (A5v ix σ) σ4/\te σ4 H4 N)
theorem A3l {elt iter tg:Expr} {scope:Scope} {pos:Pos} {N':List Str} {ix:List (Option Nat)} {cl:List (Str×Addr)} {wi:TI} {g:TG} {te:TE} (hc:X.calm=true) (ck:C8j X scope cl) (io:C8w X N' scope ix) (hi:PI X tg iter wi)
  (hg:∀C s₀ H₀ fp,PG (blk X N' scope cl C s₀ H₀ fp) tg g) (he:∀C s₀ H₀ fp,PE (blk X N' scope cl C s₀ H₀ fp) elt te) (hs:∀x,foldedSetIterable iter X.env x=pure x:=by intro _;rfl) :
  PE X (.ListComp elt [⟨tg,iter,[],0⟩] scope pos) (D5u ix wi g te):=by
 intro pins s σ H Q I h;rw [eval_ListComp];refine wpAny_comprehension_free (use:=none) rfl hs ck.eq ck.kind ck.names (thn (hi pins s σ H _ I h) λxv s1 h1=>thn h1 λitv s2 h2=> ?_);obtain ⟨it,fp,tn,J,H1,rfl,I1,T,st1,f1,R⟩:=h2;refine Z16 ?_;have hD:H1 s2.heap.objs.size=none:=I1.hok.fresh (Z09 _);obtain ⟨W,⟨m0,w0⟩,turn⟩:=R _ hD;have hfD:∀b∈fp,b<s2.heap.objs.size:=λb hb=>let ⟨o,e,_⟩:=T.obj _ _ st1 b hb;Z0a e;have I2:Inv X pins σ (upd H1 s2.heap.objs.size (.lst [])) { s2 with heap:=s2.heap.push { cls:= .type "list",data:= .seq ([]:List Value).toArray },toks:=s2.toks }:=I1.lnew (its:=[]) .nil (Z1e _);have f2:∀b∈fp,B3n X pins (upd H1 s2.heap.objs.size (.lst [])) b:=λb hb=>⟨by rw [A0h (Z0h (hfD b hb))];exact (f1 b hb).1,(f1 b hb).2⟩
 have lt2:∀b∈fp,b<(s2.heap.push { cls:= .type "list",data:= .seq ([]:List Value).toArray }).objs.size:=λb hb=>by rw [Z1s];exact Nat.lt_succ_of_lt (hfD b hb)
 refine wpAny_newFunctionEnv ck.ncell (by intro y hy;simp at hy) (λh3 hns sb3=> ?_) ck.kind;dsimp only at hns sb3⊢;have k3:∀b o,(s2.heap.push { cls:= .type "list",data:= .seq ([]:List Value).toArray }).get? b=some o->h3.get? b=some o:=λb o e=>(sb3.2 b (Z0h (Z0a e))).trans (Z01 _ e);generalize hs2:({ s2 with heap:=s2.heap.push { cls:= .type "list",data:= .seq ([]:List Value).toArray },toks:=s2.toks }:Shared)=s3 at I2;have e3:s2.heap.push { cls:= .type "list",data:= .seq ([]:List Value).toArray }=s3.heap:=by rw [<-hs2]
 rw [e3] at hns k3 lt2;have I3:=B2t (N':=N') (ix:=ix) I2 ck io f2 lt2 (h':=h3) (t':=s2.toks+([]:List (Str×Value)).length) hns k3;have e4:({ s3 with heap:=h3,toks:=s2.toks+([]:List (Str×Value)).length }:Shared)={ s2 with heap:=h3,toks:=s2.toks+([]:List (Str×Value)).length }:=by rw [<-hs2]
 rw [e4] at I3;have st3:tn 0 h3:=T.keep _ _ _ st1 λb hb o e=>k3 b o (by rw [<-e3];exact Z01 _ e)
 have loop:∀s4:Shared,s4={ s2 with heap:=h3,toks:=s2.toks+([]:List (Str×Value)).length }->
   codeAny (model X.prog X.w) X.A (.compLoop (.ListComp elt [⟨tg,iter,[],0⟩] scope pos) 0 (.ref it) (.ref s2.heap.objs.size) (compEnvC scope cl s3.heap.objs.size X.env))
    (compPost (model X.prog X.w) X.A X.xe none (EP X pins σ Q) (.ref s2.heap.objs.size) s3.heap.objs.size) s4:=by
  rintro s4 rfl
  have stat:∀{H':Hp},(∀b∈fp,H' b=none)->∀b∈fp,B3n (blk X N' scope cl s3.heap.objs.size s3 (upd H1 s2.heap.objs.size (.lst [])) fp) [] H' b:=λhn b hb =>
   ⟨hn b hb,Z0h (lt2 b hb),λhs=>I3.ok.exfs b hb hs,.inl hb,λx c e=>(f2 b hb).2.2.2.2.1 x c (ck.sub x c e),(λp hp=>by cases hp)⟩
  refine codeAny_loop rfl (λn s'=>∃i σ' H',Inv (blk X N' scope cl s3.heap.objs.size s3 (upd H1 s2.heap.objs.size (.lst [])) fp) [] σ' H' s'/\(∀(j:Nat) v,(A5v ix σ)[j]? =some (some v)->σ'[j]? =some (some v))/\tn i s'.heap/\(∀b∈fp,H' b=none)/\W i n H')
   (λn s' hI=> ?_) m0 ⟨0,_,_,I3,λ_ _ z=>z,st3,λb hb=>(f2 b hb).1,w0⟩
  obtain ⟨i,σ5,H5,I5,wk,st5,fr5,w5⟩:=hI;show wpAny _ _ ((compTurn (.ListComp elt [⟨tg,iter,[],0⟩] scope pos) 0 (.ref it) (.ref s2.heap.objs.size) (compEnvC scope cl s3.heap.objs.size X.env)).onRaise (λx=>do noteFrame x (compEnvC scope cl s3.heap.objs.size X.env);theTreesLotGoes x)) _ _ s';refine wpAny_noted ?_;rw [compTurn_list1];refine Z00 (Z1y ?_);rcases turn i n H5 w5 with ⟨stop,qn⟩ | ⟨go,NN,hNN,step⟩
  ·refine Z00 (Z10 (T.done (blk X N' scope cl s3.heap.objs.size s3 (upd H1 s2.heap.objs.size (.lst [])) fp) rfl rfl rfl hc i [] s' σ5 H5 (λ_ _=>False) I5 (stat fr5) st5 stop) (λr s6 h6=> ?_) λ_ _ z=>z.elim);obtain ⟨rfl,I6⟩:=h6;refine Z04 ?_;obtain ⟨mm,hm,_⟩:=id I6.loc;exact ⟨mm,hm,λh' sb=>⟨.ref s2.heap.objs.size,H5,C0o I2 f2 I6 sb,rfl,qn⟩⟩
  ·refine Z00 (Z10 (T.item (blk X N' scope cl s3.heap.objs.size s3 (upd H1 s2.heap.objs.size (.lst [])) fp) rfl rfl rfl hc i [] s' σ5 H5 (λ_ _=>False) I5 (stat fr5) st5 go) (λr s6 h6=> ?_) λ_ _ z=>z.elim);obtain ⟨u,rfl,h6⟩:=h6;refine Z00 (Z10 h6 (λ_ s7 h7=> ?_) λ_ _ z=>z.elim);obtain ⟨x,H7,I7,r7,y7,st7,fr7⟩:=h7;have I7w:Inv (blk X N' scope cl s3.heap.objs.size s3 (upd H1 s2.heap.objs.size (.lst [])) fp) [] (A5v ix σ) H7 s7:=I7.weak (by rw [I7.len];unfold A5v;rw [Z08];exact io.1) wk;have I7p:=I7w.pinned (stat fr7) (T.obj _ _ st7);refine Z00 (Z10 (hg _ _ _ _ _ s7 _ H7 x u _ I7p r7 (step x H7 y7)) (λ_ s8 h8=> ?_) λ_ _ z=>z.elim);obtain ⟨σ8,H8,I8,kp8,q8⟩:=h8;refine Z00 (Z00 (Z10 (he _ _ _ _ _ s8 σ8 H8 _ I8 q8) (λyv s9 h9=> ?_) λ_ _ z=>z.elim));obtain ⟨y,H9,I9,r9,n9⟩:=h9;obtain ⟨xs,hx9,hz9,m',hm',w9⟩:=hNN _ _ n9;refine Z00 (Z10 (A2x (X:=blk X N' scope cl s3.heap.objs.size s3 (upd H1 s2.heap.objs.size (.lst [])) fp) _ s9 σ8 H9 (.ref s2.heap.objs.size) [y] (.ref s2.heap.objs.size) [yv] (λ_ H'=>W (i+1) m' H') I9 rfl (.cons r9 .nil) ⟨_,xs,y,rfl,rfl,hx9,hz9,w9⟩) (λ_ s10 h10=> ?_) λ_ _ z=>z.elim);obtain ⟨_,H10,I10,_,w10⟩:=h10;refine Z04 (Z04 ⟨rfl,m',hm',i+1,σ8,H10,I10.unpinned,?_,T.keep _ _ _ st7 λb hb o e=>(I10.pin (b,o) (Z02 _ (Z02 _ (A2y hb e)))).1,λb hb=> ?_,w10⟩)
   ·exact kp8.get
   ·obtain ⟨o,e,d⟩:=T.obj _ _ st7 b hb;exact (I10.pin (b,o) (Z02 _ (Z02 _ (A2y hb e)))).2.1
 have e5:s3.heap.objs.size=(s2.heap.push { cls:= .type "list",data:= .seq ([]:List Value).toArray }).objs.size:=by rw [e3]
 rw [e5] at loop;exact codeAny_compStart_list (loop _ rfl) (T.self X.A 0 _ _ _ st3 (loop _ rfl))
end
section
variable {X:Cx} {m:Str} {pos apos:Pos} {e o:Expr} {es:List Expr} {ta:TE} {t:TA}
end
mutual
inductive Rep (H:Hp):V->PyData->Prop
 | non:Rep H .non .none
 | bl (b:Bool):Rep H (.bl b) (.bool b)
 | int (i:Int):Rep H (.int i) (.int i)
 | str (x:Str):Rep H (.str x) (.str x)
 | lst {p:Addr} {xs:List V} {ds:List PyData}:H p=some (.lst xs)->A5f H xs ds->Rep H (.ref p) (.list ds)
 | tup {p:Addr} {xs:List V} {ds:List PyData}:H p=some (.tup xs)->A5f H xs ds->Rep H (.ref p) (.tuple ds)
inductive A5f (H:Hp):List V->List PyData->Prop
 | nil:A5f H [] []
 | cons {v:V} {vs:List V} {d:PyData} {ds:List PyData}:Rep H v d->A5f H vs ds->A5f H (v::vs) (d::ds)
end
mutual
theorem Rep.imp {H H':Hp} (f:∀p o,H p=some o->H' p=some o):∀{v:V} {d:PyData},Rep H v d->Rep H' v d
 | _,_,.non=> .non
 | _,_,.bl b=> .bl b
 | _,_,.int i=> .int i
 | _,_,.str x=> .str x
 | _,_,.lst e r=> .lst (f _ _ e) (A5f.imp f r)
 | _,_,.tup e r=> .tup (f _ _ e) (A5f.imp f r)
theorem A5f.imp {H H':Hp} (f:∀p o,H p=some o->H' p=some o):∀{vs:List V} {ds:List PyData},A5f H vs ds->A5f H' vs ds
 | _,_,.nil=> .nil
 | _,_,.cons a r=> .cons (Rep.imp f a) (A5f.imp f r)
end
theorem Rep.same {H H':Hp} {v:V} {d:PyData} (h:Rep H v d) (s:A0n H H'):Rep H' v d:=h.imp s
theorem A5f.same {H H':Hp} {v:List V} {d:List PyData} (h:A5f H v d) (s:A0n H H'):A5f H' v d:=h.imp s
theorem A5f.len {H:Hp}:∀{vs:List V} {ds:List PyData},A5f H vs ds->vs.length=ds.length
 | _,_,.nil=>rfl
 | _,_,.cons _ r=>by rw [Z0y,Z0y,A5f.len r]
theorem A5f.snoc {H:Hp} {v:V} {d:PyData} (a:Rep H v d):∀{vs:List V} {ds:List PyData},A5f H vs ds->A5f H (vs++[v]) (ds++[d])
 | _,_,.nil=> .cons a .nil
 | _,_,.cons b r=> .cons b (A5f.snoc a r)
theorem A5f.strs {H:Hp}:∀xs:List Str,A5f H (xs.map V.str) (xs.map PyData.str)
 | []=> .nil
 | x::r=> .cons (.str x) (A5f.strs r)
section
variable {X:Cx} {pins:List (Addr×Obj)} {σ:St} {H:Hp} {s:Shared}
end
section
variable {X:Cx}
end
theorem A2m {X:Cx} {scope:Scope} (hk:scope.kind= .function) (hn:∀y∈scope.names,y.2≠.free/\y.2≠.cell) (hl:∀y∈scope.names,y.2= .local->scope.names.lookup y.1=some .local):C8j X scope [] where
 eq:=closureFor_none λy hy=>(hn y hy).1
 sub:=λx c h=>by cases h
 has:=λx h=>by
  exfalso
  have e:(relabel scope X.env).names=scope.names:=map_eq_self λy hy=>by
   obtain ⟨n,k⟩:=y;have z:=(hn _ hy).1;have z':(k == NameKind.free)=false:=by simpa using z
   simp [z']
  rw [e] at h
  have mem:∀{k:NameKind},scope.names.lookup x=some k->(x,k)∈scope.names:=λ{k} q=>by
   generalize scope.names=l at q
   induction l with
   | nil=>cases q
   | cons a r ih =>
    obtain ⟨n,k'⟩:=a;rw [Z28] at q;split at q
    ·rename_i hb;have hb':x=n:=by simpa using hb
     cases q
     subst hb';exact .head _
    ·exact .tail _ (ih q)
  rcases h with h | h
  ·exact (hn _ (mem h)).2 rfl
  ·exact (hn _ (mem h)).1 rfl
 kind:=hk
 ncell:=λy hy=>(hn y hy).2
 names:=hl
theorem A2n {X:Cx} {N':List Str} {scope:Scope} {n:Nat} (h:n=N'.length):C8w X N' scope (List.replicate n none):=⟨by rw [List.length_replicate];exact h,λi j e=>by
 rw [List.getElem?_replicate] at e
 split at e <;> cases e⟩
section
variable {K:PySem.W.Frag} {a D:Addr} {xs:List V} {g:TG} {te:TE} {Q:VK} {σ₀:St} {H:Hp}
theorem C5f (Pv:Nat->List V->Hp->Prop) (h0:Pv 0 [] (upd H D (.lst []))) (hl:∀i ys H,Pv i ys H->SqL K H a xs)
  (hs:∀i x ys H,xs[i]? =some x->Pv i ys H->g x σ₀ H λσ4 H4=>A3f σ₀ σ4/\te σ4 H4 λy H5=>H5 D=some (.lst ys)/\ys.length<sizeLine/\Pv (i+1) (ys++[y]) (upd H5 D (.lst (ys++[y])))) (hd:∀ys H,Pv xs.length ys H->Q (.ref D) H) :
  ∃W:Nat->Nat->Hp->Prop,(∃m,W 0 m (upd H D (.lst [])))/\∀i m H2,W i m H2->
   ((Itl K a).stop i H2/\Q (.ref D) H2)\/((Itl K a).go i H2/\∃N:VK,(∀y H5,N y H5->∃xs,H5 D=some (.lst xs)/\xs.length<sizeLine/\∃m',m'<m/\W (i+1) m' (upd H5 D (.lst (xs++[y]))))/\
    ∀x H3,(Itl K a).yld i H2 x H3->g x σ₀ H3 λσ4 H4=>A3f σ₀ σ4/\te σ4 H4 N):=by
 refine ⟨λi m H=>m=xs.length-i/\i<=xs.length/\∃ys,Pv i ys H,⟨xs.length,by simp,Z1e _,[],h0⟩,?_⟩;rintro i m H2 ⟨rfl,hi,ys,p⟩;have q:=hl i ys H2 p;by_cases hlt:i<xs.length
 ·refine .inr ⟨⟨xs,xs[i],q,by simp [hlt]⟩,λy H5=>H5 D=some (.lst ys)/\ys.length<sizeLine/\Pv (i+1) (ys++[y]) (upd H5 D (.lst (ys++[y]))),λy H5 n=>⟨ys,n.1,n.2.1,xs.length-(i+1),by lia,rfl,hlt,_,n.2.2⟩,λx H3 z=> ?_⟩;obtain ⟨e,z⟩:=z;subst e;exact hs i x ys _ (z xs q) p
 ·have e:i=xs.length:=by lia
  subst e;exact .inl ⟨⟨xs,q,Z09 _⟩,hd ys H2 p⟩
theorem C9l (Pv:Nat->List V->Hp->Prop) (h0:Pv 0 [] (upd H D (.lst []))) (hl:∀i ys H,Pv i ys H->SqT K H a xs)
  (hs:∀i x ys H,xs[i]? =some x->Pv i ys H->g x σ₀ H λσ4 H4=>A3f σ₀ σ4/\te σ4 H4 λy H5=>H5 D=some (.lst ys)/\ys.length<sizeLine/\Pv (i+1) (ys++[y]) (upd H5 D (.lst (ys++[y])))) (hd:∀ys H,Pv xs.length ys H->Q (.ref D) H) :
  ∃W:Nat->Nat->Hp->Prop,(∃m,W 0 m (upd H D (.lst [])))/\∀i m H2,W i m H2->
   ((Itt K a).stop i H2/\Q (.ref D) H2)\/((Itt K a).go i H2/\∃N:VK,(∀y H5,N y H5->∃xs,H5 D=some (.lst xs)/\xs.length<sizeLine/\∃m',m'<m/\W (i+1) m' (upd H5 D (.lst (xs++[y]))))/\
    ∀x H3,(Itt K a).yld i H2 x H3->g x σ₀ H3 λσ4 H4=>A3f σ₀ σ4/\te σ4 H4 N):=by
 refine ⟨λi m H=>m=xs.length-i/\i<=xs.length/\∃ys,Pv i ys H,⟨xs.length,by simp,Z1e _,[],h0⟩,?_⟩;rintro i m H2 ⟨rfl,hi,ys,p⟩;have q:=hl i ys H2 p;by_cases hlt:i<xs.length
 ·refine .inr ⟨⟨xs,xs[i],q,by simp [hlt]⟩,λy H5=>H5 D=some (.lst ys)/\ys.length<sizeLine/\Pv (i+1) (ys++[y]) (upd H5 D (.lst (ys++[y]))),λy H5 n=>⟨ys,n.1,n.2.1,xs.length-(i+1),by lia,rfl,hlt,_,n.2.2⟩,λx H3 z=> ?_⟩;obtain ⟨e,z⟩:=z;subst e;exact hs i x ys _ (z xs q) p
 ·have e:i=xs.length:=by lia
  subst e;exact .inl ⟨⟨xs,q,Z09 _⟩,hd ys H2 p⟩
end
abbrev TJ:=St->Hp->Str->(Str->Hp->Prop)->Prop
def PJ (X:Cx) (es:List Expr) (t:TJ):Prop :=
 ∀(pins:List (Addr×Obj)) (s:Shared) (σ:St) (H:Hp) (out:Str) (Q:Str->Hp->Prop),Inv X pins σ H s->t σ H out Q->wpAny (model X.prog X.w) X.A (joinParts out (evalEach es X.env)) (EP X pins σ λv H'=>∃z,v= .str z/\Q z H') X.xe s
def FmtV (x:V) (y:Str):Prop:=(x= .str y/\y.length<=sizeLine)\/∃i:Int,x= .int i/\i.natAbs.log2<1920/\y=(toString i:Str)
def D9j:TJ:=λ_ H out Q=>out.length<=sizeLine/\Q out H
def D8e (te:TE) (tr:TJ):TJ:=λσ H out Q=>te σ H λx H1=>∃y,FmtV x y/\(out++y).length<=sizeLine/\tr σ H1 (out++y) Q
def D9n (x:Str) (tr:TJ):TJ:=λσ H out Q=>(out++x).length<=sizeLine/\tr σ H (out++x) Q
section
variable {X:Cx} {e:Expr} {es:List Expr} {te:TE} {tr:TJ} {pos p2:Pos}
theorem A5y:PJ X [] D9j:=λpins s σ H out Q I h=>joinParts_nil ⟨.str out,H,I.tok _,⟨_,rfl⟩,out,rfl,h.2⟩ h.1
theorem D1h (he:PE X e te) (hr:PJ X es tr) (hs:evalEach (.FormattedValue e (-1) none pos::es) X.env=eval (.FormattedValue e (-1) none pos) X.env::evalEach es X.env:=by rfl):PJ X (.FormattedValue e (-1) none pos::es) (D8e te tr):=by
 intro pins s σ H out Q I h;rw [hs];refine joinParts_cons (FormattedValue_plain (thn (he pins s σ H _ I h) λv s1 ⟨x,H1,I1,rx,y,f,hz,q⟩=> ?_));rcases f with ⟨rfl,hy⟩ | ⟨i,rfl,hi,rfl⟩
 ·obtain ⟨t,rfl⟩:=(show∃t,v=Value.str y t from rx);exact formatField_str (λt' tk=>⟨hz,hr pins _ σ H1 _ Q (I1.tok tk) q⟩) hy
 ·obtain ⟨t,rfl⟩:=(show∃t,v=Value.int i t from rx);exact formatField_int_small hi ⟨hz,hr pins _ σ H1 _ Q (I1.tok _) q⟩
theorem A3n {x:Str} {j:Nat} (hr:PJ X es tr) (hs:evalEach (.Constant (.str x) j pos::es) X.env=eval (.Constant (.str x) j pos) X.env::evalEach es X.env:=by rfl):PJ X (.Constant (.str x) j pos::es) (D9n x tr):=by
 intro pins s σ H out Q I h;rw [hs];refine joinParts_cons (thn (A3a pins s σ H (λv H'=>v= .str x/\H'=H) I ⟨rfl,rfl⟩) λv s1 ⟨y,H1,I1,rx,ey,eH⟩=> ?_);subst ey eH;obtain ⟨t,rfl⟩:=(show∃t,v=Value.str x t from rx);exact ⟨h.1,hr pins s1 σ H1 _ Q I1 h.2⟩
def D9l (tj:TJ):TE:=λσ H Q=>tj σ H Str.empty λz H'=>Q (.str z) H'
theorem A4e {a b:Expr} {tj:TJ} (h:PJ X (a::b::es) tj) (hs:evalEach (a::b::es) X.env=eval a X.env::eval b X.env::evalEach es X.env:=by rfl):PE X (.JoinedStr (a::b::es) pos) (D9l tj):=by
 intro pins s σ H Q I hq;refine JoinedStr_many ?_;rw [<-hs];exact thn (h pins s σ H _ _ I hq) λu s1 ⟨v,H1,I1,rv,z,ez,q⟩=>by subst ez;exact ⟨.str z,H1,I1,rv,q⟩
end
theorem A6l {x:Str} {k:NameKind}:∀{l:List (Str×NameKind)},l.lookup x=some k->(x,k)∈l
 | [],q=>by cases q
 | (n,k')::r,q=>by
  rw [Z28] at q;split at q
  ·rename_i hb;have hb':x=n:=by simpa using hb
   cases q
   subst hb';exact .head _
  ·exact .tail _ (A6l q)
theorem A6v {X:Cx} {scope:Scope} {x:Str} {c:Addr} (he:closureFor scope X.env=pure [(x,c)]) (hc:X.env.cells.lookup x=some c) (hk:scope.kind= .function) (hn:∀y∈scope.names,y.2≠.cell/\(y.2= .free->y.1=x))
  (hl:∀y∈scope.names,y.2= .local->scope.names.lookup y.1=some .local):C8j X scope [(x,c)] where
 eq:=he
 sub:=λy d h=>by
  rw [Z28] at h;split at h
  ·rename_i hb;have hb':y=x:=by simpa using hb
   cases h
   subst hb';exact hc
  ·cases h
 has:=λy h=>by
  have key:y=x:=by
   have m:∃k,(y,k)∈(relabel scope X.env).names/\(k= .cell\/k= .free):=h.elim (λz=>⟨_,A6l z,.inl rfl⟩) λz=>⟨_,A6l z,.inr rfl⟩;obtain ⟨k,hm,hk⟩:=m;obtain ⟨⟨n,k0⟩,h0,e⟩:=Z2c.mp hm;dsimp only at e;by_cases hf:k0= .free
   ·have en:n=y:=by
     split at e
     ·exact congrArg Prod.fst e
     ·exact congrArg Prod.fst e
    rw [<-en];exact (hn _ h0).2 hf
   ·have hb:(k0 == NameKind.free)=false:=by simpa using hf
    simp only [hb,Bool.false_and,Bool.false_eq_true,if_false] at e;have e2:k0=k:=congrArg Prod.snd e;subst e2;rcases hk with hk | hk
    ·exact absurd hk (hn _ h0).1
    ·exact absurd hk hf
  subst key;exact ⟨c,by simp [Z28]⟩
 kind:=hk
 ncell:=λy hy=>(hn y hy).1
 names:=hl
theorem A5s {X:Cx} {N0:List Str} {x:Str} {scope:Scope} {j:Nat} (hN:X.N[j]? =some x) (h1:X.env.scope.names.lookup x=some .cell\/X.env.scope.names.lookup x=some .free)
  (h2:(relabel scope X.env).names.lookup x=some .cell\/(relabel scope X.env).names.lookup x=some .free):C8w X (N0++[x]) scope (List.replicate N0.length none++[some j]):=by
 refine ⟨by simp,λi k e=> ?_⟩;by_cases hi:i<N0.length
 ·rw [Z26 (by simpa using hi),List.getElem?_replicate] at e;split at e <;> cases e
 ·have hi':i=N0.length:=by
   have:=(Z03.mp e).1;simp at this
   lia
  subst hi';rw [Z1l (by simp)] at e;have ek:j=k:=by simpa using e
  subst ek;exact ⟨x,by simp,hN,h1,h2⟩
theorem A0r {H H':Hp} {l:Addr} {o:HO} (s:A0n H H') (hl:H l=none):A0n H (upd H' l o):=λb u e=>by
 rw [A0h (A0k e hl)];exact s b u e
theorem A0f {H:Hp} {l:Addr} {o:HO} (hl:H l=none):A0n H (upd H l o):=A0r (A0n.refl H) hl
theorem C6s {H:Hp} {x dx:Addr} {o u v:HO} (hx:H x=none) (hd:H dx=none):A0n H (upd (upd (upd H dx o) x u) x v):=A0r (A0r (A0f hd) hx) hx
theorem A0g {n:Nat} (h:n<=1000000):n<=sizeLine:=by rw [sizeLine_eq];lia
theorem A1j {n:Nat} (h:n<=1000000):n<sizeLine:=by rw [sizeLine_eq];lia
theorem Paired.snoc {α β:Type} {F:α->β->Prop} {a:α} {b:β} (h:F a b):∀{xs:List α} {ys:List β},Paired F xs ys->Paired F (xs++[a]) (ys++[b])
 | _,_,.nil=> .cons h .nil
 | _,_,.cons r t=> .cons r (Paired.snoc h t)
noncomputable def A2s (S:Addr->Prop) (H:Hp):Hp:=λa=> @ite _ (S a) (Classical.propDecidable _) (H a) none
theorem C2c {S:Addr->Prop} {H:Hp} {a:Addr} (h:S a):A2s S H a=H a:=by unfold A2s;rw [Z12 h]
theorem C7z {S:Addr->Prop} {H:Hp} {a:Addr} (h:¬S a):A2s S H a=none:=by unfold A2s;rw [Z0t h]
theorem A1c {S:Addr->Prop} {H:Hp} {a:Addr} {o:HO} (h:A2s S H a=some o):S a/\H a=some o:=by
 by_cases hs:S a
 ·rw [C2c hs] at h;exact ⟨hs,h⟩
 ·rw [C7z hs] at h;cases h
theorem A1n {S:Addr->Prop} {H:Hp} {a:Addr} {o:HO} (hs:S a) (h:H a=some o):A2s S H a=some o:=by rw [C2c hs];exact h
theorem A1m {S:Addr->Prop} {H:Hp}:A0n (A2s S H) H:=λ_ _ e=>(A1c e).2
theorem A1d {S:Addr->Prop} {H H':Hp} (s:A0n H H'):A0n (A2s S H) (A2s S H'):=λb o e=>A1n (A1c e).1 (s _ _ (A1c e).2)
theorem A7k {S S':Addr->Prop} {H H':Hp} (s:A0n H H') (h:∀a o,H a=some o->S a->S' a):A0n (A2s S H) (A2s S' H'):=λb o e=>A1n (h _ _ (A1c e).2 (A1c e).1) (s _ _ (A1c e).2)
theorem A7u {S:Addr->Prop} {H H':Hp} {l:Addr} {o:HO} (s:A0n (A2s S H) (A2s S H')) (h:¬S l):A0n (A2s S H) (A2s S (upd H' l o)):=λb u e=>by
 have q:=A1c (s _ _ e);have hne:b≠l:=λz=>h (by rw [<-z];exact q.1);exact A1n q.1 (by rw [A0h hne];exact q.2)
def Fr (S:Addr->Prop) (H:Hp):Prop:=∀a,H a=none->S a
mutual
theorem Rep.imp2 {H H':Hp} (f:∀p xs,H p=some (.lst xs)->H' p=some (.lst xs)) (g:∀p xs,H p=some (.tup xs)->H' p=some (.tup xs)):∀{v:V} {d:PyData},Rep H v d->Rep H' v d
 | _,_,.non=> .non
 | _,_,.bl b=> .bl b
 | _,_,.int i=> .int i
 | _,_,.str x=> .str x
 | _,_,.lst e r=> .lst (f _ _ e) (A5f.imp2 f g r)
 | _,_,.tup e r=> .tup (g _ _ e) (A5f.imp2 f g r)
theorem A5f.imp2 {H H':Hp} (f:∀p xs,H p=some (.lst xs)->H' p=some (.lst xs)) (g:∀p xs,H p=some (.tup xs)->H' p=some (.tup xs)):∀{vs:List V} {ds:List PyData},A5f H vs ds->A5f H' vs ds
 | _,_,.nil=> .nil
 | _,_,.cons a r=> .cons (Rep.imp2 f g a) (A5f.imp2 f g r)
end
theorem Rep.ins {H:Hp} {v:V} {d:PyData} {p C dx:Addr} {fs:List (Str×V)} {o:HO} (h:Rep H v d) (e:H p=some (.ins C dx fs)):Rep (upd H p o) v d :=
 h.imp2 (λq xs z=>by rw [A0h (A3j z e (by intro w;cases w))];exact z) (λq xs z=>by rw [A0h (A3j z e (by intro w;cases w))];exact z)
section
variable {G:Hp} {v:V} {vs:List V} {d:PyData} {ds:List PyData}
theorem D3f (h:Rep G v (.tuple ds)):∃p xs,v= .ref p/\G p=some (.tup xs)/\A5f G xs ds:=by
 cases h with
 | tup e r=>exact ⟨_,_,rfl,e,r⟩
theorem A4w (h:Rep G v (.list ds)):∃p xs,v= .ref p/\G p=some (.lst xs)/\A5f G xs ds:=by
 cases h with
 | lst e r=>exact ⟨_,_,rfl,e,r⟩
theorem D2y {x:Str} (h:Rep G v (.str x)):v= .str x:=by cases h;rfl
theorem D4c {x:Int} (h:Rep G v (.int x)):v= .int x:=by cases h;rfl
theorem B8y (h:A5f G vs (d::ds)):∃u r,vs=u::r/\Rep G u d/\A5f G r ds:=by
 cases h with
 | cons a r=>exact ⟨_,_,rfl,a,r⟩
theorem C9d (h:A5f G vs []):vs=[]:=by cases h;rfl
end
mutual
def cnt:PyData->Nat
 | .none=>1
 | .bool _=>1
 | .int _=>1
 | .str _=>1
 | .list xs=>A3z xs+1
 | .tuple xs=>A3z xs+1
 | .dict _=>1
def A3z:List PyData->Nat
 | []=>0
 | x::xs=>cnt x+A3z xs
end
theorem D3z (d:PyData):1<=cnt d:=by cases d <;> simp [cnt]
theorem C0g:∀ds:List PyData,ds.length<=A3z ds
 | []=>by simp [A3z]
 | d::r=>by
  have:=C0g r;have:=D3z d;simp only [A3z,Z0y]
  lia
theorem C7r:∀{ds:List PyData} {i:Nat} {d:PyData},ds[i]? =some d->cnt d<=A3z ds/\PyData.depth d<=PyData.depthAll ds
 | [],_,_,e=>by simp at e
 | d::r,0,_,e=>by
  simp at e;subst e;simp only [A3z,PyData.depthAll]
  lia
 | x::r,i+1,d,e=>by
  have:=C7r (ds:=r) (i:=i) (d:=d) (by simpa using e);simp only [A3z,PyData.depthAll]
  lia
theorem A5f.get2 {H:Hp}:∀{vs:List V} {ds:List PyData} {i:Nat} {v:V},A5f H vs ds->vs[i]? =some v->∃d,ds[i]? =some d/\Rep H v d
 | _,_,_,_,.nil,e=>by simp at e
 | _,_,0,_,.cons a _,e=>by simp at e;subst e;exact ⟨_,rfl,a⟩
 | _,_,i+1,v,.cons _ r,e=>by
  obtain ⟨d,h1,h2⟩:=A5f.get2 (i:=i) (v:=v) r (by simpa using e);exact ⟨d,by simpa using h1,h2⟩
theorem lk0 {k:Str} {v:V} {r:List (Str×V)}:List.lookup k ((k,v)::r)=some v:=by simp [Z28]
theorem lk1 {k j:Str} {v:V} {r:List (Str×V)} {o:Option V} (h:(k == j)=false) (e:List.lookup k r=o):List.lookup k ((j,v)::r)=o:=by
 rw [Z28,h];exact e
theorem A1v {f:Str} {v:V}:A5w f v []=[(f,v)]:=rfl
theorem A1t {f g:Str} {v x:V} {r:List (Str×V)} (h:¬g=f):A5w f v ((g,x)::r)=(g,x)::A5w f v r:=by rw [A5w,Z0t h]
theorem A8m {c A B:Prop} [Decidable c] (h1:c->A) (h2:¬c->B):if decide c=true then A else B :=
 D5q (λh=>h1 (of_decide_eq_true h)) (λh=>h2 λhc=>h (Z20 hc))
theorem B1c {c A B:Prop} [Decidable c] (h1:¬c->A) (h2:c->B):if (!decide c)=true then A else B :=
 D5q (λh=>h1 λhc=>by rw [Z20 hc] at h;cases h) (λh=>h2 (by
  by_cases hc:c
  ·exact hc
  ·rw [Z1j hc] at h;exact absurd rfl h))
section
variable {X:Cx}
theorem B5i {tg l:Expr} {tl:TE} (hl:PE X l tl):PI X tg l (λσ H R=>D5z X.K tl σ H R\/E0i X.K tl σ H R):=λpins s σ H R I h=>h.elim (A1k hl pins s σ H R I) (D8d hl pins s σ H R I)
end
theorem B3x {α:Type} {f:α->V} {xs:List α} {i:Int} (h0:0<=i) (h1:i<xs.length):∃x,xs[i.toNat]? =some x/\atI (xs.map f) i=some (f x):=by
 obtain ⟨n,rfl⟩:=Int.eq_ofNat_of_zero_le h0;have hn:n<xs.length:=by lia
 exact ⟨xs[n],by simp [hn],A3d (by simp [hn])⟩
section
variable {K:PySem.W.Frag} {a D:Addr} {xs:List V} {g:TG} {te:TE} {QD:Hp->Prop} {σ₀:St} {H:Hp}
theorem A2o (Pv:Nat->List V->Hp->Prop) (h0:Pv 0 [] (upd H D (.lst []))) (hl:∀i ys H,Pv i ys H->SqL K H a xs)
  (hs:∀i x ys H,xs[i]? =some x->Pv i ys H->g x σ₀ H λσ4 H4=>A3f σ₀ σ4/\te σ4 H4 λy H5=>H5 D=some (.lst ys)/\ys.length<sizeLine/\Pv (i+1) (ys++[y]) (upd H5 D (.lst (ys++[y])))) (hd:∀ys H,Pv xs.length ys H->QD H) :
  ∃W:Nat->Nat->Hp->Prop,(∃m,W 0 m (upd H D (.lst [])))/\∀i m H2,W i m H2->
   ((Itl K a).stop i H2/\QD H2)\/((Itl K a).go i H2/\∃N:VK,(∀y H5,N y H5->∃xs,H5 D=some (.lst xs)/\xs.length<sizeLine/\∃m',m'<m/\W (i+1) m' (upd H5 D (.lst (xs++[y]))))/\
    ∀x H3,(Itl K a).yld i H2 x H3->g x σ₀ H3 λσ4 H4=>A3f σ₀ σ4/\te σ4 H4 N):=C5f (Q:=λ_ H=>QD H) Pv h0 hl hs hd
theorem C8c (Pv:Nat->List V->Hp->Prop) (h0:Pv 0 [] (upd H D (.lst []))) (hl:∀i ys H,Pv i ys H->SqT K H a xs)
  (hs:∀i x ys H,xs[i]? =some x->Pv i ys H->g x σ₀ H λσ4 H4=>A3f σ₀ σ4/\te σ4 H4 λy H5=>H5 D=some (.lst ys)/\ys.length<sizeLine/\Pv (i+1) (ys++[y]) (upd H5 D (.lst (ys++[y])))) (hd:∀ys H,Pv xs.length ys H->QD H) :
  ∃W:Nat->Nat->Hp->Prop,(∃m,W 0 m (upd H D (.lst [])))/\∀i m H2,W i m H2->
   ((Itt K a).stop i H2/\QD H2)\/((Itt K a).go i H2/\∃N:VK,(∀y H5,N y H5->∃xs,H5 D=some (.lst xs)/\xs.length<sizeLine/\∃m',m'<m/\W (i+1) m' (upd H5 D (.lst (xs++[y]))))/\
    ∀x H3,(Itt K a).yld i H2 x H3->g x σ₀ H3 λσ4 H4=>A3f σ₀ σ4/\te σ4 H4 N):=C9l (Q:=λ_ H=>QD H) Pv h0 hl hs hd
end
theorem A5x {K:PySem.W.Frag} {C D:Addr} (h1:PySem.W.isClsIn K D=true) (h2:PySem.W.typeIn K (.ref D)=some (.type "type")) (h3:PySem.W.mroIn K C (.ref D)=some true):PySem.W.kitOne K (.ref C) (.ref D)=some true:=by
 unfold PySem.W.kitOne;split
 ·rfl
 ·show (if ((PySem.W.clsIn K D).isSome&&PySem.W.typeIn K (.ref D) == some (.type "type"))=true then PySem.W.subIn K (.ref C) (.ref D) else none)=some true;have h1':(PySem.W.clsIn K D).isSome=true:=h1;rw [Z12 (by rw [h1',h2];rfl)];exact h3
theorem A0w {K:PySem.W.Frag} {C D:Addr} (h0:(Value.ref C == Value.ref D)=false) (h1:PySem.W.isClsIn K D=true) (h2:PySem.W.typeIn K (.ref D)=some (.type "type")) (h3:PySem.W.mroIn K C (.ref D)=some false):PySem.W.kitOne K (.ref C) (.ref D)=some false:=by
 unfold PySem.W.kitOne;rw [Z0t (by rw [h0];exact Z0v)];show (if ((PySem.W.clsIn K D).isSome&&PySem.W.typeIn K (.ref D) == some (.type "type"))=true then PySem.W.subIn K (.ref C) (.ref D) else none)=some false;have h1':(PySem.W.clsIn K D).isSome=true:=h1;rw [Z12 (by rw [h1',h2];rfl)];exact h3
section
variable {X:Cx}
theorem Inv.frozen {pins:List (Addr×Obj)} {σ:St} {H:Hp} {s:Shared} {a:Addr} {o:Obj} {kvs:List (Key×V)} (I:Inv X pins σ H s) (ha:H a=some (.dK kvs)) (ho:s.heap.get? a=some o):Inv X pins σ (upd H a (.frz o (.dK kvs))) s :=
 I.write (t':=s.toks) (h':=s.heap) (e:=a) (by rw [ha];trivial) (.inl rfl) (λ_ _ _ e=>e) ⟨o,ho⟩ ⟨ho,(show A1y X.prog X.w H s.heap a (.dK kvs) from I.hok a _ ha)⟩
theorem Inv.thaw {pins:List (Addr×Obj)} {σ:St} {H:Hp} {s:Shared} {a:Addr} {o:Obj} {u:HO} (I:Inv X pins σ H s) (ha:H a=some (.frz o u)) (hu:∃kvs,u= .dK kvs) (h0:∀o' u',X.H₀ a≠some (.frz o' u')):Inv X pins σ (upd H a u) s:=by
 have nf:∀b,H b=none->upd H a u b=none:=λb e=>by rw [A0h (λz=>by subst z;rw [ha] at e;cases e)];exact e
 obtain ⟨kvs,rfl⟩:=hu
 refine ⟨I.ok,I.os,I.bare,⟨I.base.keep,I.base.slot,λb ob e n hx=>nf b (I.base.free b ob e n hx),I.base.there,λb xs e=> ?_,λb ob u' e=> ?_,λb ps e=> ?_⟩,I.loc,I.cell,nf _ I.free,λx c e=>nf _ (I.freeC x c e),
  λp hp=>⟨(I.pin p hp).1,nf _ (I.pin p hp).2.1,(I.pin p hp).2.2⟩,λb v e=> ?_,I.len⟩
 ·have q:=I.base.tups b xs e;rw [A0h (A3j q ha (by intro z;cases z))];exact q
 ·have q:=I.base.frzs b ob u' e;rw [A0h (λz=>by subst z;exact h0 _ _ e)];exact q
 ·obtain ⟨more,q⟩:=I.base.tbls b ps e;exact ⟨more,by rw [A0h (A3j q ha (by intro z;cases z))];exact q⟩
 ·by_cases hb:b=a
  ·subst hb;rw [A0b] at e;cases e;obtain ⟨_,q⟩:=(show A1y X.prog X.w H s.heap b (.frz o (.dK kvs)) from I.hok b _ ha);exact q
  ·rw [A0h hb] at e;exact (I.hok b v e).stay (λ_ _ _ q=>q) (λc q=>by rw [A0h (A3j q ha (by intro z;cases z))];exact q) λc xs q=>by rw [A0h (A3j q ha (by intro z;cases z))];exact q
def D8z (X:Cx) (t:TS):TS:=λD σ H=>∃a o kvs,H a=some (.frz o (.dK kvs))/\(∀o' u',X.H₀ a≠some (.frz o' u'))/\t D σ (upd H a (.dK kvs))
theorem C8z {sts:List Stmt} {t:TS} (h:PSs X sts t):PSs X sts (D8z X t):=by
 intro pins s σ H D I hw;obtain ⟨a,o,kvs,ha,h0,q⟩:=hw;exact h pins s σ _ D (I.thaw ha ⟨kvs,rfl⟩ h0) q
theorem KV.at {kvs:List (Key×V)} {vs:List (Key×Value)}:KV kvs vs->∀{i:Nat} {k:Key} {v:V},kvs[i]? =some (k,v)->∃u,vs[i]? =some (k,u)/\A2z v u:=by
 intro r;unfold KV at r
 induction r with
 | nil=>intro i k v e;simp at e
 | @cons p q ps qs h t ih =>
  intro i k v e
  cases i with
  | zero =>
   simp at e;subst e;obtain ⟨h1,h2⟩:=h;obtain ⟨q1,q2⟩:=q;cases h1;exact ⟨q2,rfl,h2⟩
  | succ j =>
   obtain ⟨u,e1,e2⟩:=ih (i:=j) (by simpa using e);exact ⟨u,by simpa using e1,e2⟩
end
theorem C7x {P:Program} {w:World} {H:Hp} {h:Heap} {a:Addr} {o:Obj} {kvs:List (Key×V)} {es:Array DictEntry} {ep:Nat} (ok:HOk P w H h) (ha:H a=some (.frz o (.dK kvs))) (ho:o.data= .dict es ep) :
  (a == sysModules)=false/\∃vs,KV kvs vs/\h.DictAt (A2c P w) a vs ep:=by
 obtain ⟨e1,hz,hs,vs,rel,o',es',ep',e2,c,d,r⟩:=(show A1y P w H h a (.frz o (.dK kvs)) from ok a _ ha);rw [e1] at e2;cases e2;rw [ho] at d;cases d;exact ⟨hs,vs,rel,o,es,e1,c,ho,r⟩
section
variable {X:Cx}
def C5w (ix:List (Option Nat)) (wi:TI) (g:TG) (tc:TT) (te:TE):TE:=λσ H Q=>wi σ H λJ H1=>∀D,H1 D=none->∃W:Nat->Nat->Hp->Prop,(∃m,W 0 m (upd H1 D (.lst [])))/\∀i m H2,W i m H2->
 (J.stop i H2/\Q (.ref D) H2)\/(J.go i H2/\∃(N:VK) (M:Hp->Prop),(∀y H5,N y H5->∃xs,H5 D=some (.lst xs)/\xs.length<sizeLine/\∃m',m'<m/\W (i+1) m' (upd H5 D (.lst (xs++[y]))))/\(∀H5,M H5->∃m',m'<m/\W (i+1) m' H5)/\∀x H3,J.yld i H2 x H3->g x (A5v ix σ) H3 λσ4 H4=>A3f (A5v ix σ) σ4/\tc σ4 H4 λb H5=>if b=true then te σ4 H5 N else M H5)
theorem C5h {elt iter tg c:Expr} {scope:Scope} {pos:Pos} {N':List Str} {ix:List (Option Nat)} {cl:List (Str×Addr)} {wi:TI} {g:TG} {tc:TT} {te:TE} (hc:X.calm=true) (ck:C8j X scope cl) (io:C8w X N' scope ix) (hi:PI X tg iter wi)
  (hg:∀C s₀ H₀ fp,PG (blk X N' scope cl C s₀ H₀ fp) tg g) (ht:∀C s₀ H₀ fp,PT (blk X N' scope cl C s₀ H₀ fp) c tc) (he:∀C s₀ H₀ fp,PE (blk X N' scope cl C s₀ H₀ fp) elt te) (hs:∀x,foldedSetIterable iter X.env x=pure x:=by intro _;rfl) :
  PE X (.ListComp elt [⟨tg,iter,[c],0⟩] scope pos) (C5w ix wi g tc te):=by
 intro pins s σ H Q I h;rw [eval_ListComp];refine wpAny_comprehension_free (use:=none) rfl hs ck.eq ck.kind ck.names (thn (hi pins s σ H _ I h) λxv s1 h1=>thn h1 λitv s2 h2=> ?_);obtain ⟨it,fp,tn,J,H1,rfl,I1,T,st1,f1,R⟩:=h2;refine Z16 ?_;have hD:H1 s2.heap.objs.size=none:=I1.hok.fresh (Z09 _);obtain ⟨W,⟨m0,w0⟩,turn⟩:=R _ hD;have hfD:∀b∈fp,b<s2.heap.objs.size:=λb hb=>let ⟨o,e,_⟩:=T.obj _ _ st1 b hb;Z0a e;have I2:Inv X pins σ (upd H1 s2.heap.objs.size (.lst [])) { s2 with heap:=s2.heap.push { cls:= .type "list",data:= .seq ([]:List Value).toArray },toks:=s2.toks }:=I1.lnew (its:=[]) .nil (Z1e _);have f2:∀b∈fp,B3n X pins (upd H1 s2.heap.objs.size (.lst [])) b:=λb hb=>⟨by rw [A0h (Z0h (hfD b hb))];exact (f1 b hb).1,(f1 b hb).2⟩
 have lt2:∀b∈fp,b<(s2.heap.push { cls:= .type "list",data:= .seq ([]:List Value).toArray }).objs.size:=λb hb=>by rw [Z1s];exact Nat.lt_succ_of_lt (hfD b hb)
 refine wpAny_newFunctionEnv ck.ncell (by intro y hy;simp at hy) (λh3 hns sb3=> ?_) ck.kind;dsimp only at hns sb3⊢;have k3:∀b o,(s2.heap.push { cls:= .type "list",data:= .seq ([]:List Value).toArray }).get? b=some o->h3.get? b=some o:=λb o e=>(sb3.2 b (Z0h (Z0a e))).trans (Z01 _ e);generalize hs2:({ s2 with heap:=s2.heap.push { cls:= .type "list",data:= .seq ([]:List Value).toArray },toks:=s2.toks }:Shared)=s3 at I2;have e3:s2.heap.push { cls:= .type "list",data:= .seq ([]:List Value).toArray }=s3.heap:=by rw [<-hs2]
 rw [e3] at hns k3 lt2;have I3:=B2t (N':=N') (ix:=ix) I2 ck io f2 lt2 (h':=h3) (t':=s2.toks+([]:List (Str×Value)).length) hns k3;have e4:({ s3 with heap:=h3,toks:=s2.toks+([]:List (Str×Value)).length }:Shared)={ s2 with heap:=h3,toks:=s2.toks+([]:List (Str×Value)).length }:=by rw [<-hs2]
 rw [e4] at I3;have st3:tn 0 h3:=T.keep _ _ _ st1 λb hb o e=>k3 b o (by rw [<-e3];exact Z01 _ e)
 have loop:∀s4:Shared,s4={ s2 with heap:=h3,toks:=s2.toks+([]:List (Str×Value)).length }->
   codeAny (model X.prog X.w) X.A (.compLoop (.ListComp elt [⟨tg,iter,[c],0⟩] scope pos) 0 (.ref it) (.ref s2.heap.objs.size) (compEnvC scope cl s3.heap.objs.size X.env))
    (compPost (model X.prog X.w) X.A X.xe none (EP X pins σ Q) (.ref s2.heap.objs.size) s3.heap.objs.size) s4:=by
  rintro s4 rfl
  have stat:∀{H':Hp},(∀b∈fp,H' b=none)->∀b∈fp,B3n (blk X N' scope cl s3.heap.objs.size s3 (upd H1 s2.heap.objs.size (.lst [])) fp) [] H' b:=λhn b hb =>
   ⟨hn b hb,Z0h (lt2 b hb),λhs=>I3.ok.exfs b hb hs,.inl hb,λx c e=>(f2 b hb).2.2.2.2.1 x c (ck.sub x c e),(λp hp=>by cases hp)⟩
  refine codeAny_loop rfl (λn s'=>∃i σ' H',Inv (blk X N' scope cl s3.heap.objs.size s3 (upd H1 s2.heap.objs.size (.lst [])) fp) [] σ' H' s'/\(∀(j:Nat) v,(A5v ix σ)[j]? =some (some v)->σ'[j]? =some (some v))/\tn i s'.heap/\(∀b∈fp,H' b=none)/\W i n H')
   (λn s' hI=> ?_) m0 ⟨0,_,_,I3,λ_ _ z=>z,st3,λb hb=>(f2 b hb).1,w0⟩
  obtain ⟨i,σ5,H5,I5,wk,st5,fr5,w5⟩:=hI;show wpAny _ _ ((compTurn (.ListComp elt [⟨tg,iter,[c],0⟩] scope pos) 0 (.ref it) (.ref s2.heap.objs.size) (compEnvC scope cl s3.heap.objs.size X.env)).onRaise (λx=>do noteFrame x (compEnvC scope cl s3.heap.objs.size X.env);theTreesLotGoes x)) _ _ s';refine wpAny_noted ?_;rw [compTurn_list];refine Z00 (Z1y ?_);rcases turn i n H5 w5 with ⟨stop,qn⟩ | ⟨go,NN,MM,hNN,hMM,step⟩
  ·refine Z00 (Z10 (T.done (blk X N' scope cl s3.heap.objs.size s3 (upd H1 s2.heap.objs.size (.lst [])) fp) rfl rfl rfl hc i [] s' σ5 H5 (λ_ _=>False) I5 (stat fr5) st5 stop) (λr s6 h6=> ?_) λ_ _ z=>z.elim);obtain ⟨rfl,I6⟩:=h6;refine Z04 ?_;obtain ⟨mm,hm,_⟩:=id I6.loc;exact ⟨mm,hm,λh' sb=>⟨.ref s2.heap.objs.size,H5,C0o I2 f2 I6 sb,rfl,qn⟩⟩
  ·refine Z00 (Z10 (T.item (blk X N' scope cl s3.heap.objs.size s3 (upd H1 s2.heap.objs.size (.lst [])) fp) rfl rfl rfl hc i [] s' σ5 H5 (λ_ _=>False) I5 (stat fr5) st5 go) (λr s6 h6=> ?_) λ_ _ z=>z.elim);obtain ⟨u,rfl,h6⟩:=h6;refine Z00 (Z10 h6 (λ_ s7 h7=> ?_) λ_ _ z=>z.elim);obtain ⟨x,H7,I7,r7,y7,st7,fr7⟩:=h7;have I7w:Inv (blk X N' scope cl s3.heap.objs.size s3 (upd H1 s2.heap.objs.size (.lst [])) fp) [] (A5v ix σ) H7 s7:=I7.weak (by rw [I7.len];unfold A5v;rw [Z08];exact io.1) wk;have I7p:=I7w.pinned (stat fr7) (T.obj _ _ st7);refine Z00 (Z10 (hg _ _ _ _ _ s7 _ H7 x u _ I7p r7 (step x H7 y7)) (λ_ s8 h8=> ?_) λ_ _ z=>z.elim);obtain ⟨σ8,H8,I8,kp8,q8⟩:=h8
   have back:∀{s10:Shared} {σ10:St} {H10:Hp} {m':Nat},Inv (blk X N' scope cl s3.heap.objs.size s3 (upd H1 s2.heap.objs.size (.lst [])) fp) ([]++B3y fp s7.heap) σ10 H10 s10->(∀(j:Nat) v,(A5v ix σ)[j]? =some (some v)->σ10[j]? =some (some v))->W (i+1) m' H10->
     ∃i σ' H',Inv (blk X N' scope cl s3.heap.objs.size s3 (upd H1 s2.heap.objs.size (.lst [])) fp) [] σ' H' s10/\(∀(j:Nat) v,(A5v ix σ)[j]? =some (some v)->σ'[j]? =some (some v))/\tn i s10.heap/\(∀b∈fp,H' b=none)/\W i m' H':=by
    intro s10 σ10 H10 m' I10 kk w10;refine ⟨i+1,σ10,H10,I10.unpinned,kk,T.keep _ _ _ st7 λb hb o e=>(I10.pin (b,o) (Z02 _ (Z02 _ (A2y hb e)))).1,λb hb=> ?_,w10⟩;obtain ⟨o,e,d⟩:=T.obj _ _ st7 b hb;exact (I10.pin (b,o) (Z02 _ (Z02 _ (A2y hb e)))).2.1
   refine Z00 (Z10 (wpAny_tests_one (ht _ _ _ _ _ s8 σ8 H8 _ I8 q8)) (λok s9' h9'=> ?_) λ_ _ z=>z.elim);obtain ⟨H9',I9',q9'⟩:=h9'
   cases ok with
   | false =>
    have q9'':MM H9':=by simpa using q9'
    obtain ⟨m',hm',w9⟩:=hMM _ q9'';exact Z00 (Z04 (Z04 ⟨rfl,m',hm',back I9' kp8.get w9⟩))
   | true =>
    have q9'':te σ8 H9' NN:=by simpa using q9'
    refine Z00 (Z00 (Z10 (he _ _ _ _ _ s9' σ8 H9' _ I9' q9'') (λyv s9 h9=> ?_) λ_ _ z=>z.elim));obtain ⟨y,H9,I9,r9,n9⟩:=h9;obtain ⟨xs,hx9,hz9,m',hm',w9⟩:=hNN _ _ n9;refine Z00 (Z10 (A2x (X:=blk X N' scope cl s3.heap.objs.size s3 (upd H1 s2.heap.objs.size (.lst [])) fp) _ s9 σ8 H9 (.ref s2.heap.objs.size) [y] (.ref s2.heap.objs.size) [yv] (λ_ H'=>W (i+1) m' H') I9 rfl (.cons r9 .nil) ⟨_,xs,y,rfl,rfl,hx9,hz9,w9⟩) (λ_ s10 h10=> ?_) λ_ _ z=>z.elim);obtain ⟨_,H10,I10,_,w10⟩:=h10;exact Z04 (Z04 ⟨rfl,m',hm',back I10 kp8.get w10⟩)
 have e5:s3.heap.objs.size=(s2.heap.push { cls:= .type "list",data:= .seq ([]:List Value).toArray }).objs.size:=by rw [e3]
 rw [e5] at loop;exact codeAny_compStart_list (loop _ rfl) (T.self X.A 0 _ _ _ st3 (loop _ rfl))
end
section
variable {K:PySem.W.Frag} {a D:Addr} {xs:List V} {g:TG} {tc:TT} {te:TE} {QD:Hp->Prop} {σ₀:St} {H:Hp}
theorem A8x (Pv:Nat->List V->Hp->Prop) (h0:Pv 0 [] (upd H D (.lst []))) (hl:∀i ys H,Pv i ys H->SqL K H a xs)
  (hs:∀i x ys H,xs[i]? =some x->Pv i ys H->g x σ₀ H λσ4 H4=>A3f σ₀ σ4/\tc σ4 H4 λb H5=>if b=true then te σ4 H5 (λy H5=>H5 D=some (.lst ys)/\ys.length<sizeLine/\Pv (i+1) (ys++[y]) (upd H5 D (.lst (ys++[y])))) else Pv (i+1) ys H5) (hd:∀ys H,Pv xs.length ys H->QD H) :
  ∃W:Nat->Nat->Hp->Prop,(∃m,W 0 m (upd H D (.lst [])))/\∀i m H2,W i m H2->
   ((Itl K a).stop i H2/\QD H2)\/((Itl K a).go i H2/\∃(N:VK) (M:Hp->Prop),(∀y H5,N y H5->∃xs,H5 D=some (.lst xs)/\xs.length<sizeLine/\∃m',m'<m/\W (i+1) m' (upd H5 D (.lst (xs++[y]))))/\(∀H5,M H5->∃m',m'<m/\W (i+1) m' H5)/\
    ∀x H3,(Itl K a).yld i H2 x H3->g x σ₀ H3 λσ4 H4=>A3f σ₀ σ4/\tc σ4 H4 λb H5=>if b=true then te σ4 H5 N else M H5):=by
 refine ⟨λi m H=>m=xs.length-i/\i<=xs.length/\∃ys,Pv i ys H,⟨xs.length,by simp,Z1e _,[],h0⟩,?_⟩;rintro i m H2 ⟨rfl,hi,ys,p⟩;have q:=hl i ys H2 p;by_cases hlt:i<xs.length
 ·refine .inr ⟨⟨xs,xs[i],q,by simp [hlt]⟩,λy H5=>H5 D=some (.lst ys)/\ys.length<sizeLine/\Pv (i+1) (ys++[y]) (upd H5 D (.lst (ys++[y]))),λH5=>Pv (i+1) ys H5,λy H5 n=>⟨ys,n.1,n.2.1,xs.length-(i+1),by lia,rfl,hlt,_,n.2.2⟩,λH5 n=>⟨xs.length-(i+1),by lia,rfl,hlt,_,n⟩,λx H3 z=> ?_⟩;obtain ⟨e,z⟩:=z;subst e;exact hs i x ys _ (z xs q) p
 ·have e:i=xs.length:=by lia
  subst e;exact .inl ⟨⟨xs,q,Z09 _⟩,hd ys H2 p⟩
end
section
variable {prog:Program} {w:World} {A:Around} {E:Value->Shared->Prop} {s:Shared}
end
section
variable {X:Cx}
theorem B9j {α β:Type} {F:α->β->Prop}:∀{l:List α} {m:List β},Paired F l m->∀{i:Nat} {y:β},m[i]? =some y->∃x,l[i]? =some x/\F x y
 | _,_,.nil,i,y,e=>by simp at e
 | _,_,.cons r t,0,y,e=>by simp at e;subst e;exact ⟨_,rfl,r⟩
 | _,_,.cons r t,i+1,y,e=>by
  obtain ⟨x,e1,e2⟩:=B9j t (i:=i) (by simpa using e);exact ⟨x,by simpa using e1,e2⟩
end
section
def Its (z:Str):It:=⟨λi _=>i<z.cps.size,λi H x H'=>H'=H/\∃c,z.cps[i]? =some c/\x= .str ⟨#[c]⟩,λi _=>i=z.cps.size⟩
theorem C2v {P:Program} {w:World} {K:PySem.W.Frag} {tg:Expr} {ty:String} (it:Addr) (z:Str) (t:Tok)
  (hty:["enumerate","zip","dict_itemiterator","dict_reverseitemiterator","odict_iterator","itertools.zip_longest","itertools.pairwise"].contains ty=false)
  (W:∀A':Around,A'.handled=none->Walks P w A' it [it] [it] z.cps.size (SignAt z) (λi h=>h.IsStrIter it ty z t i))
  (Wi:∀(A:Around) (i:Nat) (s:Shared) (Q:Value->Shared->Prop) (E:Value->Shared->Prop),s.heap.IsStrIter it ty z t i->Q (.ref it) s->wpAny (model P w) A (pyIter (.ref it)) Q E s) :
  C8f P w K tg (Its z) [it] it (λi h=>h.IsStrIter it ty z t i) where
 mem:=by simp
 obj:=λi h st b hb=>by
  have e:b=it:=by simpa using hb
  subst e;obtain ⟨ob,e,_,d⟩:=st;exact ⟨ob,e,λv z=>by rw [d] at z;cases z⟩
 keep:=λi h h' st k=>let ⟨o,ho,r⟩:=st;⟨o,k it (by simp) o ho,r⟩
 item:=by
  intro X hP hw hK hc i pins s σ H E I hf st hg;subst hP hw hK;obtain ⟨f0,f1,f2,f3,f4,f5⟩:=hf it (by simp);refine (W _ (I.ok.hd hc)).item i s _ E hg st λv h' tk hv hst kp=> ?_;obtain ⟨c,u,hc1,rfl⟩:=hv;have I1:Inv X pins σ H { s with heap:=h',toks:=tk }:=I.turned (t':=tk) (λb ob hb e=>kp b ob (by simpa using hb) e) f0 f1 f3 f4 f5
  obtain ⟨ob,e,c',d⟩:=id hst;exact ⟨_,rfl,C4k (s:={ s with heap:=h',toks:=tk }) e c' d hty ⟨.str ⟨#[c]⟩,H,I1,⟨u,rfl⟩,⟨rfl,c,hc1,rfl⟩,hst,λb hb=>(hf b hb).1⟩⟩
 done:=by
  intro X hP hw hK hc i pins s σ H E I hf st hg;subst hP hw hK;obtain ⟨f0,f1,f2,f3,f4,f5⟩:=hf it (by simp);cases (show i=z.cps.size from hg);exact (W _ (I.ok.hd hc)).done s _ E st λh' tk kp=>⟨rfl,I.turned (t':=tk) (λb ob hb e=>kp b ob (by simpa using hb) e) f0 f1 f3 f4 f5⟩
 self:=λA i s Q E st h=>Wi A i s Q E st h
def iStr (tl:TE):TI:=λσ H R=>tl σ H λx H1=>∃z,x= .str z/\R (Its z) H1
theorem D7b {X:Cx} {tg l:Expr} {tl:TE} (hl:PE X l tl):PI X tg l (iStr tl):=by
 intro pins s σ H R I h;refine thn (hl pins s σ H _ I h) λy s1 ⟨x,H1,I1,rx,z,ex,q⟩=> ?_;subst ex;obtain ⟨t,rfl⟩:=(show∃t,y=Value.str z t from rx)
 have fp:∀b∈[s1.heap.objs.size],B3n X pins H1 b:=λb hb=>by
  have e:b=s1.heap.objs.size:=by simpa using hb
  subst e;exact I1.fpOk (Z09 _) (I1.hok.fresh (Z09 _))
 cases ha:z.cps.all (· <128)
 ·refine wpAny_pyIter_wide ha ?_;have I2:Inv X pins σ H1 { s1 with heap:=s1.heap.push { cls:= .type "str_iterator",data:= .fields #[.str z t,.int 0 0] },toks:=s1.toks }:=I1.kept λb ob e=>Z01 _ e
  exact ⟨_,[s1.heap.objs.size],_,_,_,rfl,I2,C2v _ z t (by decide) (λA' hA=>Walks.strWide hA _ z t) (λ_ _ _ _ _ st h=>wpAny_pyIter_striter_wide st h),⟨_,Z0c _ rfl,rfl,rfl⟩,fp,q⟩
 ·refine wpAny_pyIter_ascii ha ?_;have I2:Inv X pins σ H1 { s1 with heap:=s1.heap.push { cls:= .type "str_ascii_iterator",data:= .fields #[.str z t,.int 0 0] },toks:=s1.toks }:=I1.kept λb ob e=>Z01 _ e
  exact ⟨_,[s1.heap.objs.size],_,_,_,rfl,I2,C2v _ z t (by decide) (λA' hA=>Walks.strAscii hA _ z t) (λ_ _ _ _ _ st h=>wpAny_pyIter_striter_ascii st h),⟨_,Z0c _ rfl,rfl,rfl⟩,fp,q⟩
end
theorem C6v:typeLookup (.type "list") "keys"=pure none:=by rw [typeLookup_type,builtinLookup_eq_fast];kernel_rfl
theorem A4o:entryFor table "dict.update.loop"=some Builtin.«dict.update.loop»:=entryFor_of_tree (by kernel_rfl)
theorem A2d:plainId "dict.update.loop"=true:=by decide +kernel
theorem C4w {prog:Program} {w:World} {A:Around} {E:Value->Shared->Prop} {s:Shared} {a:Addr} {o:Obj} {xs:Array Value} {k:Nat} {Q:Option Value->Shared->Prop}
  (hx:s.heap.get? a=some o) (hc:o.cls= .type "list") (hdat:o.data= .seq xs k) (hd:o.dict=none) (hA:A.handled=none)
  (h:∀h' tk,(∀b ob,s.heap.get? b=some ob->h'.get? b=some ob)->Q none { s with heap:=h',toks:=tk }):wpAny (model prog w) A (getAttr? (.ref a) "keys") Q E s:=by
 obtain ⟨c,dct,dat,sl⟩:=o;simp only at hc hdat hd;subst hc hdat hd;obtain ⟨hp,g,d,tk,os⟩:=s;have hT:∀tk',(⟨hp,g,d,tk',os⟩:Shared).TypeIs (.ref a) "list":=λ_=>⟨_,hx,rfl⟩;have f1:=sub_AttributeError;have f3:=F.slot_list_getattribute.lookup;have f4:=F.slot_list_getattribute.bind (.ref a);have f5:=am_list_getattr_none;unfold getAttr? getAttrBy? getAttrBy
 repeat (any_goals (first | assumption | exact hT _ | ((with_reducible show wpAny _ _ (call (Value.builtin "list.__getattribute__") _ _) _ _ _);refine call_meets F.slot_list_getattribute (hT _) am_entry_list_getattribute (F.args_list_getattribute_2 _ _) (meets_getattribute_miss_list a xs k sl "keys" _ C6v (by decide) (by decide)) ⟨hx,hA,λh' tk' e hx'=> ?_⟩) | wp_step))
 obtain ⟨t',u',he⟩:=hx'.there;show wpAny _ _ (getattributeRaised _ _ _ _ _ _ _) _ _ _;unfold getattributeRaised
 repeat (any_goals (first | assumption | wp_step))
 all_goals exact h _ _ hx'.1
section
variable {prog:Program} {w:World} {K:Type} [DecidableEq K] {knd:KeyKind prog w K} {A:Around} {R:Result->Shared->Prop} {I l d:Addr} {items:Array Value} {rs:List (K×Value)} {h₀:Heap} {g:Array GenState} {dr:Drawn} {os:OsState}
def D2g (knd:KeyKind prog w K) (h:Heap) (I d:Addr) (items:Array Value) (rs:List (K×Value)):Prop:=items.size=rs.length/\∀(i:Nat) (v:Value) (k:K) (u:Value),items[i]? =some v->rs[i]? =some (k,u)->
 ∃(b:Addr) (o:Obj) (n:Nat) (kv:Value),v= .ref b/\b≠I/\b≠d/\h.get? b=some o/\o.cls= .type "tuple"/\o.data= .seq #[kv,u] n/\knd.is k kv=true
theorem D0d (hh:A.handled=none) (hne:l≠I) (hdI:d≠I) (hdl:d≠l) (hsz:rs.length<=sizeLine) (pa:D2g knd h₀ I d items rs) (hl:h₀.IsList l items)
  (fin:∀h' tk,h'.DictOf knd d (merged [] rs)->(∀b o,b≠I->b≠d->h₀.get? b=some o->h'.get? b=some o)->R (.ok (.ret .none)) ⟨h',g,dr,tk,os⟩) :
  ∀(k i:Nat) (h:Heap) (tk:Nat),rs.length-i=k->i<=rs.length->h.IsListIter I l i->(∀b o,b≠I->b≠d->h₀.get? b=some o->h.get? b=some o)->h.DictOf knd d (merged [] (rs.take i))->
   codeAny (model prog w) A (.builtin "dict.update.loop" ⟨[.ref d,.ref I,rawInt i,.none],[]⟩) R ⟨h,g,dr,tk,os⟩:=by
 have W:=Walks.list (prog:=prog) (w:=w) (A:=A.in1) hh I l hne items;intro k
 induction k with
 | zero =>
  intro i h tk hk hi hit kp hD;have hin:i=items.size:=by have:=pa.1;lia
  have hin':i=rs.length:=by lia
  refine codeAny_builtin A4o ?_;rw [Around.under_plainId A2d _];show wpAny _ A.in1 (pyNext (.ref I) >>= _) _ _ _;refine Z00 (W.done ⟨h,g,dr,tk,os⟩ _ _ (by rw [<-hin];exact ⟨hit,hl.at λo e=>kp l o hne (Ne.symm hdl) e⟩) λh' tk' kp'=> ?_);show wpAny _ A.in1 (Builtin.Dict.addKeywords d [] >>= λ_=>ret Value.none) _ _ _;rw [hin',Z18] at hD;obtain ⟨od,es,ep,ho,r⟩:=hD;refine Z00 (Z04 (Z04 (fin h' tk' ⟨od,es,ep,kp' d od (by simpa using hdI) ho,r⟩ λb o h1 h2 e=>kp' b o (by simpa using h1) (kp b o h1 h2 e))))
 | succ k ih =>
  intro i h tk hk hi hit kp hD;have hlt:i<items.size:=by have:=pa.1;lia
  refine codeAny_builtin A4o ?_;rw [Around.under_plainId A2d _];show wpAny _ A.in1 (pyNext (.ref I) >>= _) _ _ _;refine Z00 (W.item i ⟨h,g,dr,tk,os⟩ _ _ hlt ⟨hit,hl.at λo e=>kp l o hne (Ne.symm hdl) e⟩ λv h' tk' hv hst' kp'=> ?_);obtain ⟨⟨k',u⟩,hku⟩:∃p,rs[i]? =some p:=⟨rs[i]'(by have:=pa.1;lia),Z0b _⟩;obtain ⟨b,o,n,kv,rfl,hbI,hbd,hb,hcl,hdat,his⟩:=pa.2 i v k' u hv hku;have hb':h'.get? b=some o:=kp' b o (by simpa using hbI) (kp b o hbI hbd hb);have hT:(⟨h',g,dr,tk',os⟩:Shared).TypeIs (.ref b) "tuple":=⟨_,hb',hcl⟩;show wpAny _ A.in1 (holding [Value.ref b] _ >>= _) _ _ _;refine Z00 (Z1w (Z00 (wpAny_tryCatch ?_)));unfold Builtin.Dict.pairItems;refine Z00 (wpAny_typeOf hT ?_);rw [Z12 (by decide)];refine Z00 (Z21 hb' hdat (Z04 ?_));show wpAny _ A.in1 (holding [kv,u] (dictSet d kv u)) _ _ _
  have hD':h'.DictOf knd d (merged [] (rs.take i)):=by
   obtain ⟨od,es,ep,ho,r⟩:=hD;exact ⟨od,es,ep,kp' d od (by simpa using hdI) ho,r⟩
  have hlen:(merged [] (rs.take i)).length<=sizeLine:=by
   have e1:=merged_length_le ([]:List (K×Value)) (rs.take i);have e2:(rs.take i).length<=rs.length:=by rw [Z0x];lia
   simp only [List.length_nil,Nat.zero_add] at e1
   lia
  refine Z1w (wpAny_dictSet_pairs (hsz:=hlen) (s:=⟨h',g,dr,tk',os⟩) his hD' λh2 hD2 sb=> ?_);rw [<-merged_take_succ [] rs i (k',u) hku] at hD2;refine Z04 ⟨plainId_quiet A2d _,ih (i+1) h2 _ (by lia) (by have:=pa.1;lia) ?_ ?_ hD2⟩
  ·exact hst'.1.at λo e=>(sb.2 I (Ne.symm hdI)).trans e
  ·intro c oc h1 h2' e;exact (sb.2 c h2').trans (kp' c oc (by simpa using h1) (kp c oc h1 h2' e))
end
def B3k (env:Env):List (Str×Addr)->Prop
 | []=>True
 | p::r=>env.cells.lookup p.1=some p.2/\B3k env r
theorem B3k.get {env:Env}:∀{cl:List (Str×Addr)},B3k env cl->∀{x:Str} {c:Addr},cl.lookup x=some c->env.cells.lookup x=some c
 | [],_,_,_,h=>by cases h
 | (y,d)::r,h,x,c,e=>by
  rw [Z28] at e;split at e
  ·rename_i hb;have hb':x=y:=by simpa using hb
   cases e
   subst hb';exact h.1
  ·exact B3k.get h.2 e
theorem B0o {x:Str}:∀{cl:List (Str×Addr)},x∈cl.map (·.1)->∃c,cl.lookup x=some c
 | [],h=>by cases h
 | (y,d)::r,h=>by
  rw [Z28]
  cases hb:(x == y) with
  | true=>exact ⟨d,rfl⟩
  | false =>
   have hne:x≠y:=by simpa using hb
   rcases Z0e.mp h with e | e
   ·exact absurd e hne
   ·exact B0o e
theorem B8x {X:Cx} {scope:Scope} {cl:List (Str×Addr)} {xs:List Str} (he:closureFor scope X.env=pure cl) (hc:B3k X.env cl) (hx:cl.map (·.1)=xs) (hk:scope.kind= .function) (hn:∀y∈scope.names,y.2≠.cell/\(y.2= .free->y.1∈xs))
  (hl:∀y∈scope.names,y.2= .local->scope.names.lookup y.1=some .local):C8j X scope cl where
 eq:=he
 sub:=λy d h=>hc.get h
 has:=λy h=>by
  have key:y∈xs:=by
   have m:∃k,(y,k)∈(relabel scope X.env).names/\(k= .cell\/k= .free):=h.elim (λz=>⟨_,A6l z,.inl rfl⟩) λz=>⟨_,A6l z,.inr rfl⟩;obtain ⟨k,hm,hk⟩:=m;obtain ⟨⟨n,k0⟩,h0,e⟩:=Z2c.mp hm;dsimp only at e;by_cases hf:k0= .free
   ·have en:n=y:=by
     split at e
     ·exact congrArg Prod.fst e
     ·exact congrArg Prod.fst e
    rw [<-en];exact (hn _ h0).2 hf
   ·have hb:(k0 == NameKind.free)=false:=by simpa using hf
    simp only [hb,Bool.false_and,Bool.false_eq_true,if_false] at e;have e2:k0=k:=congrArg Prod.snd e;subst e2;rcases hk with hk | hk
    ·exact absurd hk (hn _ h0).1
    ·exact absurd hk hf
  rw [<-hx] at key;exact B0o key
 kind:=hk
 ncell:=λy hy=>(hn y hy).1
 names:=hl
def B9e (X:Cx) (scope:Scope):List Str->List Nat->Prop
 | [],[]=>True
 | x::xs,j::js=>(X.N[j]? =some x/\(X.env.scope.names.lookup x=some .cell\/X.env.scope.names.lookup x=some .free)/\((relabel scope X.env).names.lookup x=some .cell\/(relabel scope X.env).names.lookup x=some .free))/\B9e X scope xs js
 | _,_=>False
theorem B9e.get {X:Cx} {scope:Scope}:∀{xs:List Str} {js:List Nat},B9e X scope xs js->xs.length=js.length/\∀(i j:Nat),js[i]? =some j->∃x,xs[i]? =some x/\X.N[j]? =some x/\(X.env.scope.names.lookup x=some .cell\/X.env.scope.names.lookup x=some .free)/\((relabel scope X.env).names.lookup x=some .cell\/(relabel scope X.env).names.lookup x=some .free)
 | [],[],_=>⟨rfl,λi j e=>by simp at e⟩
 | x::xs,j::js,h=>by
  obtain ⟨e,f⟩:=B9e.get h.2;refine ⟨by simp [e],λi k ek=> ?_⟩
  cases i with
  | zero=>simp at ek;subst ek;exact ⟨x,rfl,h.1⟩
  | succ i=>exact f i k (by simpa using ek)
 | [],_::_,h=>h.elim
 | _::_,[],h=>h.elim
theorem B9a {X:Cx} {N0 xs:List Str} {js:List Nat} {scope:Scope} (h:B9e X scope xs js):C8w X (N0++xs) scope (List.replicate N0.length none++js.map some):=by
 obtain ⟨hl,hf⟩:=h.get;refine ⟨by simp [hl],λi k e=> ?_⟩;by_cases hi:i<N0.length
 ·rw [Z26 (by simpa using hi),List.getElem?_replicate] at e;split at e <;> cases e
 ·rw [Z1l (by simpa using hi),List.length_replicate,Z1z] at e;obtain ⟨j,ej,ek⟩:=Z0i.mp e;cases ek;obtain ⟨x,h1,h2,h3,h4⟩:=hf _ _ ej;exact ⟨x,by rw [Z1l (by lia)];exact h1,h2,h3,h4⟩
abbrev PL (H:Hp) (xs:List V) (kvs:List (Key×V)):Prop:=Paired (λ(x:V) (p:Key×V)=>∃b,x= .ref b/\H b=some (.tup [kV p.1,p.2])) xs kvs
section
variable {X:Cx}
theorem D1e {pins:List (Addr×Obj)} {σ:St} {H:Hp} {s:Shared} (I:Inv X pins σ H s):∀{xs:List V} {kvs:List (Key×V)} {its:List Value},PL H xs kvs->A2u xs its->
  ∃rs,KV kvs rs/\Paired (λ(v:Value) (p:Key×Value)=>∃(b:Addr) (o:Obj) (n:Nat) (kv:Value),v= .ref b/\s.heap.get? b=some o/\o.cls= .type "tuple"/\o.data= .seq #[kv,p.2] n/\(A2c X.prog X.w).is p.1 kv=true) its rs
 | _,_,_,.nil,.nil=>⟨[],.nil,.nil⟩
 | _,_,_,@Paired.cons _ _ _ x p _ _ ⟨b,e,hb⟩ t,.cons rv vs=>by
  obtain ⟨rs,h1,h2⟩:=D1e I t vs;subst e;cases rv;obtain ⟨_,its,r,o,g1,g2,n,g3⟩:=(show A1y X.prog X.w H s.heap b (.tup [kV p.1,p.2]) from I.hok b _ hb)
  cases r with
  | cons r1 r =>
   cases r with
   | cons r2 r =>
    cases r
    exact ⟨(p.1,_)::rs,.cons ⟨rfl,r2⟩ h1,.cons ⟨b,o,n,_,rfl,g1,g2,g3,C0p r1⟩ h2⟩
theorem B5e (hc:X.calm=true):B1g X (.type "dict") (λvs H Q=>∃a xs kvs,vs=[V.ref a]/\H a=some (.lst xs)/\PL H xs kvs/\∀p,H p=none->Q (.ref p) (upd H p (.dK (A1b [] kvs)))):=by
 intro pins s σ H vs us Q I r h;obtain ⟨a,xs,kvs,rfl,ha,pl,q⟩:=h;obtain ⟨u,rfl,ru⟩:=B8h r;cases ru;obtain ⟨z,its,n,rv,hl,e⟩:=I.lstM ha;obtain ⟨rs,kv,rp⟩:=D1e I pl rv;have hh:X.A.handled=none:=I.ok.hd hc;have lk:kvs.length=xs.length:=(Paired.length pl).symm;have lr:rs.length=kvs.length:=kv.length.symm;have hn:=I.hok.fresh (Z09 s.heap.objs.size);refine callType_codes (Q₁:=λobj s₁=>obj= .ref s.heap.objs.size/\s₁={ s with heap:=s.heap.push { cls:= .type "dict",data:= .dict #[] } }) F.kt_called_dict (F.kt_typeCall_dict_1 _) F.entry_dict_init (kt_code_dict_new _ ⟨rfl,rfl⟩) ?_;rintro obj s₁ ⟨rfl,rfl⟩;have hnew:(s.heap.push { cls:= .type "dict",data:= .dict #[] }).DictOf (A2c X.prog X.w) s.heap.objs.size []:=Heap.DictOf.new s.heap;have e1:(s.heap.push { cls:= .type "dict",data:= .dict #[] }).get? a=some { cls:= .type "list",data:= .seq its.toArray n }:=Z01 _ e;have hTl:Shared.TypeIs { s with heap:=s.heap.push { cls:= .type "dict",data:= .dict #[] } } (.ref a) "list":=⟨_,e1,rfl⟩;refine ⟨hnew.typeIs,F.args_dict_init_2 _ _,?_⟩;unfold Builtin.«dict.__init__»;refine Z00 ?_;unfold Builtin.Dict.selfAndRest;refine Z00 (wpAny_notOrdered_dict hnew.typeIs ?_);show wpAny _ _ (pure (s.heap.objs.size,[Value.ref a])) _ _ _;refine Z04 ?_;show wpAny _ _ (Builtin.Dict.updateFrom "dict.__init__" s.heap.objs.size (.ref a) [] .none) _ _ _;unfold Builtin.Dict.updateFrom;refine Z00 (wpAny_typeOf hTl ?_);rw [Z12 (by decide)];refine Z00 (C4w (o:={ cls:= .type "list",data:= .seq its.toArray n }) e1 rfl rfl rfl (by simpa using hh) λh1 tk1 kp1=> ?_)
 rw [Z12 (show (none:Option Value).isNone=true from rfl)];refine Z00 (wpAny_rule ?_);have hl1:h1.IsList a its.toArray:=⟨_,kp1 _ _ e1,rfl,n,rfl⟩;refine Z00 (wpAny_pyIter_list (s:={ s with heap:=h1,toks:=tk1 }) hl1 ?_);have la:a<h1.objs.size:=Z0a (kp1 _ _ e1);have ld:s.heap.objs.size<h1.objs.size:=let ⟨_,_,_,g,_⟩:=hnew;Z0a (kp1 _ _ g);have las:a<s.heap.objs.size:=Z0a e;refine Z04 ⟨plainId_quiet A2d _,D0d (knd:=A2c X.prog X.w) (rs:=rs) (l:=a) (items:=its.toArray) (h₀:=h1.push { cls:= .type "list_iterator",data:= .fields #[.ref a,.int 0 0] }) (by simpa using hh) (Z0h la) (Z0h ld) (Z1q las) (by lia) ?_ (hl1.push _) ?_ rs.length 0 _ _ (by lia) (Z1e _) ⟨_,Z0c _ rfl,rfl,rfl⟩ (λ_ _ _ _ z=>z) ?_⟩
 ·refine ⟨by simp;lia,λi v k u hv hku=> ?_⟩;obtain ⟨x,hx,b,o,m,kv,ev,g1,g2,g3,g4⟩:=B9j rp hku
  have ex:x=v:=by
   have hv:its[i]? =some v:=by simpa using hv
   rw [hx] at hv;exact Z1a hv
  subst ex;have lb:=Z0a g1;exact ⟨b,o,m,kv,ev,Z0h (Nat.lt_trans lb ld),Z0h lb,Z01 _ (kp1 _ _ (Z01 _ g1)),g2,g3,g4⟩
 ·intro h' tk dd kp;refine ⟨rfl,.ref s.heap.objs.size,_,I.laid (t':=tk) (o:= .dK (A1b [] kvs)) (λb u eb=>kp b u (Z0h (Nat.lt_trans (Z0a eb) ld)) (Z0h (Z0a eb)) (Z01 _ (kp1 _ _ (Z01 _ eb)))) (Z09 _) ⟨?_,?_,_,KV.merge kv .nil,dd⟩,rfl,q _ hn⟩
  ·have:=A2t kvs [];simp only [List.length_nil] at this
   lia
  ·have:=I.big;have hne:s.heap.objs.size≠sysModules:=Z1q this
   simpa using hne
 ·obtain ⟨od,es,ep,g,r⟩:=hnew;exact ⟨od,es,ep,Z01 _ (kp1 _ _ g),r⟩
end
def D6p (K:PySem.W.Frag) (a b:Addr):It :=
 ⟨λi H=>∃xs ys x y,SqL K H a xs/\SqL K H b ys/\xs[i]? =some x/\ys[i]? =some y,
  λi H v H'=>∃p,H p=none/\v= .ref p/\∃x y,(∀xs,SqL K H a xs->xs[i]? =some x)/\(∀ys,SqL K H b ys->ys[i]? =some y)/\H'=upd H p (.tup [x,y]),
  λi H=>∃xs ys,SqL K H a xs/\SqL K H b ys/\(xs.length<=i\/ys.length<=i)⟩
def D1o (z TI TO i1 i2 a b:Addr) (i:Nat) (h:Heap):Prop:=IsZip h z TI TO .none/\IsPair h TI (.ref i1) (.ref i2)/\(∃u v,IsPair h TO u v)/\h.IsListIter i1 a i/\h.IsListIter i2 b i
theorem C7g {P:Program} {w:World} {K:PySem.W.Frag} {elts:List Expr} {kk:Nat} {pos:Pos} {z TI TO i1 i2 a b:Addr} (D:ZipApart z TI TO i1 i2 a b) :
  C8f P w K (.Tuple elts kk pos) (D6p K a b) [z,TI,TO,i1,i2] z (D1o z TI TO i1 i2 a b) where
 mem:=by simp
 obj:=λi h st c hc=>by
  obtain ⟨h1,h2,⟨u,v,h3⟩,h4,h5⟩:=st;simp only [Z0e,Z1i,or_false] at hc;rcases hc with rfl | rfl | rfl | rfl | rfl
  ·exact ⟨_,h1,λv z=>by cases (show Data.fields _=Data.cell v from z)⟩
  ·exact ⟨_,h2,λv z=>by cases (show Data.seq _ _=Data.cell v from z)⟩
  ·exact ⟨_,h3,λv z=>by cases (show Data.seq _ _=Data.cell v from z)⟩
  ·exact (A1o _ a).ob h4
  ·exact (A1o _ b).ob h5
 keep:=λi h h' st k=>by
  obtain ⟨h1,h2,⟨u,v,h3⟩,h4,h5⟩:=st;exact ⟨k z (by simp) _ h1,k TI (by simp) _ h2,⟨u,v,k TO (by simp) _ h3⟩,(A1o i1 a).mv h4 λo e=>k i1 (by simp) o e,(A1o i2 b).mv h5 λo e=>k i2 (by simp) o e⟩
 item:=by
  intro X hP hw hK hc i pins s σ H E I hf st hg;subst hP hw hK;obtain ⟨xs,ys,x,y,hq1,hq2,hx,hy⟩:=hg;obtain ⟨its,rv,p1,_⟩:=I.list hq1;obtain ⟨its2,rv2,p2,_⟩:=I.list hq2;obtain ⟨u,hu,ru⟩:=rv.get hx;obtain ⟨u2,hu2,ru2⟩:=rv2.get hy;obtain ⟨h1,h2,⟨o1,o2,h3⟩,h4,h5⟩:=st;refine A9z (A1o i1 a) (A1o i2 b) D h1 h2 h3 h4 h5 p1.isList p2.isList (x:=u) (by simpa using hu) (y:=u2) (by simpa using hu2) λh' z1 z2 z3 z4 z5 kp=> ?_;refine ⟨_,rfl,wpAny_letOwnedTupleGo_zip (s:={ s with heap:=h' }) z1 λg zg sb=> ?_⟩
  have nz:s.heap.objs.size≠z:=Z1q (Z0a h1);have n2:TI<s.heap.objs.size:=Z0a h2;have n3:TO<s.heap.objs.size:=Z0a h3;have n4:i1<s.heap.objs.size:=let ⟨_,e,_⟩:=(A1o i1 a).ob h4;Z0a e;have n5:i2<s.heap.objs.size:=let ⟨_,e,_⟩:=(A1o i2 b).ob h5;Z0a e;have zq:IsPair g s.heap.objs.size u u2:=sb.extBut _ _ nz z5
  have I1:Inv X pins σ (upd H s.heap.objs.size (.tup [x,y])) { s with heap:=g,toks:=s.toks }:=I.turnedNew (ts:=[z,TI,TO,i1,i2]) (λc o hc e=>by
   simp only [Z0e,Z1i,or_false,not_or] at hc
   exact sb.extBut _ _ hc.1 (kp c o hc.1 hc.2.2.1 hc.2.2.2.1 hc.2.2.2.2 e)) hf (Z09 _) ⟨by show 2<=sizeLine;decide,[u,u2],.cons ru (.cons ru2 .nil),⟨_,zq,rfl,_,rfl⟩⟩
  refine ⟨.ref s.heap.objs.size,_,I1,rfl,⟨_,I.hok.fresh (Z09 _),rfl,x,y,λzs hz=>by rw [I.list_inj hz hq1];exact hx,λzs hz=>by rw [I.list_inj hz hq2];exact hy,rfl⟩,
   ⟨zg,sb.extBut _ _ D.TIz (kp _ _ D.TIz D.TITO D.TIi1 D.TIi2 h2),⟨_,_,sb.extBut _ _ D.TOz z2⟩,(A1o i1 a).mv z3 λo e=>sb.extBut _ _ D.i1z e,(A1o i2 b).mv z4 λo e=>sb.extBut _ _ D.i2z e⟩,λc hc=> ?_⟩
  have hcn:c≠s.heap.objs.size:=by
   simp only [Z0e,Z1i,or_false] at hc;rcases hc with rfl | rfl | rfl | rfl | rfl
   ·exact nz.symm
   ·exact Z0h n2
   ·exact Z0h n3
   ·exact Z0h n4
   ·exact Z0h n5
  rw [A0h hcn];exact (hf c hc).1
 done:=by
  intro X hP hw hK hc i pins s σ H E I hf st hg;subst hP hw hK;obtain ⟨xs,ys,hq1,hq2,hx⟩:=hg;obtain ⟨its,rv,p1,_⟩:=I.list hq1;obtain ⟨its2,rv2,p2,_⟩:=I.list hq2;have e1:=rv.length;have e2:=rv2.length;obtain ⟨h1,h2,⟨o1,o2,h3⟩,h4,h5⟩:=st;refine B7d (A1o i1 a) (A1o i2 b) (I.ok.hd hc) D h1 h2 h3 h4 h5 p1.isList p2.isList (by simp;lia) λh' kp=>⟨rfl,?_⟩
  exact I.turnedL (t':=s.toks) (ts:=[z,TI,TO,i1,i2]) (λc o hc e=>by
   simp only [Z0e,Z1i,or_false,not_or] at hc
   exact kp c o hc.1 hc.2.2.1 hc.2.2.2.1 hc.2.2.2.2 e) hf
 self:=λ_ _ _ _ _ st h=>wpAny_pyIter_zip st.1 h
abbrev C9s (h:Heap) (l1 l2:Addr):Heap:=(zipH1 h l1).push { cls:= .type "list_iterator",data:= .fields #[.ref l2,.int 0 0] }
abbrev C9k (h:Heap) (l1 l2:Addr):Heap:=(C9s h l1 l2).push { cls:= .type "tuple",data:= .seq #[.ref h.objs.size,.ref (zipH1 h l1).objs.size] }
abbrev C8v (h:Heap) (l1 l2:Addr):Heap:=(C9k h l1 l2).push { cls:= .type "tuple",data:= .seq #[.none,.none] }
abbrev C3y (h:Heap) (l1 l2:Addr):Heap:=(C8v h l1 l2).push { cls:= .type "zip",data:= .fields #[.none,.bool false,.bool false,.ref (C9s h l1 l2).objs.size,.ref (C9k h l1 l2).objs.size] }
theorem B7h (l1 l2:Addr) (xs ys:Array Value):Meets (Builtin.«zip.__new__» ⟨[.type "zip",.ref l1,.ref l2],[]⟩) (λ_ R s=>s.heap.IsList l1 xs/\s.heap.IsList l2 ys/\
  R (.ok (.ret (.ref (C8v s.heap l1 l2).objs.size))) { s with heap:=C3y s.heap l1 l2 }) :=
 .of_wp λprog w A R s h=>by
  obtain ⟨hp,g,d,tk,os⟩:=s;obtain ⟨hl1,hl2,h⟩:=h;have hsub:=sub_zip;have hL1:Heap.IsList (Shared.heap ⟨hp,g,d,tk,os⟩) l1 xs:=hl1;have hL2:Heap.IsList (Shared.heap ⟨hp.push { cls:= .type "list_iterator",data:= .fields #[.ref l1,.int 0 0] },g,d,tk,os⟩) l2 ys:=Heap.IsList.push hl2 _
  wp_walk using wpAny_pyIter_list hL1,wpAny_pyIter_list hL2
  exact ⟨_,rfl,h⟩
theorem B7v {prog:Program} {w:World} {A:Around} {E:Value->Shared->Prop} {s:Shared} {l1 l2:Addr} {xs ys:Array Value} {Q:Value->Shared->Prop} (hl1:s.heap.IsList l1 xs) (hl2:s.heap.IsList l2 ys)
  (h:∀h',D1o (s.heap.objs.size+4) (s.heap.objs.size+2) (s.heap.objs.size+3) s.heap.objs.size (s.heap.objs.size+1) l1 l2 0 h'->(∀c o,s.heap.get? c=some o->h'.get? c=some o)->Q (.ref (s.heap.objs.size+4)) { s with heap:=h' }) :
  wpAny (model prog w) A (call (.type "zip") [.ref l1,.ref l2]) Q E s:=by
 refine callType_new F.called_zip (by decide) (F.typeCall_zip_2 _ _) (F.newCall_zip_2 _ _) (λobj=>F.args_object_init_3 obj _ _) F.entry_zip_new (B7h l1 l2 xs ys) ⟨hl1,hl2,?_⟩;have z1:(zipH1 s.heap l1).objs.size=s.heap.objs.size+1:=Z1s ..;have z2:(C9s s.heap l1 l2).objs.size=s.heap.objs.size+2:=by rw [Z1s,z1]
 have z3:(C9k s.heap l1 l2).objs.size=s.heap.objs.size+3:=by rw [Z1s,z2]
 have z4:(C8v s.heap l1 l2).objs.size=s.heap.objs.size+4:=by rw [Z1s,z3]
 have q5:(C3y s.heap l1 l2).get? (C8v s.heap l1 l2).objs.size=some _:=Z0c _ rfl;have q4:(C3y s.heap l1 l2).get? (C9k s.heap l1 l2).objs.size=some _:=Z01 _ (Z0c _ rfl);have q3:(C3y s.heap l1 l2).get? (C9s s.heap l1 l2).objs.size=some _:=Z01 _ (Z01 _ (Z0c _ rfl));have q2:(C3y s.heap l1 l2).get? (zipH1 s.heap l1).objs.size=some _:=Z01 _ (Z01 _ (Z01 _ (Z0c _ rfl)));have q1:(C3y s.heap l1 l2).get? s.heap.objs.size=some _:=Z01 _ (Z01 _ (Z01 _ (Z01 _ (Z0c _ rfl))));show _/\_;rw [z2,z3,z4] at q5;rw [z1,z2] at q3;rw [z3] at q4;rw [z1] at q2;rw [z4];exact ⟨⟨_,q5,rfl⟩,h _ ⟨q5,q3,⟨_,_,q4⟩,⟨_,q1,rfl,rfl⟩,⟨_,q2,rfl,rfl⟩⟩ λc o x=>Z01 _ (Z01 _ (Z01 _ (Z01 _ (Z01 _ x))))⟩
def D9c (K:PySem.W.Frag) (ta:TA):TI:=λσ H R=>ta σ H λvs H1=>∃a b xs ys,vs=[.ref a,.ref b]/\SqL K H1 a xs/\SqL K H1 b ys/\R (D6p K a b) H1
theorem C2x {X:Cx} {elts:List Expr} {kk:Nat} {tpos:Pos} {a b:Expr} {ta:TA} {p pos:Pos} (hg:Gl X "zip") (hm:X.mg "zip"=none) (ha:PA X [a,b] ta) (hs:starEach [a,b] X.env=[(false,eval a X.env),(false,eval b X.env)]:=by rfl) (hs2:starEach [b] X.env=[(false,eval b X.env)]:=by rfl) :
  PI X (.Tuple elts kk tpos) (.Call (.Name "zip" p) [a,b] [] pos) (D9c X.K ta):=by
 intro pins s σ H R I h;refine Call_ (A7f I hg hm boot_zip (PyProof.Rows.callWith_type1 (thn (ha pos pins s σ H _ I h) λus s1 ⟨vs,H1,I1,r1,q1⟩=> ?_) (by rw [hs,hs2]) (by rw [hs2];rfl)));obtain ⟨l1,l2,xs,ys,e,hq1,hq2,q⟩:=q1;subst e;obtain ⟨u,u2,rfl,ru,ru2⟩:=B4u r1;cases ru;cases ru2;obtain ⟨its,rv,p1,_⟩:=I1.list hq1;obtain ⟨its2,rv2,p2,_⟩:=I1.list hq2;have t1:l1<s1.heap.objs.size:=let ⟨_,e,_⟩:=p1.isList;Z0a e;have t2:l2<s1.heap.objs.size:=let ⟨_,e,_⟩:=p2.isList;Z0a e;refine B7v p1.isList p2.isList λh' zs kp=>wpAny_pyIter_zip zs.1 ?_;have I2:Inv X pins σ H1 { s1 with heap:=h' }:=I1.kept (t':=s1.toks) kp;refine ⟨_,[s1.heap.objs.size+4,s1.heap.objs.size+2,s1.heap.objs.size+3,s1.heap.objs.size,s1.heap.objs.size+1],_,_,H1,rfl,I2,C7g (zipApart_new t1 t2),zs,λc hc=> ?_,q⟩
 have hle:s1.heap.objs.size<=c:=by
  simp only [Z0e,Z1i,or_false] at hc;rcases hc with rfl | rfl | rfl | rfl | rfl
  ·exact Nat.le_add_right _ _
  ·exact Nat.le_add_right _ _
  ·exact Nat.le_add_right _ _
  ·exact Z09 _
  ·exact Nat.le_add_right _ _
 exact I1.fpOk hle (I1.hok.fresh hle)
theorem C2s {K:PySem.W.Frag} {a b:Addr} {xs ys:List V} {g:TG} {tb:TS} {D:B7w} {σ:St} {H:Hp} (Pv:Nat->St->Hp->Prop) (h0:Pv 0 σ H) (hl:∀i σ H,Pv i σ H->SqL K H a xs/\SqL K H b ys) (hlen:xs.length=ys.length)
  (hs:∀i x y σ H p,xs[i]? =some x->ys[i]? =some y->Pv i σ H->H p=none->g (.ref p) σ (upd H p (.tup [x,y])) λσ2 H2=>tb { D with nx:=Pv (i+1),ct:=Pv (i+1),bk:=D.nx } σ2 H2) (hd:∀σ H,Pv xs.length σ H->D.nx σ H) :
  ∃W:Nat->Nat->St->Hp->Prop,(∃m,W 0 m σ H)/\∀i m σ H,W i m σ H->
   ((D6p K a b).stop i H/\D.nx σ H)\/((D6p K a b).go i H/\∃N:St->Hp->Prop,(∀σ' H',N σ' H'->∃m',m'<m/\W (i+1) m' σ' H')/\∀x H',(D6p K a b).yld i H x H'->g x σ H' λσ2 H2=>tb { D with nx:=N,ct:=N,bk:=D.nx } σ2 H2):=by
 refine ⟨λi m σ H=>m=xs.length-i/\i<=xs.length/\Pv i σ H,⟨xs.length,by simp,Z1e _,h0⟩,?_⟩;rintro i m σ H ⟨rfl,hi,p⟩;obtain ⟨q1,q2⟩:=hl i σ H p;by_cases hlt:i<xs.length
 ·have e1:xs[i]? =some xs[i]:=Z0b hlt;have e2:ys[i]? =some (ys[i]'(by lia)):=Z0b _;refine .inr ⟨⟨xs,ys,_,_,q1,q2,e1,e2⟩,Pv (i+1),λσ' H' p'=>⟨xs.length-(i+1),by lia,rfl,hlt,p'⟩,λv H' y=> ?_⟩;obtain ⟨c,hc,rfl,x,z,f1,f2,rfl⟩:=y;exact hs i x z σ H c (f1 xs q1) (f2 ys q2) p hc
 ·have e:i=xs.length:=by lia
  subst e;exact .inl ⟨⟨xs,ys,q1,q2,.inl (Z09 _)⟩,hd σ H p⟩
section
variable {D:Addr} {g:TG} {te:TE} {QD:Hp->Prop} {σ₀:St} {H:Hp}
theorem B0k {J:It} (n:Nat) (Pv:Nat->List V->Hp->Prop) (h0:Pv 0 [] (upd H D (.lst []))) (hgo:∀i ys H,i<n->Pv i ys H->J.go i H) (hst:∀ys H,Pv n ys H->J.stop n H)
  (hs:∀i ys H,i<n->Pv i ys H->∀x H3,J.yld i H x H3->g x σ₀ H3 λσ4 H4=>A3f σ₀ σ4/\te σ4 H4 λy H5=>H5 D=some (.lst ys)/\ys.length<sizeLine/\Pv (i+1) (ys++[y]) (upd H5 D (.lst (ys++[y])))) (hd:∀ys H,Pv n ys H->QD H) :
  ∃W:Nat->Nat->Hp->Prop,(∃m,W 0 m (upd H D (.lst [])))/\∀i m H2,W i m H2->
   (J.stop i H2/\QD H2)\/(J.go i H2/\∃N:VK,(∀y H5,N y H5->∃xs,H5 D=some (.lst xs)/\xs.length<sizeLine/\∃m',m'<m/\W (i+1) m' (upd H5 D (.lst (xs++[y]))))/\
    ∀x H3,J.yld i H2 x H3->g x σ₀ H3 λσ4 H4=>A3f σ₀ σ4/\te σ4 H4 N):=by
 refine ⟨λi m H=>m=n-i/\i<=n/\∃ys,Pv i ys H,⟨n,by simp,Z1e _,[],h0⟩,?_⟩;rintro i m H2 ⟨rfl,hi,ys,p⟩;by_cases hlt:i<n
 ·exact .inr ⟨hgo i ys H2 hlt p,λy H5=>H5 D=some (.lst ys)/\ys.length<sizeLine/\Pv (i+1) (ys++[y]) (upd H5 D (.lst (ys++[y]))),λy H5 z=>⟨ys,z.1,z.2.1,n-(i+1),by lia,rfl,hlt,_,z.2.2⟩,λx H3 z=>hs i ys H2 hlt p x H3 z⟩
 ·have e:i=n:=by lia
  subst e;exact .inl ⟨hst ys H2 p,hd ys H2 p⟩
end
theorem D0a {X:Cx} {K:PySem.W.Frag} (h:X.K=K):IxR X (E0n K):=h▸A8g
theorem B3l {X:Cx} {K:PySem.W.Frag} (h:X.K=K):IxR X (D8u K):=h▸A4i
theorem B9g {K:PySem.W.Frag} {C:Addr} {U:String} {b:Bool} (h:PySem.W.mroIn K C (.type U)=some b) (hm:PySem.W.kitMeta U=true):∀u,A2z (.ty U) u->PySem.W.kitOne K (.ref C) u=some b:=by
 intro u z;cases (show u=Value.type U from z);unfold PySem.W.kitOne;rw [Z0t (show¬(Value.ref C == Value.type U)=true from Z0v)];show (if PySem.W.kitMeta U=true then PySem.W.subIn K (.ref C) (.type U) else none)=some b;rw [Z12 hm];exact h
theorem A2e.or {P:Program} {w:World} {K:PySem.W.Frag} {mg:Str->Option Value} {base:Heap} {CX:CXT} {k:Nat} {f:Addr} {fd:FuncData} {ps:List Str} {sp sp':Sp} (F:A2e P w K mg base CX k f fd ps sp) (F':A2e P w K mg base CX k f fd ps sp') :
  A2e P w K mg base CX k f fd ps (λvs H Q E=>sp vs H Q E\/sp' vs H Q E) :=
 ⟨λvs H Q E q=>q.elim (F.len vs H Q E) (F'.len vs H Q E),λA outer s H args us vs Q E hr he hb hv q=>q.elim (F.run A outer s H args us vs Q E hr he hb hv) (F'.run A outer s H args us vs Q E hr he hb hv)⟩
theorem B4e (acc ws:List (Key×V)) (w:Key×V):A1b acc (ws++[w])=A8p (A1b acc ws) w.1 w.2:=by unfold A1b;rw [List.foldl_append];rfl
section
variable {X:Cx}
def PTs (X:Cx) (cs:List Expr) (t:TT):Prop :=
 ∀(pins:List (Addr×Obj)) (s:Shared) (σ:St) (H:Hp) (Q:Bool->Hp->Prop),Inv X pins σ H s->t σ H Q->wpAny (model X.prog X.w) X.A (forIn cs true λc r=>if r=true then do let ok<-isTrue c X.env (eval c X.env);pure (ForInStep.yield ok) else pure (ForInStep.yield r)) (TP X pins σ Q) X.xe s
theorem C1p {i₀:Nat} {x₀:Str} {pos₀ spos:Pos} {elt iter tg:Expr} {cs:List Expr} {scope:Scope} {pos:Pos} {N':List Str} {ix:List (Option Nat)} {cl:List (Str×Addr)} {wi:TI} {g:TG} {tc:TT} {te:TE} (hN₀:X.N.Nodup) (hi₀:X.N[i₀]? =some x₀) (hx₀:Loc X.env.scope x₀) (hc:X.calm=true) (ck:C8j X scope cl) (io:C8w X N' scope ix) (hi:PI X tg iter wi)
  (hg:∀C s₀ H₀ fp,PG (blk X N' scope cl C s₀ H₀ fp) tg g) (ht:∀C s₀ H₀ fp,PTs (blk X N' scope cl C s₀ H₀ fp) cs tc) (he:∀C s₀ H₀ fp,PE (blk X N' scope cl C s₀ H₀ fp) elt te) (R:B7w->St->It->Hp->Prop) (hR:∀D σ J H1,R D σ J H1->∀D2,H1 D2=none->∃W:Nat->Nat->Hp->Prop,(∃m,W 0 m (upd H1 D2 (.lst [])))/\∀i m H2,W i m H2->
   (J.stop i H2/\D.nx (σ.set i₀ (some (.ref D2))) H2)\/(J.go i H2/\∃(N:VK) (M:Hp->Prop),(∀y H5,N y H5->∃xs,H5 D2=some (.lst xs)/\xs.length<sizeLine/\∃m',m'<m/\W (i+1) m' (upd H5 D2 (.lst (xs++[y]))))/\(∀H5,M H5->∃m',m'<m/\W (i+1) m' H5)/\∀x H3,J.yld i H2 x H3->g x (A5v ix σ) H3 λσ4 H4=>A3f (A5v ix σ) σ4/\tc σ4 H4 λb H5=>if b=true then te σ4 H5 N else M H5)) (hs:∀x,foldedSetIterable iter X.env x=pure x:=by intro _;rfl)
  (hsw:swapsWith (.ListComp elt [⟨tg,iter,cs,0⟩] scope pos) (some (.Name x₀ pos₀)) spos.line X.env=pure true:=by rfl) (hf₀:X.fn x₀=true\/X.env.scope.names.lookup x₀=some .local:=by first | exact .inl rfl | exact .inr rfl | assumption) :
  PS X (.Assign [.Name x₀ pos₀] (.ListComp elt [⟨tg,iter,cs,0⟩] scope pos) spos) (λD σ H=>wi σ H (R D σ)):=by
 intro pins s σ H D₀ I h;rw [exec_Assign_Name_used _ _ _ _ hsw];refine Z00 (Z1y (Z00 ?_));show wpAny _ X.A (do let _<-comprehension (.ListComp elt [⟨tg,iter,cs,0⟩] scope pos) scope X.env _ (newList []) false (eval iter X.env) (some (assign (.Name x₀ pos₀) X.env))) _ _ s;refine Z00 (Z10 (wpAny_comprehension_free (use:=some (assign (.Name x₀ pos₀) X.env)) (Q:=λ_ s'=>∃σ' H',Inv X pins σ' H' s'/\D₀.nx σ' H') rfl hs ck.eq ck.kind ck.names (thn (hi pins s σ H _ I h) λxv s1 h1=>thn h1 λitv s2 h2=> ?_)) (λ_ s' hq=>Z04 (Z04 hq)) λ_ _ e=>e);obtain ⟨it,fp,tn,J,H1,rfl,I1,T,st1,f1,R1⟩:=h2;refine Z16 ?_;have hD:H1 s2.heap.objs.size=none:=I1.hok.fresh (Z09 _);obtain ⟨W,⟨m0,w0⟩,turn⟩:=hR _ _ _ _ R1 _ hD;have hfD:∀b∈fp,b<s2.heap.objs.size:=λb hb=>let ⟨o,e,_⟩:=T.obj _ _ st1 b hb;Z0a e;have I2:Inv X pins σ (upd H1 s2.heap.objs.size (.lst [])) { s2 with heap:=s2.heap.push { cls:= .type "list",data:= .seq ([]:List Value).toArray },toks:=s2.toks }:=I1.lnew (its:=[]) .nil (Z1e _);have f2:∀b∈fp,B3n X pins (upd H1 s2.heap.objs.size (.lst [])) b:=λb hb=>⟨by rw [A0h (Z0h (hfD b hb))];exact (f1 b hb).1,(f1 b hb).2⟩
 have lt2:∀b∈fp,b<(s2.heap.push { cls:= .type "list",data:= .seq ([]:List Value).toArray }).objs.size:=λb hb=>by rw [Z1s];exact Nat.lt_succ_of_lt (hfD b hb)
 refine wpAny_newFunctionEnv ck.ncell (by intro y hy;simp at hy) (λh3 hns sb3=> ?_) ck.kind;dsimp only at hns sb3⊢;have k3:∀b o,(s2.heap.push { cls:= .type "list",data:= .seq ([]:List Value).toArray }).get? b=some o->h3.get? b=some o:=λb o e=>(sb3.2 b (Z0h (Z0a e))).trans (Z01 _ e);generalize hs2:({ s2 with heap:=s2.heap.push { cls:= .type "list",data:= .seq ([]:List Value).toArray },toks:=s2.toks }:Shared)=s3 at I2;have e3:s2.heap.push { cls:= .type "list",data:= .seq ([]:List Value).toArray }=s3.heap:=by rw [<-hs2]
 rw [e3] at hns k3 lt2;have I3:=B2t (N':=N') (ix:=ix) I2 ck io f2 lt2 (h':=h3) (t':=s2.toks+([]:List (Str×Value)).length) hns k3;have e4:({ s3 with heap:=h3,toks:=s2.toks+([]:List (Str×Value)).length }:Shared)={ s2 with heap:=h3,toks:=s2.toks+([]:List (Str×Value)).length }:=by rw [<-hs2]
 rw [e4] at I3;have st3:tn 0 h3:=T.keep _ _ _ st1 λb hb o e=>k3 b o (by rw [<-e3];exact Z01 _ e)
 have loop:∀s4:Shared,s4={ s2 with heap:=h3,toks:=s2.toks+([]:List (Str×Value)).length }->
   codeAny (model X.prog X.w) X.A (.compLoop (.ListComp elt [⟨tg,iter,cs,0⟩] scope pos) 0 (.ref it) (.ref s2.heap.objs.size) (compEnvC scope cl s3.heap.objs.size X.env))
    (compPost (model X.prog X.w) X.A X.xe (some (assign (.Name x₀ pos₀) X.env)) (λ_ s'=>∃σ' H',Inv X pins σ' H' s'/\D₀.nx σ' H') (.ref s2.heap.objs.size) s3.heap.objs.size) s4:=by
  rintro s4 rfl
  have stat:∀{H':Hp},(∀b∈fp,H' b=none)->∀b∈fp,B3n (blk X N' scope cl s3.heap.objs.size s3 (upd H1 s2.heap.objs.size (.lst [])) fp) [] H' b:=λhn b hb =>
   ⟨hn b hb,Z0h (lt2 b hb),λhs=>I3.ok.exfs b hb hs,.inl hb,λx c e=>(f2 b hb).2.2.2.2.1 x c (ck.sub x c e),(λp hp=>by cases hp)⟩
  refine codeAny_loop rfl (λn s'=>∃i σ' H',Inv (blk X N' scope cl s3.heap.objs.size s3 (upd H1 s2.heap.objs.size (.lst [])) fp) [] σ' H' s'/\(∀(j:Nat) v,(A5v ix σ)[j]? =some (some v)->σ'[j]? =some (some v))/\tn i s'.heap/\(∀b∈fp,H' b=none)/\W i n H')
   (λn s' hI=> ?_) m0 ⟨0,_,_,I3,λ_ _ z=>z,st3,λb hb=>(f2 b hb).1,w0⟩
  obtain ⟨i,σ5,H5,I5,wk,st5,fr5,w5⟩:=hI;show wpAny _ _ ((compTurn (.ListComp elt [⟨tg,iter,cs,0⟩] scope pos) 0 (.ref it) (.ref s2.heap.objs.size) (compEnvC scope cl s3.heap.objs.size X.env)).onRaise (λx=>do noteFrame x (compEnvC scope cl s3.heap.objs.size X.env);theTreesLotGoes x)) _ _ s';refine wpAny_noted ?_;rw [compTurn_list];refine Z00 (Z1y ?_);rcases turn i n H5 w5 with ⟨stop,qn⟩ | ⟨go,NN,MM,hNN,hMM,step⟩
  ·refine Z00 (Z10 (T.done (blk X N' scope cl s3.heap.objs.size s3 (upd H1 s2.heap.objs.size (.lst [])) fp) rfl rfl rfl hc i [] s' σ5 H5 (λ_ _=>False) I5 (stat fr5) st5 stop) (λr s6 h6=> ?_) λ_ _ z=>z.elim);obtain ⟨rfl,I6⟩:=h6;refine Z04 ?_;obtain ⟨mm,hm,_⟩:=id I6.loc;have fC:B3n X pins H5 s3.heap.objs.size:=I2.fpOk (Z09 _) I6.free;have Io:Inv X pins σ H5 s6:=C0o I2 f2 I6 (Heap.SameBut.refl _ _);show wpAny _ X.A (assign (.Name x₀ pos₀) X.env (.ref s2.heap.objs.size)) _ _ s6;refine wpAny_assign_Name (B7z Io hN₀ hi₀ hx₀ (v:= .ref s2.heap.objs.size) rfl (λs7 I7 sb7=> ?_) hf₀);obtain ⟨a,sb,ha⟩:=sb7
   have ca:s3.heap.objs.size≠a:=by
    rcases ha with ha | ha
    ·rw [ha];exact fC.2.1
    ·exact λz=>fC.2.2.2.2.1 _ _ ha z.symm
   obtain ⟨oC,es,ep,ho,r⟩:=hm;exact ⟨mm,⟨oC,es,ep,(sb.2 _ ca).trans ho,r⟩,λh' sb'=>⟨_,H5,I7.turned (t':=s7.toks) (λb o hb e=>(sb'.2 b hb).trans e) fC.1 fC.2.1 fC.2.2.2.1 fC.2.2.2.2.1 fC.2.2.2.2.2,qn⟩⟩
  ·refine Z00 (Z10 (T.item (blk X N' scope cl s3.heap.objs.size s3 (upd H1 s2.heap.objs.size (.lst [])) fp) rfl rfl rfl hc i [] s' σ5 H5 (λ_ _=>False) I5 (stat fr5) st5 go) (λr s6 h6=> ?_) λ_ _ z=>z.elim);obtain ⟨u,rfl,h6⟩:=h6;refine Z00 (Z10 h6 (λ_ s7 h7=> ?_) λ_ _ z=>z.elim);obtain ⟨x,H7,I7,r7,y7,st7,fr7⟩:=h7;have I7w:Inv (blk X N' scope cl s3.heap.objs.size s3 (upd H1 s2.heap.objs.size (.lst [])) fp) [] (A5v ix σ) H7 s7:=I7.weak (by rw [I7.len];unfold A5v;rw [Z08];exact io.1) wk;have I7p:=I7w.pinned (stat fr7) (T.obj _ _ st7);refine Z00 (Z10 (hg _ _ _ _ _ s7 _ H7 x u _ I7p r7 (step x H7 y7)) (λ_ s8 h8=> ?_) λ_ _ z=>z.elim);obtain ⟨σ8,H8,I8,kp8,q8⟩:=h8
   have back:∀{s10:Shared} {σ10:St} {H10:Hp} {m':Nat},Inv (blk X N' scope cl s3.heap.objs.size s3 (upd H1 s2.heap.objs.size (.lst [])) fp) ([]++B3y fp s7.heap) σ10 H10 s10->(∀(j:Nat) v,(A5v ix σ)[j]? =some (some v)->σ10[j]? =some (some v))->W (i+1) m' H10->
     ∃i σ' H',Inv (blk X N' scope cl s3.heap.objs.size s3 (upd H1 s2.heap.objs.size (.lst [])) fp) [] σ' H' s10/\(∀(j:Nat) v,(A5v ix σ)[j]? =some (some v)->σ'[j]? =some (some v))/\tn i s10.heap/\(∀b∈fp,H' b=none)/\W i m' H':=by
    intro s10 σ10 H10 m' I10 kk w10;refine ⟨i+1,σ10,H10,I10.unpinned,kk,T.keep _ _ _ st7 λb hb o e=>(I10.pin (b,o) (Z02 _ (Z02 _ (A2y hb e)))).1,λb hb=> ?_,w10⟩;obtain ⟨o,e,d⟩:=T.obj _ _ st7 b hb;exact (I10.pin (b,o) (Z02 _ (Z02 _ (A2y hb e)))).2.1
   refine Z00 (Z10 (ht _ _ _ _ _ s8 σ8 H8 _ I8 q8) (λok s9' h9'=> ?_) λ_ _ z=>z.elim);obtain ⟨H9',I9',q9'⟩:=h9'
   cases ok with
   | false =>
    have q9'':MM H9':=by simpa using q9'
    obtain ⟨m',hm',w9⟩:=hMM _ q9'';exact Z00 (Z04 (Z04 ⟨rfl,m',hm',back I9' kp8.get w9⟩))
   | true =>
    have q9'':te σ8 H9' NN:=by simpa using q9'
    refine Z00 (Z00 (Z10 (he _ _ _ _ _ s9' σ8 H9' _ I9' q9'') (λyv s9 h9=> ?_) λ_ _ z=>z.elim));obtain ⟨y,H9,I9,r9,n9⟩:=h9;obtain ⟨xs,hx9,hz9,m',hm',w9⟩:=hNN _ _ n9;refine Z00 (Z10 (A2x (X:=blk X N' scope cl s3.heap.objs.size s3 (upd H1 s2.heap.objs.size (.lst [])) fp) _ s9 σ8 H9 (.ref s2.heap.objs.size) [y] (.ref s2.heap.objs.size) [yv] (λ_ H'=>W (i+1) m' H') I9 rfl (.cons r9 .nil) ⟨_,xs,y,rfl,rfl,hx9,hz9,w9⟩) (λ_ s10 h10=> ?_) λ_ _ z=>z.elim);obtain ⟨_,H10,I10,_,w10⟩:=h10;exact Z04 (Z04 ⟨rfl,m',hm',back I10 kp8.get w10⟩)
 have e5:s3.heap.objs.size=(s2.heap.push { cls:= .type "list",data:= .seq ([]:List Value).toArray }).objs.size:=by rw [e3]
 rw [e5] at loop;exact codeAny_compStart_list (loop _ rfl) (T.self X.A 0 _ _ _ st3 (loop _ rfl))
theorem C1c {i₀:Nat} {x₀:Str} {pos₀ spos:Pos} {elt iter tg:Expr} {scope:Scope} {pos:Pos} {N':List Str} {ix:List (Option Nat)} {cl:List (Str×Addr)} {wi:TI} {g:TG} {te:TE} (hN₀:X.N.Nodup) (hi₀:X.N[i₀]? =some x₀) (hx₀:Loc X.env.scope x₀) (hc:X.calm=true) (ck:C8j X scope cl) (io:C8w X N' scope ix) (hi:PI X tg iter wi)
  (hg:∀C s₀ H₀ fp,PG (blk X N' scope cl C s₀ H₀ fp) tg g) (he:∀C s₀ H₀ fp,PE (blk X N' scope cl C s₀ H₀ fp) elt te) (hs:∀x,foldedSetIterable iter X.env x=pure x:=by intro _;rfl)
  (hsw:swapsWith (.ListComp elt [⟨tg,iter,[],0⟩] scope pos) (some (.Name x₀ pos₀)) spos.line X.env=pure true:=by rfl) (hf₀:X.fn x₀=true\/X.env.scope.names.lookup x₀=some .local:=by first | exact .inl rfl | exact .inr rfl | assumption) :
  PS X (.Assign [.Name x₀ pos₀] (.ListComp elt [⟨tg,iter,[],0⟩] scope pos) spos) (D8n (D5u ix wi g te) (A8b i₀)) :=
 C1p (tc:=λ_ H Q=>Q true H) hN₀ hi₀ hx₀ hc ck io hi hg (λ_ _ _ _ _ _ _ _ _ I h=>wpAny_tests_nil ⟨_,I,h⟩) he _ (λ_ _ _ _ R D2 hD=>by
  obtain ⟨W,w0,turn⟩:=R D2 hD;refine ⟨W,w0,λi m H2 w=>(turn i m H2 w).imp id λ⟨go,N,hN,step⟩=>⟨go,N,λ_=>False,hN,λ_ z=>z.elim,?_⟩⟩
  simpa using step) hs hsw hf₀
theorem B8p {i₀:Nat} {x₀:Str} {pos₀ spos:Pos} {elt iter tg c:Expr} {scope:Scope} {pos:Pos} {N':List Str} {ix:List (Option Nat)} {cl:List (Str×Addr)} {wi:TI} {g:TG} {tc:TT} {te:TE} (hN₀:X.N.Nodup) (hi₀:X.N[i₀]? =some x₀) (hx₀:Loc X.env.scope x₀) (hc:X.calm=true) (ck:C8j X scope cl) (io:C8w X N' scope ix) (hi:PI X tg iter wi)
  (hg:∀C s₀ H₀ fp,PG (blk X N' scope cl C s₀ H₀ fp) tg g) (ht:∀C s₀ H₀ fp,PT (blk X N' scope cl C s₀ H₀ fp) c tc) (he:∀C s₀ H₀ fp,PE (blk X N' scope cl C s₀ H₀ fp) elt te) (hs:∀x,foldedSetIterable iter X.env x=pure x:=by intro _;rfl)
  (hsw:swapsWith (.ListComp elt [⟨tg,iter,[c],0⟩] scope pos) (some (.Name x₀ pos₀)) spos.line X.env=pure true:=by rfl) (hf₀:X.fn x₀=true\/X.env.scope.names.lookup x₀=some .local:=by first | exact .inl rfl | exact .inr rfl | assumption) :
  PS X (.Assign [.Name x₀ pos₀] (.ListComp elt [⟨tg,iter,[c],0⟩] scope pos) spos) (D8n (C5w ix wi g tc te) (A8b i₀)) :=
 C1p hN₀ hi₀ hx₀ hc ck io hi hg (λC s₀ H₀ fp pins s σ H Q I h=>wpAny_tests_one (ht C s₀ H₀ fp pins s σ H Q I h)) he _ (λ_ _ _ _ R=>R) hs hsw hf₀
end
theorem A1y.at18 {P:Program} {w:World} {H:Hp} {h:Heap} {a:Addr} {o:HO} (x:A1y P w H h a o):∃u,h.get? a=some u:=by
 cases o with
 | lst xs=>obtain ⟨_,_,_,_,e⟩:=x;exact ⟨_,e⟩
 | tup xs=>obtain ⟨_,_,_,o,e,_⟩:=x;exact ⟨_,e⟩
 | dK kvs=>obtain ⟨_,_,_,_,o,_,_,e,_⟩:=x;exact ⟨_,e⟩
 | dT kvs=>obtain ⟨_,_,_,_,o,_,_,e,_⟩:=x;exact ⟨_,e⟩
 | set S n=>obtain ⟨o,_,_,_,e,_⟩:=x;exact ⟨_,e⟩
 | ins C dx fs=>obtain ⟨_,_,_,e,_⟩:=x;exact ⟨_,e⟩
 | own y=>obtain ⟨_,e⟩:=x;exact ⟨_,e⟩
 | xd fs=>obtain ⟨_,⟨_,_,_,e,_⟩,_⟩:=x;exact ⟨_,e⟩
 | rng lo hi=>obtain ⟨_,_,_,e⟩:=x;exact ⟨_,e⟩
 | frz ob u=>obtain ⟨e,_⟩:=x;exact ⟨_,e⟩
 | tbl ps=>exact ⟨_,(show h.get? a=some _ from x)⟩
 | met f y=>exact ⟨_,(show h.get? a=some _ from x)⟩
 | ext φ=>obtain ⟨_,⟨_,e⟩,_⟩:=x;exact ⟨_,e⟩
section
variable {X:Cx} {pins:List (Addr×Obj)} {σ:St} {H1 H':Hp} {s1:Shared} {B h1 h':Heap}
theorem D1i (I:Inv X pins σ H1 s1) (hx:X.ex=[]) (u:Un (frs X.stack) [] H1 H' s1.heap h1) (hb1:∀b o,s1.heap.get? b=some o->b∉frs X.stack->∃o',B.get? b=some o') (hst:B.StaysIn h1) (hst':B.StaysIn h') (up:h1.UpToSlots h') :
  Un X.fs [] X.H₀ H' X.s₀.heap h'/\∀b o,X.s₀.heap.get? b=some o->b∉X.fs->∃o',B.get? b=some o':=by
 have a:Un X.fs [] X.H₀ H1 X.s₀.heap s1.heap:=by
  have z:=I.base;rw [hx] at z;exact z
 have no:∀b:Addr,b∉([]:List Addr):=λb=>by simp
 have nst:∀b o,X.s₀.heap.get? b=some o->b∉X.fs->b∉frs X.stack:=λb o e hb m =>
  (Z0e.mp (I.stkSub b m)).elim (Z0h (Z0q (Z0a e) I.ok.above)) hb
 have B1:∀b o,X.s₀.heap.get? b=some o->b∉X.fs->∃o',B.get? b=some o':=λb o e hb=>by
  obtain ⟨o1,e1⟩:=a.there b o e (no b);exact hb1 b o1 e1 (nst b o e hb)
 have slot:∀b o,X.s₀.heap.get? b=some o->X.H₀ b=none->b∈X.fs->∃sl,h'.get? b=some { o with slots:=sl }:=λb o e n hb=>by
  obtain ⟨sl,e1⟩:=a.slot b o e n hb (no b);obtain ⟨sl2,e2⟩:=u.any e1 (a.free b o e n (no b)) (no b);obtain ⟨_,of,ho,hd⟩:=I.ok.funs.mem hb;rw [e] at ho;cases ho;obtain ⟨sl3,e3⟩:=up b _ e2 hd;exact ⟨sl3,e3⟩
 refine ⟨⟨λb o e n hb _=> ?_,λb o e n hb _=>slot b o e n hb,λb o e n _=> ?_,λb o e _=> ?_,λb xs e=>u.tups b xs (a.tups b xs e),λb o v e=>u.frzs b o v (a.frzs b o v e),λb ps e=> ?_⟩,B1⟩
 ·have e2:=u.keep b o (a.keep b o e n hb (no b)) (a.free b o e n (no b)) (nst b o e hb) (no b);obtain ⟨o',eB⟩:=B1 b o e hb;have e3:=hst b o' eB;rw [e2] at e3;cases e3;exact hst' b o eB
 ·obtain ⟨o1,e1⟩:=a.there b o e (no b);exact u.free b o1 e1 (a.free b o e n (no b)) (no b)
 ·by_cases hb:b∈X.fs
  ·obtain ⟨sl,q⟩:=slot b o e (I.ok.frf b hb) hb;exact ⟨_,q⟩
  ·obtain ⟨o',eB⟩:=B1 b o e hb;exact ⟨o',hst' b o' eB⟩
 ·obtain ⟨m1,e1⟩:=a.tbls b ps e;obtain ⟨m2,e2⟩:=u.tbls b _ e1;exact ⟨m1++m2,by rw [e2,Array.append_assoc]⟩
theorem C2j {P:Program} {w:World} (ok:HOk P w H' h1) (b2:∀b o,H' b=some o->∃o',B.get? b=some o') (hst:B.StaysIn h1) (hst':B.StaysIn h'):HOk P w H' h':=λa o e =>
 (ok a o e).stay (λb u hb q=>by
  have:∃o',B.get? b=some o':=by
   rcases hb with rfl | hb
   ·exact b2 _ _ e
   ·exact b2 _ _ hb
  obtain ⟨o',eB⟩:=this;have z:=hst b o' eB;rw [q] at z;cases z
  exact hst' b u eB) (λ_ q=>q) λ_ _ q=>q
end
section
variable {P:Program} {w:World} {K:PySem.W.Frag} {mg:Str->Option Value} {base:Heap} {N:List Str} {qual:Str} {scope:Scope} {f:Addr} {cd:Value} {A:Around} {outer:List Env} {s:Shared} {H:Hp} {E:XK}
def D1k (X:Cx) (C:Addr) (E:XK):Prop:=∀(pins:List (Addr×Obj)) (σ:St) (H:Hp) (s:Shared) (h':Heap) (e:Addr) (vs:List Value),Inv X pins σ H s->Heap.MadeExcOf s.heap h' e (.ref C) vs->E (.ref C) none H->X.xe (.ref e) { s with heap:=h' }
end
theorem D3p {K:PySem.W.Frag} {h:Heap} {C:Addr} {bmB:List Value} {newId:String} (X:K.In h) (q:PySem.W.excIn K C bmB newId=true) :
  ∃(nm qn:Str) (N:Addr) (bs bm:List Value) (hdct:Bool) (sn:List Str) (sub:List Value) (ab:Bool) (col:Option Bool) (dd:Option Addr) (k0 k1 k2 k3 k5:Option Value) (mN:Str->Option Value),
   h.get? C=some (excClassObj nm qn C N bs bm hdct sn sub ab col dd k0 k1 k2 k3 k5 newId)/\h.Ns N mN/\mN "__init__"=none/\OwnTail h bmB bm:=by
 cases lk:K.lookup C with
 | none=>simp [PySem.W.excIn,lk] at q
 | some ob =>
  have there:=X _ _ lk;unfold PySem.W.excIn at q;rw [lk] at q;split at q
  case h_2=>cases q
  case h_1 dct cls parts same =>
   injection same with same;subst same;split at q
   case h_2=>cases q
   case h_1 own tl p0 p1 p2 p3 made p5 along row =>
    repeat rw [Z1x] at q
    have w1:own=C:=beq_iff_eq.mp q.1.1.1.1.1;have w2:made=newId:=beq_iff_eq.mp q.1.1.1.1.2;have w3:cls.hasDel=false:=by simpa using q.1.1.1.2
    have w4:=beq_iff_eq.mp q.2;subst w1 w2;have sl:parts= #[p0,p1,p2,p3,some (.builtin made),p5]:=Array.toList_inj.mp row;rw [sl] at there;cases cls;dsimp only at along w3 w4 q;rw [along,w3] at there;exact ⟨_,_,_,_,tl,_,_,_,_,_,dct,p0,p1,p2,p3,p5,_,there,Heap.Ns.of_isNs (PySem.W.isNs_of_in X q.1.2),PySem.W.nsMap_none_of_in X q.1.2 w4,PySem.W.tail_of_in X q.1.1.2⟩
abbrev D1p:List Value:=[.type "ValueError",.type "Exception",.type "BaseException",.type "object"]
def D5k (C:Addr) (E:XK) (t:TA):TS:=λ_ σ H=>t σ H λvs H1=>vs.length<=sizeLine/\E (.ref C) none H1
theorem A2r {X:Cx} {C:Addr} {E:XK} {x:Str} {np cpos pos:Pos} {e:Expr} {es:List Expr} {t:TA} (hT:D1k X C E) (q:PySem.W.excIn X.K C D1p "ValueError.__new__"=true) (hg:Gl X x) (hm:X.mg x=some (.ref C)) (hc:X.calm=true)
  (ha:PA X (e::es) t) (hdb:(x == ("__debug__":Str))=false:=by decide) (he:starEach (e::es) X.env=(false,eval e X.env)::starEach es X.env:=by rfl) (hpl:(backTo cpos (starEach es X.env)).any (·.1)=false:=by rfl) :
  PS X (.Raise (some (.Call (.Name x np) (e::es) [] cpos)) none pos) (D5k C E t):=by
 intro pins s σ H D I h;obtain ⟨nm,qn,N,bs,bm,hdct,sn,sub,ab,col,dd,k0,k1,k2,k3,k5,mN,hC,hN,hni,T⟩:=D3p I.mod.kin q;have kb:∀{s2:Shared} {σ2:St} {H2:Hp},Inv X pins σ2 H2 s2->∀b o,X.base.get? b=some o->s2.heap.get? b=some o:=λI2=>I2.bk
 have hpl':(backTo cpos (starEach (e::es) X.env)).any (·.1)=false:=by
  rw [he];exact hpl
 refine wpAny_Raise_call_subU (C:=C) (nm:=nm) (q:=qn) (N:=N) (bs:=bs) (bm:=bm) (hdct:=hdct) (sn:=sn) (sub:=sub) (ab:=ab) (col:=col) (dd:=dd) (k0:=k0) (k1:=k1) (k2:=k2) (k3:=k3) (k5:=k5) (mN:=mN) (bmB:=D1p)
  PySem.F.excBase_ValueError (by decide +kernel) PySem.F.excBase_ValueError (T.hasType (by decide +kernel)) (I.ok.hd hc) hpl' hni ?_
 refine A5g I hg hm ⟨rfl,?_⟩ hdb
 have hA:=thn (ha cpos pins s σ H _ I h) (Q':=λus s2=>us.length<=sizeLine/\s2.heap.get? C=some (excClassObj nm qn C N bs bm hdct sn sub ab col dd k0 k1 k2 k3 k5 "ValueError.__new__")/\s2.heap.Ns N mN/\OwnTail s2.heap D1p bm/\
    ∀h' e,Heap.MadeExcOf s2.heap h' e (.ref C) us->X.xe (.ref e) { s2 with heap:=h' }) λus s2 ⟨vs,H2,I2,r,hl,hE⟩ =>
  ⟨r.length▸hl,kb I2 _ _ hC,hN.keeps (kb I2),T.keeps (kb I2),λh' e hx=>hT pins σ H2 s2 h' e us I2 hx hE⟩
 rw [he] at hA⊢;exact Calls.evalArgs_plain (thn hA λus s2 ⟨a,b,c,d,k⟩=>⟨rfl,a,b,c,d,k⟩)
abbrev Cx.held (X:Cx) (ea:Addr):Cx:={ X with A:=X.A.mark (some (.ref ea)),calm:=false,xe:=λ_ _=>False }
theorem Cx.Ok.held {X:Cx} (ok:X.Ok) (ea:Addr):(X.held ea).Ok :=
 ⟨ok.mod,ok.kind,ok.glob,ok.blt,ok.above,ok.inj,ok.has,ok.cab,λz=>(by cases z),ok.frames,ok.stk,ok.exf,ok.bs,ok.bsz,ok.noex,ok.exfs,ok.funs,ok.frf⟩
section
variable {X:Cx} {pins:List (Addr×Obj)} {σ:St} {H H1:Hp} {s s1:Shared} {ea C:Addr} {a0:Value} {B:Heap}
theorem Inv.held (I:Inv X pins σ H s) (ea:Addr):Inv (X.held ea) pins σ H s:=⟨I.ok.held ea,I.os,I.bare,I.base,I.loc,I.cell,I.free,I.freeC,I.pin,I.hok,I.len⟩
theorem Inv.unheld (I:Inv (X.held ea) pins σ H s) (ok:X.Ok):Inv X pins σ H s:=⟨ok,I.os,I.bare,I.base,I.loc,I.cell,I.free,I.freeC,I.pin,I.hok,I.len⟩
theorem A4q {M:Model} {A:Around} {E:Value->Shared->Prop} {i:Nat} {x:Str} {pos:Pos} {Q:Unit->Shared->Prop} (I:Inv X pins σ H s) (hN:X.N.Nodup) (hi:X.N[i]? =some x) (hx:X.env.scope.names.lookup x=some .local)
  (h:∀s',Inv X pins (σ.set i none) H s'->Q () s'):wpAny M A (do bindName X.env x .none;unbindBehindTheSuite X.env x pos) Q E s:=by
 refine Z00 (wpAny_bindName (A8l (v:= .non) (u:= .none) I hN hi (.inl hx) rfl (λs1 I1=> ?_) (.inr hx)));unfold unbindBehindTheSuite;refine wpAny_onRaise ?_;obtain ⟨m,hn,hl⟩:=id I1.loc;have hcls:(X.env.scope.kind == .class||(X.env.scope.kind == .module&&X.env.locals != X.env.globals))=false:=by rw [I1.ok.kind];rfl
 have hiσ:i<σ.length:=by rw [I.len];exact (Z03.mp hi).1
 have cne:=I1.cne;have hk:X.env.kindOf x=some .local:=hx;obtain ⟨u,ru,hu⟩:=hl i x .non hi (Z23 hiσ) (.inl hx)
 have hm:m x=some u:=by
  rcases hu with ⟨_,e⟩ | ⟨k,_⟩
  ·exact e
  ·rw [hk] at k;rcases k with k | k <;> cases k
 refine wpAny_unbindName_local hk hn hm hcls λh' v hn' hs=> ?_;obtain ⟨oL,_,_,hoL,_⟩:=id hn;refine h _ ⟨I1.ok,I1.os,I1.bare,⟨λb o e n hb hx=> ?_,λb o e n hb hx=> ?_,I1.base.free,λb o e hx=> ?_,I1.base.tups,I1.base.frzs,I1.base.tbls⟩,⟨_,hn',λj y v' e1 e2 e3=> ?_⟩,λy c e=> ?_,I1.free,I1.freeC,λp hp=> ?_,λb ob e=> ?_,by simpa using I.len⟩
 ·exact (hs.2 b (Z0h (Z0q (Z0a e) I1.ok.above))).trans (I1.base.keep b o e n hb hx)
 ·obtain ⟨sl,e1⟩:=I1.base.slot b o e n hb hx;exact ⟨sl,(hs.2 b (Z0h (Z0q (Z0a e) I1.ok.above))).trans e1⟩
 ·obtain ⟨o',e1⟩:=I1.base.there b o e hx;exact ⟨o',(hs.2 b (Z0h (Z0q (Z0a e) I1.ok.above))).trans e1⟩
 ·by_cases hj:j=i
  ·subst hj;rw [Z23 hiσ] at e2;cases e2
  ·rw [Z2a (Ne.symm hj)] at e2;obtain ⟨u',r',q⟩:=hl j y v' e1 (by rw [Z2a (Ne.symm hj)];exact e2) e3;refine ⟨u',r',?_⟩;rcases q with ⟨k,e⟩ | ⟨k,c,e,z⟩
   ·refine .inl ⟨k,?_⟩;have:y≠x:=λe=>hj (B6x hN e1 (e▸hi));simp [this,e]
   ·exact .inr ⟨k,c,e,z.sameBut hs (cne y c e)⟩
 ·obtain ⟨w',z⟩:=I1.cell y c e;exact ⟨w',z.sameBut hs (cne y c e)⟩
 ·obtain ⟨e,n,ne,nf,d⟩:=I1.pin p hp;exact ⟨(hs.2 p.1 ne).trans e,n,ne,nf,d⟩
 ·refine (I1.hok b ob e).stay (λc w' hc q=>(hs.2 c ?_).trans q) (λ_ q=>q) λ_ _ q=>q;rintro rfl;rcases hc with rfl | hc
  ·rw [I1.free] at e;cases e
  ·rw [I1.free] at hc;cases hc
def xcF (ea C:Addr):Heap->Prop:=λh=>∃o vs,h.get? ea=some o/\o.cls= .ref C/\o.data= .fields vs
structure C6d (X:Cx) (pins:List (Addr×Obj)) (σ:St) (H1:Hp) (s1:Shared) (H:Hp) (B:Heap) (ea C:Addr) (a0:Value) (s:Shared):Prop where
 i1:Inv X pins σ H1 s1
 os:s.os=s1.os
 bare:AllBare s.gens
 un:Un (frs X.stack) [] H1 H s1.heap s.heap
 hok:HOk X.prog X.w H s.heap
 b1:∀b o,s1.heap.get? b=some o->b∉frs X.stack->∃o',B.get? b=some o'
 b2:∀b o,H b=some o->∃o',B.get? b=some o'
 fl:Heap.FlyingW B X.stack ea (.ref C) a0 s.heap
theorem C6d.new (F:C6d X pins σ H1 s1 H B ea C a0 s):s1.heap.get? ea=none:=by
 cases q:s1.heap.get? ea with
 | none=>rfl
 | some o =>
  by_cases hb:ea∈frs X.stack
  ·obtain ⟨sl,e1⟩:=F.un.slot ea o q (F.i1.stkFree ea hb) hb (by simp);obtain ⟨_,of,ho,hd⟩:=F.i1.stack.mem hb;rw [q] at ho;cases ho;obtain ⟨oe,vs,e2,_,e3,_⟩:=F.fl.first;rw [e1] at e2;cases e2;exact absurd e3 (hd vs)
  ·obtain ⟨o',eB⟩:=F.b1 ea o q hb;rw [F.fl.2.1] at eB;cases eB
theorem C6d.no (F:C6d X pins σ H1 s1 H B ea C a0 s):H ea=none:=by
 cases q:H ea with
 | none=>rfl
 | some o =>
  obtain ⟨o',eB⟩:=F.b2 ea o q;rw [F.fl.2.1] at eB;cases eB
end
section
variable {X:Cx} {C C':Addr} {y n:Str} {yp hpos:Pos} {b₀:Stmt} {suite:List Stmt} {rest:List ExceptHandler} {th:Addr->TS} {i:Nat}
theorem C7i {M:Model} {K:PySem.W.Frag} {h:Heap} {ea:Addr} {c:Value} {b:Bool} (X:K.In h) (hx:xcF ea C h) (e:PySem.W.exmOne K (.ref C) c=some b):PySem.W.Looks M h (excMatches (.ref ea) c) b:=by
 obtain ⟨o,vs,ho,hc,_⟩:=hx
 have LT:PySem.W.Looks M h (typeOf (.ref ea)) (.ref C):=by
  have z:PySem.W.Looks M h (typeOf (.ref ea)) o.cls:=(PySem.W.Looks.ld ho).andThen .now;rw [hc] at z;exact z
 exact PySem.W.exm_one X LT e
end
abbrev TX:=St->Hp->VK->XK->Prop
def D5n (sp:Sp) (t:TA):TX:=λσ H Q E=>t σ H λvs H1=>sp vs H1 Q E
section
variable {X:Cx} {k:Nat} {f:Addr} {fd:FuncData} {ps:List Str} {sp:Sp} {x:Str} {p pos:Pos} {e:Expr} {es:List Expr} {t:TA}
end
section
variable {X:Cx} {hs:List ExceptHandler} {h₀:ExceptHandler} {e:Expr} {tx:TX} {pos epos npos:Pos} {i:Nat} {n:Str}
end
section
variable {P:Program} {w:World} {K:PySem.W.Frag} {mg:Str->Option Value} {base:Heap}
end
theorem B0g {X:Cx} {x:Str} {v:V} {pos:Pos} (h:∃u,X.mg x=some u/\A2z v u) (hg:Gl X x) (hd:(x == ("__debug__":Str))=false:=by decide):PE X (.Name x pos) (tC v):=by
 obtain ⟨u,hm,r⟩:=h;exact λ_ _ _ H _ I q=>A5g I hg hm ⟨v,H,I,r,q⟩ hd
theorem B9t {K:PySem.W.Frag} {C D:Addr} {b:Bool} (hb:PySem.W.mroIn K D (.type "BaseException")=some true) (h1:PySem.W.isClsIn K D=true) (h2:PySem.W.typeIn K (.ref D)=some (.type "type")) (h3:PySem.W.mroIn K C (.ref D)=some b) :
  PySem.W.exmOne K (.ref C) (.ref D)=some b:=by
 unfold PySem.W.exmOne;have e:PySem.W.subIn K (.ref D) (.type "BaseException")=some true:=hb;have h1':(PySem.W.clsIn K D).isSome=true:=h1;rw [Z12 (by rw [e];rfl)];show (if ((PySem.W.clsIn K D).isSome&&PySem.W.typeIn K (.ref D) == some (.type "type"))=true then PySem.W.subIn K (.ref C) (.ref D) else none)=some b;rw [Z12 (by rw [h1',h2];rfl)];exact h3
theorem A5t {K:PySem.W.Frag} {t:Value}:∀{cs:List Addr},(∀c∈cs,PySem.W.kitOne K t (.ref c)=some false)->∀us,A2u (cs.map V.ref) us->PySem.W.kitAny K t us=some false
 | [],_,_,r=>by
  cases r
  rfl
 | c::cs,h,_,r=>by
  rw [Z0p] at r
  cases r with
  | cons a r =>
   cases a
   unfold PySem.W.kitAny;rw [h c (.head _)];exact A5t (λd hd=>h d (.tail _ hd)) _ r
end L2
namespace PySem.W
open PySem PySem.Spec PySem.Calls PyProof.Rows PySem.Builtin.ObjectAttr
structure XcIn (K:Frag) (C:Addr):Prop where
 ga:findIn K (.ref C) "__getattribute__"=some (some (.builtin "BaseException.__getattribute__"))
 gt:findIn K (.ref C) "__getattr__"=some none
 mB:mroIn K C (.type "BaseException")=some true
 mO:mroIn K C (.type "object")=some true
 cl:findIn K (.ref C) "__class__"=some (some (.builtin "object.__class__"))
 sp:specialIn K (.builtin "object.__class__") "__get__"=some (some (.builtin "getset_descriptor.__get__"))
 tk:takesIn K (.builtin "object.__class__")=some true
def KitE (a C:Addr) (h:Heap):Prop:=∃o,h.get? a=some o/\o.cls= .ref C
section
variable {prog:Program} {w:World} {A:Around} {E:Value->Shared->Prop} {h:Heap} {g:Array GenState} {d:Drawn} {t:Nat} {os:OsState} {a C:Addr} {o:Obj} {K:Frag} {name:Str}
theorem XcIn.cls (c:XcIn K C):∃cd,clsIn K C=some cd:=by
 obtain ⟨cd,h,_⟩:=Option.bind_eq_some_iff.mp c.mB;exact ⟨cd,h⟩
theorem KitE.type {M:Model} (p:KitE a C h):Looks M h (typeOf (.ref a)) (.ref C):=by
 obtain ⟨o,ho,hc⟩:=p;have z:Looks M h (typeOf (.ref a)) o.cls:=(Looks.ld ho).andThen .now
 rwa [hc] at z
theorem C2i {M:Model} {nv:Value} {Q:Unit->Shared->Prop} (X:K.In h) (c:XcIn K C) (ho:h.get? a=some o) (ok:o.cls= .ref C) (hq:Q () ⟨h,g,d,t,os⟩) :
  wpAny M A (checkBuiltinCall "BaseException.__getattribute__" ⟨[.ref a,nv],[]⟩) Q E ⟨h,g,d,t,os⟩:=by
 have sub:=looks_mroIn (M:=M) X c.mB;have ar:=F.args_bexc_ga (.ref a) nv;simp only [checkBuiltinCall,(by decide +kernel:builtinKind "BaseException.__getattribute__"=some .slot),(by decide +kernel:splitId "BaseException.__getattribute__"=some ("BaseException","__getattribute__"))];refine Z00 ?_;unfold isInstance
 repeat (first | (with_reducible refine Z1k ho ?_;rw [ok]) | (with_reducible refine sub.at ?_) | wp_step)
 exact hq
theorem D4g {M:Model} (X:K.In h) (c:XcIn K C):Looks M h (find (.ref a) (.ref C) "__class__") (.bind (.builtin "getset_descriptor.__get__") (.builtin "object.__class__")) :=
 (looks_findIn X c.cl).andThen ((show Looks M h (getOf (some (.builtin "object.__class__"))) (some (.builtin "getset_descriptor.__get__")) from looks_specialIn X c.sp).andThen
  ((show Looks M h (dataDescriptor? (some (.builtin "object.__class__")) (some (.builtin "getset_descriptor.__get__"))) (some (.builtin "getset_descriptor.__get__",.builtin "object.__class__")) from (looks_takesIn X c.tk).andThen .now).andThen (Looks.tag .now)))
theorem D7k {R:Result->Shared->Prop} (X:K.In h) (c:XcIn K C) (ho:h.get? a=some o) (ok:o.cls= .ref C) (hq:R (.ok (.ret (.ref C))) ⟨h,g,d,t,os⟩) :
  codeAny (model prog w) A (.call (.builtin "getset_descriptor.__get__") ⟨[.builtin "object.__class__",.ref a,.ref C],[]⟩) R ⟨h,g,d,t,os⟩:=by
 have ty:(⟨h,g,d,t,os⟩:Shared).TypeIs (.builtin "object.__class__") "getset_descriptor":=F.typeOf_object_class
 have sub:Looks (model prog w) h (isSubtype (.ref C) (.type (".".intercalate ("object.__class__".cutAt '.').dropLast))) true:=by
  rw [F.owner_object_class];exact looks_mroIn X c.mO
 refine codeAny_call_builtin F.slot_gs_get.plain F.entry_gs_get (F.slot_gs_get.check _ _ _ _ _ _ _ _ ty (F.args_gs_get _ _ _) ?_)
 repeat (any_goals (first | assumption | (with_reducible refine Z1k ho ?_;rw [ok]) | (with_reducible refine sub.at ?_) | wp_step))
 refine ⟨Code.quiet_builtin _ (by decide +kernel),codeAny_builtin F.entry_object_class ?_⟩
 repeat (any_goals (first | assumption | (with_reducible refine Z1k ho ?_;rw [ok]) | wp_step))
theorem C8q {tk:Tok} {Q:Fin->Shared->Prop} (X:K.In h) (c:XcIn K C) (ho:h.get? a=some o) (ok:o.cls= .ref C) (hq:Q (.done (.ret (.ref C))) ⟨h,g,d,t,os⟩) :
  wpAny (model prog w) A (Builtin.«object.__getattribute__» ⟨[.ref a,.str "__class__" tk],[]⟩) Q E ⟨h,g,d,t,os⟩:=by
 have L:=D4g (M:=model prog w) (a:=a) X c;unfold Builtin.«object.__getattribute__»
 repeat (any_goals (first | assumption | (with_reducible refine L.at ?_) | (with_reducible refine Z1k ho ?_;rw [ok]) | wp_step))
 refine D7k X c ho ok ?_
 repeat (any_goals (first | assumption | wp_step))
theorem D7l {tk:Tok} {fill expr:Bool} {v:Value} {Q:Value->Shared->Prop} (X:K.In h) (c:XcIn K C) (ho:h.get? a=some o) (ok:o.cls= .ref C)
  (hq:∀(A:Around) (R:Result->Shared->Prop),R (.ok (.ret v)) ⟨h,g,d,t,os⟩->codeAny (model prog w) A (.call (.builtin "BaseException.__getattribute__") ⟨[.ref a,.str name tk],[]⟩) R ⟨h,g,d,t,os⟩) (hh:handedIn v=true) (hQ:Q v ⟨h,g,d,t,os⟩) :
  wpAny (model prog w) A (getAttrBy (.ref a) (.str name tk) fill expr) Q E ⟨h,g,d,t,os⟩:=by
 have b:=F.attr_ValueError.ga.bind (.ref a);have L1:=looks_findIn (M:=model prog w) X c.ga;have L2:=looks_findIn (M:=model prog w) X c.gt;have n1:(Value.builtin "BaseException.__getattribute__" == Value.builtin "object.__getattribute__")=false:=by decide +kernel
 have n2:(onTheHeap (Value.ref C)&&Value.builtin "BaseException.__getattribute__" == Value.builtin "object.__getattribute__")=false:=by simp [n1]
 have n3:(expr&&onTheHeap (Value.builtin "BaseException.__getattribute__"))=false:=Bool.and_eq_false_iff.mpr (.inr rfl)
 repeat (any_goals (first | assumption | (with_reducible refine Z1k ho ?_;rw [ok]) | (with_reducible refine L1.at ?_) | (with_reducible refine L2.at ?_) | wp_step))
 refine hq _ _ ?_
 repeat (any_goals (first | assumption | wp_step))
 show wpAny _ _ (handedOut v) _ _ _;rw [handedOut_of hh];exact Z04 hQ
theorem C9w {Q:Option Value->Shared->Prop} {s:Shared} (X:K.In s.heap) (c:XcIn K C) (p:KitE a C s.heap) (hq:Q (some (.ref C)) { s with toks:=s.toks+1 }):wpAny (model prog w) A (getAttr? (.ref a) "__class__") Q E s:=by
 obtain ⟨o,ho,ok⟩:=p;obtain ⟨h,g,d,t,os⟩:=s;unfold getAttr? getAttrBy?
 have B:∀{A:Around} {E:Value->Shared->Prop} {Q:Value->Shared->Prop},Q (.ref C) ⟨h,g,d,t+1,os⟩->wpAny (model prog w) A (getAttrBy (.ref a) (.str "__class__" t) false) Q E ⟨h,g,d,t+1,os⟩:=λ{A E Q} hQ =>
  D7l X c ho ok (λA R hR=>codeAny_call_builtin F.attr_ValueError.ga.plain F.entry_bexc_ga (C2i X c ho ok (C8q X c ho ok hR))) rfl hQ
 repeat (any_goals (first | assumption | with_reducible apply B | wp_step))
theorem kitx_exc (c:XcIn K C):KitX K (.ref a) (.ref C) (KitE a C) where
 ty:=λ_ _ _ p=>p.type
 it:=λ_ _ X _=>by
  obtain ⟨cd,e⟩:=c.cls;intro A Q E s k q;unfold clsIn at e;split at e
  case h_1 there=>exact Z00 (wpAny_loadPart (k _ _ (X _ _ there)) (Z04 q))
  case h_2=>cases e
 ne:=λh tp dd its n sl X htp=>by
  obtain ⟨cd,e⟩:=c.cls;rw [Bool.eq_false_iff];intro q;cases beq_iff_eq.mp q;unfold clsIn at e;split at e
  case h_1 there=>cases (X _ _ there).symm.trans htp
  case h_2=>cases e
 ca:=λX p k=>C9w X c p k
end
end PySem.W
namespace L2
open PySem PySem.Spec PyProof.Rows
section
variable {X:Cx}
end
def D7w (K:PySem.W.Frag) (a:Addr):It :=
 ⟨λi H=>∃xs x,SqL K H a xs/\xs[i]? =some x,
  λi H v H'=>∃p,H p=none/\v= .ref p/\∃x,(∀xs,SqL K H a xs->xs[i]? =some x)/\H'=upd H p (.tup [.int (i:Nat),x]),
  λi H=>∃xs,SqL K H a xs/\xs.length<=i⟩
def EnSt (e it a:Addr) (i:Nat) (h:Heap):Prop:=(∃old,IsEnum h e it (i:Nat) old)/\h.IsListIter it a i
theorem C8d {P:Program} {w:World} {K:PySem.W.Frag} {elts:List Expr} {kk:Nat} {pos:Pos} {e it a:Addr} (ne:e≠it):C8f P w K (.Tuple elts kk pos) (D7w K a) [e,it] e (EnSt e it a) where
 mem:=by simp
 obj:=λi h st c hc=>by
  obtain ⟨⟨old,h1⟩,h2⟩:=st;simp only [Z0e,Z1i,or_false] at hc;rcases hc with rfl | rfl
  ·exact ⟨_,h1,λv z=>by cases (show Data.fields _=Data.cell v from z)⟩
  ·obtain ⟨o,ho,_,hd⟩:=h2;exact ⟨o,ho,λv z=>by rw [hd] at z;cases z⟩
 keep:=λi h h' st k=>by
  obtain ⟨⟨old,h1⟩,h2⟩:=st;exact ⟨⟨old,k e (by simp) _ h1⟩,h2.at λo z=>k it (by simp) o z⟩
 item:=by
  intro X hP hw hK hc i pins s σ H E I hf st hg;subst hP hw hK;obtain ⟨xs,x,hq,hx⟩:=hg;obtain ⟨its,rv,p1,_⟩:=I.list hq;obtain ⟨u,hu,ru⟩:=rv.get hx;obtain ⟨⟨old,h1⟩,h2⟩:=st;refine wpAny_pyNext_enum_item h1 h2 p1.isList (x:=u) (by simpa using hu) ne λh' z1 z2 z3 z4 kp=> ?_;refine ⟨_,rfl,wpAny_letOwnedTupleGo_enum (s:={ s with heap:=h',toks:=s.toks+1 }) z1 λg zg sb=> ?_⟩
  have nz:s.heap.objs.size≠e:=Z1q (Z0a h1);have n2:it<s.heap.objs.size:=let ⟨_,q,_⟩:=h2;Z0a q;have tq:g.get? s.heap.objs.size=some { cls:= .type "tuple",data:= .seq #[.int i s.toks,u] }:=sb.extBut _ _ nz z3
  have I1:Inv X pins σ (upd H s.heap.objs.size (.tup [.int (i:Nat),x])) { s with heap:=g,toks:=s.toks+1 }:=I.turnedNew (ts:=[e,it]) (λc o hc q=>by
   simp only [Z0e,Z1i,or_false,not_or] at hc
   exact sb.extBut _ _ hc.1 (kp c o hc.1 hc.2 q)) hf (Z09 _) ⟨by show 2<=sizeLine;decide,[.int i s.toks,u],.cons ⟨_,rfl⟩ (.cons ru .nil),⟨_,tq,rfl,_,rfl⟩⟩
  refine ⟨.ref s.heap.objs.size,_,I1,rfl,⟨_,I.hok.fresh (Z09 _),rfl,x,λzs hz=>by rw [I.list_inj hz hq];exact hx,rfl⟩,⟨⟨_,zg⟩,z2.at λo q=>sb.extBut _ _ ne.symm q⟩,λc hc=> ?_⟩
  have hcn:c≠s.heap.objs.size:=by
   simp only [Z0e,Z1i,or_false] at hc;rcases hc with rfl | rfl
   ·exact nz.symm
   ·exact Z0h n2
  rw [A0h hcn];exact (hf c hc).1
 done:=by
  intro X hP hw hK hc i pins s σ H E I hf st hg;subst hP hw hK;obtain ⟨xs,hq,hx⟩:=hg;obtain ⟨its,rv,p1,_⟩:=I.list hq;have e1:=rv.length;obtain ⟨⟨old,h1⟩,h2⟩:=st;refine wpAny_pyNext_enum_end (I.ok.hd hc) h1 h2 p1.isList (by simp;lia) λh' kp=>⟨rfl,?_⟩
  exact I.turnedL (t':=s.toks) (ts:=[e,it]) (λc o hc q=>by
   simp only [Z0e,Z1i,or_false,not_or] at hc
   exact kp c o hc.2 q) hf
 self:=λ_ _ _ _ _ st h=>by
  obtain ⟨⟨old,h1⟩,_⟩:=st;exact wpAny_pyIter_enum h1 h
def D9y (K:PySem.W.Frag) (ta:TA):TI:=λσ H R=>ta σ H λvs H1=>∃a xs,vs=[.ref a]/\SqL K H1 a xs/\R (D7w K a) H1
theorem C0c {X:Cx} {elts:List Expr} {kk:Nat} {tpos:Pos} {a:Expr} {ta:TA} {p pos:Pos} (hg:Gl X "enumerate") (hm:X.mg "enumerate"=none) (ha:PA X [a] ta) (hs:starEach [a] X.env=[(false,eval a X.env)]:=by rfl) :
  PI X (.Tuple elts kk tpos) (.Call (.Name "enumerate" p) [a] [] pos) (D9y X.K ta):=by
 intro pins s σ H R I h;refine Call_ (A7f I hg hm boot_enumerate (PyProof.Rows.callWith_type1 (thn (ha pos pins s σ H _ I h) λus s1 ⟨vs,H1,I1,r1,q1⟩=> ?_) (by rw [hs];rfl) (by rfl)));obtain ⟨l,xs,e,hq,q⟩:=q1;subst e;obtain ⟨u,rfl,ru⟩:=B8h r1;cases ru;obtain ⟨its,rv,p1,_⟩:=I1.list hq;refine call_enumerate_list p1.isList λh' z1 z2 z3 kp=>wpAny_pyIter_enum z1 ?_;have I2:Inv X pins σ H1 { s1 with heap:=h' }:=I1.kept (t':=s1.toks) kp;refine ⟨_,[s1.heap.objs.size+1,s1.heap.objs.size],_,_,H1,rfl,I2,C8d (Z1q (Nat.lt_succ_self _)),⟨⟨_,z1⟩,z2⟩,λc hc=> ?_,q⟩
 have hle:s1.heap.objs.size<=c:=by
  simp only [Z0e,Z1i,or_false] at hc;rcases hc with rfl | rfl
  ·exact Nat.le_succ _
  ·exact Z09 _
 exact I1.fpOk hle (I1.hok.fresh hle)
theorem B5v {K:PySem.W.Frag} {a:Addr} {xs:List V} {g:TG} {tb:TS} {D:B7w} {σ:St} {H:Hp} (Pv:Nat->St->Hp->Prop) (h0:Pv 0 σ H) (hl:∀i σ H,Pv i σ H->SqL K H a xs)
  (hs:∀i x σ H p,xs[i]? =some x->Pv i σ H->H p=none->g (.ref p) σ (upd H p (.tup [.int (i:Nat),x])) λσ2 H2=>tb { D with nx:=Pv (i+1),ct:=Pv (i+1),bk:=D.nx } σ2 H2) (hd:∀σ H,Pv xs.length σ H->D.nx σ H) :
  ∃W:Nat->Nat->St->Hp->Prop,(∃m,W 0 m σ H)/\∀i m σ H,W i m σ H->
   ((D7w K a).stop i H/\D.nx σ H)\/((D7w K a).go i H/\∃N:St->Hp->Prop,(∀σ' H',N σ' H'->∃m',m'<m/\W (i+1) m' σ' H')/\∀x H',(D7w K a).yld i H x H'->g x σ H' λσ2 H2=>tb { D with nx:=N,ct:=N,bk:=D.nx } σ2 H2):=by
 refine ⟨λi m σ H=>m=xs.length-i/\i<=xs.length/\Pv i σ H,⟨xs.length,by simp,Z1e _,h0⟩,?_⟩;rintro i m σ H ⟨rfl,hi,p⟩;have q:=hl i σ H p;by_cases hlt:i<xs.length
 ·refine .inr ⟨⟨xs,_,q,Z0b hlt⟩,Pv (i+1),λσ' H' p'=>⟨xs.length-(i+1),by lia,rfl,hlt,p'⟩,λv H' y=> ?_⟩;obtain ⟨c,hc,rfl,x,f,rfl⟩:=y;exact hs i x σ H c (f xs q) p hc
 ·have e:i=xs.length:=by lia
  subst e;exact .inl ⟨⟨xs,q,Z09 _⟩,hd σ H p⟩
theorem B6p {X:Cx} (hc:X.calm=true):B1g X (.builtin "all") (λvs H Q=>∃(a:Addr) (bs:List Bool),vs=[V.ref a]/\SqL X.K H a (bs.map V.bl)/\Q (.bl (bs.all id)) H):=by
 intro pins s σ H vs us Q I r h;obtain ⟨a,bs,rfl,hq,q⟩:=h;obtain ⟨u,rfl,ru⟩:=B8h r;cases ru;obtain ⟨its,rv,p1,_⟩:=I.list hq;have la:a<s.heap.objs.size:=let ⟨_,e,_⟩:=p1.isList;Z0a e
 have el:bs.length=its.length:=by
  have:=rv.length
  simpa using this
 have ei:∀(i:Nat) (v:Value),its.toArray[i]? =some v->v= .bool ((bs[i]?).getD true):=λi v hv=>by
  have hi:i<bs.length:=by
   have:=(Z1m.mp hv).1
   simpa [el] using this
  obtain ⟨u,hu,ru⟩:=rv.get (i:=i) (x:= .bl bs[i]) (by simp [hi]);have e:some u=some v:=hu.symm.trans (by simpa using hv);cases e;rw [Z0b hi];exact ru
 refine call_all_walk ?_;refine wpAny_pyIter_list p1.isList ?_;refine ⟨s.heap.objs.size,_,_,_,_,_,λi=>(bs[i]?).getD true,rfl,Walks.list (A:=X.A.in1) (I.ok.hd hc) s.heap.objs.size a (Z0h la) its.toArray,⟨⟨_,Z0c _ rfl,rfl,rfl⟩,Heap.IsList.push p1.isList _⟩,λi v s2 Q2 E2 hv hQ=> ?_,λh' tk k=> ?_⟩
 ·rw [ei i v hv];exact Z04 hQ
 ·refine ⟨.bl (bs.all id),H,?_,?_,q⟩
  ·exact I.kept (t':=tk) λb o e=>k b o (λm=>absurd (Z0a e) (by
    rw [Z0w.mp m]
    exact Nat.lt_irrefl _)) (Z01 _ e)
  ·have z:((List.range its.toArray.size).all λi=>(bs[i]?).getD true)=bs.all id:=by
    have n:its.toArray.size=bs.length:=by simp [el]
    rw [n,Bool.eq_iff_iff,List.all_eq_true,List.all_eq_true];constructor
    ·intro h b hb;obtain ⟨i,hi,rfl⟩:=List.mem_iff_getElem.mp hb;have:=h i (List.mem_range.mpr hi)
     rwa [Z0b hi] at this
    ·intro h i hi;rw [Z0b (List.mem_range.mp hi)];exact h _ (List.getElem_mem _)
   show Value.bool _=Value.bool _;rw [z]
def B9k (v d:Addr):HO:= .ext λh=>h.IsValuesView v d
theorem C9p {P:Program} {w:World} {H:Hp} {h:Heap} {v d:Addr} (e:h.IsValuesView v d):A1y P w H h v (B9k v d) :=
 ⟨e,let ⟨o,e1,_⟩:=e;⟨o,e1⟩,λh1 h2 ⟨o,e1,e2⟩ k=>⟨o,k o e1,e2⟩⟩
def D4e:V->List V->Hp->VK->Prop:=λx vs H Q=>∃a kvs,x= .ref a/\vs=[]/\H a=some (.dK kvs)/\∀p,H p=none->Q (.ref p) (upd H p (B9k p a))
theorem C7d {X:Cx}:MtR X "dict.values" D4e:=by
 intro pins s σ H x xs v us Q I rx rv h;obtain ⟨a,kvs,rfl,rfl,ha,q⟩:=h;cases rx;cases rv;obtain ⟨hz,hs,vs,rel,dof⟩:=(show A1y X.prog X.w H s.heap a (.dK kvs) from I.hok a _ ha);refine call_meetsIn PySem.F.slot_dict_values dof.typeIs PySem.F.entry_dict_values (PySem.F.args_dict_values_1 _) (meets_dict_values (A2c X.prog X.w) a hs) ⟨⟨vs,dof⟩,?_⟩;exact ⟨.ref s.heap.objs.size,_,I.laid (t':=s.toks) (o:=B9k s.heap.objs.size a) (λb u e=>Z01 _ e) (Z09 _) (C9p ⟨_,Z0c _ rfl,rfl,rfl⟩),rfl,q _ (I.hok.fresh (Z09 _))⟩
def D7u (a:Addr) (o:Obj) (kvs:List (Key×V)):It :=
 ⟨λi H=>H a=some (.frz o (.dK kvs))/\i<kvs.length,λi H x H'=>H'=H/\∃k,kvs[i]? =some (k,x),λi H=>H a=some (.frz o (.dK kvs))/\i=kvs.length⟩
theorem C0z {P:Program} {w:World} {K:PySem.W.Frag} {tg:Expr} (it a:Addr) (o:Obj) (kvs:List (Key×V)) (es:Array DictEntry) (ep:Nat) (ho:o.data= .dict es ep) :
  C8f P w K tg (D7u a o kvs) [it] it (λi h=>h.IsValIter it a i kvs.length ep) where
 mem:=by simp
 obj:=λi h st b hb=>by
  have e:b=it:=by simpa using hb
  subst e;obtain ⟨ob,e,_,d⟩:=st;exact ⟨ob,e,λv z=>by rw [d] at z;cases z⟩
 keep:=λi h h' st k=>st.at λob e=>k it (by simp) ob e
 item:=by
  intro X hP hw hK hc i pins s σ H E I hf st hg;subst hP hw hK;obtain ⟨ha,hi⟩:=hg;obtain ⟨f0,f1,f2,f3,f4,f5⟩:=hf it (by simp);obtain ⟨_,vs,rel,dd⟩:=C7x I.hok ha ho;have hl:=rel.length;obtain ⟨⟨k,v⟩,hkv⟩:∃p,kvs[i]? =some p:=⟨kvs[i],by simp [hi]⟩;obtain ⟨u,hu,ru⟩:=rel.at hkv;rw [hl] at st;refine wpAny_pyNext_values_item st dd hu λh' hit sb=> ?_;have I1:Inv X pins σ H { s with heap:=h',toks:=s.toks }:=I.turned (t':=s.toks) (λb ob hb e=>(sb.2 b hb).trans e) f0 f1 f3 f4 f5
  obtain ⟨ob,e,c,d⟩:=id hit;exact ⟨u,rfl,C4k (s:={ s with heap:=h' }) e c d (by decide) ⟨v,H,I1,ru,⟨rfl,k,hkv⟩,by rw [hl];exact hit,λb hb=>(hf b hb).1⟩⟩
 done:=by
  intro X hP hw hK hc i pins s σ H E I hf st hg;subst hP hw hK;obtain ⟨ha,hi⟩:=hg;obtain ⟨f0,f1,f2,f3,f4,f5⟩:=hf it (by simp);obtain ⟨_,vs,rel,dd⟩:=C7x I.hok ha ho;have hl:=rel.length;rw [hl] at st;exact wpAny_pyNext_values_end (I.ok.hd hc) st dd (by simp;lia) λh' eb=>⟨rfl,I.turned (t':=s.toks) (λb ob hb e=>eb b ob hb e) f0 f1 f3 f4 f5⟩
 self:=λ_ _ _ _ _ st h=>wpAny_pyIter_valiter st h
def D2p (tl:TE):TI:=λσ H R=>tl σ H λx H1=>∃v a kvs,x= .ref v/\H1 v=some (B9k v a)/\H1 a=some (.dK kvs)/\∀o,R (D7u a o kvs) (upd H1 a (.frz o (.dK kvs)))
theorem C6m {X:Cx} {tg l:Expr} {tl:TE} (hl:PE X l tl):PI X tg l (D2p tl):=by
 intro pins s σ H R I h;refine thn (hl pins s σ H _ I h) λu s1 ⟨x,H1,I1,rx,v,a,kvs,ex,hv,ha,q⟩=> ?_;subst ex;cases rx;obtain ⟨vw,_⟩:=(show A1y X.prog X.w H1 s1.heap v (B9k v a) from I1.hok v _ hv);obtain ⟨hz,hs,vs,rel,o,es,ep,ho,hx,hd,r⟩:=D3a I1.hok ha;have dd:s1.heap.DictAt (A2c X.prog X.w) a vs ep:=⟨o,es,ho,hx,hd,r⟩;refine wpAny_pyIter_values vw dd ?_;have I2:Inv X pins σ H1 { s1 with heap:=s1.heap.push { cls:= .type "dict_valueiterator",data:= .fields #[.ref a,.int 0 0,.int vs.length 0,.int ep 0] },toks:=s1.toks }:=I1.kept λb ob e=>Z01 _ e
 have I3:=I2.frozen ha (Z01 _ ho);refine ⟨_,[s1.heap.objs.size],_,_,_,rfl,I3,C0z _ a o kvs es ep hd,?_,λb hb=> ?_,q o⟩
 ·rw [rel.length];exact ⟨_,Z0c _ rfl,rfl,rfl⟩
 ·have e:b=s1.heap.objs.size:=by simpa using hb
  subst e;refine I1.fpOk (Z09 _) ?_;rw [A0h (Z1q (I1.hok.lt ha))];exact I1.hok.fresh (Z09 _)
theorem C3q {a:Addr} {o:Obj} {kvs:List (Key×V)} {g:TG} {tb:TS} {D:B7w} {σ:St} {H:Hp} (Pv:Nat->St->Hp->Prop) (h0:Pv 0 σ H) (hl:∀i σ H,Pv i σ H->H a=some (.frz o (.dK kvs)))
  (hs:∀i k v σ H,kvs[i]? =some (k,v)->Pv i σ H->g v σ H λσ2 H2=>tb { D with nx:=Pv (i+1),ct:=Pv (i+1),bk:=D.nx } σ2 H2) (hd:∀σ H,Pv kvs.length σ H->D.nx σ H) :
  ∃W:Nat->Nat->St->Hp->Prop,(∃m,W 0 m σ H)/\∀i m σ H,W i m σ H->
   ((D7u a o kvs).stop i H/\D.nx σ H)\/((D7u a o kvs).go i H/\∃N:St->Hp->Prop,(∀σ' H',N σ' H'->∃m',m'<m/\W (i+1) m' σ' H')/\∀x H',(D7u a o kvs).yld i H x H'->g x σ H' λσ2 H2=>tb { D with nx:=N,ct:=N,bk:=D.nx } σ2 H2):=by
 refine ⟨λi m σ H=>m=kvs.length-i/\i<=kvs.length/\Pv i σ H,⟨kvs.length,by simp,Z1e _,h0⟩,?_⟩;rintro i m σ H ⟨rfl,hi,p⟩;by_cases hlt:i<kvs.length
 ·refine .inr ⟨⟨hl i σ H p,hlt⟩,Pv (i+1),λσ' H' p'=>⟨kvs.length-(i+1),by lia,rfl,hlt,p'⟩,λx H' y=> ?_⟩;obtain ⟨e,k,e1⟩:=y;subst e;exact hs i k x σ _ e1 p
 ·have e:i=kvs.length:=by lia
  subst e;exact .inl ⟨⟨hl _ σ H p,rfl⟩,hd σ H p⟩
theorem D2l {X:Cx} {K:PySem.W.Frag} {e:Expr} {f:Str} {pos:Pos} {ta:TE} (h:X.K=K) (he:PE X e ta) (hb:attributeBase e f X.env (eval e X.env)=eval e X.env):PE X (.Attribute e f pos) (E0k K ta f):=h▸A0s he hb
section
variable {X:Cx}
theorem D1d:OpR X (compareOp .LtE) (λx y H Q=>∃i j,x= .str i/\y= .str j/\Q (.bl (!(decide (j.cps.toList<i.cps.toList)))) H):=by
 intro pins s σ H x y v u Q I rx ry h;obtain ⟨i,j,rfl,rfl,q⟩:=h;obtain ⟨t,rfl⟩:=rx;obtain ⟨t',rfl⟩:=ry;exact P.le_str ⟨.bl _,H,I,rfl,q⟩
end
def D5h (K:PySem.W.Frag):List V->Hp->VK->Prop:=λxs H Q=>∃a C dx fs tp cs b,xs=[.ref a,.ref tp]/\H a=some (.ins C dx fs)/\Cls K C/\PySem.W.findIn K (.ref C) "__class__"=some (some (.builtin "object.__class__"))/\
 PySem.W.specialIn K (.builtin "object.__class__") "__get__"=some (some (.builtin "getset_descriptor.__get__"))/\PySem.W.takesIn K (.builtin "object.__class__")=some true/\PySem.W.mroIn K C (.type "object")=some true/\
 H tp=some (.tup cs)/\(∀us,A2u cs us->PySem.W.kitAny K (.ref C) us=some b)/\Q (.bl b) H
theorem C4j {X:Cx}:B1g X (.builtin "isinstance") (D5h X.K):=by
 intro pins s σ H xs us Q I r h;obtain ⟨a,C,dx,fs,tp,cs,b,rfl,ea,cl,ha,hn,htk,hm,ht,k,q⟩:=h;obtain ⟨u,w',rfl,ru,rw'⟩:=B4u r;cases ru;cases rw';obtain ⟨_,its,rv,ob,hob,hc,n,hd⟩:=(show A1y X.prog X.w H s.heap tp (.tup cs) from I.hok tp _ ht);obtain ⟨oc,od,oda,osl⟩:=ob;dsimp only at hc hd;subst hc hd;obtain ⟨mA,O,_⟩:=B3g I.hok ea;obtain ⟨od2,J,_⟩:=O.look;exact PySem.W.kia_tup (PySem.W.kitx_own (cl.get _) cl.hd ha hn htk hm) I.kIn J hob (k its rv) (λz=>nomatch z) λtk=>⟨.bl b,H,I.tok tk,rfl,q⟩
theorem C8p {K:PySem.W.Frag} {t:Value} {c:Addr} {cs:List Addr} (h:PySem.W.kitOne K t (.ref c)=some true):∀us,A2u ((c::cs).map V.ref) us->PySem.W.kitAny K t us=some true:=λus r=>by
 rw [Z0p] at r
 cases r with
 | cons a r =>
  cases a
  unfold PySem.W.kitAny;rw [h]
abbrev B4c (h:Heap) (z TI TO:Addr) (f0:Value) (b:Bool):Prop :=
 h.get? z=some { cls:= .type "zip",dict:=none,data:= .fields #[f0,.bool b,.bool false,.ref TI,.ref TO],slots:= #[] }
section
variable {prog:Program} {w:World} {A:Around} {E:Value->Shared->Prop} {s:Shared}
theorem C0r {a:Addr} {Q:Option Obj->Shared->Prop} (h:Q (s.heap.get? a) s):wpAny (model prog w) A (loadIfAlive a) Q E s:=λΓ p _=>by
 show PySem.Sem.wp _ Γ (.loadIfAlive a .pure) _ _ p s;rw [PySem.Sem.wp];exact h
theorem B3v {z TI TO p:Addr} {o:Obj} {b:Bool} {Q:Bool->Shared->Prop} (hz:B4c s.heap z TI TO (rawInt (p:Int)) b) (hp:s.heap.get? p=some o)
  (q:∀h',B4c h' z TI TO (rawInt (p:Int)) true->Heap.SameBut z s.heap h'->Q false { s with heap:=h' }):wpAny (model prog w) A (Builtin.SmallTypes.ownedTupleIsFree (.ref z)) Q E s:=by
 unfold Builtin.SmallTypes.ownedTupleIsFree;refine Z00 (Z11 hz rfl (x:=rawInt (p:Int)) rfl ?_);show wpAny _ _ (loadIfAlive (Int.toNat (p:Int)) >>= _) _ _ _;refine Z00 (C0r ?_);rw [Int.toNat_natCast,hp];show wpAny _ _ (field (.ref z) 1 >>= _) _ _ _;refine Z00 (Z11 hz rfl (x:= .bool b) rfl ?_)
 cases b with
 | true =>
  show wpAny _ _ (pure false) _ _ _;exact Z04 (q s.heap hz ⟨rfl,λ_ _=>rfl⟩)
 | false =>
  show wpAny _ _ (setField (.ref z) 1 (.bool true) >>= _) _ _ _;refine Z00 (Z1h hz (by simp) λg1 z1 b1=> ?_);exact Z04 (q g1 z1 b1)
end
section
variable {z TI TO i1 i2 l1 l2:Addr} {st1 st2:Nat->Heap->Prop} {src1 src2:Array Value->Heap->Prop} {prog:Program} {w:World} {A:Around} {E:Value->Shared->Prop} {s:Shared}
theorem C9a (N1:Nx i1 l1 st1 src1) (N2:Nx i2 l2 st2 src2) {k1 k2:Nat} {xs ys:Array Value} {x y:Value} {p:Addr} {o:Obj} {b:Bool} {Q:Option Value->Shared->Prop} (D:ZipApart z TI TO i1 i2 l1 l2)
  (hz:B4c s.heap z TI TO (rawInt (p:Int)) b) (hp:s.heap.get? p=some o) (hTI:IsPair s.heap TI (.ref i1) (.ref i2)) (h1:st1 k1 s.heap) (h2:st2 k2 s.heap) (hl1:src1 xs s.heap) (hl2:src2 ys s.heap) (hx:xs[k1]? =some x) (hy:ys[k2]? =some y)
  (hQ:∀h',B4c h' z TI TO (rawInt (p:Int)) true->st1 (k1+1) h'->st2 (k2+1) h'->IsPair h' s.heap.objs.size x y->
   (∀c o,c≠z->c≠i1->c≠i2->s.heap.get? c=some o->h'.get? c=some o)->Q (some (.ref s.heap.objs.size)) { s with heap:=h' }):wpAny (model prog w) A (pyNext (.ref z)) Q E s:=by
 have hT:s.TypeIs (.ref z) "zip":=⟨_,hz,rfl⟩;unfold pyNext;refine Z00 (wpAny_attempt (Z1b (name:=Str.ofString "__next__") hT F.slot_zip_next (Z1g F.slot_zip_next hT F.entry_zip_next ?_ (F.args_zip_next_1 _))));show wpAny _ _ (field (.ref z) 2 >>= _) _ _ _;refine Z00 (Z11 hz rfl (x:= .bool false) rfl ?_);show wpAny _ _ (field (.ref z) 3 >>= _) _ _ _;refine Z00 (Z11 hz rfl (x:= .ref TI) rfl ?_);refine Z00 (Z21 hTI rfl ?_);show wpAny _ _ (Builtin.SmallTypes.ownedTupleIsFree (.ref z) >>= _) _ _ _;refine Z00 (B3v hz hp λg1 z1 b1=> ?_);simp only [Bool.false_eq_true,if_false];refine Z00 ?_;simp only [<-Array.forIn_toList,List.forIn_cons,List.forIn_nil];refine Z00 (Z00 (Z1w ?_));show wpAny _ _ (Builtin.SmallTypes.nextOf (.ref i1) >>= _) _ _ _;refine Z00 (N1.item (N1.mv h1 λo e=>b1.extBut _ _ D.i1z e) (N1.mvS hl1 λo e=>b1.extBut _ _ D.l1z e) hx λg2 t2 b2=>Z04 (Z04 ?_));refine Z00 (Z00 (Z1w ?_));show wpAny _ _ (Builtin.SmallTypes.nextOf (.ref i2) >>= _) _ _ _;refine Z00 (N2.item (N2.mv h2 λo e=>b2.extBut _ _ D.i12.symm (b1.extBut _ _ D.i2z e)) (N2.mvS hl2 λo e=>b2.extBut _ _ D.l2i1 (b1.extBut _ _ D.l2z e)) hy λg3 t3 b3=>Z04 (Z04 (Z04 ?_)));have hsz:g3.objs.size=s.heap.objs.size:=by rw [b3.1,b2.1,b1.1]
 have zlt:z<g3.objs.size:=by rw [hsz];exact Z0a hz
 show wpAny _ _ (newTuple [x,y] >>= _) _ _ _;refine Z00 (wpAny_newTuple ?_);have z3:B4c g3 z TI TO (rawInt (p:Int)) true:=b3.extBut _ _ D.i2z.symm (b2.extBut _ _ D.i1z.symm z1);have k3:∀c o,c≠z->c≠i1->c≠i2->s.heap.get? c=some o->g3.get? c=some o:=λc o c1 c3 c4 e=>b3.extBut _ _ c4 (b2.extBut _ _ c3 (b1.extBut _ _ c1 e));have u1:st1 (k1+1) g3:=N1.mv t2 λo e=>b3.extBut _ _ D.i12 e;have pr:IsPair (g3.push { cls:= .type "tuple",data:= .seq #[x,y] }) g3.objs.size x y:=Z0c _ rfl;rw [hsz] at pr;refine Z04 ⟨_,rfl,Z04 ?_⟩;show Q (some (.ref g3.objs.size)) _;rw [hsz];exact hQ _ (Z01 _ z3) (N1.mv u1 λo e=>Z01 _ e) (N2.mv t3 λo e=>Z01 _ e) pr λc o c1 c3 c4 e=>Z01 _ (k3 c o c1 c3 c4 e)
theorem D2n (N1:Nx i1 l1 st1 src1) (N2:Nx i2 l2 st2 src2) {k1 k2:Nat} {xs ys:Array Value} {p:Addr} {o:Obj} {b:Bool} {Q:Option Value->Shared->Prop} (hh:A.handled=none) (D:ZipApart z TI TO i1 i2 l1 l2)
  (hz:B4c s.heap z TI TO (rawInt (p:Int)) b) (hp:s.heap.get? p=some o) (hTI:IsPair s.heap TI (.ref i1) (.ref i2)) (h1:st1 k1 s.heap) (h2:st2 k2 s.heap) (hl1:src1 xs s.heap) (hl2:src2 ys s.heap) (hend:xs[k1]? =none\/ys[k2]? =none)
  (hQ:∀h',(∀c o,c≠z->c≠i1->c≠i2->s.heap.get? c=some o->h'.get? c=some o)->Q none { s with heap:=h' }):wpAny (model prog w) A (pyNext (.ref z)) Q E s:=by
 have hT:s.TypeIs (.ref z) "zip":=⟨_,hz,rfl⟩;unfold pyNext
 have fin:∀(h':Heap) (e:Addr),(∀c o,c≠z->c≠i1->c≠i2->s.heap.get? c=some o->h'.get? c=some o)->(∃o,h'.get? e=some o/\o.cls= .type "StopIteration")->
   wpAny (model prog w) A (isInstance (.ref e) (.type "StopIteration") >>= λb=>if b=true then pure none else throw (.ref e)) Q E { s with heap:=h' }:=λh' e hk ⟨o,ho,hc⟩ =>
  Z00 (wpAny_isInstance (T:="StopIteration") (b:=true) ⟨o,ho,hc⟩ isSubtype_stop (Z04 (hQ _ hk)))
 refine Z00 (wpAny_attempt (Z1b (name:=Str.ofString "__next__") hT F.slot_zip_next (Z1g F.slot_zip_next hT F.entry_zip_next ?_ (F.args_zip_next_1 _))));show wpAny _ _ (field (.ref z) 2 >>= _) _ _ _;refine Z00 (Z11 hz rfl (x:= .bool false) rfl ?_);show wpAny _ _ (field (.ref z) 3 >>= _) _ _ _;refine Z00 (Z11 hz rfl (x:= .ref TI) rfl ?_);refine Z00 (Z21 hTI rfl ?_);show wpAny _ _ (Builtin.SmallTypes.ownedTupleIsFree (.ref z) >>= _) _ _ _;refine Z00 (B3v hz hp λg1 z1 b1=> ?_);simp only [Bool.false_eq_true,if_false];refine Z00 ?_;simp only [<-Array.forIn_toList,List.forIn_cons,List.forIn_nil];refine Z00 (Z00 (Z1w ?_));show wpAny _ _ (Builtin.SmallTypes.nextOf (.ref i1) >>= _) _ _ _;have u1:=N1.mv h1 λo e=>b1.extBut _ _ D.i1z e;have v1:=N1.mvS hl1 λo e=>b1.extBut _ _ D.l1z e
 cases hx:xs[k1]? with
 | none =>
  refine Z00 (N1.fin hh u1 v1 hx λg2 e b2 he=> ?_);exact fin g2 e (λc o c1 c3 _ x=>b2 _ _ c3 (b1.extBut _ _ c1 x)) he
 | some x =>
  have hy:ys[k2]? =none:=by
   rcases hend with h | h
   ·rw [hx] at h;cases h
   ·exact h
  refine Z00 (N1.item u1 v1 hx λg2 t2 b2=>Z04 (Z04 ?_));refine Z00 (Z00 (Z1w ?_));show wpAny _ _ (Builtin.SmallTypes.nextOf (.ref i2) >>= _) _ _ _;refine Z00 (N2.fin hh (N2.mv h2 λo e=>b2.extBut _ _ D.i12.symm (b1.extBut _ _ D.i2z e)) (N2.mvS hl2 λo e=>b2.extBut _ _ D.l2i1 (b1.extBut _ _ D.l2z e)) hy λg4 e b4 he=> ?_);exact fin g4 e (λc o c1 c3 c4 x=>b4 _ _ c4 (b2.extBut _ _ c3 (b1.extBut _ _ c1 x))) he
end
def ZS (z TI TO i1 i2 a b d:Addr) (i:Nat) (h:Heap):Prop:=IsPair h TI (.ref i1) (.ref i2)/\h.IsListIter i1 a i/\h.IsTupleIter i2 b i/\
 ((IsZip h z TI TO .none/\∃u v,IsPair h TO u v)\/∃(p:Addr) (o:Obj) (bb:Bool),B4c h z TI TO (rawInt (p:Int)) bb/\h.get? p=some o/\p≠z/\p≠i1/\p≠i2/\p≠d)
theorem ZS.at {z TI TO i1 i2 a b d:Addr} {i:Nat} {h h':Heap} (x:ZS z TI TO i1 i2 a b d i h) (nz:z≠d) (n1:TI≠d) (n2:TO≠d) (n3:i1≠d) (n4:i2≠d) (f:∀c o,c≠d->h.get? c=some o->h'.get? c=some o):ZS z TI TO i1 i2 a b d i h':=by
 obtain ⟨h1,h2,h3,h4⟩:=x;refine ⟨f _ _ n1 h1,(A1o i1 a).mv h2 λo e=>f _ _ n3 e,(A1g i2 b).mv h3 λo e=>f _ _ n4 e,?_⟩;rcases h4 with ⟨h4,u,v,h5⟩ | ⟨p,o,bb,h4,h5,m1,m2,m3,m4⟩
 ·exact .inl ⟨f _ _ nz h4,u,v,f _ _ n2 h5⟩
 ·exact .inr ⟨p,o,bb,f _ _ nz h4,f _ _ m4 h5,m1,m2,m3,m4⟩
section
variable {z TI TO i1 i2 a b d:Addr} {prog:Program} {w:World} {A:Around} {E:Value->Shared->Prop} {s:Shared}
theorem D3w {i:Nat} {xs ys:Array Value} {x y:Value} {Q:Option Value->Shared->Prop} (D:ZipApart z TI TO i1 i2 a b) (ld:d<s.heap.objs.size) (hz:ZS z TI TO i1 i2 a b d i s.heap) (hl:s.heap.IsList a xs) (ht:s.heap.IsTuple b ys) (hx:xs[i]? =some x) (hy:ys[i]? =some y)
  (hQ:∀h',ZS z TI TO i1 i2 a b d (i+1) h'->IsPair h' s.heap.objs.size x y->(∀c o,c≠z->c≠TO->c≠i1->c≠i2->s.heap.get? c=some o->h'.get? c=some o)->Q (some (.ref s.heap.objs.size)) { s with heap:=h' }) :
  wpAny (model prog w) A (pyNext (.ref z)) Q E s:=by
 obtain ⟨h1,h2,h3,h4⟩:=hz;have n4:i1<s.heap.objs.size:=let ⟨_,e,_⟩:=(A1o i1 a).ob h2;Z0a e;have n5:i2<s.heap.objs.size:=let ⟨_,e,_⟩:=(A1g i2 b).ob h3;Z0a e;rcases h4 with ⟨h4,u,v,h5⟩ | ⟨p,o,bb,h4,h5,m1,m2,m3,m4⟩
 ·have nz:z<s.heap.objs.size:=Z0a h4;refine A9z (A1o i1 a) (A1g i2 b) D h4 h1 h5 h2 h3 hl ht hx hy λh' z1 z2 z3 z4 z5 kp=> ?_;exact hQ h' ⟨kp _ _ D.TIz D.TITO D.TIi1 D.TIi2 h1,z3,z4,.inr ⟨s.heap.objs.size,_,false,z1,z5,Z1q nz,Z1q n4,Z1q n5,Z1q ld⟩⟩ z5 kp
 ·refine C9a (A1o i1 a) (A1g i2 b) D h4 h5 h1 h2 h3 hl ht hx hy λh' z1 z3 z4 z5 kp=> ?_;exact hQ h' ⟨kp _ _ D.TIz D.TIi1 D.TIi2 h1,z3,z4,.inr ⟨p,o,true,z1,kp _ _ m1 m2 m3 h5,m1,m2,m3,m4⟩⟩ z5 λc o c1 _ c3 c4 e=>kp c o c1 c3 c4 e
theorem D5o {i:Nat} {xs ys:Array Value} {Q:Option Value->Shared->Prop} (hh:A.handled=none) (D:ZipApart z TI TO i1 i2 a b) (hz:ZS z TI TO i1 i2 a b d i s.heap) (hl:s.heap.IsList a xs) (ht:s.heap.IsTuple b ys) (he:xs[i]? =none\/ys[i]? =none)
  (hQ:∀h',(∀c o,c≠z->c≠TO->c≠i1->c≠i2->s.heap.get? c=some o->h'.get? c=some o)->Q none { s with heap:=h' }):wpAny (model prog w) A (pyNext (.ref z)) Q E s:=by
 obtain ⟨h1,h2,h3,h4⟩:=hz;rcases h4 with ⟨h4,u,v,h5⟩ | ⟨p,o,bb,h4,h5,m1,m2,m3,m4⟩
 ·exact B7d (A1o i1 a) (A1g i2 b) hh D h4 h1 h5 h2 h3 hl ht he hQ
 ·exact D2n (A1o i1 a) (A1g i2 b) hh D h4 h5 h1 h2 h3 hl ht he λh' kp=>hQ h' λc o c1 _ c3 c4 e=>kp c o c1 c3 c4 e
end
section
variable {prog:Program} {w:World} {K:Type} [DecidableEq K] {knd:KeyKind prog w K} {A:Around} {R:Result->Shared->Prop} {z TI TO i1 i2 a b d:Addr} {xs ys:Array Value} {rs:List (K×Value)} {h₀:Heap} {g:Array GenState} {dr:Drawn} {os:OsState}
theorem C7u (hh:A.handled=none) (D:ZipApart z TI TO i1 i2 a b) (nz:z≠d) (n1:TI≠d) (n2:TO≠d) (n3:i1≠d) (n4:i2≠d) (na:a≠d) (nb:b≠d) (hsz:rs.length<=sizeLine)
  (pa:∀(i:Nat) (k:K) (u:Value),rs[i]? =some (k,u)->∃kv,xs[i]? =some kv/\ys[i]? =some u/\knd.is k kv=true) (he:xs[rs.length]? =none\/ys[rs.length]? =none) (hl:h₀.IsList a xs) (ht:h₀.IsTuple b ys) (aTO:a≠TO) (a1:a≠i1) (a2:a≠i2) (az:a≠z) (bTO:b≠TO) (b1:b≠i1) (b2:b≠i2) (bz:b≠z)
  (fin:∀h' tk,h'.DictOf knd d (merged [] rs)->(∀c o,c≠z->c≠TO->c≠i1->c≠i2->c≠d->h₀.get? c=some o->h'.get? c=some o)->R (.ok (.ret .none)) ⟨h',g,dr,tk,os⟩) :
  ∀(k i:Nat) (h:Heap) (tk:Nat),rs.length-i=k->i<=rs.length->ZS z TI TO i1 i2 a b d i h->(∀c o,c≠z->c≠TO->c≠i1->c≠i2->c≠d->h₀.get? c=some o->h.get? c=some o)->h.DictOf knd d (merged [] (rs.take i))->
   codeAny (model prog w) A (.builtin "dict.update.loop" ⟨[.ref d,.ref z,rawInt i,.none],[]⟩) R ⟨h,g,dr,tk,os⟩:=by
 intro k
 induction k with
 | zero =>
  intro i h tk hk hi hit kp hD;have hin':i=rs.length:=by lia
  refine codeAny_builtin A4o ?_;rw [Around.under_plainId A2d _];show wpAny _ A.in1 (pyNext (.ref z) >>= _) _ _ _;refine Z00 (D5o (s:=⟨h,g,dr,tk,os⟩) (by simpa using hh) D hit (hl.at λo e=>kp a o az aTO a1 a2 na e) (let ⟨o,e,r⟩:=ht;⟨o,kp b o bz bTO b1 b2 nb e,r⟩) (by rw [hin'];exact he) λh' kp'=> ?_);show wpAny _ A.in1 (Builtin.Dict.addKeywords d [] >>= λ_=>ret Value.none) _ _ _;rw [hin',Z18] at hD;obtain ⟨od,es,ep,ho,r⟩:=hD;exact Z00 (Z04 (Z04 (fin h' tk ⟨od,es,ep,kp' d od nz.symm n2.symm n3.symm n4.symm ho,r⟩ λc o c1 c2 c3 c4 c5 e=>kp' c o c1 c2 c3 c4 (kp c o c1 c2 c3 c4 c5 e))))
 | succ k ih =>
  intro i h tk hk hi hit kp hD;have hlt:i<rs.length:=by lia
  obtain ⟨⟨k',u⟩,hku⟩:∃p,rs[i]? =some p:=⟨rs[i],Z0b _⟩;obtain ⟨kv,hx,hy,his⟩:=pa i k' u hku;refine codeAny_builtin A4o ?_;rw [Around.under_plainId A2d _];show wpAny _ A.in1 (pyNext (.ref z) >>= _) _ _ _;have ld:d<h.objs.size:=let ⟨_,_,_,e,_⟩:=hD;Z0a e;refine Z00 (D3w (s:=⟨h,g,dr,tk,os⟩) D ld hit (hl.at λo e=>kp a o az aTO a1 a2 na e) (let ⟨o,e,r⟩:=ht;⟨o,kp b o bz bTO b1 b2 nb e,r⟩) hx hy λh' zs pr kp'=> ?_);have pr:IsPair h' h.objs.size kv u:=pr;have hT:(⟨h',g,dr,tk,os⟩:Shared).TypeIs (.ref h.objs.size) "tuple":=⟨_,pr,rfl⟩;show wpAny _ A.in1 (holding [Value.ref h.objs.size] _ >>= _) _ _ _;refine Z00 (Z1w (Z00 (wpAny_tryCatch ?_)));unfold Builtin.Dict.pairItems;refine Z00 (wpAny_typeOf hT ?_);rw [Z12 (by decide)];refine Z00 (Z21 pr rfl (Z04 ?_));show wpAny _ A.in1 (holding [kv,u] (dictSet d kv u)) _ _ _
  have hD':h'.DictOf knd d (merged [] (rs.take i)):=by
   obtain ⟨od,es,ep,ho,r⟩:=hD;exact ⟨od,es,ep,kp' d od nz.symm n2.symm n3.symm n4.symm ho,r⟩
  have hlen:(merged [] (rs.take i)).length<=sizeLine:=by
   have e1:=merged_length_le ([]:List (K×Value)) (rs.take i);have e2:(rs.take i).length<=rs.length:=by rw [Z0x];lia
   simp only [List.length_nil,Nat.zero_add] at e1
   lia
  refine Z1w (wpAny_dictSet_pairs (hsz:=hlen) (s:=⟨h',g,dr,tk,os⟩) his hD' λh2 hD2 sb=> ?_);rw [<-merged_take_succ [] rs i (k',u) hku] at hD2;refine Z04 ⟨plainId_quiet A2d _,ih (i+1) h2 _ (by lia) (by lia) (zs.at nz n1 n2 n3 n4 λc o hc e=>(sb.2 c hc).trans e) ?_ hD2⟩;intro c oc c1 c2 c3 c4 c5 e;exact (sb.2 c c5).trans (kp' c oc c1 c2 c3 c4 (kp c oc c1 c2 c3 c4 c5 e))
end
theorem A9m:typeLookup (.type "zip") "__getattr__"=pure none:=by rw [typeLookup_type,builtinLookup_eq_fast];kernel_rfl
theorem A6g:entryFor table "zip.__getattribute__"=some Builtin.«object.__getattribute__» :=
 entryFor_alias (id':="object.__getattribute__") (by kernel_rfl) (by decide +kernel) (by decide +kernel) (by kernel_rfl)
theorem C3b:typeLookup (.type "zip") "keys"=pure none:=by rw [typeLookup_type,builtinLookup_eq_fast];kernel_rfl
theorem B4k (a:Addr) (fs:Array Value) (sl:Array (Option Value)) (name:Str) (u:Tok) (hmiss:typeLookup (.type "zip") name=pure none) (hname:(["__module__","__name__","__qualname__","__doc__","__annotations__"]:List Str).contains name=false) (hsz:name.length+100<=sizeLine:=by size_fits) :
  Meets (Builtin.«object.__getattribute__» ⟨[.ref a,.str name u],[]⟩) (λA R s=>s.heap.get? a=some { cls:= .type "zip",dict:=none,data:= .fields fs,slots:=sl }/\raisesAttr (.ref a) name A R s) :=
 Meets.of_wp λprog w A R s hs=>by
  obtain ⟨hp,g,d,tk,os⟩:=s;obtain ⟨hx,hs⟩:=hs;have hT:(⟨hp,g,d,tk,os⟩:Shared).TypeIs (.ref a) "zip":=⟨_,hx,rfl⟩;unfold Builtin.«object.__getattribute__»
  repeat (any_goals (first | assumption | wp_step))
  simp only [hname,Bool.false_eq_true,if_false]
  repeat (any_goals (first | assumption | wp_step))
  exact wpAny_raiseAttrError hs.1 hs.2 (attrMsg_fits (by decide +kernel) hsz)
theorem C2z {prog:Program} {w:World} {A:Around} {E:Value->Shared->Prop} {s:Shared} {a:Addr} {fs:Array Value} {sl:Array (Option Value)} {Q:Option Value->Shared->Prop}
  (hx:s.heap.get? a=some { cls:= .type "zip",dict:=none,data:= .fields fs,slots:=sl }) (hA:A.handled=none)
  (h:∀h' tk,(∀b ob,s.heap.get? b=some ob->h'.get? b=some ob)->Q none { s with heap:=h',toks:=tk }):wpAny (model prog w) A (getAttr? (.ref a) "keys") Q E s:=by
 obtain ⟨hp,g,d,tk,os⟩:=s;have hT:∀tk',(⟨hp,g,d,tk',os⟩:Shared).TypeIs (.ref a) "zip":=λ_=>⟨_,hx,rfl⟩;have f1:=sub_AttributeError;have f3:=F.slot_zip_getattribute.lookup;have f4:=F.slot_zip_getattribute.bind (.ref a);have f5:=A9m;unfold getAttr? getAttrBy? getAttrBy
 repeat (any_goals (first | assumption | exact hT _ | ((with_reducible show wpAny _ _ (call (Value.builtin "zip.__getattribute__") _ _) _ _ _);refine call_meets F.slot_zip_getattribute (hT _) A6g (F.args_zip_getattribute_2 _ _) (B4k a fs sl "keys" _ C3b (by decide) (by decide)) ⟨hx,hA,λh' tk' e hx'=> ?_⟩) | wp_step))
 obtain ⟨t',u',he⟩:=hx'.there;show wpAny _ _ (getattributeRaised _ _ _ _ _ _ _) _ _ _;unfold getattributeRaised
 repeat (any_goals (first | assumption | wp_step))
 all_goals exact h _ _ hx'.1
def tDZ (K:PySem.W.Frag) (ta:TA):TE:=λσ H Q=>ta σ H λvs H1=>∃l t ks us,vs=[.ref l,.ref t]/\SqL K H1 l ((ks:List Key).map kV)/\SqT K H1 t us/\ks.length=us.length/\∀p,H1 p=none->Q (.ref p) (upd H1 p (.dK (A1b [] (ks.zip us))))
theorem D1u:∀{ks:List Key} {us:List V} {vs:List Value},ks.length=us.length->A2u us vs->KV (ks.zip us) (ks.zip vs)
 | [],[],_,_,.nil=> .nil
 | k::ks,u::us,_,h,.cons r t=> .cons ⟨rfl,r⟩ (D1u (by simpa using h) t)
theorem C2f {P:Program} {w:World}:∀{ks:List Key} {its:List Value},A2u (ks.map kV) its->∀{i:Nat} {k:Key},ks[i]? =some k->∃v,its[i]? =some v/\(A2c P w).is k v=true
 | [],_,.nil,i,k,h=>by simp at h
 | _::_,_,.cons r t,0,k,h=>by simp at h;subst h;exact ⟨_,rfl,C0p r⟩
 | _::_,_,.cons r t,i+1,k,h=>by
  obtain ⟨v,e1,e2⟩:=C2f (P:=P) (w:=w) t (i:=i) (k:=k) (by simpa using h);exact ⟨v,by simpa using e1,e2⟩
section
variable {X:Cx}
theorem C3l {a b:Expr} {ta:TA} {p1 p2 pos1 pos2:Pos} (hc:X.calm=true) (hgd:Gl X "dict") (hmd:X.mg "dict"=none) (hgz:Gl X "zip") (hmz:X.mg "zip"=none) (ha:PA X [a,b] ta)
  (hs0:starEach [.Call (.Name "zip" p2) [a,b] [] pos2] X.env=(false,eval (.Call (.Name "zip" p2) [a,b] [] pos2) X.env)::starEach [] X.env:=by rfl)
  (hs:starEach [a,b] X.env=[(false,eval a X.env),(false,eval b X.env)]:=by rfl) (hs2:starEach [b] X.env=[(false,eval b X.env)]:=by rfl) :
  PE X (.Call (.Name "dict" p1) [.Call (.Name "zip" p2) [a,b] [] pos2] [] pos1) (tDZ X.K ta):=by
 intro pins s σ H Q I h;have hh:X.A.handled=none:=I.ok.hd hc;refine wpAny_Call_Name_kw (A7f I hgd hmd boot_dict ?_);refine PyProof.Rows.callWith_type1 ?_ hs0 (by rfl);rw [hs0];show wpAny _ _ (spliced ((false,eval _ X.env)::backTo pos1 (starEach [] X.env))) _ _ s;refine Calls.spliced_cons ?_;refine Call_ (A7f I hgz hmz boot_zip (PyProof.Rows.callWith_type1 (thn (ha pos2 pins s σ H _ I h) λus s1 ⟨vs,H1,I1,r1,q1⟩=> ?_) (by rw [hs,hs2]) (by rw [hs2];rfl)));obtain ⟨l1,l2,ks,ws,e,hq1,hq2,hle,q⟩:=q1;subst e;obtain ⟨u,u2,rfl,ru,ru2⟩:=B4u r1;cases ru;cases ru2;obtain ⟨its,rv,p1',zk⟩:=I1.list hq1;obtain ⟨its2,rv2,p2',_⟩:=I1.tuple hq2;have t1:l1<s1.heap.objs.size:=let ⟨_,e,_⟩:=p1'.isList;Z0a e;have t2:l2<s1.heap.objs.size:=p2'.lt;have e1:=rv.length;have e2:=rv2.length;rw [Z08] at e1;have hn:=I1.hok.fresh (Z09 s1.heap.objs.size);refine B3i p1'.isList (show s1.heap.IsTuple l2 its2.toArray from p2') λh' zs kp=>Calls.spliced_nil ?_;obtain ⟨hz,hTI,⟨tu,tv,hTO⟩,hi1,hi2⟩:=zs;have D:=zipApart_new t1 t2;have lz:s1.heap.objs.size+4<h'.objs.size:=Z0a hz;refine callType_codes (Q₁:=λobj s₁=>obj= .ref h'.objs.size/\s₁={ s1 with heap:=h'.push { cls:= .type "dict",data:= .dict #[] } }) F.kt_called_dict (F.kt_typeCall_dict_1 _) F.entry_dict_init (kt_code_dict_new (s:={ s1 with heap:=h' }) _ ⟨rfl,rfl⟩) ?_;rintro obj s₁ ⟨rfl,rfl⟩;have hnew:(h'.push { cls:= .type "dict",data:= .dict #[] }).DictOf (A2c X.prog X.w) h'.objs.size []:=Heap.DictOf.new h';have ez:(h'.push { cls:= .type "dict",data:= .dict #[] }).get? (s1.heap.objs.size+4)=some _:=Z01 _ hz;have hTz:Shared.TypeIs { s1 with heap:=h'.push { cls:= .type "dict",data:= .dict #[] } } (.ref (s1.heap.objs.size+4)) "zip":=⟨_,ez,rfl⟩;refine ⟨hnew.typeIs,F.args_dict_init_2 _ _,?_⟩;unfold Builtin.«dict.__init__»;refine Z00 ?_;unfold Builtin.Dict.selfAndRest;refine Z00 (wpAny_notOrdered_dict hnew.typeIs ?_);show wpAny _ _ (pure (h'.objs.size,[Value.ref (s1.heap.objs.size+4)])) _ _ _;refine Z04 ?_;show wpAny _ _ (Builtin.Dict.updateFrom "dict.__init__" h'.objs.size (.ref (s1.heap.objs.size+4)) [] .none) _ _ _;unfold Builtin.Dict.updateFrom;refine Z00 (wpAny_typeOf hTz ?_);rw [Z12 (by decide)];refine Z00 (C2z ez (by simpa using hh) λh1 tk1 kp1=> ?_)
 rw [Z12 (show (none:Option Value).isNone=true from rfl)];refine Z00 (wpAny_rule ?_);refine Z00 (wpAny_pyIter_zip (s:={ s1 with heap:=h1,toks:=tk1 }) (kp1 _ _ ez) ?_);have up:∀c o,h'.get? c=some o->h1.get? c=some o:=λc o e=>kp1 _ _ (Z01 _ e)
 have lr:(ks.zip its2).length=ks.length:=by rw [List.length_zip];lia
 have q1:∀i:Nat,i<=4->s1.heap.objs.size+i≠h'.objs.size:=λi hi z=>by lia
 have q2:∀c:Nat,c<s1.heap.objs.size->c≠h'.objs.size:=λc hc z=>by lia
 have q3:∀c i:Nat,c<s1.heap.objs.size->c≠s1.heap.objs.size+i:=λc i hc z=>by lia
 have le':s1.heap.objs.size<=h'.objs.size:=by lia
 have z1:ks.length<=sizeLine:=by rw [Z08] at zk;exact zk
 refine Z04 ⟨plainId_quiet A2d _,C7u (knd:=A2c X.prog X.w) (rs:=ks.zip its2) (xs:=its.toArray) (ys:=its2.toArray) (h₀:=h1) (by simpa using hh) D (q1 4 (by decide)) (q1 2 (by decide)) (q1 3 (by decide)) (q1 0 (by decide)) (q1 1 (by decide)) (q2 _ t1) (q2 _ t2) (by rw [lr];exact z1) (λi k u hr=> ?_) ?_ (p1'.isList.at λo e=>up _ _ (kp _ _ e)) (let ⟨o,e,r⟩:=p2';⟨o,up _ _ (kp _ _ e),r⟩) (q3 _ 3 t1) (q3 _ 0 t1) (q3 _ 1 t1) (q3 _ 4 t1) (q3 _ 3 t2) (q3 _ 0 t2) (q3 _ 1 t2) (q3 _ 4 t2) (λh2 tk dd kp2=> ?_) (ks.zip its2).length 0 h1 _ (by lia) (Z1e _) ⟨up _ _ hTI,(A1o _ l1).mv hi1 λo e=>up _ _ e,(A1g _ l2).mv hi2 λo e=>up _ _ e,.inl ⟨up _ _ hz,tu,tv,up _ _ hTO⟩⟩ (λ_ _ _ _ _ _ _ z=>z) ?_⟩
 ·obtain ⟨g1,g2⟩:=List.getElem?_zip_eq_some.mp hr;obtain ⟨kv,g3,g4⟩:=C2f (P:=X.prog) (w:=X.w) rv g1;exact ⟨kv,by simpa using g3,by simpa using g2,g4⟩
 ·left;rw [lr];simp
  lia
 ·have kv:=D1u hle rv2;refine ⟨rfl,.ref h'.objs.size,_,I1.laid (t':=tk) (o:= .dK (A1b [] (ks.zip ws))) (λb u eb=> ?_) le' ⟨?_,?_,_,KV.merge kv .nil,dd⟩,rfl,q _ (I1.hok.fresh le')⟩
  ·have lb:=Z0a eb;exact kp2 b u (q3 _ 4 lb) (q3 _ 3 lb) (q3 _ 0 lb) (q3 _ 1 lb) (q2 _ lb) (up _ _ (kp _ _ eb))
  ·have:=A2t (ks.zip ws) [];have lw:(ks.zip ws).length=ks.length:=by rw [List.length_zip];lia
   simp only [List.length_nil] at this
   lia
  ·have:=I1.big;have hne:h'.objs.size≠sysModules:=Z1q (Z0q this le')
   simpa using hne
 ·obtain ⟨od,es,ep,g,r⟩:=hnew;exact ⟨od,es,ep,kp1 _ _ g,r⟩
end
section
variable {prog:Program} {w:World} {A:Around} {E:Value->Shared->Prop} {h:Heap} {g:Array GenState} {d:Drawn} {t:Nat} {os:OsState}
variable {nm q:Str} {C N:Addr} {bs bm bmB:List Value} {hdct:Bool} {sn:List Str} {sub:List Value} {ab:Bool} {col:Option Bool} {dd:Option Addr} {k0 k1 k2 k3 k5:Option Value} {B Bn newId nid initId inN:String} {bmN:List Value}
theorem A9c (Fn:ExcBaseFacts Bn newId inN bmN) (hBn:bmB.contains (.type Bn)=true) (F:ExcBaseFacts B nid initId bmB) (T:OwnTail h bmB bm) {mN:Str->Option Value} {rest:List Value} {fI:Addr} {oI:Obj} {Q:Fin->Shared->Prop}
  (hC:h.get? C=some (excClassObj nm q C N bs bm hdct sn sub ab col dd k0 k1 k2 k3 k5 newId)) (hn:h.Ns N mN) (hi:mN "__init__"=some (.ref fI))
  (hfI:h.get? fI=some oI) (hfc:oI.cls= .type "function")
  (hq:∀h' e,Heap.MadeExcOf h h' e (.ref C) rest->
   wpAny (model prog w) A (call (.ref fI) (.ref e::rest)) (λr s'=>r= .none/\Q (.done (.ret (.ref e))) s') E ⟨h',g,d,t,os⟩) (hrest:rest.length<=sizeLine) :
  wpAny (model prog w) A (Builtin.«type.__call__» ⟨.ref C::rest,[]⟩) Q E ⟨h,g,d,t,os⟩:=by
 repeat (first | with_reducible refine Z1k hC ?_ | with_reducible refine wpAny_madeBy_exc hC ?_ | wp_step)
 refine codeAny_call_builtin_code (Code.quiet_builtin _ Fn.quiet) (wpAny_check_new_subU Fn hBn T hC ?_);refine codeAny_exc_new_subU Fn hBn F T hC ?_ hrest;show wpAny _ _ _ _ _ _
 have hC₁:=Z01 { cls:= .ref C,data:= .fields #[.ref h.objs.size,.none,.none,.none,.bool false,.none] }
  (Z01 { cls:= .type "tuple",data:= .seq rest.toArray } hC)
 have hfI₁:=Z01 { cls:= .ref C,data:= .fields #[.ref h.objs.size,.none,.none,.none,.bool false,.none] }
  (Z01 { cls:= .type "tuple",data:= .seq rest.toArray } hfI)
 have hn₁:((h.push { cls:= .type "tuple",data:= .seq rest.toArray }).push { cls:= .ref C,data:= .fields #[.ref h.objs.size,.none,.none,.none,.bool false,.none] }).Ns N mN :=
  let ⟨o,es,ep,e,r⟩:=hn;⟨o,es,ep,Z01 _ (Z01 _ e),r⟩
 have hget:((h.push { cls:= .type "tuple",data:= .seq rest.toArray }).push
   { cls:= .ref C,data:= .fields #[.ref h.objs.size,.none,.none,.none,.bool false,.none] }).get? (h.objs.size+1)=some
   { cls:= .ref C,data:= .fields #[.ref h.objs.size,.none,.none,.none,.bool false,.none] }:=by heap_get
 have hcC:(Value.ref C::bm).contains (.ref C)=true:=by simp
 have T₁:=T.keeps (h':=(h.push { cls:= .type "tuple",data:= .seq rest.toArray }).push { cls:= .ref C,data:= .fields #[.ref h.objs.size,.none,.none,.none,.bool false,.none] })
  λb o e=>Z01 _ (Z01 _ e)
 unfold isInstance
 repeat (first | with_reducible refine Z1k hget ?_ | (with_reducible refine wpAny_isSubtype_exc hC₁ ?_;rw [hcC]) | wp_step)
 show wpAny _ _ (typeLookup (.ref C) _) _ _ _;refine wpAny_typeLookup_tail hC₁ hn₁ T₁ F.mroIs F.init.lookup ?_;rw [hi];refine Z1w (Z00 ?_);unfold bindSpecial;refine Z00 (wpAny_typeOf (T:="function") ⟨_,hfI₁,hfc⟩ ?_);rw [Z12 (by decide)];refine Z04 (Z00 (Z10 (hq _ (h.objs.size+1) ⟨λb o hb=>Z01 _ (Z01 _ hb),Heap.get?_none_of_le (Nat.le_succ _),h.objs.size,hget,Heap.get?_none_of_le (Z09 _),?_⟩) (λr s' hr=> ?_) λ_ _ x=>x))
 ·exact Z01 _ (Heap.get?_push_at rfl rfl)
 ·obtain ⟨rfl,hQ⟩:=hr
  wp_walk
  exact hQ
theorem B4s (Fn:ExcBaseFacts Bn newId inN bmN) (hBn:bmB.contains (.type Bn)=true) (F:ExcBaseFacts B nid initId bmB) (T:OwnTail h bmB bm) {mN:Str->Option Value} {rest:List Value} {fI:Addr} {oI:Obj} {Q:Value->Shared->Prop}
  (hC:h.get? C=some (excClassObj nm q C N bs bm hdct sn sub ab col dd k0 k1 k2 k3 k5 newId)) (hn:h.Ns N mN) (hi:mN "__init__"=some (.ref fI))
  (hfI:h.get? fI=some oI) (hfc:oI.cls= .type "function")
  (hq:∀h' e,Heap.MadeExcOf h h' e (.ref C) rest->
   wpAny (model prog w) (A.under (.builtin "type.__call__" ⟨.ref C::rest,[]⟩)) (call (.ref fI) (.ref e::rest)) (λr s'=>r= .none/\Q (.ref e) s') E ⟨h',g,d,t,os⟩) (hrest:rest.length<=sizeLine) :
  wpAny (model prog w) A (call (.ref C) rest) Q E ⟨h,g,d,t,os⟩:=by
 have f1:=tc_lookup;have f2:=tc_bind (.ref C);have hT:(⟨h,g,d,t,os⟩:Shared).TypeIs (.ref C) "type":=⟨_,hC,rfl⟩;refine wpAny_call (codeAny_of_tree ?_);show wpAny _ _ (callAny (.ref C) _) _ _ _
 repeat (any_goals (first | assumption | with_reducible refine Z1k hC ?_ | wp_step))
 refine ⟨rfl,?_⟩;refine codeAny_call_builtin_at (Code.quiet_builtin _ (by decide +kernel)) entry_typeCall (wpAny_check_type_call_sub hC (A9c (hrest:=hrest) Fn hBn F T hC hn hi hfI hfc λh' e hm=> ?_));exact hq h' e hm
end
end L2
namespace PySem.W
open PySem PySem.Spec PySem.Calls PyProof.Rows PySem.Builtin.ObjectAttr PySem.Builtin
def A7y:List Value->Bool
 | [.type a,.type b,.type c,.type d]=>a == "ValueError"&&b == "Exception"&&c == "BaseException"&&d == "object"
 | .ref _::r=>A7y r
 | _=>false
theorem B5d (self:Value):∀{l:List Value},A7y l=true->refuseLoop self "__setattr__" l=pure ()
 | [.type a,.type b,.type c,.type d],e=>by
  simp only [A7y,Z1x,beq_iff_eq] at e;obtain ⟨⟨⟨rfl,rfl⟩,rfl⟩,rfl⟩:=e;exact PySem.F.store_ValueError.passes self
 | .ref c::r,e=>by rw [refuseLoop_ref];exact B5d self (show A7y r=true from e)
theorem C7a:∀{l:List Value},A7y l=true->l.contains (.type "object")=true
 | [.type a,.type b,.type c,.type d],e=>by
  simp only [A7y,Z1x,beq_iff_eq] at e;obtain ⟨⟨⟨rfl,rfl⟩,rfl⟩,rfl⟩:=e;decide
 | .ref c::r,e=>by rw [List.contains_cons,C7a (l:=r) (show A7y r=true from e),Bool.or_true]
def excOver (K:Frag) (C:Addr):Bool:=(clsIn K C).any λcd=>A7y cd.mro
section
variable {prog:Program} {w:World} {A:Around} {R:Result->Shared->Prop} {s:Shared} {K:Frag} {x C:Addr}
theorem B7q {ox:Obj} {od:Option Obj} {name:Str} {tk:Tok} {v:Value} (X:K.In s.heap) (I:InstAt s.heap x ox C od) (hp:excOver K C=true) (ht:takerIn K C name=some none)
  (h:∀b,wpAny (model prog w) A.in1 (storeInOwnDict (.ref x) (.ref C) (.str name tk) name v b)
   (λfin s'=>match fin with | .done f=>R (.ok f) s' | .again c'=>c'.quiet=true/\codeAny (model prog w) A c' R s') (λe s'=>R (.error e) s') s) :
  codeAny (model prog w) A (.call (.builtin "object.__setattr__") ⟨[.ref x,.str name tk,v],[]⟩) R s:=by
 have SF:=PySem.F.store_object;obtain ⟨cd,hc,ho⟩:=any_some hp;have ne:cd.mro.isEmpty=false:=by cases q:cd.mro with | nil=>rw [q] at ho;cases ho | cons _ _=>rfl
 have sub:Looks (model prog w) s.heap (isInstance (.ref x) (.type "object")) true:=I.type.andThen (looks_mroIn X (by unfold mroIn;rw [hc,Option.bind_some,Z0t (by rw [ne];decide),C7a ho]));refine codeAny_call_builtin SF.slot.plain SF.entry (@check_slot (model prog w) _ _ s "object.__setattr__" "object" "__setattr__" (.ref x) [.str name tk,v] [] _ SF.kind SF.split sub (SF.args (.ref x) (.str name tk) v) ?_);obtain ⟨attr,ha,hr⟩:=Option.bind_eq_some_iff.mp ht;have hm:Looks (model prog w) s.heap (mroOf (.ref C)) cd.mro:=(looks_clsIn X hc).andThen .now
 have L3:Looks (model prog w) s.heap (storeTaker? attr) none:=by
  cases attr with
  | none=>cases hr;exact .now
  | some a =>
   obtain ⟨b,hb,e⟩:=Z0i.mp hr
   cases b with
   | true=>cases e
   | false=>exact (looks_takesIn X hb).andThen .now
 rw [osa_eq,refuse_eq];refine Z00 (Z00 (I.type.here (Z00 (hm.here ?_))));rw [B5d _ ho];refine Z04 (Z00 (I.type.here (Z00 ((looks_findIn X ha).here (Z00 (L3.here ?_))))));exact h _
theorem exc_setattr {E:Value->Shared->Prop} {ox:Obj} {vs:Array Value} {name:Str} {v:Value} {Q:Unit->Shared->Prop} (X:K.In s.heap) (hx:s.heap.get? x=some ox) (hcl:ox.cls= .ref C) (hdn:ox.dict=none) (hdt:ox.data= .fields vs)
  (hs:findIn K (.ref C) "__setattr__"=some (some (.builtin "object.__setattr__"))) (hp:excOver K C=true) (ht:takerIn K C name=some none) (hh:(clsIn K C).any (·.hasDict)=true)
  (h:∀h' tk,h'.get? x=some { ox with dict:=some s.heap.objs.size }->h'.Ns1 s.heap.objs.size (λy=>if y=name then some v else none)->(∀b o,b≠x->s.heap.get? b=some o->h'.get? b=some o)->Q () { s with heap:=h',toks:=tk }) :
  wpAny (model prog w) A (setAttr (.ref x) name v) Q E s:=by
 obtain ⟨hp0,g,d,t,os⟩:=s;dsimp only at X hx h;have I:InstAt hp0 x ox C none:=⟨hx,hcl,by obtain ⟨_,_,d,_⟩:=ox;cases hdt;rfl,by rw [hdn];exact True.intro⟩;refine set_plain X I hs (B7q (s:=⟨hp0,g,d,t+1,os⟩) X I hp ht λb=> ?_);obtain ⟨cd,hc,hd'⟩:=any_some hh;obtain ⟨oc,odi,oda,osl⟩:=ox;dsimp only at hcl hdn hdt;subst hcl hdn hdt;have L:=looks_clsIn (M:=model prog w) X hc;refine Z00 (Z04 (Z00 (Z00 (wpAny_loadPart hx (Z00 (Looks.here (s:=⟨hp0,g,d,t+1,os⟩) L ?_))))));rw [hd'];have hx₁:(hp0.push { cls:= .type "dict",data:= .dict #[] }).get? x=some { cls:= .ref C,data:= .fields vs,slots:=osl }:=Z01 _ hx;have hxs:x≠hp0.objs.size:=Z0h (Z0a hx);show wpAny _ _ (if (!true|| !typeHasDict (.ref C))=true then pure none else (alloc { cls:=Value.type "dict",data:=Data.dict #[] } >>= λd=>update x (λo=>{ cls:=o.cls,dict:=some d,data:=o.data,slots:=o.slots }) >>= λ_=>dictMade (.ref C) x d)) _ _ _;rw [Z0t (by simp [typeHasDict])];refine Z00 (wpAny_alloc' ?_);refine Z00 (wpAny_update' hx₁ ?_);refine Z04 ?_
 have hgd:((hp0.push { cls:= .type "dict",data:= .dict #[] }).update x λo=>{ cls:=o.cls,dict:=some hp0.objs.size,data:=o.data,slots:=o.slots }).get? hp0.objs.size
   = some { cls:= .type "dict",data:= .dict #[] } :=
  (Heap.get?_update_ne _ _ _ _ hxs.symm).trans (Heap.get?_push_at rfl rfl)
 have hnd:((hp0.push { cls:= .type "dict",data:= .dict #[] }).update x λo=>{ cls:=o.cls,dict:=some hp0.objs.size,data:=o.data,slots:=o.slots }).Ns hp0.objs.size (λ_=>none) :=
  ⟨_,#[],_,hgd,rfl,λe he=>absurd he (by simp),λ_=>rfl⟩
 show wpAny _ _ (storeInDict hp0.objs.size (.str name t) name v) _ _ _;unfold storeInDict newKeyGuard;refine Z00 (Z04 (Z00 (wpAny_nsSet1 (Heap.Ns1.of_empty hnd) λh' hn' hs=> ?_)));obtain ⟨oD,esD,epD,hoD,hdD,hcD⟩:=hn'.count (Within.cons name v Within.nil);refine Z00 (wpAny_lookBehind hoD (by rw [hdD];exact pastItsLine_dict (Z1n hcD (by rw [Z0y,List.length_nil,sizeLine_eq];lia))) ?_);refine Z04 ?_;refine h h' _ ((hs.2 x hxs).trans (Z1r _ hx₁ rfl)) hn' λb o hb e=> ?_;exact (hs.2 b (Z0h (Z0a e))).trans ((Heap.get?_update_ne _ _ _ _ hb).trans (Z01 _ e))
end
end PySem.W
namespace L2
open PySem PySem.Spec PyProof.Rows
section
variable {X:Cx} {pins:List (Addr×Obj)} {σ:St} {H H1:Hp} {s s1:Shared} {a:Addr} {o:HO}
theorem Inv.trackO (I1:Inv X pins σ H1 s1) (I:Inv X pins σ H s) (hn:s1.heap.get? a=none) (hH:H a=none) (new:A1y X.prog X.w (upd H a o) s.heap a o):Inv X pins σ (upd H a o) s:=by
 have ne1:∀b o,s1.heap.get? b=some o->b≠a:=λb o e z=>by
  rw [z,hn] at e;cases e
 have up:∀b u,H b=some u->upd H a o b=some u:=λb u e=>by
  rw [A0h (A0k e hH)];exact e
 refine ⟨I.ok,I.os,I.bare,⟨I.base.keep,I.base.slot,λb o e n hb=> ?_,I.base.there,λb xs e=>up _ _ (I.base.tups b xs e),λb o u e=>up _ _ (I.base.frzs b o u e),λb ps e=> ?_⟩,I.loc,I.cell,?_,λx c e=> ?_,λp hp=> ?_,λb u e=> ?_,I.len⟩
 ·obtain ⟨o1,e1⟩:=I1.base.there b o e hb;rw [A0h (ne1 b o1 e1)];exact I.base.free b o e n hb
 ·obtain ⟨m,q⟩:=I.base.tbls b ps e;exact ⟨m,up _ _ q⟩
 ·obtain ⟨m,⟨o,_,_,ho,_⟩,_⟩:=I1.loc;rw [A0h (ne1 _ o ho)];exact I.free
 ·obtain ⟨v,o,ho,_⟩:=I1.cell x c e;rw [A0h (ne1 _ o ho)];exact I.freeC x c e
 ·obtain ⟨e,n,r⟩:=I.pin p hp;have e1:=(I1.pin p hp).1;exact ⟨e,by rw [A0h (ne1 _ _ e1)];exact n,r⟩
 ·by_cases hb:b=a
  ·subst hb;rw [A0b] at e;cases e;exact new
  ·rw [A0h hb] at e;exact (I.hok b u e).stay (λ_ _ _ q=>q) (λc q=>up _ _ q) λc xs q=>up _ _ q
end
def B0z (C t:Addr) (d:Option Addr):Obj:={ cls:= .ref C,dict:=d,data:= .fields #[.ref t,.none,.none,.none,.bool false,.none] }
def xcN (e C t:Addr):HO:= .ext λh=>h.get? e=some (B0z C t none)
def xcD (e C t dx:Addr):HO:= .ext λh=>h.get? e=some (B0z C t (some dx))
theorem D6i {P:Program} {w:World} {H:Hp} {h:Heap} {e C t:Addr} (q:h.get? e=some (B0z C t none)):A1y P w H h e (xcN e C t):=⟨q,⟨_,q⟩,λh1 h2 p k=>k _ p⟩
theorem D6v {P:Program} {w:World} {H:Hp} {h:Heap} {e C t dx:Addr} (q:h.get? e=some (B0z C t (some dx))):A1y P w H h e (xcD e C t dx):=⟨q,⟨_,q⟩,λh1 h2 p k=>k _ p⟩
structure B5h (K:PySem.W.Frag) (C:Addr) (f:Str):Prop where
 sa:PySem.W.findIn K (.ref C) "__setattr__"=some (some (.builtin "object.__setattr__"))
 ov:PySem.W.excOver K C=true
 hd:(PySem.W.clsIn K C).any (·.hasDict)=true
 no:A1u K C f
def D8t (K:PySem.W.Frag) (ta tv:TE) (f:Str):TS:=λD σ H=>tv σ H λy H1=>ta σ H1 λx H2=>∃e C t,x= .ref e/\H2 e=some (xcN e C t)/\B5h K C f/\
 ∀dx,H2 dx=none->D.nx σ (upd (upd H2 e (xcD e C t dx)) dx (.xd [(f,y)]))
theorem D4k {X:Cx} {o value:Expr} {f:Str} {pos pos':Pos} {ta tv:TE} (ha:PE X o ta) (hv:PE X value tv) (hs:swapsWith value (some (.Attribute o f pos')) pos.line X.env=pure false):PS X (.Assign [.Attribute o f pos'] value pos) (D8t X.K ta tv f):=by
 intro pins s σ H D I h;refine plainObj_wpAny_Assign_Attribute (thn (hv pins s σ H _ I h) λu s1 ⟨y,H1,I1,ry,q⟩=>thn (ha pins s1 σ H1 _ I1 q) λov s2 ⟨x,H2,I2,rx,e,C,t,ex,ee,xs,q2⟩=> ?_) hs;subst ex;obtain rfl:ov=Value.ref e:=rx;obtain ⟨he,_,_⟩:=(show A1y X.prog X.w H2 s2.heap e (xcN e C t) from I2.hok e _ ee);refine PySem.W.exc_setattr I2.kIn he rfl rfl rfl xs.sa xs.ov xs.no.taker xs.hd λh' tk q1 q3 q4=> ?_;have hn:H2 s2.heap.objs.size=none:=I2.hok.fresh (Z09 _);have ne:s2.heap.objs.size≠e:=(A0k ee hn).symm;have Ia:=I2.write (x:=e) (e:=e) (o:=xcD e C t s2.heap.objs.size) (h':=h') (t':=tk) (by rw [ee];exact True.intro) (.inl rfl) (λb u hb z=>q4 b u hb z) ⟨_,q1⟩ (D6v q1)
 have Ib:=I2.trackO (a:=s2.heap.objs.size) (o:= .xd [(f,y)]) Ia (Heap.get?_none_of_le (Z09 _)) (by rw [A0h ne];exact hn) ⟨_,q3,λg=>by
  by_cases z:g=f
  ·subst z;rw [Z12 rfl];show B5g (([(g,y)]:List (Str×V)).lookup g) (some u);simp [List.lookup];exact ry
  ·rw [Z0t z];show B5g (([(f,y)]:List (Str×V)).lookup g) none;have:(([(f,y)]:List (Str×V)).lookup g)=none:=by simp [List.lookup,Z22.mpr z]
   rw [this]
   exact True.intro⟩
 exact ⟨σ,_,Ib,q2 _ hn⟩
end L2
namespace PySem.W
open PySem PySem.Spec PySem.Calls PyProof.Rows
def excInI (K:Frag) (C f:Addr) (bmB:List Value) (newId:String):Bool:=match K.lookup C with
 | some ⟨.type "type",_,.cls cd,sl⟩=>(match cd.mro,sl.toList with
  | .ref C'::bm,[_,_,_,_,some (.builtin n),_]=>C' == C&&n == newId&& !cd.hasDel&&tailIn K bmB bm&&nsOkIn K cd.ns&&nsIn K cd.ns "__init__" == some (some (.ref f))&&isFn K (.ref f)
  | _,_=>false)
 | _=>false
end PySem.W
namespace L2
open PySem PySem.Spec PyProof.Rows
theorem D9r {K:PySem.W.Frag} {h:Heap} {N:Addr} {m:Str->Option Value} {x:Str} {v:Value} (X:K.In h) (G:h.Ns N m) (e:PySem.W.nsIn K N x=some (some v)):m x=some v:=by
 obtain ⟨ob,row,_,at1,dict1,_,same⟩:=G;unfold PySem.W.nsIn at e;split at e
 case h_2=>cases e
 case h_1 _ _ row' _ _ lk =>
  have two:=X _ _ lk;rw [at1] at two;cases two;cases dict1;split at e
  case h_2=>split at e <;> cases e
  case h_1 en found =>
   cases e
   rw [<-same];unfold nsFind findBy;rw [<-Array.find?_toList,found];rfl
theorem E0b {K:PySem.W.Frag} {h:Heap} {f:Addr} (X:K.In h) (q:PySem.W.isFn K (.ref f)=true):∃o,h.get? f=some o/\o.cls= .type "function":=by
 have z:PySem.W.typeIn K (.ref f)=some (.type "function"):=beq_iff_eq.mp q
 cases lk:K.lookup f with
 | none=>simp [PySem.W.typeIn,lk] at z
 | some o=>exact ⟨o,X _ _ lk,by simpa [PySem.W.typeIn,lk] using z⟩
theorem C1o {K:PySem.W.Frag} {h:Heap} {C f:Addr} {bmB:List Value} {newId:String} (X:K.In h) (q:PySem.W.excInI K C f bmB newId=true) :
  ∃(nm qn:Str) (N:Addr) (bs bm:List Value) (hdct:Bool) (sn:List Str) (sub:List Value) (ab:Bool) (col:Option Bool) (dd:Option Addr) (k0 k1 k2 k3 k5:Option Value) (mN:Str->Option Value),
   h.get? C=some (excClassObj nm qn C N bs bm hdct sn sub ab col dd k0 k1 k2 k3 k5 newId)/\h.Ns N mN/\mN "__init__"=some (.ref f)/\OwnTail h bmB bm/\PySem.W.isFn K (.ref f)=true:=by
 cases lk:K.lookup C with
 | none=>simp [PySem.W.excInI,lk] at q
 | some ob =>
  have there:=X _ _ lk;unfold PySem.W.excInI at q;rw [lk] at q;split at q
  case h_2=>cases q
  case h_1 dct cls parts same =>
   injection same with same;subst same;split at q
   case h_2=>cases q
   case h_1 own tl p0 p1 p2 p3 made p5 along row =>
    repeat rw [Z1x] at q
    have w1:own=C:=beq_iff_eq.mp q.1.1.1.1.1.1;have w2:made=newId:=beq_iff_eq.mp q.1.1.1.1.1.2;have w3:cls.hasDel=false:=by simpa using q.1.1.1.1.2
    have w4:=beq_iff_eq.mp q.1.2;subst w1 w2;have sl:parts= #[p0,p1,p2,p3,some (.builtin made),p5]:=Array.toList_inj.mp row;rw [sl] at there;cases cls;dsimp only at along w3 w4 q;rw [along,w3] at there;have hN:=Heap.Ns.of_isNs (PySem.W.isNs_of_in X q.1.1.2);refine ⟨_,_,_,_,tl,_,_,_,_,_,dct,p0,p1,p2,p3,p5,_,there,hN,?_,PySem.W.tail_of_in X q.1.1.1.2,q.2⟩;exact D9r X hN w4
section
variable {X:Cx} {CX:CXT} {k:Nat} {f C:Addr} {fd:FuncData} {ps:List Str} {ds:List Value} {dvs:List V} {sp:Sp} {E:XK}
theorem C7t {pins:List (Addr×Obj)} {σ:St} {H:Hp} {s:Shared} {Q:Addr->Addr->Hp->Prop} {us:List Value} {vs:List V} (q:PySem.W.excInI X.K C f D1p "ValueError.__new__"=true)
  (F:A2e X.prog X.w X.K X.mg X.base CX k f fd ps sp) (hr:A7p (k+1) X.A) (hb:A1i X.K fd ps ds) (hd:A2u dvs ds) (hx:A8o CX X E) (I:Inv X pins σ H s) (r:A2u vs us) (hz:us.length<=sizeLine)
  (h:∀ea ta,H ea=none->sp (.ref ea::(vs++dvs)) (upd H ea (xcN ea C ta)) (λv H2=>v= .non/\Q ea ta H2) E) :
  wpAny (model X.prog X.w) X.A (call (.ref C) us) (λv s'=>∃ea ta H2,v= .ref ea/\Inv X pins σ H2 s'/\s.heap.get? ea=none/\Q ea ta H2) X.xe s:=by
 obtain ⟨nm,qn,N,bs,bm,hdct,sn,sub,ab,col,dd,k0,k1,k2,k3,k5,mN,hC,hN,hi,T,fn⟩:=C1o I.mod.kin q;obtain ⟨oI,hoI,hcI⟩:=E0b I.kIn fn;obtain ⟨hp,g,d,t,os⟩:=s;refine B4s PySem.F.excBase_ValueError (by decide +kernel) PySem.F.excBase_ValueError (T.keeps I.bk) (I.bk _ _ hC) (hN.keeps I.bk) hi hoI hcI (λh' e hm=> ?_) hz;obtain ⟨ta,he,_,_⟩:=hm.there
 have hH:H e=none:=by
  cases z:H e with
  | none=>rfl
  | some u =>
   obtain ⟨o,ho⟩:=(I.hok e u z).at18;have:=hm.new;rw [show hp.get? e=some o from ho] at this;cases this
 have I1:Inv X pins σ H ⟨h',g,d,t,os⟩:=I.kept (t':=t) (λb o z=>hm.keeps b o z);have I2:=I.trackO (a:=e) (o:=xcN e C ta) I1 hm.new hH (D6i he);have hq:=h e ta hH;have r2:A2u (V.ref e::(vs++dvs)) (Value.ref e::(us++ds)):= .cons rfl (r.append hd)
 have hl:(Value.ref e::us++ds).length=ps.length:=by
  have z:=r2.length;rw [F.len _ _ _ _ hq] at z;exact z.symm
 refine wpAny_call (codeAny_mono (F.run _ X.stack _ _ ⟨Value.ref e::us,[]⟩ (Value.ref e::(us++ds)) _ _ E (hr.make C us []) (I2.env0.make C us []) (hb _ (Value.ref e::us) I2.kIn hl) r2 hq) λr s' hq'=> ?_)
 cases r with
 | error e'=>exact hx pins σ _ _ e' s' I2 hq'
 | ok fl =>
  cases fl with
  | ret u =>
   obtain ⟨v,H',I3,rv,ev,q3⟩:=I2.after hq';subst ev;exact ⟨rv,e,ta,H',rfl,I3,hm.new,q3⟩
  | next=>exact False.elim hq'
  | brk=>exact False.elim hq'
  | cont=>exact False.elim hq'
end
def B0f (H:Hp) (a:Addr):Hp:=λb=>if b=a then none else H b
theorem B7a {H:Hp} {a b:Addr} (h:b≠a):B0f H a b=H b:=by unfold B0f;rw [Z0t h]
theorem B5c {H:Hp} {a b:Addr} {o:HO} (h:B0f H a b=some o):b≠a/\H b=some o:=by
 unfold B0f at h;by_cases z:b=a
 ·rw [Z12 z] at h;cases h
 ·rw [Z0t z] at h;exact ⟨z,h⟩
theorem A8j {H:Hp} {a b:Addr} (h:H b=none):B0f H a b=none:=by
 unfold B0f;split
 ·rfl
 ·exact h
section
variable {X:Cx} {pins:List (Addr×Obj)} {σ:St} {H:Hp} {s:Shared} {a:Addr} {φ:Heap->Prop}
theorem Inv.drop (I:Inv X pins σ H s) (e:H a=some (.ext φ)):Inv X pins σ (B0f H a) s:=by
 have up:∀b o,H b=some o->o≠.ext φ->B0f H a b=some o:=λb o q n=>by
  rw [B7a (A3j q e n)];exact q
 refine ⟨I.ok,I.os,I.bare,⟨I.base.keep,I.base.slot,λb o q n hb=>A8j (I.base.free b o q n hb),I.base.there,λb xs q=>up _ _ (I.base.tups b xs q) (λz=>nomatch z),λb o u q=>up _ _ (I.base.frzs b o u q) (λz=>nomatch z),λb ps q=> ?_⟩,I.loc,I.cell,A8j I.free,λx c q=>A8j (I.freeC x c q),λp hp=> ?_,λb o q=> ?_,I.len⟩
 ·obtain ⟨m,z⟩:=I.base.tbls b ps q;exact ⟨m,up _ _ z (λz=>nomatch z)⟩
 ·obtain ⟨q,n,r⟩:=I.pin p hp;exact ⟨q,A8j n,r⟩
 ·obtain ⟨_,z⟩:=B5c q;exact (I.hok b o z).stay (λ_ _ _ q=>q) (λc q=>up _ _ q (λz=>nomatch z)) λc xs q=>up _ _ q (λz=>nomatch z)
theorem D4p {B h':Heap} (I:Inv X pins σ H s) (hx:X.ex=[]) (B1:∀b o,X.s₀.heap.get? b=some o->b∉X.fs->∃o',B.get? b=some o') (hst:B.StaysIn s.heap) (hst':B.StaysIn h') (up:s.heap.UpToSlots h'):Un X.fs [] X.H₀ H X.s₀.heap h':=by
 have a:Un X.fs [] X.H₀ H X.s₀.heap s.heap:=by
  have z:=I.base;rw [hx] at z;exact z
 have no:∀b:Addr,b∉([]:List Addr):=λb=>by simp
 have slot:∀b o,X.s₀.heap.get? b=some o->X.H₀ b=none->b∈X.fs->∃sl,h'.get? b=some { o with slots:=sl }:=λb o e n hb=>by
  obtain ⟨sl,e1⟩:=a.slot b o e n hb (no b);obtain ⟨_,of,ho,hd⟩:=I.ok.funs.mem hb;rw [e] at ho;cases ho;obtain ⟨sl3,e3⟩:=up b _ e1 hd;exact ⟨sl3,e3⟩
 refine ⟨λb o e n hb _=> ?_,λb o e n hb _=>slot b o e n hb,λb o e n _=>a.free b o e n (no b),λb o e _=> ?_,λb xs e=>a.tups b xs e,λb o v e=>a.frzs b o v e,λb ps e=>a.tbls b ps e⟩
 ·have e2:=a.keep b o e n hb (no b);obtain ⟨o',eB⟩:=B1 b o e hb;have e3:=hst b o' eB;rw [e2] at e3;cases e3;exact hst' b o eB
 ·by_cases hb:b∈X.fs
  ·obtain ⟨sl,q⟩:=slot b o e (I.ok.frf b hb) hb;exact ⟨_,q⟩
  ·obtain ⟨o',eB⟩:=B1 b o e hb;exact ⟨o',hst' b o' eB⟩
end
section
variable {P:Program} {w:World} {K:PySem.W.Frag} {mg:Str->Option Value} {base:Heap} {N:List Str} {qual:Str} {scope:Scope} {f:Addr} {cd:Value} {A:Around} {outer:List Env} {s:Shared} {H:Hp} {E:XK}
end
section
variable {M:Model} {A:Around} {E:Value->Shared->Prop} {env:Env} {nm q:Str} {C N:Addr} {bs bm:List Value} {hdct:Bool} {sn:List Str} {sub:List Value} {ab:Bool} {col:Option Bool} {dd:Option Addr} {k0 k1 k2 k3 k5:Option Value} {newId:String}
theorem A7s {s:Shared} {x:Sem Value} {Q:Flow->Shared->Prop} (hbase:bm.contains (.type "BaseException")=true) (hh:A.handled=none)
  (h:wpAny M A x (λv s₁=>∃e t dx,v= .ref e/\s₁.heap.get? C=some (excClassObj nm q C N bs bm hdct sn sub ab col dd k0 k1 k2 k3 k5 newId)/\s₁.heap.get? e=some (B0z C t dx)/\E (.ref e) s₁) E s) :
  wpAny M A (raiseStmt env (some x) none) Q E s:=by
 have hcB:(Value.ref C::bm).contains (.type "BaseException")=true:=by rw [List.contains_cons,hbase,Bool.or_true]
 unfold raiseStmt;refine Z00 (Z10 h (λv s₁ h₁=> ?_) λ_ _ x=>x);obtain ⟨e,t,dx,rfl,hC,he,hE⟩:=h₁;obtain ⟨hp,g,d,tk,os⟩:=s₁;unfold B0z at he
 repeat (first | with_reducible refine Z1k he ?_ | with_reducible refine Z1k hC ?_ | (with_reducible refine wpAny_isSubtype_exc hC ?_;rw [hcB]) | wp_step)
 exact wpAny_raiseNew_none hh hE
end
structure MkX (K:PySem.W.Frag) (C f:Addr):Prop where
 xe:PySem.W.excInI K C f D1p "ValueError.__new__"=true
 kp:PySem.W.keepIn K (.ref C)=true
section
variable {X:Cx} {CX:CXT} {k:Nat} {f C:Addr} {fd:FuncData} {ps:List Str} {ds:List Value} {dvs:List V} {sp:Sp} {E E':XK}
end
def C2 (o o':Obj):Prop:=∀vs,o.data= .fields vs->∃vs',o'.data= .fields vs'/\vs'[2]? =vs[2]?
theorem C2.refl (o:Obj):C2 o o:=λvs e=>⟨vs,e,rfl⟩
theorem C2.trans {a b c:Obj} (x:C2 a b) (y:C2 b c):C2 a c:=λvs e=>by
 obtain ⟨v1,e1,q1⟩:=x vs e;obtain ⟨v2,e2,q2⟩:=y v1 e1;exact ⟨v2,e2,q2.trans q1⟩
def KD (h h':Heap):Prop:=∀b o,h.get? b=some o->∃o',h'.get? b=some o'/\o'.cls=o.cls/\o'.dict=o.dict/\C2 o o'
theorem KD.refl (h:Heap):KD h h:=λb o e=>⟨o,e,rfl,rfl,C2.refl o⟩
theorem KD.trans {h1 h2 h3:Heap} (a:KD h1 h2) (b:KD h2 h3):KD h1 h3:=λx o e=>by
 obtain ⟨o1,e1,c1,d1,f1⟩:=a x o e;obtain ⟨o2,e2,c2,d2,f2⟩:=b x o1 e1;exact ⟨o2,e2,c2.trans c1,d2.trans d1,f1.trans f2⟩
theorem KD.field {h:Heap} {T:Addr} {o:Obj} {ts:Array Value} (hT:h.get? T=some o) (hd:o.data= .fields ts) (f:Array Value->Array Value) (hf:∀a:Array Value,(f a)[2]? =a[2]?):KD h (h.update T (Obj.mapFields f)):=λb u e=>by
 by_cases z:b=T
 ·subst z;rw [hT] at e;cases e;exact ⟨_,Z1r _ hT (Obj.isFreed_of_fields (Obj.data_mapFields hd _)),Obj.cls_mapFields _ _,by obtain ⟨_,_,dd,_⟩:=o;cases hd;rfl,λvs ev=>⟨_,Obj.data_mapFields ev _,hf vs⟩⟩
 ·exact ⟨u,(Z1d _ _ (Ne.symm z)).trans e,rfl,rfl,C2.refl u⟩
def D0x (h B:Heap) (e:Addr) (cls a0:Value):Prop:=(∃oe vs,h.get? e=some oe/\(oe.cls=cls/\vs[0]? =some a0)/\oe.data= .fields vs/\vs[1]? =some .none)\/∃fl,h.TracedAtW B e cls a0 fl
section
variable {M:Model} {A:Around} {E:Value->Shared->Prop} {s:Shared} {B:Heap} {env:Env} {outer:List Env} {L e:Addr} {cls a0:Value} {Q:Unit->Shared->Prop}
theorem D2c {oe:Obj} {vs:Array Value} {hd:Value} {nx:Bool} (hfr:A.frames=some (env::outer)) (ff:s.heap.FunFrames B (env::outer)) (hf:env.frame=some L) (he:s.heap.get? e=some oe) (st:B.StaysIn s.heap) (hn:B.get? e=none) (hv:oe.data= .fields vs) (hz:1<vs.size) (h0:vs[0]? =some a0)
  (h:∀h',Heap.NotedW B (env::outer) e oe.cls a0 (rawInt L) s.heap h'->KD s.heap h'->Q () { s with heap:=h' }) :
  wpAny M A (do let a<-frameOf env;let pl<-entryPlaceOf L nx;let b<-EntryCells.newEntry hd a .none (rawInt L) .none pl;setField (.ref e) 1 b) Q E s:=by
 have nf:e∉(env::outer).filterMap (·.frame):=λm=>by
  obtain ⟨_,o,ho,hnf⟩:=ff.mem m;rw [he] at ho;cases ho;exact hnf vs hv
 refine Z00 (wpAny_frameOf_fun hfr ff hf λg sg=>Z00 (wpAny_entryPlaceOf λpl hpl=> ?_));unfold EntryCells.newEntry newFields;refine Z00 (Z16 ?_ (hpl.sizeOk5 _ _ _ _ _));have he1:g.get? e=some oe:=(sg.2.1 e nf).trans he;have st1:B.StaysIn g:=λb o hb=>(sg.2.1 b λm=>by rw [(ff.mem m).1] at hb;cases hb).trans (st b o hb);generalize hob:({ cls:= .type "traceback",dict:=none,data:= .fields ([hd,.ref L,.none,rawInt L,.none]++(if pl.isEmpty then List.replicate 6 Value.none else pl)).toArray }:Obj)=ob;have he2:=Z01 (h:=g) ob he1;have eb:({ cls:=Value.type "traceback",data:= .fields ([hd,.ref L,.none,rawInt L,.none]++(if pl.isEmpty then List.replicate 6 Value.none else pl)).toArray }:Obj)=ob:=hob;refine Z1t (by first | exact he2 | (rw [eb];exact he2)) hv hz ?_
 try rw [eb]
 have nTe:g.objs.size≠e:=Z1q (Z0a he1);have dm:=Obj.data_mapFields hv (·.setIfInBounds 1 (Value.ref g.objs.size));have he3:=Z1r (Obj.mapFields (·.setIfInBounds 1 (Value.ref g.objs.size))) he2 (Obj.isFreed_of_fields dm);have hT3:((g.push ob).update e (Obj.mapFields (·.setIfInBounds 1 (Value.ref g.objs.size)))).get? g.objs.size=some ob:=(Z1d _ _ (Ne.symm nTe)).trans (Z0c g (by rw [<-hob];rfl));have kp:∀b o,b≠e->g.get? b=some o->((g.push ob).update e (Obj.mapFields (·.setIfInBounds 1 (Value.ref g.objs.size)))).get? b=some o:=λb o ne hb=>(Z1d _ _ (Ne.symm ne)).trans (Z01 _ hb)
 have nr:∀b o,s.heap.get? b=some o->(∀vs,o.data≠.fields vs)->b≠e:=λb o hb hnf z=>by
  rw [z,he] at hb;cases hb;exact hnf vs hv
 refine h _ ⟨λb o hb=>kp b o (λz=>by rw [z,hn] at hb;cases hb) (st1 b o hb),ff.of_keeps λb o hb hnf=> ?_,?_,λb o hb hnf=> ?_⟩ λb o hb=> ?_
 ·obtain ⟨sl,hs⟩:=sg.2.2 b o hb;exact ⟨_,kp b _ (nr b o hb hnf) hs,rfl⟩
 ·refine ⟨_,_,g.objs.size,ob,_,he3,⟨Obj.cls_mapFields _ _,?_⟩,dm,by simp [hz],st1.fresh,nTe,hT3,by rw [<-hob],?_⟩
  ·rw [Z25 (by decide)];exact h0
  ·rcases hpl with rfl | ⟨_,_,_,_,_,_,_,rfl⟩ <;> simp
 ·obtain ⟨sl,hs⟩:=sg.2.2 b o hb;exact ⟨sl,kp b _ (nr b o hb hnf) hs⟩
 ·by_cases z:b=e
  ·subst z;rw [he] at hb;cases hb;exact ⟨_,he3,Obj.cls_mapFields _ _,by obtain ⟨_,_,dd,_⟩:=oe;cases hv;rfl,λws ew=>⟨_,Obj.data_mapFields ew _,Z25 (by decide)⟩⟩
  ·obtain ⟨sl,hs⟩:=sg.2.2 b o hb;exact ⟨_,kp b _ z hs,rfl,rfl,λws ew=>⟨ws,ew,rfl⟩⟩
theorem D7y (hfr:A.frames=some (env::outer)) (hf:env.frame=some L) (st:B.StaysIn s.heap) (hn:B.get? e=none) (ff:s.heap.FunFrames B (env::outer)) (ht:D0x s.heap B e cls a0)
  (hQ:∀h',Heap.HeldW B (env::outer) e cls a0 L h'->s.heap.UpToSlots h'->KD s.heap h'->Q () { s with heap:=h' }):wpAny M A (noteFrame (.ref e) env) Q E s:=by
 rcases ht with ⟨oe,vs,he,⟨hc,h0⟩,hv,h1⟩ | ⟨fl,ht⟩
 ·subst hc;unfold noteFrame;simp only [hf];refine Z00 (Z11 he hv h1 ?_);rw [Z0t (show¬((Value.none != Value.none)=true) by simp)];exact D2c hfr ff hf he st hn hv (Z1m.mp h1).1 h0 λh' N kd=>hQ h' ⟨N.1,hn,N.2.1,N.2.2.1⟩ N.2.2.2 kd
 ·by_cases hfl:(fl == rawInt L)=true
  ·have e1:fl=rawInt L:=beq_iff_eq.mp hfl;subst e1;exact wpAny_noteFrame_againW hf ht (hQ s.heap ⟨st,hn,ff,ht⟩ (Heap.UpToSlots.refl _) (KD.refl _))
  ·obtain ⟨oe,vs,T,oT,ts,he,⟨hcls,h0⟩,hd,h1,hnT,hTe,hT,hdT,h3⟩:=id ht;subst hcls;unfold noteFrame;simp only [hf];refine Z00 (Z11 he hd h1 ?_);rw [Z12 (show (Value.ref T != Value.none)=true by simp)];refine Z00 (Z11 hT hdT h3 ?_);rw [Z0t hfl];refine Z00 (Z1t hT hdT (Z1m.mp h3).1 ?_);have oth:∀b,b≠T->(s.heap.update T (Obj.mapFields (·.setIfInBounds 3 Value.none))).get? b=s.heap.get? b:=λb hb=>Z1d _ _ (Ne.symm hb)
   have nr:∀b o,s.heap.get? b=some o->(∀vs,o.data≠.fields vs)->b≠T:=λb o hb hnf q=>by
    rw [q,hT] at hb;cases hb;exact hnf ts hdT
   exact D2c hfr (ff.of_keeps λb o hb hnf=>⟨o,(oth b (nr b o hb hnf)).trans hb,rfl⟩) hf ((oth e (Ne.symm hTe)).trans he) (λb o hbo=>(oth b λq=>by rw [q,hnT] at hbo;cases hbo).trans (st b o hbo)) hn hd (Z1m.mp h1).1 h0
    λh' N kd=>hQ h' ⟨N.1,hn,N.2.1,N.2.2.1⟩ (λb o hb hnf=>N.2.2.2 b o ((oth b (nr b o hb hnf)).trans hb) hnf) ((KD.field hT hdT _ λ_=>Z25 (by decide)).trans kd)
theorem D2r {l:List Env} {fl:Value} {fr:Option Addr} (st:B.StaysIn s.heap) (ff:s.heap.FunFrames B l) (ht:s.heap.TracedAtW B e cls a0 fl)
  (hQ:∀h',B.StaysIn h'->h'.FunFrames B l->h'.TracedAtW B e cls a0 (fr.elim .none λf=>rawInt f)->s.heap.UpToSlots h'->KD s.heap h'->Q () { s with heap:=h' }):wpAny M A (setFlight (.ref e) fr) Q E s:=by
 obtain ⟨oe,vs,T,oT,ts,he,hcls,hd,h1,hnT,hTe,hT,hdT,h3⟩:=ht;have z3:3<ts.size:=(Z1m.mp h3).1;have oth:∀b,b≠T->(s.heap.update T (Obj.mapFields (·.setIfInBounds 3 (fr.elim Value.none λf=>rawInt f)))).get? b=s.heap.get? b:=λb hb=>Z1d _ _ (Ne.symm hb)
 have nr:∀b o,s.heap.get? b=some o->(∀vs,o.data≠.fields vs)->b≠T:=λb o hb hnf q=>by
  rw [q,hT] at hb;cases hb;exact hnf ts hdT
 unfold setFlight;refine Z00 (Z11 he hd h1 ?_);rw [Z12 (show (Value.ref T != Value.none)=true by simp)];refine Z1t hT hdT z3 (hQ _ (λb o hbo=>(oth b λq=>by rw [q,hnT] at hbo;cases hbo).trans (st b o hbo)) (ff.of_keeps λb o hb hnf=>⟨o,(oth b (nr b o hb hnf)).trans hb,rfl⟩) ?_ (λb o hb hnf=>⟨o.slots,(oth b (nr b o hb hnf)).trans hb⟩) (KD.field hT hdT _ λ_=>Z25 (by decide)));exact ⟨oe,vs,T,_,_,(oth e (Ne.symm hTe)).trans he,hcls,hd,h1,hnT,hTe,Z1r _ hT (Obj.isFreed_of_fields (Obj.data_mapFields hdT _)),Obj.data_mapFields hdT _,by simp [z3]⟩
theorem C7y (hfr:A.frames=some (env::outer)) (hf:env.frame=some L) (st:B.StaysIn s.heap) (hn:B.get? e=none) (ff:s.heap.FunFrames B (env::outer)) (ht:D0x s.heap B e cls a0)
  (hQ:∀h',Heap.FlyingW B outer e cls a0 h'->s.heap.UpToSlots h'->KD s.heap h'->Q () { s with heap:=h' }):wpAny M A (leaving env (.ref e)) Q E s:=by
 unfold leaving;refine Z00 (D7y hfr hf st hn ff ht λh1 held u1 k1=>D2r (s:={ s with heap:=h1 }) held.1 held.2.2.1 held.2.2.2 λh2 s2 f2 t2 u2 k2=> ?_)
 exact hQ h2 ⟨s2,hn,f2.2.2,t2⟩ (u1.trans u2) (k1.trans k2)
end
theorem FlyingW.exc {B h:Heap} {l:List Env} {e:Addr} {cls a0:Value} (f:Heap.FlyingW B l e cls a0 h):D0x h B e cls a0:= .inr ⟨.none,f.2.2.2⟩
def DictAt (h:Heap) (e:Addr) (od:Option Addr):Prop:=∃o vs,h.get? e=some o/\o.dict=od/\o.data= .fields vs/\vs[2]? =some .none
theorem DictAt.kd {h h':Heap} {e:Addr} {od:Option Addr} (d:DictAt h e od) (k:KD h h'):DictAt h' e od:=by
 obtain ⟨o,vs,e1,e2,e5,e6⟩:=d;obtain ⟨o',e3,_,e4,c2⟩:=k _ o e1;obtain ⟨vs',e7,e8⟩:=c2 vs e5;exact ⟨o',vs',e3,e4.trans e2,e7,e8.trans e6⟩
def CXD (P:Program) (w:World):CXT:=λouter H s E e s' =>
 ∃(ea C:Addr) (a0:Value) (od:Option Addr) (H':Hp) (B:Heap),e= .ref ea/\s'.os=s.os/\AllBare s'.gens/\Un (frs outer) [] H H' s.heap s'.heap/\HOk P w H' s'.heap/\
  (∀b o,s.heap.get? b=some o->b∉frs outer->∃o',B.get? b=some o')/\(∀b o,H' b=some o->∃o',B.get? b=some o')/\
  Heap.FlyingW B outer ea (.ref C) a0 s'.heap/\DictAt s'.heap ea od/\E (.ref C) od H'
section
variable {P:Program} {w:World} {K:PySem.W.Frag} {mg:Str->Option Value} {base:Heap} {N:List Str} {qual:Str} {scope:Scope} {f:Addr} {cd:Value} {A:Around} {outer:List Env} {s:Shared} {H:Hp} {E:XK}
theorem A9f:A8o (CXD P w) (C8b (CXD P w) P w K mg base N qual scope f cd A outer s H E) E:=by
 intro pins σ H1 s1 e s' I hcx;obtain ⟨ea,C,a0,od,H',B,rfl,os,bare,un,hok,b1,b2,fl,dd,q⟩:=hcx;refine C7y I.ok.frames rfl fl.1 fl.2.1 fl.2.2.1 (FlyingW.exc fl) λh' fl' up kd=> ?_;obtain ⟨un',b1'⟩:=D1i I rfl un b1 fl.1 fl'.1 up;exact ⟨ea,C,a0,od,H',B,rfl,os.trans I.os,bare,un',C2j hok b2 fl.1 fl'.1,b1',b2,fl',dd.kd kd,q⟩
theorem A5k {C:Addr}:D1k (C8b (CXD P w) P w K mg base N qual scope f cd A outer s H E) C E:=by
 intro pins σ H1 s1 h1 e vs I hx q;obtain ⟨t,he,htn,ht⟩:=hx.there;have kB:∀b o,s1.heap.get? b=some o->b∉frs (envOfC qual scope s.heap.objs.size f cd::outer)->(PySem.W.hideAll s1.heap (frs (envOfC qual scope s.heap.objs.size f cd::outer))).get? b=some o:=λb o e hb=>PySem.W.hideAll_get _ e hb
 have en:(PySem.W.hideAll s1.heap (frs (envOfC qual scope s.heap.objs.size f cd::outer))).get? e=none:=by
  cases z:(PySem.W.hideAll s1.heap (frs (envOfC qual scope s.heap.objs.size f cd::outer))).get? e with
  | none=>rfl
  | some o=>have:=PySem.W.of_hideAll _ z;rw [hx.new] at this;cases this
 have st1:(PySem.W.hideAll s1.heap (frs (envOfC qual scope s.heap.objs.size f cd::outer))).StaysIn h1:=λb o z=>hx.keeps b o (PySem.W.of_hideAll _ z)
 refine C7y (B:=PySem.W.hideAll s1.heap (frs (envOfC qual scope s.heap.objs.size f cd::outer))) (cls:= .ref C) (a0:= .ref t) I.ok.frames rfl st1 en
  ((PySem.W.funFrames_hide I.stack λenv he b hb=>List.mem_filterMap.mpr ⟨env,he,hb⟩).of_keeps λb o hb _=>⟨o,hx.keeps b o hb,rfl⟩) (.inl ⟨_,_,he,⟨rfl,rfl⟩,rfl,rfl⟩) λh' fl up kd=> ?_
 have b2:∀b o,H1 b=some o->∃o',(PySem.W.hideAll s1.heap (frs (envOfC qual scope s.heap.objs.size f cd::outer))).get? b=some o':=λb o z=>by
  obtain ⟨u,hu⟩:=(I.hok b o z).at18;refine ⟨u,kB b u hu λm=> ?_⟩;have:=I.stkFree b m;rw [z] at this;cases this
 obtain ⟨un',b1'⟩:=D1i (B:=PySem.W.hideAll s1.heap (frs (envOfC qual scope s.heap.objs.size f cd::outer))) I rfl (Un.kept hx.keeps) (λb o z hb=>⟨o,kB b o z hb⟩) st1 fl.1 up;exact ⟨e,C,.ref t,none,H1,_,rfl,I.os,I.bare,un',C2j (I.hok.kept hx.keeps) b2 st1 fl.1,b1',b2,fl,DictAt.kd (h:=h1) ⟨_,_,he,rfl,rfl,rfl⟩ kd,q⟩
def C6e (X:Cx) (C:Addr) (E:XK):Prop:=∀(pins:List (Addr×Obj)) (σ:St) (H:Hp) (s:Shared) (ea ta:Addr) (d:Option Addr),Inv X pins σ H s->H ea=some (.ext λh=>h.get? ea=some (B0z C ta d))->X.s₀.heap.get? ea=none->
 E (.ref C) d (B0f H ea)->X.xe (.ref ea) s
theorem D3d {C:Addr}:C6e (C8b (CXD P w) P w K mg base N qual scope f cd A outer s H E) C E:=by
 intro pins σ H2 s1 ea ta d I he h0 q;obtain ⟨hobj,_,_⟩:=(show A1y _ _ H2 s1.heap ea (.ext λh=>h.get? ea=some (B0z C ta d)) from I.hok ea _ he);have I':=I.drop he
 have kB:∀b o,s1.heap.get? b=some o->b≠ea->b∉frs (envOfC qual scope s.heap.objs.size f cd::outer)->(PySem.W.hideAll s1.heap (ea::frs (envOfC qual scope s.heap.objs.size f cd::outer))).get? b=some o:=λb o e ne hb =>
  PySem.W.hideAll_get _ e (λm=>(Z0e.mp m).elim ne hb)
 have b2:∀b o,B0f H2 ea b=some o->∃o',(PySem.W.hideAll s1.heap (ea::frs (envOfC qual scope s.heap.objs.size f cd::outer))).get? b=some o':=λb o z=>by
  obtain ⟨ne,z'⟩:=B5c z;obtain ⟨u,hu⟩:=(I.hok b o z').at18;refine ⟨u,kB b u hu ne λm=> ?_⟩;have:=I.stkFree b m;rw [z'] at this;cases this
 have nst:∀b o,s.heap.get? b=some o->b∉frs outer->b∉frs (envOfC qual scope s.heap.objs.size f cd::outer):=λb o e hb m=>by
  rcases Z0e.mp m with z | z
  ·exact absurd (Z0a e) (by rw [z];exact Nat.lt_irrefl _)
  ·exact hb z
 have b1:∀b o,s.heap.get? b=some o->b∉frs outer->∃o',(PySem.W.hideAll s1.heap (ea::frs (envOfC qual scope s.heap.objs.size f cd::outer))).get? b=some o':=λb o e hb=>by
  obtain ⟨o1,e1⟩:=I.base.there b o e (by show b∉([]:List Addr);simp);refine ⟨o1,kB b o1 e1 (λz=> ?_) (nst b o e hb)⟩;rw [z] at e;rw [show s.heap.get? ea=none from h0] at e;cases e
 have st1:(PySem.W.hideAll s1.heap (ea::frs (envOfC qual scope s.heap.objs.size f cd::outer))).StaysIn s1.heap:=λb o z=>PySem.W.of_hideAll _ z
 refine C7y (B:=PySem.W.hideAll s1.heap (ea::frs (envOfC qual scope s.heap.objs.size f cd::outer))) (cls:= .ref C) (a0:= .ref ta) I.ok.frames rfl st1 (PySem.W.hideAll_none _ Z27)
  (PySem.W.funFrames_hide I.stack λenv he b hb=>Z1f _ (List.mem_filterMap.mpr ⟨env,he,hb⟩)) (.inl ⟨_,_,hobj,⟨rfl,rfl⟩,rfl,rfl⟩) λh' fl up kd=> ?_
 exact ⟨ea,C,.ref ta,d,B0f H2 ea,_,rfl,I.os,I.bare,D4p I' rfl b1 st1 fl.1 up,C2j I'.hok b2 st1 fl.1,b1,b2,fl,DictAt.kd (h:=s1.heap) ⟨_,_,hobj,rfl,rfl,rfl⟩ kd,q⟩
theorem Fun.okD {x qual:Str} {st:Stmt} {f:Addr} {fd:FuncData} {N ps:List Str} {k:Nat} {sp:Sp} (F:Fun K x qual st f fd) (S:A0o N ps (A0i st)) (len:∀vs H Q E,sp vs H Q E->vs.length=ps.length)
  (hbody:∀(cdv:Value) (A:Around) (outer:List Env) (s:Shared) (H:Hp) (vs:List V) (Q:VK) (E:XK),A7p k (A.deeper (envOfC qual (A0i st) s.heap.objs.size f cdv))->sp vs H Q E->
   ∃t,PSs (C8b (CXD P w) P w K mg base N qual (A0i st) f cdv A outer s H E) (A6h st) t/\t { nx:=λ_ H'=>Q .non H',rt:=Q } (B2a N vs) H):A2e P w K mg base (CXD P w) (k+1) f fd ps sp:=by
 obtain ⟨oc,od,kV,doc,pm,an,cdv,ct,osl,rfl,lk,hcd⟩:=F.ex;exact D7o lk hcd S len λA outer s H vs Q E hr hsp=>hbody cdv A outer s H vs Q E hr hsp
end
def xcG (ea C:Addr) (od:Option Addr):Heap->Prop:=λh=>∃o vs,h.get? ea=some o/\o.cls= .ref C/\o.dict=od/\o.data= .fields vs/\vs[2]? =some .none
section
variable {X:Cx} {pins:List (Addr×Obj)} {σ:St} {H H1:Hp} {s s1:Shared} {ea C:Addr} {a0:Value} {B:Heap} {od:Option Addr}
theorem D6r {P:Program} {w:World} {H:Hp} {h:Heap} (q:xcG ea C od h):A1y P w H h ea (.ext (xcG ea C od)):=by
 obtain ⟨o,vs,r⟩:=id q;exact ⟨q,⟨o,r.1⟩,λh1 h2 ⟨o,vs,q1,q2⟩ k=>⟨o,vs,k o q1,q2⟩⟩
structure C0a (X:Cx) (pins:List (Addr×Obj)) (σ:St) (H:Hp) (B:Heap) (ea C:Addr) (a0:Value) (od:Option Addr) (s:Shared):Prop where
 inv:Inv X pins σ H s
 fl:Heap.FlyingW B X.stack ea (.ref C) a0 s.heap
 d:DictAt s.heap ea od
 no:H ea=none
 go:∀h',B.StaysIn h'->s.heap.UpToSlots h'->xcG ea C od h'->Inv X pins σ H { s with heap:=h' }/\Inv X pins σ (upd H ea (.ext (xcG ea C od))) { s with heap:=h' }
theorem C5y (fl:Heap.FlyingW B X.stack ea (.ref C) a0 s.heap) (d:DictAt s.heap ea od):xcG ea C od s.heap:=by
 obtain ⟨oe,vs,e,c,dt,_⟩:=fl.first;obtain ⟨o,vs',e2,d2,d3,d4⟩:=d;rw [e] at e2;cases e2;exact ⟨oe,vs',e,c,d2,d3,d4⟩
theorem C0a.cls (F:C0a X pins σ H B ea C a0 od s):xcF ea C s.heap:=by
 obtain ⟨oe,vs,e,c,d,_⟩:=F.fl.first;exact ⟨oe,vs,e,c,d⟩
end
def PHD (X:Cx) (hs:List ExceptHandler) (C:Addr) (th:Option Addr->Addr->TS):Prop :=
 ∀(pins:List (Addr×Obj)) (σ:St) (H:Hp) (B:Heap) (ea:Addr) (a0:Value) (od:Option Addr) (s:Shared) (D:B7w),C0a X pins σ H B ea C a0 od s->th od ea D σ H->wpAny (model X.prog X.w) X.A (handleBy (.ref ea) X.env hs) (SP X pins D) X.xe s
section
variable {M:Model} {A:Around} {E:Value->Shared->Prop} {s:Shared} {B:Heap} {l:List Env} {e:Addr} {cls a0:Value} {Q:Unit->Shared->Prop}
theorem B1t (f:Heap.FlyingW B l e cls a0 s.heap) (hQ:∀h',Heap.FlyingW B l e cls a0 h'->s.heap.UpToSlots h'->KD s.heap h'->Q () { s with heap:=h' }):wpAny M A (setFlight (.ref e) none) Q E s :=
 D2r f.1 f.2.2.1 f.2.2.2 λh' s2 f2 t2 u2 k2=>hQ h' ⟨s2,f.2.1,f2,t2⟩ u2 k2
end
section
variable {X:Cx} {C C':Addr} {y n:Str} {yp hpos:Pos} {b₀:Stmt} {suite:List Stmt} {rest:List ExceptHandler} {i:Nat}
theorem C8y {th:Option Addr->Addr->TS} {nm:Option Str} (hg:Gl X y) (hm:X.mg y=some (.ref C')) (q:PySem.W.exmOne X.K (.ref C) (.ref C')=some false) (hr:PHD X rest C th) (hd:(y == ("__debug__":Str))=false:=by decide) :
  PHD X (.ExceptHandler (some (.Name y yp)) nm (b₀::suite) hpos::rest) C th:=by
 intro pins σ H B ea a0 od s D F h;refine wpAny_handleBy_cons (codeAny_handlers_test ?_) (by intro q;cases q);refine A5g (X:=X.held ea) (F.inv.held ea) hg hm ?_ hd;refine (C7i F.inv.kIn F.cls q).here ?_;exact hr pins σ H B ea a0 od s D F h
def E0g (i:Nat) (C:Addr) (ts:TS):Option Addr->Addr->TS:=λod ea D σ H=>ts { nx:=λσ' H'=>D.nx (σ'.set i none) H',rt:=D.rt,bk:=λσ' H'=>D.bk (σ'.set i none) H',ct:=λσ' H'=>D.ct (σ'.set i none) H' } (σ.set i (some (.ref ea))) (upd H ea (.ext (xcG ea C od)))
theorem C0q {ts:TS} (hg:Gl X y) (hm:X.mg y=some (.ref C')) (q:PySem.W.exmOne X.K (.ref C) (.ref C')=some true) (hN:X.N.Nodup) (hi:X.N[i]? =some n) (hx:X.env.scope.names.lookup n=some .local)
  (hs:∀ea,PSs (X.held ea) (b₀::suite) ts) (hd:(y == ("__debug__":Str))=false:=by decide) :
  PHD X (.ExceptHandler (some (.Name y yp)) (some n) (b₀::suite) hpos::rest) C (E0g i C ts):=by
 intro pins σ H B ea a0 od s D F h;refine wpAny_handleBy_cons (codeAny_handlers_test ?_) (by intro q;cases q);refine A5g (X:=X.held ea) (F.inv.held ea) hg hm ?_ hd;refine (C7i F.inv.kIn F.cls q).here (codeAny_handlers_suite_as ?_);refine B1t F.fl λh' fl' up kd=> ?_;have F':=(F.go h' fl'.1 up (C5y (s:={ s with heap:=h' }) fl' (F.d.kd kd))).2;refine A8l (X:=X.held ea) (v:= .ref ea) (F'.held ea) hN hi (.inl hx) rfl (λs2 I2=> ?_) (.inr hx)
 refine Z10 (hs ea pins s2 _ _ _ I2 h) (λf s3 hf=> ?_) λ_ _ z=>False.elim z;dsimp only
 cases f with
 | next =>
  obtain ⟨σ',H',I',r⟩:=hf;exact A4q (I'.unheld F.inv.ok) hN hi hx λs4 I4=>⟨_,H',I4,r⟩
 | brk =>
  obtain ⟨σ',H',I',r⟩:=hf;exact A4q (I'.unheld F.inv.ok) hN hi hx λs4 I4=>⟨_,H',I4,r⟩
 | cont =>
  obtain ⟨σ',H',I',r⟩:=hf;exact A4q (I'.unheld F.inv.ok) hN hi hx λs4 I4=>⟨_,H',I4,r⟩
 | ret u =>
  obtain ⟨v,σ',H',I',rv,r⟩:=hf;exact A4q (I'.unheld F.inv.ok) hN hi hx λs4 I4=>⟨v,_,H',I4,rv,r⟩
end
def Rsd (X:Cx) (pins:List (Addr×Obj)) (σ:St) (E:XK) (e:Value) (s':Shared):Prop:=∃(ea C:Addr) (a0:Value) (od:Option Addr) (H':Hp) (B:Heap),e= .ref ea/\B.StaysIn s'.heap/\B.get? ea=none/\s'.heap.FunFrames B X.stack/\D0x s'.heap B ea (.ref C) a0/\DictAt s'.heap ea od/\H' ea=none/\X.A.frames=some X.stack/\
 (∀h',B.StaysIn h'->s'.heap.UpToSlots h'->xcG ea C od h'->Inv X pins σ H' { s' with heap:=h' }/\Inv X pins σ (upd H' ea (.ext (xcG ea C od))) { s' with heap:=h' })/\E (.ref C) od H'
def C8g (X:Cx) (hs:List ExceptHandler) (D:B7w) (σ:St):XK:=λc od H2=>∃(C:Addr) (th:Option Addr->Addr->TS),c= .ref C/\PHD X hs C th/\∀ea,H2 ea=none->th od ea D σ H2
section
variable {X:Cx} {hs:List ExceptHandler} {h₀:ExceptHandler} {e:Expr} {pos epos npos:Pos} {i:Nat} {n:Str}
theorem B3c {pins:List (Addr×Obj)} {σ:St} {D:B7w} {s':Shared} {ev:Value} (hst:X.stack=X.env::X.outer/\X.env.frame=some X.env.locals) (hc:Rsd X pins σ (C8g X (h₀::hs) D σ) ev s') :
  wpAny (model X.prog X.w) X.A (noteFrame ev X.env) (λ_ s₂=>wpAny (model X.prog X.w) X.A (setFlight ev none) (λ_ s₃=>wpAny (model X.prog X.w) X.A (handleBy ev X.env (h₀::hs)) (SP X pins D) X.xe s₃) X.xe s₂) X.xe s':=by
 obtain ⟨ea,C,a0,od,H',B,rfl,st,en,ff,ex,dd,hno,hfr0,go,q⟩:=hc;obtain ⟨C',th,hC,hP,q⟩:=q;cases hC;have hfr:X.A.frames=some (X.env::X.outer):=by rw [<-hst.1];exact hfr0
 refine D7y hfr hst.2 st en (by rw [<-hst.1];exact ff) ex λh4 held up4 kd4=> ?_;refine D2r (s:={ s' with heap:=h4 }) held.1 held.2.2.1 held.2.2.2 λh5 st5 ff5 t5 up5 kd5=> ?_
 have fl5:Heap.FlyingW B X.stack ea (.ref C) a0 h5:=⟨st5,en,by rw [hst.1];exact ff5,t5⟩;have d5:=(dd.kd kd4).kd kd5;have up:=up4.trans up5;have x5:xcG ea C od h5:=C5y (X:=X) (s:={ s' with heap:=h5 }) fl5 d5;exact hP pins σ H' B ea a0 od _ D ⟨(go h5 st5 up x5).1,fl5,d5,hno,λh' s2 u2 x2=>go h' s2 (up.trans u2) x2⟩ (q ea hno)
def PXD (X:Cx) (e:Expr) (t:TX):Prop :=
 ∀(pins:List (Addr×Obj)) (s:Shared) (σ:St) (H:Hp) (Q:VK) (E:XK),Inv X pins σ H s->t σ H Q E->wpAny (model X.prog X.w) X.A (eval e X.env) (EP X pins σ Q) (Rsd X pins σ E) s
theorem Rsd.of_call {pins:List (Addr×Obj)} {σ:St} {H1:Hp} {s1 s':Shared} {E:XK} {ev:Value} (I1:Inv X pins σ H1 s1) (h:CXD X.prog X.w X.stack H1 s1 E ev s'):Rsd X pins σ E ev s':=by
 obtain ⟨ea,C,a0,od,H',B,rfl,os,bare,un,hok,b1,b2,fl,dd,q⟩:=h;have F:C6d X pins σ H1 s1 H' B ea C a0 s':=⟨I1,os,bare,un,hok,b1,b2,fl⟩;have no:∀b:Addr,b∉([]:List Addr):=λb=>by simp
 refine ⟨ea,C,a0,od,H',B,rfl,fl.1,fl.2.1,fl.2.2.1,FlyingW.exc fl,dd,F.no,I1.ok.frames,λh5 st5 up x5=> ?_,q⟩
 have slot:∀b o,s1.heap.get? b=some o->H1 b=none->b∈frs X.stack->∃sl,h5.get? b=some { o with slots:=sl }:=λb o e n hb=>by
  obtain ⟨sl,e1⟩:=un.slot b o e n hb (no b);obtain ⟨_,of,ho,hd⟩:=I1.stack.mem hb;rw [e] at ho;cases ho;obtain ⟨sl3,e3⟩:=up b _ e1 hd;exact ⟨sl3,e3⟩
 have u5:Un (frs X.stack) [] H1 H' s1.heap h5:=by
  refine ⟨λb o e n hb _=> ?_,λb o e n hb _=>slot b o e n hb,un.free,λb o e _=> ?_,un.tups,un.frzs,un.tbls⟩
  ·have e2:=un.keep b o e n hb (no b);obtain ⟨o',eB⟩:=b1 b o e hb;have e3:=fl.1 b o' eB;rw [e2] at e3;cases e3;exact st5 b o eB
  ·by_cases hb:b∈frs X.stack
   ·obtain ⟨sl,q⟩:=slot b o e (I1.stkFree b hb) hb;exact ⟨_,q⟩
   ·obtain ⟨o',eB⟩:=b1 b o e hb;exact ⟨o',st5 b o' eB⟩
 have I5:Inv X pins σ H' { s' with heap:=h5 }:=I1.call' (s':={ s' with heap:=h5 }) os u5 (C2j hok b2 fl.1 st5) bare (ch:=[]) (λb z=>absurd z (by simp))
 exact ⟨I5,I1.trackO I5 F.new F.no (D6r x5)⟩
theorem C2k {k:Nat} {f:Addr} {fd:FuncData} {ps:List Str} {sp:Sp} {x:Str} {p pos:Pos} {e:Expr} {es:List Expr} {t:TA} (F:A2e X.prog X.w X.K X.mg X.base (CXD X.prog X.w) k f fd ps sp) (hr:A7p k X.A) (hg:Gl X x) (hm:X.mg x=some (.ref f)) (hk:PySem.W.keepIn X.K (.ref f)=true) (hb:A1i X.K fd ps [])
  (ha:PA X.nox (e::es) t) (hdb:(x == ("__debug__":Str))=false:=by decide) (he:starEach (e::es) X.env=(false,eval e X.env)::starEach es X.env:=by rfl) (hpl:(backTo pos (starEach es X.env)).any (·.1)=false:=by rfl) :
  PXD X (.Call (.Name x p) (e::es) [] pos) (D5n sp t):=by
 intro pins s σ H Q E I h;refine wpAny_Call_Name_kw (A5g I hg hm ?_ hdb)
 have hA:wpAny (model X.prog X.w) X.A (spliced (backTo pos (starEach (e::es) X.env))) (AP X pins σ λvs H1=>sp vs H1 Q E) (Rsd X pins σ E) s :=
  Z10 (ha pos pins s σ H _ (I.wish _) h) (λus s1 ⟨vs,H1,I1,r,q⟩=>⟨vs,H1,I1.unwish,r,q⟩) λ_ _ z=>False.elim z
 refine PySem.W.callWith_K (h₀:=X.base) I.ok.mod.kin hk (thn hA λus s1 ⟨vs,H1,I1,r,q⟩=>⟨I1.kIn,?_⟩) he hpl;have hl:us.length=ps.length:=by rw [<-r.length];exact F.len _ _ _ _ q
 have hb':=hb s1 us I1.kIn (by simpa using hl);rw [Z0u] at hb';refine wpAny_call (codeAny_mono (F.run X.A X.stack s1 H1 ⟨us,[]⟩ us vs Q E hr I1.env0 hb' r q) λr s' hq=> ?_)
 cases r with
 | error e=>exact Rsd.of_call I1 hq
 | ok fl =>
  cases fl with
  | ret u=>exact I1.after hq
  | next=>exact False.elim hq
  | brk=>exact False.elim hq
  | cont=>exact False.elim hq
def D6u (X:Cx) (hs:List ExceptHandler) (tx:TX) (i:Nat):TS:=λD σ H=>tx σ H (λv H1=>D.nx (σ.set i (some v)) H1) (C8g X hs D σ)
theorem C9h {tx:TX} (hst:X.stack=X.env::X.outer/\X.env.frame=some X.env.locals) (he:PXD X e tx) (hN:X.N.Nodup) (hi:X.N[i]? =some n) (hx:Loc X.env.scope n)
  (hs':swapsWith e (some (.Name n npos)) epos.line X.env=pure false:=by rfl) (hf:X.fn n=true\/X.env.scope.names.lookup n=some .local:=by first | exact .inl rfl | exact .inr rfl | assumption) :
  PS X (.Try [.Assign [.Name n npos] e epos] (h₀::hs) [] [] pos) (D6u X (h₀::hs) tx i):=by
 intro pins s σ H D I h;refine wpAny_Try_except (Z10 (Q:=λf s1=>f= .next/\∃σ' H',Inv X pins σ' H' s1/\D.nx σ' H') (E:=Rsd X pins σ (C8g X (h₀::hs) D σ)) ?_ (λf s1 q=> ?_) λev s1 hc=>B3c hst hc)
 ·refine wpAny_execs_cons (wpAny_Assign_Name (thn (he pins s σ H _ _ I h) λv s1 ⟨y,H1,I1,r1,q1⟩=> ?_) hs');exact A8l I1 hN hi hx r1 (λs2 I2=>Z2b ⟨rfl,_,H1,I2,q1⟩) hf
 ·obtain ⟨rfl,q⟩:=q;exact Z2b q
def D5v (X:Cx) (hs:List ExceptHandler) (tx:TX):TS:=λD σ H=>tx σ H (λ_ H1=>D.nx σ H1) (C8g X hs D σ)
theorem D0y {tx:TX} (hst:X.stack=X.env::X.outer/\X.env.frame=some X.env.locals) (he:PXD X e tx) (hs':swapsWith e none epos.line X.env=pure false:=by rfl) :
  PS X (.Try [.Expr e epos] (h₀::hs) [] [] pos) (D5v X (h₀::hs) tx):=by
 intro pins s σ H D I h;refine wpAny_Try_except (Z10 (Q:=λf s1=>f= .next/\∃σ' H',Inv X pins σ' H' s1/\D.nx σ' H') (E:=Rsd X pins σ (C8g X (h₀::hs) D σ)) ?_ (λf s1 q=> ?_) λev s1 hc=>B3c hst hc)
 ·exact wpAny_execs_cons (wpAny_Expr_any (thn (he pins s σ H _ _ I h) λv s1 ⟨y,H1,I1,r1,q1⟩=>Z2b ⟨rfl,σ,H1,I1,q1⟩) I.quiet hs')
 ·obtain ⟨rfl,q⟩:=q;exact Z2b q
end
end L2
namespace PySem.W
open PySem PySem.Spec PySem.Calls PyProof.Rows PySem.Builtin.ObjectAttr PySem.Builtin
section
variable {prog:Program} {w:World} {A:Around} {s:Shared} {K:Frag} {x C:Addr}
theorem exc_setattr2 {E:Value->Shared->Prop} {ox:Obj} {dx:Addr} {vs:Array Value} {m:Str->Option Value} {ks:List Str} {name:Str} {v:Value} {Q:Unit->Shared->Prop} (X:K.In s.heap) (hx:s.heap.get? x=some ox) (hcl:ox.cls= .ref C) (hdn:ox.dict=some dx) (hdt:ox.data= .fields vs)
  (hn:s.heap.Ns1 dx m) (wi:Within m ks) (hk:ks.length<=1000) (hs:findIn K (.ref C) "__setattr__"=some (some (.builtin "object.__setattr__"))) (hp:excOver K C=true) (ht:takerIn K C name=some none) (hh:(clsIn K C).any (·.hasDict)=true)
  (h:∀h' tk,h'.Ns1 dx (λy=>if y=name then some v else m y)->(∀b,b≠dx->h'.get? b=s.heap.get? b)->Q () { s with heap:=h',toks:=tk }) :
  wpAny (model prog w) A (setAttr (.ref x) name v) Q E s:=by
 obtain ⟨hp0,g,d,t,os⟩:=s;dsimp only at X hx h hn;obtain ⟨od,_,_,hod,_⟩:=id hn;have I:InstAt hp0 x ox C (some od):=⟨hx,hcl,by obtain ⟨_,_,d,_⟩:=ox;cases hdt;rfl,by rw [hdn];exact hod⟩;refine set_plain X I hs (B7q (s:=⟨hp0,g,d,t+1,os⟩) X I hp ht λb=> ?_);obtain ⟨cd,hc,hd'⟩:=any_some hh;obtain ⟨oc,odi,oda,osl⟩:=ox;dsimp only at hcl hdn hdt;subst hcl hdn hdt;have L:=looks_clsIn (M:=model prog w) X hc;refine Z00 (Z04 (Z00 (Z00 (wpAny_loadPart hx (Z00 (Looks.here (s:=⟨hp0,g,d,t+1,os⟩) L ?_))))));rw [hd'];refine Z04 (a:=some dx) ?_;show wpAny _ _ (storeInDict dx (.str name t) name v) _ _ _;unfold storeInDict newKeyGuard;refine Z00 (Z04 (Z00 (wpAny_nsSet1 (s:=⟨hp0,g,d,t+1,os⟩) hn λh' hn' hs=> ?_)));obtain ⟨oD,esD,epD,hoD,hdD,hcD⟩:=hn'.count (Within.cons name v wi);refine Z00 (wpAny_lookBehind hoD (by rw [hdD];exact pastItsLine_dict (Z1n hcD (by rw [Z0y,sizeLine_eq];lia))) ?_);refine Z04 ?_;exact h h' _ hn' λb hb=>hs.2 b hb
theorem D4h {M:Model} {h:Heap} {ox:Obj} {dx:Addr} {cd:ClassData} {m:Str->Option Value} {name:Str} (X:K.In h) (hx:h.get? x=some ox) (hcl:ox.cls= .ref C) (hdn:ox.dict=some dx) (no:notCls ox=true) (hc:clsIn K C=some cd) (hh:cd.hasDict=true) (hn:h.Ns dx m) :
  Looks M h (inOwnDict name (.ref x)) (m name):=by
 obtain ⟨o,es,ep,ho,hd,hr,same⟩:=hn
 have e:ownOf cd (some o) name=some (m name):=by
  unfold ownOf;rw [hh,Z12 rfl];unfold lookIn;dsimp only;rw [hd];dsimp only;rw [<-same name];unfold nsFind findBy;rw [<-Array.find?_toList]
  cases q:es.toList.find? (λe=>e.key.isStr name) with
  | some en=>rfl
  | none =>
   have:es.toList.any (·.refKey)=false:=by
    rw [List.any_eq_false];intro en hen;obtain ⟨n,t,ek⟩:=hr en (Array.mem_toList_iff.mp hen);simp [DictEntry.refKey,ek]
   rw [this];rfl
 exact looks_own X ⟨hx,hcl,no,by rw [hdn];exact ho⟩ hc e
theorem exc_get {E:Value->Shared->Prop} {ox:Obj} {dx:Addr} {vs:Array Value} {m:Str->Option Value} {name:Str} {v:Value} {b:Bool} {Q:Value->Shared->Prop} (X:K.In s.heap) (c:XcIn K C) (hx:s.heap.get? x=some ox) (hcl:ox.cls= .ref C) (hdn:ox.dict=some dx) (hdt:ox.data= .fields vs)
  (hh:(clsIn K C).any (·.hasDict)=true) (na:findIn K (.ref C) name=some none) (hn:s.heap.Ns dx m) (hm:m name=some v) (hv:handedIn v=true) (h:Q v { s with toks:=s.toks+1 }) :
  wpAny (model prog w) A (getAttr (.ref x) name b) Q E s:=by
 obtain ⟨h0,g,d,t,os⟩:=s;dsimp only at X hx hn;obtain ⟨cd,hc,hd'⟩:=any_some hh;have no:notCls ox=true:=by obtain ⟨_,_,d,_⟩:=ox;cases hdt;rfl
 have Lo:=D4h (M:=model prog w) (name:=name) X hx hcl hdn no hc hd' hn;rw [hm] at Lo;have Lf:Looks (model prog w) h0 (find (.ref x) (.ref C) name) (.value v):=(looks_findIn X na).andThen ((show Looks (model prog w) h0 (getOf none) none from .now).andThen ((show Looks (model prog w) h0 (dataDescriptor? none none) none from .now).andThen (Lo.andThen (Looks.tag .now))));unfold getAttr;refine Z00 (wpAny_mkText ?_);refine D7l X c hx hcl (λA R hR=>codeAny_call_builtin F.attr_ValueError.ga.plain F.entry_bexc_ga (C2i X c hx hcl ?_)) hv h;unfold Builtin.«object.__getattribute__»
 repeat (any_goals (first | assumption | (with_reducible refine Lf.at ?_) | (with_reducible refine Z1k hx ?_;rw [hcl]) | wp_step))
end
end PySem.W
namespace L2
open PySem PySem.Spec PyProof.Rows
def D6j (K:PySem.W.Frag) (ta tv:TE) (f:Str):TS:=λD σ H=>tv σ H λy H1=>ta σ H1 λx H2=>∃e C t dx fs,x= .ref e/\H2 e=some (xcD e C t dx)/\H2 dx=some (.xd fs)/\fs.length<=100/\fs.lookup f=none/\B5h K C f/\D.nx σ (upd H2 dx (.xd (fs++[(f,y)])))
theorem C7h {fs:List (Str×V)} {mA:Str->Option Value} (r:∀f,B5g (fs.lookup f) (mA f)):PySem.Within mA (fs.map (·.1)):=λg hg=>by
 have:=r g
 cases q:fs.lookup g with
 | none=>rw [q] at this;cases z:mA g with
  | none=>exact absurd z hg
  | some u=>rw [z] at this;exact this.elim
 | some v=>exact Z2c.mpr ⟨(g,v),PySem.mem_of_lookup q,rfl⟩
theorem C1d {fs:List (Str×V)} {f g:Str} {y:V} (h:fs.lookup f=none):(fs++[(f,y)]).lookup g=if g=f then some y else fs.lookup g:=by
 induction fs with
 | nil =>
  rw [List.nil_append,Z28,List.lookup_nil];by_cases z:g=f
  ·rw [Z12 z,z];simp
  ·rw [Z0t z,Z22.mpr z]
 | cons p r ih =>
  obtain ⟨k,v⟩:=p;rw [Z28] at h
  cases hk:(f == k) with
  | true=>rw [hk] at h;cases h
  | false =>
   rw [hk] at h;rw [List.cons_append,Z28,Z28]
   cases hg:(g == k) with
   | true =>
    have e1:g=k:=beq_iff_eq.mp hg;have e2:f≠k:=Z22.mp hk;rw [Z0t (λz=>e2 (Eq.trans z.symm e1))]
   | false=>exact ih h
section
variable {X:Cx} {pins:List (Addr×Obj)} {σ:St} {H:Hp} {s:Shared} {dx:Addr} {fs fs':List (Str×V)} {h':Heap} {t':Nat}
theorem Inv.xdput (I:Inv X pins σ H s) (ed:H dx=some (.xd fs)) (k:∀b u,b≠dx->s.heap.get? b=some u->h'.get? b=some u) (heo:∃u,h'.get? dx=some u) (new:A1y X.prog X.w (upd H dx (.xd fs')) h' dx (.xd fs')):Inv X pins σ (upd H dx (.xd fs')) { s with heap:=h',toks:=t' }:=by
 have hx:∀b,H b=none->b≠dx:=λb n z=>by rw [z,ed] at n;cases n
 have up:∀b o,H b=some o->(∀gs,o≠.xd gs)->upd H dx (.xd fs') b=some o:=λb o q n=>by
  rw [A0h (λz=>by rw [z,ed] at q;cases q;exact n _ rfl)];exact q
 refine I.un ⟨λb u q n _ _=>k b u (hx b n) q,λb u q n _ _=>⟨u.slots,k b u (hx b n) q⟩,λb u q n _=>by rw [A0h (hx b n)];exact n,λb u q _=> ?_,λb xs q=>up b _ q (λ_ z=>nomatch z),λb u xs q=>up b _ q (λ_ z=>nomatch z),λb ps q=>⟨#[],by rw [up b _ q (λ_ z=>nomatch z)];simp⟩⟩ λb u q=> ?_
 ·by_cases z:b=dx
  ·subst z;exact heo
  ·exact ⟨u,k b u z q⟩
 ·by_cases z:b=dx
  ·subst z;rw [A0b] at q;cases q;exact new
  ·rw [A0h z] at q;refine (I.hok b u q).stay (λc v hc e=>k c v (λzz=> ?_) e) (λc q=>up _ _ q (λ_ z=>nomatch z)) λc xs q=>up _ _ q (λ_ z=>nomatch z);rcases hc with hc | hc
   ·exact z (hc.symm.trans zz)
   ·rw [zz,ed] at hc;cases hc
end
theorem B6e {X:Cx} {o value:Expr} {f:Str} {pos pos':Pos} {ta tv:TE} (ha:PE X o ta) (hv:PE X value tv) (hs:swapsWith value (some (.Attribute o f pos')) pos.line X.env=pure false):PS X (.Assign [.Attribute o f pos'] value pos) (D6j X.K ta tv f):=by
 intro pins s σ H D I h;refine plainObj_wpAny_Assign_Attribute (thn (hv pins s σ H _ I h) λu s1 ⟨y,H1,I1,ry,q⟩=>thn (ha pins s1 σ H1 _ I1 q) λov s2 ⟨x,H2,I2,rx,e,C,t,dx,fs,ex,ee,ed,lf,nf,xs,q2⟩=> ?_) hs;subst ex;obtain rfl:ov=Value.ref e:=rx;obtain ⟨he,_,_⟩:=(show A1y X.prog X.w H2 s2.heap e (xcD e C t dx) from I2.hok e _ ee);obtain ⟨mA,n1,r⟩:=(show A1y X.prog X.w H2 s2.heap dx (.xd fs) from I2.hok dx _ ed);refine PySem.W.exc_setattr2 I2.kIn he rfl rfl rfl n1 (C7h r) (by rw [Z08];lia) xs.sa xs.ov xs.no.taker xs.hd λh' tk q1 q3=> ?_;obtain ⟨o',_,_,ho',_⟩:=id q1;refine ⟨σ,_,I2.xdput (fs':=fs++[(f,y)]) (h':=h') (t':=tk) ed (λb u hb z=>(q3 b hb).trans z) ⟨_,ho'⟩ ⟨_,q1,λg=> ?_⟩,q2⟩;rw [C1d nf];by_cases z:g=f
 ·rw [Z12 z,Z12 z];exact ry
 ·rw [Z0t z,Z0t z];exact r g
structure D5d (K:PySem.W.Frag) (C:Addr) (f:Str):Prop where
 c:PySem.W.XcIn K C
 hd:(PySem.W.clsIn K C).any (·.hasDict)=true
 no:PySem.W.findIn K (.ref C) f=some none
def D9t (K:PySem.W.Frag) (ta:TE) (f:Str):TE:=λσ H Q=>ta σ H λx H1=>∃ea C dx fs v,x= .ref ea/\H1 ea=some (.ext (xcG ea C (some dx)))/\H1 dx=some (.xd fs)/\fs.lookup f=some v/\D5d K C f/\Q v H1
theorem B6g {X:Cx} {K:PySem.W.Frag} {e:Expr} {f:Str} {pos:Pos} {ta:TE} (hK:X.K=K) (he:PE X e ta) (hb:attributeBase e f X.env (eval e X.env)=eval e X.env):PE X (.Attribute e f pos) (D9t K ta f):=by
 intro pins s σ H Q I h;refine C6c hb (thn (he pins s σ H _ I h) λu s1 ⟨x,H1,I1,rx,ea,C,dx,fs,v,ex,ee,ed,l,g,q⟩=> ?_);subst ex hK;obtain rfl:u=Value.ref ea:=rx;obtain ⟨⟨o,vs,ho,hc,hd,hv,_⟩,_,_⟩:=(show A1y X.prog X.w H1 s1.heap ea (.ext (xcG ea C (some dx))) from I1.hok ea _ ee);obtain ⟨mA,n1,r⟩:=(show A1y X.prog X.w H1 s1.heap dx (.xd fs) from I1.hok dx _ ed);obtain ⟨u,hu,ru⟩:=B5g.some_of (v:=v) (o:=mA f) (by rw [<-l];exact r f);exact PySem.W.exc_get I1.kIn g.c ho hc hd hv g.hd g.no n1.ns hu (B9u ru) ⟨v,H1,I1.tok _,ru,q⟩
theorem xcG.kit {ea C:Addr} {od:Option Addr} {h:Heap} (p:xcG ea C od h):PySem.W.KitE ea C h:=by
 obtain ⟨o,vs,ho,hc,_⟩:=p;exact ⟨o,ho,hc⟩
def D8r (K:PySem.W.Frag):List V->Hp->VK->Prop:=λxs H Q=>∃ea C od c b,xs=[.ref ea,c]/\H ea=some (.ext (xcG ea C od))/\PySem.W.XcIn K C/\(∀u,A2z c u->PySem.W.kitOne K (.ref C) u=some b)/\Q (.bl b) H
theorem B0j {X:Cx} {K:PySem.W.Frag} (hK:X.K=K):B1g X (.builtin "isinstance") (D8r K):=by
 subst hK;intro pins s σ H xs us Q I r h;obtain ⟨ea,C,od,c,b,rfl,he,xc,k,q⟩:=h;obtain ⟨u,w',rfl,ru,rw'⟩:=B4u r;cases ru;exact PySem.W.kia_one (PySem.W.kitx_exc xc) I.kIn (xcG.kit (I.hok ea _ he).1) (k w' rw') (λz=>nomatch z) λtk=>⟨.bl b,H,I.tok tk,rfl,q⟩
def D8b (K:PySem.W.Frag):List V->Hp->VK->Prop:=λxs H Q=>∃ea C od tp cs b,xs=[.ref ea,.ref tp]/\H ea=some (.ext (xcG ea C od))/\PySem.W.XcIn K C/\H tp=some (.tup cs)/\(∀us,A2u cs us->PySem.W.kitAny K (.ref C) us=some b)/\Q (.bl b) H
theorem B5r {X:Cx} {K:PySem.W.Frag} (hK:X.K=K):B1g X (.builtin "isinstance") (D8b K):=by
 subst hK;intro pins s σ H xs us Q I r h;obtain ⟨ea,C,od,tp,cs,b,rfl,he,xc,ht,k,q⟩:=h;obtain ⟨u,w',rfl,ru,rw'⟩:=B4u r;cases ru;cases rw';obtain ⟨_,its,rv,ob,hob,hc,n,hd⟩:=(show A1y X.prog X.w H s.heap tp (.tup cs) from I.hok tp _ ht);obtain ⟨oc,od',oda,osl⟩:=ob;dsimp only at hc hd;subst hc hd;exact PySem.W.kia_tup (PySem.W.kitx_exc xc) I.kIn (xcG.kit (I.hok ea _ he).1) hob (k its rv) (λz=>nomatch z) λtk=>⟨.bl b,H,I.tok tk,rfl,q⟩
def D3l (C:Addr) (sp:Sp) (dvs:List V) (E E':XK) (t:TA):TS:=λ_ σ H=>t σ H λvs H1=>vs.length<=sizeLine/\
 ∀ea ta,H1 ea=none->sp (.ref ea::(vs++dvs)) (upd H1 ea (xcN ea C ta)) (λv H2=>v= .non/\∃d,H2 ea=some (.ext λh=>h.get? ea=some (B0z C ta d))/\E (.ref C) d (B0f H2 ea)) E'
section
variable {X:Cx} {CX:CXT} {k:Nat} {f C:Addr} {fd:FuncData} {ps:List Str} {ds:List Value} {dvs:List V} {sp:Sp} {E E':XK}
theorem C7l {x:Str} {np cpos pos:Pos} {e:Expr} {es:List Expr} {t:TA} (hT:C6e X C E) (M:MkX X.K C f) (F:A2e X.prog X.w X.K X.mg X.base CX k f fd ps sp) (hr:A7p (k+1) X.A) (hg:Gl X x) (hm:X.mg x=some (.ref C)) (hb:A1i X.K fd ps ds) (hd:A2u dvs ds) (hx:A8o CX X E') (hc:X.calm=true)
  (hex:X.ex=[]) (ha:PA X (e::es) t) (hdb:(x == ("__debug__":Str))=false:=by decide) (he:starEach (e::es) X.env=(false,eval e X.env)::starEach es X.env:=by rfl) (hpl:(backTo cpos (starEach es X.env)).any (·.1)=false:=by rfl) :
  PS X (.Raise (some (.Call (.Name x np) (e::es) [] cpos)) none pos) (D3l C sp dvs E E' t):=by
 intro pins s σ H D I h;obtain ⟨nm,qn,N,bs,bm,hdct,sn,sub,ab,col,dd,k0,k1,k2,k3,k5,mN,hC,hN,hi,T,fn⟩:=C1o I.mod.kin M.xe
 have call:wpAny (model X.prog X.w) X.A (eval (.Call (.Name x np) (e::es) [] cpos) X.env) (λv s₁=>∃e t dx,v= .ref e/\s₁.heap.get? C=some (excClassObj nm qn C N bs bm hdct sn sub ab col dd k0 k1 k2 k3 k5 "ValueError.__new__")/\s₁.heap.get? e=some (B0z C t dx)/\X.xe (.ref e) s₁) X.xe s:=by
  refine wpAny_Call_Name_kw (A5g I hg hm ?_ hdb);refine PySem.W.callWith_K (h₀:=X.base) I.ok.mod.kin M.kp (thn (ha cpos pins s σ H _ I h) λus s1 ⟨vs,H1,I1,r,hl,q⟩=>⟨I1.kIn,?_⟩) he hpl;refine thn (C7t (Q:=λea ta H2=>∃d,H2 ea=some (.ext λh=>h.get? ea=some (B0z C ta d))/\E (.ref C) d (B0f H2 ea)) M.xe F hr hb hd hx I1 r (r.length▸hl) q) λv s2 ⟨ea,ta,H2,ev,I2,hn,d,hea,hE⟩=> ?_;obtain ⟨hobj,_,_⟩:=(show A1y X.prog X.w H2 s2.heap ea (.ext λh=>h.get? ea=some (B0z C ta d)) from I2.hok ea _ hea)
  have h0:X.s₀.heap.get? ea=none:=by
   cases z:X.s₀.heap.get? ea with
   | none=>rfl
   | some o =>
    obtain ⟨o1,e1⟩:=I1.base.there ea o z (by rw [hex];simp);rw [hn] at e1;cases e1
  exact ⟨ea,ta,d,ev,I2.bk _ _ hC,hobj,hT pins σ H2 s2 ea ta d I2 hea h0 hE⟩
 rw [arm_exec_Raise]
 first
  | exact Z00 (Z1y (A7s (C:=C) (nm:=nm) (q:=qn) (N:=N) (bs:=bs) (bm:=bm) (hdct:=hdct) (sn:=sn) (sub:=sub) (ab:=ab) (col:=col) (dd:=dd) (k0:=k0) (k1:=k1) (k2:=k2) (k3:=k3) (k5:=k5) (newId:="ValueError.__new__") (T.hasType (by decide +kernel)) (I.ok.hd hc) (Z00 (Z10 call (λv s₃ h₃=>Z00 (Z1y (Z04 h₃))) λ_ _ x=>x))))
  | (simp only [evalOpt,Option.map];exact Z00 (Z1y (A7s (C:=C) (nm:=nm) (q:=qn) (N:=N) (bs:=bs) (bm:=bm) (hdct:=hdct) (sn:=sn) (sub:=sub) (ab:=ab) (col:=col) (dd:=dd) (k0:=k0) (k1:=k1) (k2:=k2) (k3:=k3) (k5:=k5) (newId:="ValueError.__new__") (T.hasType (by decide +kernel)) (I.ok.hd hc) (Z00 (Z10 call (λv s₃ h₃=>Z00 (Z1y (Z04 h₃))) λ_ _ x=>x)))))
end
section
variable {X:Cx} {CX:CXT} {k:Nat} {f C:Addr} {fd:FuncData} {ps:List Str} {sp:Sp}
end
abbrev C1g (A:Around):Around:={ A with handled:=none }
def B4p (k:Nat) (A:Around):Prop:=A7p k (C1g A)
theorem B4p.deeper {k:Nat} {A:Around} (r:B4p (k+1) A) (env:Env):B4p k (A.deeper env):=A7p.deeper r env
theorem B4p.depth {k:Nat} {A:Around} (r:B4p k A):A.depth<recursionLimit:=A7p.depth (A:=C1g A) r
theorem A7p.held {k:Nat} {A:Around} (r:A7p k A) (h:Option Value):B4p k (A.mark h):=⟨rfl,r.dp,r.un,r.gd⟩
abbrev cxH (CX:CXT) (P:Program) (w:World) (K:PySem.W.Frag) (mg:Str->Option Value) (base:Heap) (N:List Str) (qual:Str) (scope:Scope) (f:Addr) (cd:Value) (A:Around) (outer:List Env) (s:Shared) (H:Hp) (E:XK):Cx :=
 { C8b CX P w K mg base N qual scope f cd A outer s H E with calm:=false }
theorem C3s {CX:CXT} {P:Program} {w:World} {K:PySem.W.Frag} {mg:Str->Option Value} {base:Heap} {N ps:List Str} {qual:Str} {scope:Scope} {f:Addr} {cd:Value} {A:Around} {outer:List Env} {s s1:Shared} {H:Hp} {E:XK} {us:List Value} {vs:List V}
  (S:A0o N ps scope) (e0:C8h P w K mg base A outer s H) (hl:vs.length=ps.length) (r:A2u vs us)
  (x:InCallC s s.heap.objs.size (bindL (envOfC qual scope s.heap.objs.size f cd).kindOf (ps.zip us) λ_=>none) (cellsFrom (s.heap.objs.size+1) scope.names []) (bindC (envOfC qual scope s.heap.objs.size f cd).kindOf (ps.zip us) λ_=>none) s1) :
  Inv (cxH CX P w K mg base N qual scope f cd A outer s H E) [] (B2a N vs) H s1:=by
 have e1:C8h P w K mg base (C1g A) outer s H:=⟨e0.frames,e0.mod,e0.bs,e0.bsz,e0.funs,e0.frf,e0.hok,e0.bare⟩;have I:=B8a (CX:=CX) (E:=E) S rfl e1 hl r x;have ok:=I.ok
 exact ⟨⟨ok.mod,ok.kind,ok.glob,ok.blt,ok.above,ok.inj,ok.has,ok.cab,(λz=>nomatch z),Around.frames_deeper e0.frames,ok.stk,ok.exf,ok.bs,ok.bsz,ok.noex,ok.exfs,ok.funs,ok.frf⟩,
  I.os,I.bare,I.base,I.loc,I.cell,I.free,I.freeC,I.pin,I.hok,I.len⟩
section
variable {P:Program} {w:World} {K:PySem.W.Frag} {mg:Str->Option Value} {base:Heap}
end
section
variable {X:Cx} {CX:CXT} {k:Nat} {f:Addr} {fd:FuncData} {ps:List Str} {sp:Sp} {dvs:List V} {ds:List Value} {E:XK} {x:Str} {p pos:Pos} {e:Expr} {es:List Expr} {t:TA}
end
section
variable {prog:Program} {w:World} {A:Around} {E:Value->Shared->Prop} {s:Shared}
theorem B6s:entryFor table "proto.unchain"=some Builtin.«proto.unchain»:=entryFor_of_fast (by kernel_rfl)
theorem B9p {e:Value} {h:Addr} {oh:Obj} {vs:Array Value} {Q:Value->Shared->Prop} (ho:s.heap.get? h=some oh) (hd:oh.data= .fields vs) (h2:vs[2]? =some .none) (hq:Q .none s) :
  wpAny (model prog w) A (runValue (.builtin "proto.unchain" ⟨[e,.ref h,.ref h,.bool false],[]⟩)) Q E s:=by
 refine runValue_entry B6s ?_;show wpAny _ _ (field (.ref h) 2 >>= _) _ _ s;refine Z00 (Z11 ho hd h2 ?_);exact Z04 ⟨_,rfl,hq⟩
theorem B0n {α:Type} {h e:Addr} {oh oe:Obj} {vs es:Array Value} {Q:α->Shared->Prop} (hh:A.handled=some (.ref h)) (ne:h≠e) (ho:s.heap.get? h=some oh) (hd:oh.data= .fields vs) (h2:vs[2]? =some .none) (he:s.heap.get? e=some oe) (hde:oe.data= .fields es) (hz:2<es.size)
  (hE:E (.ref e) { s with heap:=s.heap.update e (Obj.mapFields (·.setIfInBounds 2 (.ref h))) }):wpAny (model prog w) A (raiseNew (.ref e)) Q E s:=by
 simp only [raiseNew];refine Z00 (wpAny_handled ?_);rw [hh];have nb:(Value.ref h != Value.ref e)=true:=by simpa using ne
 dsimp only;rw [Z12 nb];refine Z00 (Z1w (B9p ho hd h2 ?_));refine Z00 (Z1t (x:= .ref h) he hde hz (wpAny_throw hE))
end
structure D6a (ok:Around->Prop) (P:Program) (w:World) (K:PySem.W.Frag) (tg:Expr) (J:It) (fp:List Addr) (it:Addr) (tn:Nat->Heap->Prop):Prop where
 mem:it∈fp
 obj:∀i h,tn i h->∀b∈fp,∃o,h.get? b=some o/\∀v,o.data≠.cell v
 keep:∀i h h',tn i h->(∀b∈fp,∀o,h.get? b=some o->h'.get? b=some o)->tn i h'
 item:∀(X:Cx),X.prog=P->X.w=w->X.K=K->ok X.A->∀(i:Nat) (pins:List (Addr×Obj)) (s:Shared) (σ:St) (H:Hp) (E:Value->Shared->Prop),Inv X pins σ H s->(∀b∈fp,B3n X pins H b)->tn i s.heap->J.go i H->
  wpAny (model P w) X.A (pyNext (.ref it)) (λr s1=>∃u,r=some u/\
   wpAny (model P w) X.A (letOwnedTupleGo tg (.ref it) u) (λ_ s2=>∃x H',Inv X pins σ H' s2/\A2z x u/\J.yld i H x H'/\tn (i+1) s2.heap/\∀b∈fp,H' b=none) E s1) E s
 done:∀(X:Cx),X.prog=P->X.w=w->X.K=K->ok X.A->∀(i:Nat) (pins:List (Addr×Obj)) (s:Shared) (σ:St) (H:Hp) (E:Value->Shared->Prop),Inv X pins σ H s->(∀b∈fp,B3n X pins H b)->tn i s.heap->J.stop i H->
  wpAny (model P w) X.A (pyNext (.ref it)) (λr s1=>r=none/\Inv X pins σ H s1) E s
 self:∀(A:Around) (i:Nat) (s:Shared) (Q:Value->Shared->Prop) (E:Value->Shared->Prop),tn i s.heap->Q (.ref it) s->wpAny (model P w) A (pyIter (.ref it)) Q E s
def PIEP (ok:Around->Prop) (X:Cx) (pins:List (Addr×Obj)) (σ:St) (tg:Expr) (R:It->Hp->Prop) (itv:Value) (s2:Shared):Prop :=
 ∃(it:Addr) (fp:List Addr) (tn:Nat->Heap->Prop) (J:It) (H':Hp),itv= .ref it/\Inv X pins σ H' s2/\D6a ok X.prog X.w X.K tg J fp it tn/\tn 0 s2.heap/\(∀b∈fp,B3n X pins H' b)/\R J H'
def PIP (ok:Around->Prop) (X:Cx) (tg iter:Expr) (wi:TI):Prop :=
 ∀(pins:List (Addr×Obj)) (s:Shared) (σ:St) (H:Hp) (R:It->Hp->Prop),Inv X pins σ H s->wi σ H R->
  wpAny (model X.prog X.w) X.A (eval iter X.env) (λv s1=>wpAny (model X.prog X.w) X.A (pyIter v) (PIEP ok X pins σ tg R) X.xe s1) X.xe s
section
variable {X:Cx}
end
abbrev B1m (ea:Addr):Around->Prop:=λA=>A.handled=some (.ref ea)
section
variable {X:Cx} {tg:Expr}
end
structure D2q (ea:Addr) (P:Program) (w:World) (K:PySem.W.Frag) (mg:Str->Option Value) (base:Heap) (CX:CXT) (k:Nat) (f:Addr) (fd:FuncData) (ps:List Str) (sp:Sp):Prop where
 len:∀vs H Q E,sp vs H Q E->vs.length=ps.length
 run:∀(A:Around) (outer:List Env) (s:Shared) (H:Hp) (args:Args) (us:List Value) (vs:List V) (Q:VK) (E:XK),B4p k A->A.handled=some (.ref ea)->C8h P w K mg base A outer s H->BindsTo s fd args (ps.zip us)->A2u vs us->sp vs H Q E->
  codeAny (model P w) A (.call (.ref f) args) (CR CX outer P w H s Q E) s
section
variable {P:Program} {w:World} {K:PySem.W.Frag} {mg:Str->Option Value} {base:Heap}
theorem Fun.okE {ea:Addr} {x qual:Str} {st:Stmt} {f:Addr} {fd:FuncData} {N ps:List Str} {k:Nat} {sp:Sp} (F:Fun K x qual st f fd) (S:A0o N ps (A0i st)) (len:∀vs H Q E,sp vs H Q E->vs.length=ps.length)
  (hbody:∀(cdv:Value) (A:Around) (outer:List Env) (s:Shared) (H:Hp) (vs:List V) (Q:VK) (E:XK),B4p k (A.deeper (envOfC qual (A0i st) s.heap.objs.size f cdv))->B1m ea (A.deeper (envOfC qual (A0i st) s.heap.objs.size f cdv))->sp vs H Q E->
   ∃t,PSs (cxH CX0 P w K mg base N qual (A0i st) f cdv A outer s H E).nox (A6h st) t/\t { nx:=λ_ H'=>Q .non H',rt:=Q } (B2a N vs) H):D2q ea P w K mg base CX0 (k+1) f fd ps sp:=by
 obtain ⟨oc,od,kV,doc,pm,an,cdv,ct,osl,rfl,lk,hcd⟩:=F.ex;refine ⟨len,λA outer s H args us vs Q E hr hh e0 hb r hsp=> ?_⟩;have stay:∀b o,base.get? b=some o->s.heap.get? b=some o:=λb o e=>(e0.bs b o e).1;have kin:=e0.mod.kin.keeps stay;have nl:=e0.mod.nolimit.keeps stay;have hl:vs.length=ps.length:=len _ _ _ _ hsp
 have kinds:∀y∈ps.zip us,(A0i st).names.lookup y.1=some .local\/((A0i st).names.lookup y.1=some .cell/\((cellsFrom (s.heap.objs.size+1) (A0i st).names []).lookup y.1).isSome=true):=by
  rintro ⟨n,v⟩ hy;exact (S.par n (List.of_mem_zip hy).1).imp id λq=>⟨q,PySem.W.cellsFrom_some _ _ _ (.inl q)⟩
 refine codeAny_call_function (B4p.depth hr) (kin _ _ lk) rfl S.co S.gen rfl
  (PySem.W.codeRec_of kin hcd) (hb _ _ _ _ (wpAny_newFunctionEnv_cells S.kind kinds λenv he s1 x=> ?_))
 cases he
 refine ⟨nl.keeps x.toInCall.keep,codeAny_func ?_⟩;obtain ⟨t,ht,hq⟩:=hbody cdv A outer s H vs Q E (hr.deeper _) hh hsp;have ht:=PSs.nox ht;have I:=C3s (CX:=CX0) (E:=E) S e0 hl r x;refine Z10 (ht [] s1 (B2a N vs) H _ I hq) (λfl s' hs=> ?_) λe s' hs=>hs
 cases fl with
 | ret u =>
  obtain ⟨v,σ',H',J,rv,q⟩:=hs;exact ⟨v,H',J.os,J.bare,J.base,J.hok,rv,q⟩
 | next =>
  obtain ⟨σ',H',J,q⟩:=hs;exact ⟨.non,H',J.os,J.bare,J.base,J.hok,rfl,q⟩
 | brk =>
  obtain ⟨_,_,_,q⟩:=hs;exact False.elim q
 | cont =>
  obtain ⟨_,_,_,q⟩:=hs;exact False.elim q
end
section
variable {X:Cx} {CX:CXT} {k:Nat} {f ea:Addr} {fd:FuncData} {ps:List Str} {sp:Sp} {dvs:List V} {ds:List Value} {E:XK} {x:Str} {p pos:Pos} {e:Expr} {es:List Expr} {t:TA}
theorem C2n (F:D2q ea X.prog X.w X.K X.mg X.base CX k f fd ps sp) (hr:B4p k X.A) (hh:B1m ea X.A) (hg:Gl X x) (hm:X.mg x=some (.ref f)) (hk:PySem.W.keepIn X.K (.ref f)=true) (hb:A1i X.K fd ps ds) (hd:A2u dvs ds) (hx:A8o CX X E)
  (ha:PA X (e::es) t) (hdb:(x == ("__debug__":Str))=false:=by decide) (he:starEach (e::es) X.env=(false,eval e X.env)::starEach es X.env:=by rfl) (hpl:(backTo pos (starEach es X.env)).any (·.1)=false:=by rfl) :
  PE X (.Call (.Name x p) (e::es) [] pos) (D7c sp dvs E t):=by
 intro pins s σ H Q I h;refine wpAny_Call_Name_kw (A5g I hg hm ?_ hdb);refine PySem.W.callWith_K (h₀:=X.base) I.ok.mod.kin hk (thn (ha pos pins s σ H _ I h) λus s1 ⟨vs,H1,I1,r,q⟩=>⟨I1.kIn,?_⟩) he hpl;have r2:=r.append hd;have hl:(us++ds).length=ps.length:=by rw [<-r2.length];exact F.len _ _ _ _ q
 refine wpAny_call (codeAny_mono (F.run X.A X.stack s1 H1 ⟨us,[]⟩ (us++ds) (vs++dvs) Q E hr hh I1.env0 (hb s1 us I1.kIn hl) r2 q) λr s' hq=> ?_);rcases r with e | fl
 ·exact hx pins σ H1 s1 e s' I1 hq
 ·cases fl with
  | ret u=>exact I1.after hq
  | _=>exact False.elim hq
end
section
variable {X:Cx} {C C':Addr} {y n:Str} {yp hpos:Pos} {b₀:Stmt} {suite:List Stmt} {rest:List ExceptHandler} {i:Nat}
def D7e (i:Nat) (C:Addr) (ts:Addr->TS):Option Addr->Addr->TS:=λod ea D σ H=>ts ea { nx:=λσ' H'=>D.nx (σ'.set i none) H',rt:=D.rt,bk:=λσ' H'=>D.bk (σ'.set i none) H',ct:=λσ' H'=>D.ct (σ'.set i none) H' } (σ.set i (some (.ref ea))) (upd H ea (.ext (xcG ea C od)))
theorem C8l {ts:Addr->TS} (hg:Gl X y) (hm:X.mg y=some (.ref C')) (q:PySem.W.exmOne X.K (.ref C) (.ref C')=some true) (hN:X.N.Nodup) (hi:X.N[i]? =some n) (hx:X.env.scope.names.lookup n=some .local)
  (hs:∀ea,PSs (X.held ea) (b₀::suite) (ts ea)) (hd:(y == ("__debug__":Str))=false:=by decide) :
  PHD X (.ExceptHandler (some (.Name y yp)) (some n) (b₀::suite) hpos::rest) C (D7e i C ts):=by
 intro pins σ H B ea a0 od s D F h;refine wpAny_handleBy_cons (codeAny_handlers_test ?_) (by intro q;cases q);refine A5g (X:=X.held ea) (F.inv.held ea) hg hm ?_ hd;refine (C7i F.inv.kIn F.cls q).here (codeAny_handlers_suite_as ?_);refine B1t F.fl λh' fl' up kd=> ?_;have F':=(F.go h' fl'.1 up (C5y (s:={ s with heap:=h' }) fl' (F.d.kd kd))).2;refine A8l (X:=X.held ea) (v:= .ref ea) (F'.held ea) hN hi (.inl hx) rfl (λs2 I2=> ?_) (.inr hx)
 refine Z10 (hs ea pins s2 _ _ _ I2 h) (λf s3 hf=> ?_) λ_ _ z=>False.elim z;dsimp only
 cases f with
 | next =>
  obtain ⟨σ',H',I',r⟩:=hf;exact A4q (I'.unheld F.inv.ok) hN hi hx λs4 I4=>⟨_,H',I4,r⟩
 | brk =>
  obtain ⟨σ',H',I',r⟩:=hf;exact A4q (I'.unheld F.inv.ok) hN hi hx λs4 I4=>⟨_,H',I4,r⟩
 | cont =>
  obtain ⟨σ',H',I',r⟩:=hf;exact A4q (I'.unheld F.inv.ok) hN hi hx λs4 I4=>⟨_,H',I4,r⟩
 | ret u =>
  obtain ⟨v,σ',H',I',rv,r⟩:=hf;exact A4q (I'.unheld F.inv.ok) hN hi hx λs4 I4=>⟨v,_,H',I4,rv,r⟩
end
theorem B6u {y:Str} (h:PyData.strOk y=true):(reprText y).length<=10*y.length+2:=by
 refine StrLaws.reprText_len y λc hc=> ?_;have h2:∀(i:Nat) (x:i<y.cps.size),y.cps[i]<1114112:=by simpa [PyData.strOk] using h
 obtain ⟨i,hi,e⟩:=List.mem_iff_getElem.mp hc;have:=h2 i (by simpa using hi);rw [<-e];exact Z0q (by simpa using this) (by decide)
def D7i (te:TE) (tr:TJ):TJ:=λσ H out Q=>te σ H λx H1=>∃y:Str,x= .str y/\PyData.strOk y=true/\out.length+10*y.length+2<=sizeLine/\∀z:Str,z.length<=10*y.length+2->tr σ H1 (out++z) Q
def B0w (ys:List Str):Nat:=(ys.map λy=>10*y.length+4).sum+3
def D3y (te:TE) (tr:TJ):TJ:=λσ H out Q=>te σ H λx H1=>∃(a:Addr) (ys:List Str),x= .ref a/\H1 a=some (.lst (ys.map V.str))/\ys≠[]/\(∀y∈ys,PyData.strOk y=true)/\out.length+B0w ys<=sizeLine/\∀z:Str,z.length<=B0w ys->tr σ H1 (out++z) Q
section
variable {X:Cx} {e:Expr} {es:List Expr} {te:TE} {tr:TJ} {pos p2:Pos}
theorem A4v (he:PE X e te) (hr:PJ X es tr) (hs:evalEach (.FormattedValue e 114 none pos::es) X.env=eval (.FormattedValue e 114 none pos) X.env::evalEach es X.env:=by rfl):PJ X (.FormattedValue e 114 none pos::es) (D7i te tr):=by
 intro pins s σ H out Q I h;rw [hs];refine joinParts_cons (wpAny_FormattedValue_repr (thn (he pins s σ H _ I h) λv s1 ⟨x,H1,I1,rx,y,ex,oky,hz,q⟩=> ?_));subst ex;obtain ⟨t,rfl⟩:=(show∃t,v=Value.str y t from rx);have hl:=B6u oky;refine pyReprObj_str ?_ (by lia);refine formatField_str (λt' tk=>⟨?_,hr pins _ σ H1 _ Q ((I1.tok _).tok tk) (q _ hl)⟩) (by lia);rw [strLen_append];lia
theorem C2a:∀{ys:List Str},(∀y∈ys,PyData.strOk y=true)->((ys.map reprText).map (·.length)).sum+2*(ys.map reprText).length<=(ys.map λy=>10*y.length+4).sum
 | [],_=>by simp
 | y::r,h=>by
  have h1:=B6u (h y (.head _));have h2:=C2a (ys:=r) λz hz=>h z (.tail _ hz);simp only [Z0p,List.sum_cons,Z0y] at h2⊢
  lia
theorem D1w {y:Str}:∀{ys:List Str},y∈ys->10*y.length+4<=(ys.map λy=>10*y.length+4).sum
 | _::r,.head _=>by simp only [Z0p,List.sum_cons];lia
 | z::r,.tail _ h=>by
  have:=D1w h;simp only [Z0p,List.sum_cons];lia
theorem D0m (hg:X.A.guards=some []) (hu:X.A.units<cLine) (he:PE X e te) (hr:PJ X es tr) (hs:evalEach (.FormattedValue e 114 none pos::es) X.env=eval (.FormattedValue e 114 none pos) X.env::evalEach es X.env:=by rfl):PJ X (.FormattedValue e 114 none pos::es) (D3y te tr):=by
 intro pins s σ H out Q I h;rw [hs];refine joinParts_cons (wpAny_FormattedValue_repr (thn (he pins s σ H _ I h) λv s1 ⟨x,H1,I1,rx,a,ys,ex,ha,ne,ok,hz,q⟩=> ?_));subst ex;cases rx;obtain ⟨z,its,n,r,hl,eo⟩:=I1.lstM ha;have lt:=Z1n (listText_len_le (ys.map reprText)) (Nat.add_le_add_right (C2a ok) 3);have lt:(listText (ys.map reprText)).length<=B0w ys:=lt
 cases its with
 | nil =>
  rw [Z08] at hl;exact absurd (List.eq_nil_of_length_eq_zero hl) ne
 | cons u us =>
  refine wpAny_pyReprObj_list (x:=u) (l:=us) (ts:=ys.map reprText) ⟨_,eo,rfl⟩ hg (λv rest kw hm=>by cases hm) hu eo rfl ?_ (λi y hi=> ?_) (λh' t tk hk=> ?_) (by lia)
  ·rw [Z08,Z0g,<-hl,Z08]
  ·have hi:(u::us)[i]? =some y:=by simpa using hi
   have hil:i<ys.length:=by
    have h1:=(Z03.mp hi).1;rw [<-hl,Z08] at h1;exact h1
   have hy0:ys[i]? =some ys[i]:=Z0b hil;generalize ys[i]=y0 at hy0;obtain ⟨w,hw,rw'⟩:=r.get (i:=i) (x:=V.str y0) (by rw [Z1z,hy0];rfl);rw [hi] at hw;cases hw;obtain ⟨t,rfl⟩:=(show∃t,y=Value.str y0 t from rw');have hm:=Z13 hy0;have h1:=B6u (ok y0 hm);have h2:=D1w hm;exact ⟨reprText y0,by rw [Z1z,hy0];rfl,ReprIs.str y0 t (by unfold B0w at hz;lia)⟩
  ·have I2:Inv X pins σ H1 { s1 with heap:=h',toks:=tk }:=I1.kept λb o e=>hk b o e
   refine formatField_str (λt' tk'=>⟨?_,hr pins _ σ H1 _ Q (I2.tok tk') (q _ lt)⟩) (by lia);rw [strLen_append];lia
end
abbrev B7y (h:Heap) (l1:Addr):Heap:=h.push { cls:= .type "tuple_iterator",data:= .fields #[.ref l1,.int 0 0] }
def D8f (K:PySem.W.Frag) (a b:Addr):It :=
 ⟨λi H=>∃xs ys x y,SqT K H a xs/\SqL K H b ys/\xs[i]? =some x/\ys[i]? =some y,
  λi H v H'=>∃p,H p=none/\v= .ref p/\∃x y,(∀xs,SqT K H a xs->xs[i]? =some x)/\(∀ys,SqL K H b ys->ys[i]? =some y)/\H'=upd H p (.tup [x,y]),
  λi H=>∃xs ys,SqT K H a xs/\SqL K H b ys/\(xs.length<=i\/ys.length<=i)⟩
def C6o (z TI TO i1 i2 a b:Addr) (i:Nat) (h:Heap):Prop:=IsZip h z TI TO .none/\IsPair h TI (.ref i1) (.ref i2)/\(∃u v,IsPair h TO u v)/\h.IsTupleIter i1 a i/\h.IsListIter i2 b i
theorem C3a {P:Program} {w:World} {K:PySem.W.Frag} {elts:List Expr} {kk:Nat} {pos:Pos} {z TI TO i1 i2 a b:Addr} (D:ZipApart z TI TO i1 i2 a b) :
  C8f P w K (.Tuple elts kk pos) (D8f K a b) [z,TI,TO,i1,i2] z (C6o z TI TO i1 i2 a b) where
 mem:=by simp
 obj:=λi h st c hc=>by
  obtain ⟨h1,h2,⟨u,v,h3⟩,h4,h5⟩:=st;simp only [Z0e,Z1i,or_false] at hc;rcases hc with rfl | rfl | rfl | rfl | rfl
  ·exact ⟨_,h1,λv z=>by cases (show Data.fields _=Data.cell v from z)⟩
  ·exact ⟨_,h2,λv z=>by cases (show Data.seq _ _=Data.cell v from z)⟩
  ·exact ⟨_,h3,λv z=>by cases (show Data.seq _ _=Data.cell v from z)⟩
  ·exact (A1g _ a).ob h4
  ·exact (A1o _ b).ob h5
 keep:=λi h h' st k=>by
  obtain ⟨h1,h2,⟨u,v,h3⟩,h4,h5⟩:=st;exact ⟨k z (by simp) _ h1,k TI (by simp) _ h2,⟨u,v,k TO (by simp) _ h3⟩,(A1g i1 a).mv h4 λo e=>k i1 (by simp) o e,(A1o i2 b).mv h5 λo e=>k i2 (by simp) o e⟩
 item:=by
  intro X hP hw hK hc i pins s σ H E I hf st hg;subst hP hw hK;obtain ⟨xs,ys,x,y,hq1,hq2,hx,hy⟩:=hg;obtain ⟨its,rv,p1,_⟩:=I.tuple hq1;obtain ⟨its2,rv2,p2,_⟩:=I.list hq2;obtain ⟨u,hu,ru⟩:=rv.get hx;obtain ⟨u2,hu2,ru2⟩:=rv2.get hy;obtain ⟨h1,h2,⟨o1,o2,h3⟩,h4,h5⟩:=st;refine A9z (A1g i1 a) (A1o i2 b) D h1 h2 h3 h4 h5 (show s.heap.IsTuple a its.toArray from p1) p2.isList (x:=u) (by simpa using hu) (y:=u2) (by simpa using hu2) λh' z1 z2 z3 z4 z5 kp=> ?_;refine ⟨_,rfl,wpAny_letOwnedTupleGo_zip (s:={ s with heap:=h' }) z1 λg zg sb=> ?_⟩
  have nz:s.heap.objs.size≠z:=Z1q (Z0a h1);have n2:TI<s.heap.objs.size:=Z0a h2;have n3:TO<s.heap.objs.size:=Z0a h3;have n4:i1<s.heap.objs.size:=let ⟨_,e,_⟩:=(A1g i1 a).ob h4;Z0a e;have n5:i2<s.heap.objs.size:=let ⟨_,e,_⟩:=(A1o i2 b).ob h5;Z0a e;have zq:IsPair g s.heap.objs.size u u2:=sb.extBut _ _ nz z5
  have I1:Inv X pins σ (upd H s.heap.objs.size (.tup [x,y])) { s with heap:=g,toks:=s.toks }:=I.turnedNew (ts:=[z,TI,TO,i1,i2]) (λc o hc e=>by
   simp only [Z0e,Z1i,or_false,not_or] at hc
   exact sb.extBut _ _ hc.1 (kp c o hc.1 hc.2.2.1 hc.2.2.2.1 hc.2.2.2.2 e)) hf (Z09 _) ⟨by show 2<=sizeLine;decide,[u,u2],.cons ru (.cons ru2 .nil),⟨_,zq,rfl,_,rfl⟩⟩
  refine ⟨.ref s.heap.objs.size,_,I1,rfl,⟨_,I.hok.fresh (Z09 _),rfl,x,y,λzs hz=>by rw [I.tuple_inj hz hq1];exact hx,λzs hz=>by rw [I.list_inj hz hq2];exact hy,rfl⟩,
   ⟨zg,sb.extBut _ _ D.TIz (kp _ _ D.TIz D.TITO D.TIi1 D.TIi2 h2),⟨_,_,sb.extBut _ _ D.TOz z2⟩,(A1g i1 a).mv z3 λo e=>sb.extBut _ _ D.i1z e,(A1o i2 b).mv z4 λo e=>sb.extBut _ _ D.i2z e⟩,λc hc=> ?_⟩
  have hcn:c≠s.heap.objs.size:=by
   simp only [Z0e,Z1i,or_false] at hc;rcases hc with rfl | rfl | rfl | rfl | rfl
   ·exact nz.symm
   ·exact Z0h n2
   ·exact Z0h n3
   ·exact Z0h n4
   ·exact Z0h n5
  rw [A0h hcn];exact (hf c hc).1
 done:=by
  intro X hP hw hK hc i pins s σ H E I hf st hg;subst hP hw hK;obtain ⟨xs,ys,hq1,hq2,hx⟩:=hg;obtain ⟨its,rv,p1,_⟩:=I.tuple hq1;obtain ⟨its2,rv2,p2,_⟩:=I.list hq2;have e1:=rv.length;have e2:=rv2.length;obtain ⟨h1,h2,⟨o1,o2,h3⟩,h4,h5⟩:=st;refine B7d (A1g i1 a) (A1o i2 b) (I.ok.hd hc) D h1 h2 h3 h4 h5 (show s.heap.IsTuple a its.toArray from p1) p2.isList (by simp;lia) λh' kp=>⟨rfl,?_⟩
  exact I.turnedL (t':=s.toks) (ts:=[z,TI,TO,i1,i2]) (λc o hc e=>by
   simp only [Z0e,Z1i,or_false,not_or] at hc
   exact kp c o hc.1 hc.2.2.1 hc.2.2.2.1 hc.2.2.2.2 e) hf
 self:=λ_ _ _ _ _ st h=>wpAny_pyIter_zip st.1 h
abbrev C2h (h:Heap) (l1 l2:Addr):Heap:=(B7y h l1).push { cls:= .type "list_iterator",data:= .fields #[.ref l2,.int 0 0] }
abbrev C2u (h:Heap) (l1 l2:Addr):Heap:=(C2h h l1 l2).push { cls:= .type "tuple",data:= .seq #[.ref h.objs.size,.ref (B7y h l1).objs.size] }
abbrev C2m (h:Heap) (l1 l2:Addr):Heap:=(C2u h l1 l2).push { cls:= .type "tuple",data:= .seq #[.none,.none] }
abbrev B5a (h:Heap) (l1 l2:Addr):Heap:=(C2m h l1 l2).push { cls:= .type "zip",data:= .fields #[.none,.bool false,.bool false,.ref (C2h h l1 l2).objs.size,.ref (C2u h l1 l2).objs.size] }
theorem B4t (l1 l2:Addr) (xs ys:Array Value):Meets (Builtin.«zip.__new__» ⟨[.type "zip",.ref l1,.ref l2],[]⟩) (λ_ R s=>s.heap.IsTuple l1 xs/\s.heap.IsList l2 ys/\
  R (.ok (.ret (.ref (C2m s.heap l1 l2).objs.size))) { s with heap:=B5a s.heap l1 l2 }) :=
 .of_wp λprog w A R s h=>by
  obtain ⟨hp,g,d,tk,os⟩:=s;obtain ⟨hl1,hl2,h⟩:=h;have hsub:=sub_zip;have hL1:Heap.IsTuple (Shared.heap ⟨hp,g,d,tk,os⟩) l1 xs:=hl1;have hL2:Heap.IsList (Shared.heap ⟨hp.push { cls:= .type "tuple_iterator",data:= .fields #[.ref l1,.int 0 0] },g,d,tk,os⟩) l2 ys:=Heap.IsList.push hl2 _
  wp_walk using wpAny_pyIter_tuple hL1,wpAny_pyIter_list hL2
  exact ⟨_,rfl,h⟩
theorem B7m {prog:Program} {w:World} {A:Around} {E:Value->Shared->Prop} {s:Shared} {l1 l2:Addr} {xs ys:Array Value} {Q:Value->Shared->Prop} (hl1:s.heap.IsTuple l1 xs) (hl2:s.heap.IsList l2 ys)
  (h:∀h',C6o (s.heap.objs.size+4) (s.heap.objs.size+2) (s.heap.objs.size+3) s.heap.objs.size (s.heap.objs.size+1) l1 l2 0 h'->(∀c o,s.heap.get? c=some o->h'.get? c=some o)->Q (.ref (s.heap.objs.size+4)) { s with heap:=h' }) :
  wpAny (model prog w) A (call (.type "zip") [.ref l1,.ref l2]) Q E s:=by
 refine callType_new F.called_zip (by decide) (F.typeCall_zip_2 _ _) (F.newCall_zip_2 _ _) (λobj=>F.args_object_init_3 obj _ _) F.entry_zip_new (B4t l1 l2 xs ys) ⟨hl1,hl2,?_⟩;have z1:(B7y s.heap l1).objs.size=s.heap.objs.size+1:=Z1s ..;have z2:(C2h s.heap l1 l2).objs.size=s.heap.objs.size+2:=by rw [Z1s,z1]
 have z3:(C2u s.heap l1 l2).objs.size=s.heap.objs.size+3:=by rw [Z1s,z2]
 have z4:(C2m s.heap l1 l2).objs.size=s.heap.objs.size+4:=by rw [Z1s,z3]
 have q5:(B5a s.heap l1 l2).get? (C2m s.heap l1 l2).objs.size=some _:=Z0c _ rfl;have q4:(B5a s.heap l1 l2).get? (C2u s.heap l1 l2).objs.size=some _:=Z01 _ (Z0c _ rfl);have q3:(B5a s.heap l1 l2).get? (C2h s.heap l1 l2).objs.size=some _:=Z01 _ (Z01 _ (Z0c _ rfl));have q2:(B5a s.heap l1 l2).get? (B7y s.heap l1).objs.size=some _:=Z01 _ (Z01 _ (Z01 _ (Z0c _ rfl)));have q1:(B5a s.heap l1 l2).get? s.heap.objs.size=some _:=Z01 _ (Z01 _ (Z01 _ (Z01 _ (Z0c _ rfl))));show _/\_;rw [z2,z3,z4] at q5;rw [z1,z2] at q3;rw [z3] at q4;rw [z1] at q2;rw [z4];exact ⟨⟨_,q5,rfl⟩,h _ ⟨q5,q3,⟨_,_,q4⟩,⟨_,q1,rfl,rfl⟩,⟨_,q2,rfl,rfl⟩⟩ λc o x=>Z01 _ (Z01 _ (Z01 _ (Z01 _ (Z01 _ x))))⟩
def D5m (K:PySem.W.Frag) (ta:TA):TI:=λσ H R=>ta σ H λvs H1=>∃a b xs ys,vs=[.ref a,.ref b]/\SqT K H1 a xs/\SqL K H1 b ys/\R (D8f K a b) H1
theorem D0h {X:Cx} {elts:List Expr} {kk:Nat} {tpos:Pos} {a b:Expr} {ta:TA} {p pos:Pos} (hg:Gl X "zip") (hm:X.mg "zip"=none) (ha:PA X [a,b] ta) (hs:starEach [a,b] X.env=[(false,eval a X.env),(false,eval b X.env)]:=by rfl) (hs2:starEach [b] X.env=[(false,eval b X.env)]:=by rfl) :
  PI X (.Tuple elts kk tpos) (.Call (.Name "zip" p) [a,b] [] pos) (D5m X.K ta):=by
 intro pins s σ H R I h;refine Call_ (A7f I hg hm boot_zip (PyProof.Rows.callWith_type1 (thn (ha pos pins s σ H _ I h) λus s1 ⟨vs,H1,I1,r1,q1⟩=> ?_) (by rw [hs,hs2]) (by rw [hs2];rfl)));obtain ⟨l1,l2,xs,ys,e,hq1,hq2,q⟩:=q1;subst e;obtain ⟨u,u2,rfl,ru,ru2⟩:=B4u r1;cases ru;cases ru2;obtain ⟨its,rv,p1,_⟩:=I1.tuple hq1;obtain ⟨its2,rv2,p2,_⟩:=I1.list hq2;have t1:l1<s1.heap.objs.size:=p1.lt;have t2:l2<s1.heap.objs.size:=let ⟨_,e,_⟩:=p2.isList;Z0a e;refine B7m (show s1.heap.IsTuple l1 its.toArray from p1) p2.isList λh' zs kp=>wpAny_pyIter_zip zs.1 ?_;have I2:Inv X pins σ H1 { s1 with heap:=h' }:=I1.kept (t':=s1.toks) kp;refine ⟨_,[s1.heap.objs.size+4,s1.heap.objs.size+2,s1.heap.objs.size+3,s1.heap.objs.size,s1.heap.objs.size+1],_,_,H1,rfl,I2,C3a (zipApart_new t1 t2),zs,λc hc=> ?_,q⟩
 have hle:s1.heap.objs.size<=c:=by
  simp only [Z0e,Z1i,or_false] at hc;rcases hc with rfl | rfl | rfl | rfl | rfl
  ·exact Nat.le_add_right _ _
  ·exact Nat.le_add_right _ _
  ·exact Nat.le_add_right _ _
  ·exact Z09 _
  ·exact Nat.le_add_right _ _
 exact I1.fpOk hle (I1.hok.fresh hle)
def C6i (z TI TO i1 i2 a b:Addr) (i:Nat) (h:Heap):Prop:=IsZip h z TI TO .none/\IsPair h TI (.ref i1) (.ref i2)/\(∃u v,IsPair h TO u v)/\h.IsTupleIter i1 a i/\h.IsTupleIter i2 b i
abbrev C2e (h:Heap) (l1 l2:Addr):Heap:=(B7y h l1).push { cls:= .type "tuple_iterator",data:= .fields #[.ref l2,.int 0 0] }
abbrev C2l (h:Heap) (l1 l2:Addr):Heap:=(C2e h l1 l2).push { cls:= .type "tuple",data:= .seq #[.ref h.objs.size,.ref (B7y h l1).objs.size] }
abbrev C1w (h:Heap) (l1 l2:Addr):Heap:=(C2l h l1 l2).push { cls:= .type "tuple",data:= .seq #[.none,.none] }
abbrev B5n (h:Heap) (l1 l2:Addr):Heap:=(C1w h l1 l2).push { cls:= .type "zip",data:= .fields #[.none,.bool false,.bool false,.ref (C2e h l1 l2).objs.size,.ref (C2l h l1 l2).objs.size] }
theorem B4m (l1 l2:Addr) (xs ys:Array Value):Meets (Builtin.«zip.__new__» ⟨[.type "zip",.ref l1,.ref l2],[]⟩) (λ_ R s=>s.heap.IsTuple l1 xs/\s.heap.IsTuple l2 ys/\
  R (.ok (.ret (.ref (C1w s.heap l1 l2).objs.size))) { s with heap:=B5n s.heap l1 l2 }) :=
 .of_wp λprog w A R s h=>by
  obtain ⟨hp,g,d,tk,os⟩:=s;obtain ⟨hl1,hl2,h⟩:=h;have hsub:=sub_zip;have hL1:Heap.IsTuple (Shared.heap ⟨hp,g,d,tk,os⟩) l1 xs:=hl1;have hL2:Heap.IsTuple (Shared.heap ⟨hp.push { cls:= .type "tuple_iterator",data:= .fields #[.ref l1,.int 0 0] },g,d,tk,os⟩) l2 ys:=Heap.IsTuple.push hl2 _
  wp_walk using wpAny_pyIter_tuple hL1,wpAny_pyIter_tuple hL2
  exact ⟨_,rfl,h⟩
theorem B5y {prog:Program} {w:World} {A:Around} {E:Value->Shared->Prop} {s:Shared} {l1 l2:Addr} {xs ys:Array Value} {Q:Value->Shared->Prop} (hl1:s.heap.IsTuple l1 xs) (hl2:s.heap.IsTuple l2 ys)
  (h:∀h',C6i (s.heap.objs.size+4) (s.heap.objs.size+2) (s.heap.objs.size+3) s.heap.objs.size (s.heap.objs.size+1) l1 l2 0 h'->(∀c o,s.heap.get? c=some o->h'.get? c=some o)->Q (.ref (s.heap.objs.size+4)) { s with heap:=h' }) :
  wpAny (model prog w) A (call (.type "zip") [.ref l1,.ref l2]) Q E s:=by
 refine callType_new F.called_zip (by decide) (F.typeCall_zip_2 _ _) (F.newCall_zip_2 _ _) (λobj=>F.args_object_init_3 obj _ _) F.entry_zip_new (B4m l1 l2 xs ys) ⟨hl1,hl2,?_⟩;have z1:(B7y s.heap l1).objs.size=s.heap.objs.size+1:=Z1s ..;have z2:(C2e s.heap l1 l2).objs.size=s.heap.objs.size+2:=by rw [Z1s,z1]
 have z3:(C2l s.heap l1 l2).objs.size=s.heap.objs.size+3:=by rw [Z1s,z2]
 have z4:(C1w s.heap l1 l2).objs.size=s.heap.objs.size+4:=by rw [Z1s,z3]
 have q5:(B5n s.heap l1 l2).get? (C1w s.heap l1 l2).objs.size=some _:=Z0c _ rfl;have q4:(B5n s.heap l1 l2).get? (C2l s.heap l1 l2).objs.size=some _:=Z01 _ (Z0c _ rfl);have q3:(B5n s.heap l1 l2).get? (C2e s.heap l1 l2).objs.size=some _:=Z01 _ (Z01 _ (Z0c _ rfl));have q2:(B5n s.heap l1 l2).get? (B7y s.heap l1).objs.size=some _:=Z01 _ (Z01 _ (Z01 _ (Z0c _ rfl)));have q1:(B5n s.heap l1 l2).get? s.heap.objs.size=some _:=Z01 _ (Z01 _ (Z01 _ (Z01 _ (Z0c _ rfl))));show _/\_;rw [z2,z3,z4] at q5;rw [z1,z2] at q3;rw [z3] at q4;rw [z1] at q2;rw [z4];exact ⟨⟨_,q5,rfl⟩,h _ ⟨q5,q3,⟨_,_,q4⟩,⟨_,q1,rfl,rfl⟩,⟨_,q2,rfl,rfl⟩⟩ λc o x=>Z01 _ (Z01 _ (Z01 _ (Z01 _ (Z01 _ x))))⟩
section
variable {X:Cx} {tg:Expr}
theorem D2s {ok:Around->Prop} {iter:Expr} {body:List Stmt} {wi:TI} {g:TG} {tb:TS} {pos:Pos} (hp:PassesOwn (model X.prog X.w) X.A X.env X.xe) (hc:ok X.A) (hi:PIP ok X tg iter wi) (hg:PG X tg g) (hb:PSs X body tb)
  (hs:∀x,foldedSetIterable iter X.env x=pure x:=by intro _;rfl):PS X (.For tg iter body [] pos) (E0p wi g tb):=by
 intro pins s σ H D I h;refine wpAny_For (thn (hi pins s σ H _ I h) λv s1 h1=>thn h1 λitv s2 h2=> ?_) hs;obtain ⟨it,fp,tn,J,H2,e,I2,T,st2,f2,W,⟨m0,w0⟩,turn⟩:=h2;subst e;have stat:∀{H':Hp},(∀b∈fp,H' b=none)->∀b∈fp,B3n X pins H' b:=λhn b hb=>⟨hn b hb,(f2 b hb).2⟩;refine codeAny_forLoop_any (λn s'=>∃i σ' H',Inv X pins σ' H' s'/\tn i s'.heap/\(∀b∈fp,H' b=none)/\W i n σ' H') ?_ m0 ⟨0,σ,H2,I2,st2,λb hb=>(f2 b hb).1,w0⟩;rintro n s3 ⟨i,σ3,H3,I3,st3,fr3,w3⟩;rcases turn i n σ3 H3 w3 with ⟨stop,qn⟩ | ⟨go,N,hN,step⟩
 ·refine wpAny_passesOwn hp (thn (T.done X rfl rfl rfl hc i pins s3 σ3 H3 X.xe I3 (stat fr3) st3 stop) λr s4 ⟨hr,I4⟩=> ?_);subst hr;exact Z2b ⟨σ3,H3,I4,qn⟩
 ·refine wpAny_passesOwn hp (thn (T.item X rfl rfl rfl hc i pins s3 σ3 H3 X.xe I3 (stat fr3) st3 go) λr s4 ⟨u,hr,h4⟩=> ?_);subst hr;refine wpAny_passesOwn hp (thn h4 λ_ s5 ⟨x,H5,I5,r5,y5,st5,fr5⟩=> ?_);have I5':=I5.pinned (stat fr5) (T.obj _ _ st5);refine wpAny_passesOwn hp (thn (hg _ s5 σ3 H5 x u _ I5' r5 (step x H5 y5)) λ_ s6 ⟨σ6,H6,I6,q6⟩=> ?_);refine wpAny_passesOwn hp (thn (hb _ s6 σ6 H6 _ I6 q6) λf s7 q7=> ?_)
  have again:∀{σ7:St} {H7:Hp},Inv X (pins++B3y fp s5.heap) σ7 H7 s7->N σ7 H7->∃m,m<n/\∃i σ' H',Inv X pins σ' H' s7/\tn i s7.heap/\(∀b∈fp,H' b=none)/\W i m σ' H':=λ{σ7 H7} I7 n7=>by
   obtain ⟨m',hm,w7⟩:=hN σ7 H7 n7;refine ⟨m',hm,i+1,σ7,H7,I7.unpinned,T.keep _ _ _ st5 λb hb o e=>(I7.pin (b,o) (Z02 _ (Z02 _ (A2y hb e)))).1,λb hb=> ?_,w7⟩;obtain ⟨o,e,d⟩:=T.obj _ _ st5 b hb;exact (I7.pin (b,o) (Z02 _ (Z02 _ (A2y hb e)))).2.1
  cases f with
  | next=>obtain ⟨σ7,H7,I7,n7⟩:=q7;exact again I7 n7
  | cont=>obtain ⟨σ7,H7,I7,n7⟩:=q7;exact again I7 n7
  | brk=>obtain ⟨σ7,H7,I7,q7⟩:=q7;exact ⟨σ7,H7,I7.unpinned,q7⟩
  | ret v=>obtain ⟨x7,σ7,H7,I7,r7,q7⟩:=q7;exact ⟨x7,σ7,H7,I7.unpinned,r7,q7⟩
end
def D2d (h:Addr) (g:Heap):Prop:=∃oh vs,g.get? h=some oh/\oh.data= .fields vs/\vs[2]? =some .none
theorem D2d.at {h:Addr} {g g':Heap} (k:D2d h g) (f:∀o,g.get? h=some o->g'.get? h=some o):D2d h g':=let ⟨oh,vs,e,d,z⟩:=k;⟨oh,vs,f _ e,d,z⟩
section
variable {prog:Program} {w:World} {A:Around} {E:Value->Shared->Prop} {s:Shared}
theorem A6k {h:Addr} {it l:Addr} {k:Nat} {xs:Array Value} {Q:Value->Shared->Prop} (hh:A.handled=some (.ref h)) (hk:D2d h s.heap) (hit:h≠it) (hi:s.heap.IsTupleIter it l k) (hl:s.heap.IsTuple l xs) (hx:xs[k]? =none)
  (hE:∀h' e,Heap.ExtBut it s.heap h'->(∃o,h'.get? e=some o/\o.cls= .type "StopIteration")->E (.ref e) { s with heap:=h' }):wpAny (model prog w) A (Builtin.SmallTypes.nextOf (.ref it)) Q E s:=by
 obtain ⟨o,ho,hc,hd⟩:=id hi;obtain ⟨ol,hol,_,nl,hdl⟩:=hl;unfold Builtin.SmallTypes.nextOf;refine Z00 (Z1b (name:=Str.ofString "__next__") hi.typeIs F.slot_tuple_iterator_next (Z1g F.slot_tuple_iterator_next hi.typeIs F.entry_tuple_iterator_next ?_ (F.args_tuple_iterator_next_1 _)));show wpAny _ _ (field (.ref it) 0 >>= _) _ _ s;refine Z00 (Z11 ho hd (x:= .ref l) rfl ?_);show wpAny _ _ (if (Value.ref l == Value.none)=true then _ else _) _ _ s;rw [Z0t (show¬((Value.ref l == Value.none)=true) from Z0v)];show wpAny _ _ (field (.ref it) 1 >>= _) _ _ s;refine Z00 (Z11 ho hd (x:= .int k 0) rfl ?_);show wpAny _ _ (seqItems? (.ref l) >>= _) _ _ s;refine Z00 (Z21 hol hdl ?_);simp only [Int.toNat_natCast,hx];refine Z00 (wpAny_rule (Z00 (Z1t ho hd (by simp) ?_)));show wpAny _ _ (newExc (.type "StopIteration") [] >>= _) _ _ _;refine Z00 ?_;simp only [newExc,newTuple];refine Z00 (Z16 ?_ (by size_fits));refine Z00 (m:=firstArgMember _ _) (wpAny_of_eq (a:=Value.none) (by first | rfl | (simp only [firstArgMember];rfl)) ?_);refine Z16 ?_ (by size_fits);obtain ⟨oh,vs,eh,dh,z2⟩:=hk;have lt:h<s.heap.objs.size:=Z0a eh;have eh':=(Heap.SameBut.update (a:=it) (h:=s.heap) (Obj.mapFields (·.setIfInBounds 0 .none))).extBut h oh hit eh;refine B0n (h:=h) hh ?_ (Z01 _ (Z01 _ eh')) dh z2 (Z0c _ rfl) rfl (by simp;lia) ?_
 ·exact Z0h (by rw [Z1s];exact Nat.lt_succ_of_lt (Z0a eh'))
 refine hE _ _ (λb o nb eb=> ?_) ⟨_,Z1r _ (Z0c _ rfl) rfl,rfl⟩;have eb':=(Heap.SameBut.update (a:=it) (h:=s.heap) (Obj.mapFields (·.setIfInBounds 0 .none))).extBut b o nb eb;exact (Z1d _ _ (Z1q (by rw [Z1s];exact Nat.lt_succ_of_lt (Z0a eb')))).trans (Z01 _ (Z01 _ eb'))
end
section
variable {z TI TO i1 i2 l1 l2:Addr} {prog:Program} {w:World} {A:Around} {E:Value->Shared->Prop} {s:Shared}
theorem C7f {h:Addr} {k1 k2:Nat} {xs ys:Array Value} {a b:Value} {Q:Option Value->Shared->Prop} (hh:A.handled=some (.ref h)) (hk:D2d h s.heap) (nz:h≠z) (nO:h≠TO) (n1:h≠i1) (n2:h≠i2) (D:ZipApart z TI TO i1 i2 l1 l2)
  (hz:IsZip s.heap z TI TO .none) (hTI:IsPair s.heap TI (.ref i1) (.ref i2)) (hTO:IsPair s.heap TO a b) (h1:s.heap.IsTupleIter i1 l1 k1) (h2:s.heap.IsTupleIter i2 l2 k2) (hl1:s.heap.IsTuple l1 xs) (hl2:s.heap.IsTuple l2 ys) (hend:xs[k1]? =none\/ys[k2]? =none)
  (hQ:∀h',(∀c o,c≠z->c≠TO->c≠i1->c≠i2->s.heap.get? c=some o->h'.get? c=some o)->Q none { s with heap:=h' }):wpAny (model prog w) A (pyNext (.ref z)) Q E s:=by
 have hT:s.TypeIs (.ref z) "zip":=⟨_,hz,rfl⟩;have N1:=A1g i1 l1;have N2:=A1g i2 l2;unfold pyNext
 have fin:∀(h':Heap) (e:Addr),(∀c o,c≠z->c≠TO->c≠i1->c≠i2->s.heap.get? c=some o->h'.get? c=some o)->(∃o,h'.get? e=some o/\o.cls= .type "StopIteration")->
   wpAny (model prog w) A (isInstance (.ref e) (.type "StopIteration") >>= λb=>if b=true then pure none else throw (.ref e)) Q E { s with heap:=h' }:=λh' e hk ⟨o,ho,hc⟩ =>
  Z00 (wpAny_isInstance (T:="StopIteration") (b:=true) ⟨o,ho,hc⟩ isSubtype_stop (Z04 (hQ _ hk)))
 refine Z00 (wpAny_attempt (Z1b (name:=Str.ofString "__next__") hT F.slot_zip_next (Z1g F.slot_zip_next hT F.entry_zip_next ?_ (F.args_zip_next_1 _))));show wpAny _ _ (field (.ref z) 2 >>= _) _ _ _;refine Z00 (Z11 hz rfl (x:= .bool false) rfl ?_);show wpAny _ _ (field (.ref z) 3 >>= _) _ _ _;refine Z00 (Z11 hz rfl (x:= .ref TI) rfl ?_);refine Z00 (Z21 hTI rfl ?_);show wpAny _ _ (Builtin.SmallTypes.ownedTupleIsFree (.ref z) >>= _) _ _ _;refine Z00 ?_;unfold Builtin.SmallTypes.ownedTupleIsFree;refine Z00 (Z11 hz rfl (x:= .none) rfl (Z04 ?_));simp only [if_true];refine Z00 (wpAny_rule ?_);refine Z00 (Z11 hz rfl (x:= .ref TO) rfl ?_);refine Z00 (Z1h hz (by simp) λg1 z1 b1=> ?_)
 replace z1:IsZip g1 z TI TO .ellipsis:=z1
 refine Z00 ?_;simp only [List.zipIdx_cons,List.zipIdx_nil,List.forIn_cons,List.forIn_nil];refine Z00 (Z00 (wpAny_onRaise ?_));show wpAny _ _ (Builtin.SmallTypes.nextOf (.ref i1) >>= _) _ _ _;have u1:=N1.mv h1 λo e=>b1.extBut _ _ D.i1z e;have v1:=N1.mvS hl1 λo e=>b1.extBut _ _ D.l1z e
 cases hx:xs[k1]? with
 | none =>
  refine Z00 (A6k hh (hk.at λo e=>b1.extBut _ _ nz e) n1 u1 v1 hx λg2 e b2 he=> ?_);obtain ⟨oe,hoe,hce⟩:=he;have z2:IsZip g2 z TI TO .ellipsis:=b2 _ _ D.i1z.symm z1;have ez:e≠z:=λx=>by subst x;rw [z2] at hoe;cases hoe;simp at hce
  exact Z1h z2 (by simp) λg3 _ b3=>fin g3 e (λc o c1 _ c3 _ x=>b3.extBut _ _ c1 (b2 _ _ c3 (b1.extBut _ _ c1 x))) ⟨oe,b3.extBut _ _ ez hoe,hce⟩
 | some x =>
  have hy:ys[k2]? =none:=by
   rcases hend with h | h
   ·rw [hx] at h;cases h
   ·exact h
  refine Z00 (N1.item u1 v1 hx λg2 t2 b2=>Z04 ?_);have p2:IsPair g2 TO a b:=b2.extBut _ _ D.TOi1 (b1.extBut _ _ D.TOz hTO);refine Z00 (Z21 p2 rfl ?_);refine Z00 (wpAny_updateSeq_pair p2 λg3 p3 b3=> ?_);refine Z00 (wpAny_letGo (Z04 ?_));refine Z00 (Z00 (wpAny_onRaise ?_));show wpAny _ _ (Builtin.SmallTypes.nextOf (.ref i2) >>= _) _ _ _;refine Z00 (A6k hh (hk.at λo e=>b3.extBut _ _ nO (b2.extBut _ _ n1 (b1.extBut _ _ nz e))) n2 (N2.mv h2 λo e=>b3.extBut _ _ D.TOi2.symm (b2.extBut _ _ D.i12.symm (b1.extBut _ _ D.i2z e))) (N2.mvS hl2 λo e=>b3.extBut _ _ D.l2TO (b2.extBut _ _ D.l2i1 (b1.extBut _ _ D.l2z e))) hy λg4 e b4 he=> ?_);obtain ⟨oe,hoe,hce⟩:=he;have z4:IsZip g4 z TI TO .ellipsis:=b4 _ _ D.i2z.symm (b3.extBut _ _ D.TOz.symm (b2.extBut _ _ D.i1z.symm z1));have ez:e≠z:=λx=>by subst x;rw [z4] at hoe;cases hoe;simp at hce
  exact Z1h z4 (by simp) λg5 _ b5=>fin g5 e (λc o c1 c2 c3 c4 x=>b5.extBut _ _ c1 (b4 _ _ c4 (b3.extBut _ _ c2 (b2.extBut _ _ c3 (b1.extBut _ _ c1 x))))) ⟨oe,b5.extBut _ _ ez hoe,hce⟩
end
def B9m (ea:Addr) (K:PySem.W.Frag) (a b:Addr):It :=
 ⟨λi H=>∃xs ys x y,SqT K H a xs/\SqT K H b ys/\xs[i]? =some x/\ys[i]? =some y,
  λi H v H'=>∃p,H p=none/\v= .ref p/\∃x y,(∀xs,SqT K H a xs->xs[i]? =some x)/\(∀ys,SqT K H b ys->ys[i]? =some y)/\H'=upd H p (.tup [x,y]),
  λi H=>∃xs ys,SqT K H a xs/\SqT K H b ys/\(xs.length<=i\/ys.length<=i)/\∃C od,H ea=some (.ext (xcG ea C od))⟩
theorem C1k {ea:Addr} {P:Program} {w:World} {K:PySem.W.Frag} {elts:List Expr} {kk:Nat} {pos:Pos} {z TI TO i1 i2 a b:Addr} (D:ZipApart z TI TO i1 i2 a b) :
  D6a (B1m ea) P w K (.Tuple elts kk pos) (B9m ea K a b) [z,TI,TO,i1,i2] z (C6i z TI TO i1 i2 a b) where
 mem:=by simp
 obj:=λi h st c hc=>by
  obtain ⟨h1,h2,⟨u,v,h3⟩,h4,h5⟩:=st;simp only [Z0e,Z1i,or_false] at hc;rcases hc with rfl | rfl | rfl | rfl | rfl
  ·exact ⟨_,h1,λv z=>by cases (show Data.fields _=Data.cell v from z)⟩
  ·exact ⟨_,h2,λv z=>by cases (show Data.seq _ _=Data.cell v from z)⟩
  ·exact ⟨_,h3,λv z=>by cases (show Data.seq _ _=Data.cell v from z)⟩
  ·exact (A1g _ a).ob h4
  ·exact (A1g _ b).ob h5
 keep:=λi h h' st k=>by
  obtain ⟨h1,h2,⟨u,v,h3⟩,h4,h5⟩:=st;exact ⟨k z (by simp) _ h1,k TI (by simp) _ h2,⟨u,v,k TO (by simp) _ h3⟩,(A1g i1 a).mv h4 λo e=>k i1 (by simp) o e,(A1g i2 b).mv h5 λo e=>k i2 (by simp) o e⟩
 item:=by
  intro X hP hw hK hc i pins s σ H E I hf st hg;subst hP hw hK;obtain ⟨xs,ys,x,y,hq1,hq2,hx,hy⟩:=hg;obtain ⟨its,rv,p1,_⟩:=I.tuple hq1;obtain ⟨its2,rv2,p2,_⟩:=I.tuple hq2;obtain ⟨u,hu,ru⟩:=rv.get hx;obtain ⟨u2,hu2,ru2⟩:=rv2.get hy;obtain ⟨h1,h2,⟨o1,o2,h3⟩,h4,h5⟩:=st;refine A9z (A1g i1 a) (A1g i2 b) D h1 h2 h3 h4 h5 (show s.heap.IsTuple a its.toArray from p1) (show s.heap.IsTuple b its2.toArray from p2) (x:=u) (by simpa using hu) (y:=u2) (by simpa using hu2) λh' z1 z2 z3 z4 z5 kp=> ?_;refine ⟨_,rfl,wpAny_letOwnedTupleGo_zip (s:={ s with heap:=h' }) z1 λg zg sb=> ?_⟩
  have nz:s.heap.objs.size≠z:=Z1q (Z0a h1);have n2:TI<s.heap.objs.size:=Z0a h2;have n3:TO<s.heap.objs.size:=Z0a h3;have n4:i1<s.heap.objs.size:=let ⟨_,e,_⟩:=(A1g i1 a).ob h4;Z0a e;have n5:i2<s.heap.objs.size:=let ⟨_,e,_⟩:=(A1g i2 b).ob h5;Z0a e;have zq:IsPair g s.heap.objs.size u u2:=sb.extBut _ _ nz z5
  have I1:Inv X pins σ (upd H s.heap.objs.size (.tup [x,y])) { s with heap:=g,toks:=s.toks }:=I.turnedNew (ts:=[z,TI,TO,i1,i2]) (λc o hc e=>by
   simp only [Z0e,Z1i,or_false,not_or] at hc
   exact sb.extBut _ _ hc.1 (kp c o hc.1 hc.2.2.1 hc.2.2.2.1 hc.2.2.2.2 e)) hf (Z09 _) ⟨by show 2<=sizeLine;decide,[u,u2],.cons ru (.cons ru2 .nil),⟨_,zq,rfl,_,rfl⟩⟩
  refine ⟨.ref s.heap.objs.size,_,I1,rfl,⟨_,I.hok.fresh (Z09 _),rfl,x,y,λzs hz=>by rw [I.tuple_inj hz hq1];exact hx,λzs hz=>by rw [I.tuple_inj hz hq2];exact hy,rfl⟩,
   ⟨zg,sb.extBut _ _ D.TIz (kp _ _ D.TIz D.TITO D.TIi1 D.TIi2 h2),⟨_,_,sb.extBut _ _ D.TOz z2⟩,(A1g i1 a).mv z3 λo e=>sb.extBut _ _ D.i1z e,(A1g i2 b).mv z4 λo e=>sb.extBut _ _ D.i2z e⟩,λc hc=> ?_⟩
  have hcn:c≠s.heap.objs.size:=by
   simp only [Z0e,Z1i,or_false] at hc;rcases hc with rfl | rfl | rfl | rfl | rfl
   ·exact nz.symm
   ·exact Z0h n2
   ·exact Z0h n3
   ·exact Z0h n4
   ·exact Z0h n5
  rw [A0h hcn];exact (hf c hc).1
 done:=by
  intro X hP hw hK hc i pins s σ H E I hf st hg;subst hP hw hK;obtain ⟨xs,ys,hq1,hq2,hx,C,od,he⟩:=hg;obtain ⟨⟨oe,vs,hoe,_,_,hv,hv2⟩,_,_⟩:=(show A1y X.prog X.w H s.heap ea (.ext (xcG ea C od)) from I.hok ea _ he);have nf:∀c∈[z,TI,TO,i1,i2],ea≠c:=λc hc y=>by subst y;rw [(hf _ hc).1] at he;cases he
  obtain ⟨its,rv,p1,_⟩:=I.tuple hq1;obtain ⟨its2,rv2,p2,_⟩:=I.tuple hq2;have e1:=rv.length;have e2:=rv2.length;obtain ⟨h1,h2,⟨o1,o2,h3⟩,h4,h5⟩:=st;refine C7f hc ⟨oe,vs,hoe,hv,hv2⟩ (nf z (by simp)) (nf TO (by simp)) (nf i1 (by simp)) (nf i2 (by simp)) D h1 h2 h3 h4 h5 (show s.heap.IsTuple a its.toArray from p1) (show s.heap.IsTuple b its2.toArray from p2) (by simp;lia) λh' kp=>⟨rfl,?_⟩
  exact I.turnedL (t':=s.toks) (ts:=[z,TI,TO,i1,i2]) (λc o hc e=>by
   simp only [Z0e,Z1i,or_false,not_or] at hc
   exact kp c o hc.1 hc.2.2.1 hc.2.2.2.1 hc.2.2.2.2 e) hf
 self:=λ_ _ _ _ _ st h=>wpAny_pyIter_zip st.1 h
def D3i (ea:Addr) (K:PySem.W.Frag) (ta:TA):TI:=λσ H R=>ta σ H λvs H1=>∃a b xs ys,vs=[.ref a,.ref b]/\SqT K H1 a xs/\SqT K H1 b ys/\R (B9m ea K a b) H1
theorem C5l {ea:Addr} {X:Cx} {elts:List Expr} {kk:Nat} {tpos:Pos} {a b:Expr} {ta:TA} {p pos:Pos} (hg:Gl X "zip") (hm:X.mg "zip"=none) (ha:PA X [a,b] ta) (hs:starEach [a,b] X.env=[(false,eval a X.env),(false,eval b X.env)]:=by rfl) (hs2:starEach [b] X.env=[(false,eval b X.env)]:=by rfl) :
  PIP (B1m ea) X (.Tuple elts kk tpos) (.Call (.Name "zip" p) [a,b] [] pos) (D3i ea X.K ta):=by
 intro pins s σ H R I h;refine Call_ (A7f I hg hm boot_zip (PyProof.Rows.callWith_type1 (thn (ha pos pins s σ H _ I h) λus s1 ⟨vs,H1,I1,r1,q1⟩=> ?_) (by rw [hs,hs2]) (by rw [hs2];rfl)));obtain ⟨l1,l2,xs,ys,e,hq1,hq2,q⟩:=q1;subst e;obtain ⟨u,u2,rfl,ru,ru2⟩:=B4u r1;cases ru;cases ru2;obtain ⟨its,rv,p1,_⟩:=I1.tuple hq1;obtain ⟨its2,rv2,p2,_⟩:=I1.tuple hq2;have t1:l1<s1.heap.objs.size:=p1.lt;have t2:l2<s1.heap.objs.size:=p2.lt;refine B5y (show s1.heap.IsTuple l1 its.toArray from p1) (show s1.heap.IsTuple l2 its2.toArray from p2) λh' zs kp=>wpAny_pyIter_zip zs.1 ?_;have I2:Inv X pins σ H1 { s1 with heap:=h' }:=I1.kept (t':=s1.toks) kp;refine ⟨_,[s1.heap.objs.size+4,s1.heap.objs.size+2,s1.heap.objs.size+3,s1.heap.objs.size,s1.heap.objs.size+1],_,_,H1,rfl,I2,C1k (zipApart_new t1 t2),zs,λc hc=> ?_,q⟩
 have hle:s1.heap.objs.size<=c:=by
  simp only [Z0e,Z1i,or_false] at hc;rcases hc with rfl | rfl | rfl | rfl | rfl
  ·exact Nat.le_add_right _ _
  ·exact Nat.le_add_right _ _
  ·exact Nat.le_add_right _ _
  ·exact Z09 _
  ·exact Nat.le_add_right _ _
 exact I1.fpOk hle (I1.hok.fresh hle)
theorem C4a {ea:Addr} {K:PySem.W.Frag} {a b:Addr} {xs ys:List V} {g:TG} {tb:TS} {D:B7w} {σ:St} {H:Hp} (Pv:Nat->St->Hp->Prop) (h0:Pv 0 σ H) (hl:∀i σ H,Pv i σ H->SqT K H a xs/\SqT K H b ys/\∃C od,H ea=some (.ext (xcG ea C od))) (hlen:xs.length=ys.length)
  (hs:∀i x y σ H p,xs[i]? =some x->ys[i]? =some y->Pv i σ H->H p=none->g (.ref p) σ (upd H p (.tup [x,y])) λσ2 H2=>tb { D with nx:=Pv (i+1),ct:=Pv (i+1),bk:=D.nx } σ2 H2) (hd:∀σ H,Pv xs.length σ H->D.nx σ H) :
  ∃W:Nat->Nat->St->Hp->Prop,(∃m,W 0 m σ H)/\∀i m σ H,W i m σ H->
   ((B9m ea K a b).stop i H/\D.nx σ H)\/((B9m ea K a b).go i H/\∃N:St->Hp->Prop,(∀σ' H',N σ' H'->∃m',m'<m/\W (i+1) m' σ' H')/\∀x H',(B9m ea K a b).yld i H x H'->g x σ H' λσ2 H2=>tb { D with nx:=N,ct:=N,bk:=D.nx } σ2 H2):=by
 refine ⟨λi m σ H=>m=xs.length-i/\i<=xs.length/\Pv i σ H,⟨xs.length,by simp,Z1e _,h0⟩,?_⟩;rintro i m σ H ⟨rfl,hi,p⟩;obtain ⟨q1,q2,q3⟩:=hl i σ H p;by_cases hlt:i<xs.length
 ·have e1:xs[i]? =some xs[i]:=Z0b hlt;have e2:ys[i]? =some (ys[i]'(by lia)):=Z0b _;refine .inr ⟨⟨xs,ys,_,_,q1,q2,e1,e2⟩,Pv (i+1),λσ' H' p'=>⟨xs.length-(i+1),by lia,rfl,hlt,p'⟩,λv H' y=> ?_⟩;obtain ⟨c,hc,rfl,x,z,f1,f2,rfl⟩:=y;exact hs i x z σ H c (f1 xs q1) (f2 ys q2) p hc
 ·have e:i=xs.length:=by lia
  subst e;exact .inl ⟨⟨xs,ys,q1,q2,.inl (Z09 _),q3⟩,hd σ H p⟩
section
variable {prog:Program} {w:World} {A:Around} {E:Value->Shared->Prop} {s:Shared}
theorem B2x {it t h:Addr} {i:Nat} {items:Array Value} {Q:Option Value->Shared->Prop} (hh:A.handled=some (.ref h)) (hk:D2d h s.heap) (hne:h≠it) (hit:IsTupIter s.heap it t i) (ht:IsTup s.heap t items) (hx:items[i]? =none)
  (hQ:∀h',Heap.ExtBut it s.heap h'->Q none { s with heap:=h' }):wpAny (model prog w) A (pyNext (.ref it)) Q E s:=by
 obtain ⟨o,ho,hc,hd⟩:=id hit;obtain ⟨ol,hol,_,nl,hdl⟩:=ht;obtain ⟨oh,vs,eh,dh,z2⟩:=hk;unfold pyNext;refine Z00 (wpAny_attempt (Z1b (name:=Str.ofString "__next__") hit.typeIs slot_tupleiter_next (Z1g slot_tupleiter_next hit.typeIs entry_tupleiter_next ?_ (args_tupleiter_next _))));show wpAny _ _ (field (.ref it) 0 >>= _) _ _ s;refine Z00 (Z11 ho hd (x:= .ref t) rfl ?_);show wpAny _ _ (if (Value.ref t == Value.none)=true then _ else _) _ _ s;rw [Z0t (show¬((Value.ref t == Value.none)=true) from Z0v)];show wpAny _ _ (field (.ref it) 1 >>= _) _ _ s;refine Z00 (Z11 ho hd (x:= .int i 0) rfl ?_);show wpAny _ _ (seqItems? (.ref t) >>= _) _ _ s;refine Z00 (Z21 hol hdl ?_);simp only [Int.toNat_natCast,hx];refine Z00 (wpAny_rule (Z00 (Z1t ho hd (by simp) ?_)));show wpAny _ _ (newExc (.type "StopIteration") [] >>= _) _ _ _;refine Z00 ?_;simp only [newExc,newTuple];refine Z00 (Z16 ?_ (by size_fits));refine Z00 (m:=firstArgMember _ _) (wpAny_of_eq (a:=Value.none) (by first | rfl | (simp only [firstArgMember];rfl)) ?_);refine Z16 ?_ (by size_fits);have eh':=(Heap.SameBut.update (a:=it) (h:=s.heap) (Obj.mapFields (·.setIfInBounds 0 .none))).extBut h oh hne eh;refine B0n (h:=h) hh ?_ (Z01 _ (Z01 _ eh')) dh z2 (Z0c _ rfl) rfl (by simp;lia) ?_
 ·exact Z0h (by rw [Z1s];exact Nat.lt_succ_of_lt (Z0a eh'))
 refine Z00 (wpAny_isInstance (T:="StopIteration") (b:=true) ⟨_,Z1r _ (Z0c _ rfl) rfl,rfl⟩ isSubtype_stop ?_);refine Z04 (hQ _ λb o nb eb=> ?_);have eb':=(Heap.SameBut.update (a:=it) (h:=s.heap) (Obj.mapFields (·.setIfInBounds 0 .none))).extBut b o nb eb;exact (Z1d _ _ (Z1q (by rw [Z1s];exact Nat.lt_succ_of_lt (Z0a eb')))).trans (Z01 _ (Z01 _ eb'))
theorem B6f {h t:Addr} {items:Array Value} {targets:List (Bool×(Value->Sem Unit))} {Q:Unit->Shared->Prop} (hh:A.handled=some (.ref h)) (hk:D2d h s.heap) (ht:IsTup s.heap t items) (hn:targets.length=items.size) (hstar:targets.findIdx? (·.1)=none)
  (hw:∀h',Heap.ExtBut s.heap.objs.size s.heap h'->wpAny (model prog w) A (assignInOrder (targets.map (·.2)) items.toList) Q E { s with heap:=h' }):wpAny (model prog w) A (unpack (.ref t) targets) Q E s:=by
 have hlt:t≠s.heap.objs.size:=by obtain ⟨o,ho,_⟩:=ht;exact Z0h (Z0a ho)
 have hlh:h≠s.heap.objs.size:=by obtain ⟨o,_,ho,_⟩:=hk;exact Z0h (Z0a ho)
 unfold unpack;rw [hn,hstar];refine Z00 (Z1w ?_);unfold unpackItems;refine Z00 ?_;unfold notIterableAtAll;refine Z00 (wpAny_specialOf ht.typeIs slot_tuple_iter.lookup ?_);refine Z04 ?_;simp only [Bool.false_eq_true,if_false];refine Z00 (Z1w (iter_tuple ht ?_));refine Z00 (Z1w (draw_tuple hlt items.size 0 _ _ ⟨_,Z0c _ rfl,rfl,rfl⟩ (ht.push _) (by lia) λh₁ hit₁ hs₁=> ?_))
 have hall:List.take items.size (List.drop 0 items.toList)=items.toList:=by
  rw [List.drop_zero];exact List.take_of_length_le (by simp)
 rw [hall];rw [Z0t (by simp)];have ht₁:IsTup h₁ t items:=(ht.push _).extBut hs₁.extBut hlt;have hk₁:D2d h h₁:=hk.at λo e=>hs₁.extBut h o hlh (Z01 _ e);refine Z00 (Z1w (B2x hh hk₁ hlh hit₁ ht₁ (by simp) λh₂ he₂=> ?_));simp only [Option.isSome_none,Bool.false_eq_true,if_false];refine Z04 ?_;exact hw h₂ λb o hb e=>he₂ b o hb (hs₁.extBut b o hb (Z01 _ e))
end
def D8o (ea:Addr) (K:PySem.W.Frag) (n:Nat) (t:TGs):TG:=λv σ H Q=>∃a xs,v= .ref a/\SqT K H a xs/\xs.length=n/\(∃C od,H ea=some (.ext (xcG ea C od)))/\t xs σ H Q
theorem D3v {X:Cx} {pos:Pos} {ea:Addr} {es:List Expr} {k:Nat} {t:TGs} {n:Nat} (hc:B1m ea X.A) (h:PGs X es t)
  (hn:(assignEach es X.env).length=n:=by rfl) (hst:(assignEach es X.env).findIdx? (·.1)=none:=by rfl):PG X (.Tuple es k pos) (D8o ea X.K n t):=by
 intro pins s σ H v u Q I r hw;obtain ⟨a,xs,e1,hq,hl,⟨C,od,he⟩,hw⟩:=hw;subst e1;cases r;obtain ⟨its,rv,ht,hz⟩:=I.tuple hq;obtain ⟨⟨oe,vs,hoe,_,_,hv,hv2⟩,_,_⟩:=(show A1y X.prog X.w H s.heap ea (.ext (xcG ea C od)) from I.hok ea _ he);rw [assign_Tuple];refine Z00 (Z1y (B6f hc ⟨oe,vs,hoe,hv,hv2⟩ ht (by simp [hn,<-hl,rv.length]) hst λh' hx=> ?_));have I1:Inv X pins σ H { s with heap:=h' }:=I.kept (t':=s.toks) λb o e=>hx b o (Z0h (Z0a e)) e
 exact h pins _ σ H xs _ Q I1 (by simpa using rv) hw
end L2
namespace My
open PySem L2
inductive Op3 | plus | minus | times
inductive Tm
 | num (z:Int) | place (x:Str) | read (a:Str) (ix:List (Str×Int)) | sum (x:Str) (b:Tm) | pair (k:Op3) (l r:Tm) | guard (x:Str) (lo hi:Int) (l r:Tm)
def B7p (e:Str×Int):PyData:= .tuple [.str e.1,.int e.2]
def A6j (ix:List (Str×Int)):PyData:= .list (ix.map B7p)
def dep:Tm->Nat
 | .sum _ b=>dep b+1
 | .pair _ l r=>max (dep l) (dep r)+1
 | .guard _ _ _ l r=>max (dep l) (dep r)+1
 | _=>1
def nod:Tm->Nat
 | .sum _ b=>nod b+1
 | .pair _ l r=>nod l+nod r+1
 | .guard _ _ _ l r=>nod l+nod r+1
 | _=>1
def Sm (z:Int):Prop:=z.natAbs<=10^32
theorem C5e:∀t:Tm,1<=dep t
 | .num z=>by simp [dep]
 | .place x=>by simp [dep]
 | .read a ix=>by simp [dep]
 | .sum x b=>by simp [dep]
 | .pair k l r=>by simp [dep]
 | .guard x lo hi l r=>by simp [dep]
theorem C5c {n:Nat} (h:n<10^33):(Str.ofString (Nat.repr n)).length<=33:=by
 rw [PyProof.Rows.ofString_len]
 simpa [Nat.repr] using PySem.toDigits_len_pow (b:=10) (k:=33) (by decide) (by decide) h
theorem D2z (a b:String):Str.ofString (a++b)=Str.ofString a++Str.ofString b:=by
 rw [Str.ofString_eq_toList,Str.ofString_eq_toList,Str.ofString_eq_toList];apply Str.ext';simp [Str.cps_append,String.toList_append]
theorem C6w {z:Int} (h:Sm z):(toString z:Str).length<=34:=by
 unfold Sm at h
 cases z with
 | ofNat m =>
  have hm:m<10^33:=Z2d (show m<=10^32 from h) (by decide);exact Nat.le_succ_of_le (C5c hm)
 | negSucc m =>
  have hm:m+1<10^33:=Z2d (show m+1<=10^32 from h) (by decide);have e:(toString (Int.negSucc m):Str)=Str.ofString "-"++Str.ofString (Nat.repr (m+1)):=D2z "-" (Nat.repr (m+1));rw [e,Str.length_append];have h1:=C5c hm;have h2:(Str.ofString "-").length=1:=by decide +kernel
  lia
theorem D1x {z:Int} (h:Sm z):z.natAbs.log2<1920:=by
 by_cases h0:z.natAbs=0
 ·rw [h0];decide
 ·exact (Nat.log2_lt h0).mpr (Z2d h (Z0q (show 10^32<2^110 by decide) (Nat.pow_le_pow_right (by decide) (by decide))))
theorem C8x {ix:List (Str×Int)}:PyData.depth (A6j ix)<=2:=by
 have h:∀l:List (Str×Int),PyData.depthAll (l.map B7p)<=1:=by
  intro l
  induction l with
  | nil=>simp [PyData.depthAll]
  | cons e r ih=>simp [B7p,PyData.depthAll,PyData.depth] at *;lia
 have:=h ix;simp only [A6j,PyData.depth]
 lia
theorem D1f {ix:List (Str×Int)}:cnt (A6j ix)<=1+3*ix.length:=by
 have h:∀l:List (Str×Int),A3z (l.map B7p)<=3*l.length:=by
  intro l
  induction l with
  | nil=>simp [A3z]
  | cons e r ih=>simp only [B7p,A3z,cnt,Z0p,Z0y] at *;lia
 have:=h ix;simp only [A6j,cnt]
 lia
section
variable {G:Hp} {v:V}
theorem D5p {e:Str×Int} (h:Rep G v (B7p e)):∃p,v= .ref p/\G p=some (.tup [.str e.1,.int e.2]):=by
 obtain ⟨p,xs,rfl,q,r⟩:=D3f (show Rep G v (.tuple [.str e.1,.int e.2]) from h);obtain ⟨a,r1,rfl,ha,r⟩:=B8y r;obtain ⟨b,r2,rfl,hb,r⟩:=B8y r;cases C9d r;cases D2y ha;cases D4c hb;exact ⟨p,rfl,q⟩
end
def B3z (cs:List (List Int)) (n:Int):List (List Int):=cs.flatMap λc=>(List.range n.toNat).map λ(k:Nat)=>c++[(k:Int)]
def A3m (ls:List Int):List (List Int):=ls.foldl B3z [[]]
def A5b (ls:List Int):Int:=ls.foldl (· * ·) 1
theorem A8z (ls:List Int) (n:Int):A3m (ls++[n])=B3z (A3m ls) n:=by
 unfold A3m;rw [List.foldl_append];rfl
theorem C4l (ls:List Int) (n:Int):A5b (ls++[n])=A5b ls*n:=by
 unfold A5b;rw [List.foldl_append];rfl
theorem A9d (cs:List (List Int)) (n:Int):(B3z cs n).length=cs.length*n.toNat:=by
 induction cs with
 | nil=>simp [B3z]
 | cons c r ih =>
  have:B3z (c::r) n=((List.range n.toNat).map λ(k:Nat)=>c++[(k:Int)])++B3z r n:=by simp [B3z]
  rw [this,Z06,ih,Z08,List.length_range,Z0y,Nat.succ_mul];lia
def Within (c ls:List Int):Prop:=c.length=ls.length/\∀(k:Nat) (x n:Int),c[k]? =some x->ls[k]? =some n->0<=x/\x<n
theorem Within.snoc {c ls:List Int} {n:Int} {k:Nat} (h:Within c ls) (hk:(k:Int)<n):Within (c++[(k:Int)]) (ls++[n]):=by
 obtain ⟨hl,hw⟩:=h;refine ⟨by simp [hl],λi x m hx hm=> ?_⟩;by_cases hi:i<c.length
 ·rw [Z26 hi] at hx;rw [Z26 (by lia)] at hm;exact hw i x m hx hm
 ·have:i=c.length:=by
   have:=(Z03.mp hx).1;simp at this;lia
  subst this;rw [Z1l (Z09 _)] at hx;rw [hl,Z1l (Z09 _)] at hm;simp at hx hm
  lia
theorem D0k {cs:List (List Int)} {n:Int} {c:List Int} (h:c∈B3z cs n):∃b∈cs,∃k:Nat,k<n.toNat/\c=b++[(k:Int)]:=by
 unfold B3z at h;obtain ⟨b,hb,h2⟩:=List.mem_flatMap.mp h;obtain ⟨k,hk,e⟩:=Z2c.mp h2;exact ⟨b,hb,k,List.mem_range.mp hk,e.symm⟩
theorem A6c:∀(ls:List Int),∀c∈A3m ls,Within c ls:=by
 intro ls
 have key:∀(m:Nat) (ls:List Int),ls.length=m->∀c∈A3m ls,Within c ls:=by
  intro m
  induction m with
  | zero =>
   intro ls hl c hc;have:ls=[]:=List.length_eq_zero_iff.mp hl;subst this;have:c=[]:=by simpa [A3m] using hc
   subst this;exact ⟨rfl,λk x n hx _=>by simp at hx⟩
  | succ m ih =>
   intro ls hl c hc;obtain ⟨init,n,rfl⟩:∃init n,ls=init++[n]:=⟨ls.dropLast,ls.getLast (by intro e;simp [e] at hl),(List.dropLast_concat_getLast _).symm⟩;rw [A8z] at hc;obtain ⟨b,hb,k,hk,rfl⟩:=D0k hc;exact (ih init (by simp at hl;lia) b hb).snoc (by lia)
 exact key _ ls rfl
theorem A4r (ls:List Int) (h:∀n∈ls,1<=n):((A3m ls).length:Int)=A5b ls/\1<=A5b ls:=by
 have key:∀(m:Nat) (ls:List Int),ls.length=m->(∀n∈ls,1<=n)->((A3m ls).length:Int)=A5b ls/\1<=A5b ls:=by
  intro m
  induction m with
  | zero =>
   intro ls hl _;have:ls=[]:=List.length_eq_zero_iff.mp hl;subst this;simp [A3m,A5b]
  | succ m ih =>
   intro ls hl hp;obtain ⟨init,n,rfl⟩:∃init n,ls=init++[n]:=⟨ls.dropLast,ls.getLast (by intro e;simp [e] at hl),(List.dropLast_concat_getLast _).symm⟩;obtain ⟨h1,h2⟩:=ih init (by simp at hl;lia) λn hn=>hp n (by simp [hn]);have h3:1<=n:=hp n (by simp);rw [A8z,C4l,A9d];have e:((n.toNat:Nat):Int)=n:=by lia
   refine ⟨by rw [Int.natCast_mul,h1,e],?_⟩;have:=Int.mul_le_mul h2 h3 (by lia) (by lia)
   simpa using this
 exact key _ ls rfl h
structure C3r (ls:List Int):Prop where
 pos:∀n∈ls,1<=n/\n<=60
 few:ls.length<=8
 most:A5b ls<=4000
theorem B1w (ls:List Int) (h:∀n∈ls,1<=n) (i:Nat):1<=A5b (ls.take i)/\A5b (ls.take i)<=A5b ls:=by
 have a:=(A4r (ls.take i) λn hn=>h n (List.mem_of_mem_take hn)).2;refine ⟨a,?_⟩;have b:=(A4r (ls.drop i) λn hn=>h n (List.mem_of_mem_drop hn)).2
 have gen:∀(ys:List Int) (x:Int),ys.foldl (· * ·) x=x*A5b ys:=by
  intro ys
  induction ys with
  | nil=>intro x;simp [A5b]
  | cons y r ih=>intro x;simp only [A5b,List.foldl_cons] at ih⊢;rw [ih,ih (1*y),Int.one_mul,Int.mul_assoc]
 have e:A5b ls=A5b (ls.take i)*A5b (ls.drop i):=by
  have:=gen (ls.drop i) (A5b (ls.take i));rw [<-this];unfold A5b;rw [<-List.foldl_append,Z2e]
 rw [e];have:=Z29 b (show (0:Int)<=A5b (ls.take i) by lia)
 simpa using this
theorem A7d {ls:List Int} {i:Nat} {n:Int} (h:ls[i]? =some n):A3m (ls.take (i+1))=B3z (A3m (ls.take i)) n:=by
 rw [Z14,h];exact A8z _ _
def A5c (f:Str->Int) (ix:List (Str×Int)):List Int:=ix.map λ(e:Str×Int)=>if e.1=("":Str) then e.2 else f e.1+e.2
def ai (kvs:List (Key×V)) (x:Str):Int:=match A4u kvs (Sum.inr x) with | some (.int i)=>i | _=>0
def top (i:Nat):Stmt:=PySem.Challenge.pw_arrayloom_k15_beyond_the_rim.main.body.getD i (.Pass ⟨0,0,0,0⟩)
abbrev A4z:Stmt:=A4x (top 6) 0
abbrev B7f:Stmt:=top 9
abbrev A6w:Stmt:=A4x (top 13) 0
abbrev B1v:Stmt:=A4x (top 14) 0
abbrev A9j:Stmt:=A4x (top 15) 0
abbrev A6f:Stmt:=A4x (top 15) 1
abbrev B0x:Stmt:=top 16
abbrev A9n:Stmt:=A4x (top 17) 0
abbrev B1o:Stmt:=A4x (top 20) 0
abbrev A7h:Stmt:=A4x (top 22) 0
abbrev A5h:Stmt:=A4x (top 22) 1
abbrev A9e:Stmt:=A4x (top 24) 0
abbrev B1q:Stmt:=top 25
abbrev A8a:Stmt:=top 26
abbrev A3k:Stmt:=top 27
abbrev A6u:Stmt:=top 28
abbrev B1n:Stmt:=top 30
abbrev A7x:Stmt:=top 31
abbrev B1h:Stmt:=A4x (top 33) 0
abbrev A6i:Stmt:=A4x (top 34) 0
abbrev A7z:Stmt:=top 35
abbrev A6r:Stmt:=top 36
abbrev A6x:Stmt:=top 37
abbrev A8h:Stmt:=top 38
abbrev A8v:Stmt:=top 39
abbrev A5r:Stmt:=top 40
abbrev A6z:Stmt:=top 41
abbrev A7i:Stmt:=top 46
abbrev A4m:Stmt:=top 47
abbrev B4h:Stmt:=top 48
abbrev A5p:Stmt:=top 49
abbrev A9k:Stmt:=top 50
abbrev A9l:Stmt:=top 51
abbrev A7v:Stmt:=top 52
abbrev A9g:Stmt:=top 53
abbrev A7l:Stmt:=top 54
abbrev B1l:Stmt:=top 55
abbrev A8w:Stmt:=top 56
abbrev A5i:Stmt:=top 57
abbrev B3p:Stmt:=top 58
abbrev A8d:Stmt:=top 59
abbrev C6h:Stmt:=top 62
abbrev A9b:Stmt:=top 63
abbrev A7m:Stmt:=top 64
abbrev A7w:Stmt:=top 65
abbrev B1a:Stmt:=top 66
abbrev A7n:Stmt:=top 67
abbrev A9q:Stmt:=top 68
abbrev A9i:Stmt:=top 69
abbrev B6t:Stmt:=top 72
abbrev B6a:Stmt:=top 73
abbrev B1i:Stmt:=top 74
abbrev A8y:Stmt:=top 75
abbrev B3f:Stmt:=top 76
abbrev B6w:Stmt:=top 77
abbrev B6z:Stmt:=top 78
abbrev B6j:Stmt:=top 79
abbrev B2z:Stmt:=top 80
abbrev B1r:Stmt:=top 81
abbrev B4i:Stmt:=top 82
abbrev B1d:Stmt:=top 83
abbrev B2v:Stmt:=top 84
abbrev B3b:Stmt:=top 85
abbrev C8m:Stmt:=top 86
structure TyC (K:PySem.W.Frag) (C:Addr):Prop where
 ha:PySem.W.findIn K (.ref C) "__class__"=some (some (.builtin "object.__class__"))
 hn:PySem.W.specialIn K (.builtin "object.__class__") "__get__"=some (some (.builtin "getset_descriptor.__get__"))
 htk:PySem.W.takesIn K (.builtin "object.__class__")=some true
 hm:PySem.W.mroIn K C (.type "object")=some true
set_option genInjectivity false in
set_option genSizeOf false in
structure Adr where
 c8:Addr
 iu:Addr
 ir:Addr
 ag:Addr
 aa:Addr
 cb:Addr
 xF:Addr
 aj:Addr
 ah:Addr
 ak:Addr
 ij:Addr
 cz:Addr
 bv:Addr
 bi:Addr
 ae:Addr
 ba:Addr
 bu:Addr
 af:Addr
 dq:Addr
 dv:Addr
 dj:FuncData
 df:Addr
 di:FuncData
 h_:Addr
 g_:FuncData
 rj:Addr
 rq:FuncData
 o0:Addr
 m6:FuncData
 g9:Addr
 fw:FuncData
 q0:Addr
 qk:FuncData
 gc:Addr
 lu:FuncData
 qc:Addr
 py:FuncData
 jv:Addr
 jn:FuncData
 fe:Addr
 fi:FuncData
 k_:Addr
 nu:FuncData
 qa:Addr
 qx:FuncData
 de:Addr
 c_:FuncData
 cf:Addr
 c9:FuncData
 i6:Addr
 gr:FuncData
 qp:Addr
 qj:FuncData
 jq:Addr
 jf:FuncData
 qg:Addr
 qw:FuncData
 f_:Addr
 fv:FuncData
 j5:Addr
 jh:FuncData
 gy:Addr
 gj:FuncData
 ik:Addr
 ib:FuncData
 j3:Addr
 jk:FuncData
 nc:Addr
 nw:FuncData
 e_:Addr
 fm:FuncData
 gu:Addr
 ie:FuncData
 jy:Addr
 ji:FuncData
 dg:Addr
 cx:FuncData
 tD:Addr
 tJ:FuncData
 fh:Addr
 fj:FuncData
 md:Addr
 lj:FuncData
 m_:Addr
 kg:FuncData
 j7:Addr
 jl:FuncData
 kl:Addr
 mj:FuncData
 j9:Addr
 jg:FuncData
 qm:Addr
 q9:FuncData
 ni:Addr
 mo:FuncData
 fg:Addr
 eu:FuncData
 tG:Addr
 sY:FuncData
 jo:Addr
 iy:FuncData
 wq:Addr
 wG:FuncData
 mx:Addr
 kx:FuncData
 jp:Addr
 jd:FuncData
 iz:Addr
 jw:FuncData
 qh:Addr
 p_:FuncData
 j0:Addr
 jm:FuncData
 ml:Addr
 m9:FuncData
 mt:Addr
 ku:FuncData
 uf:Addr
 uG:FuncData
 ut:Addr
 ul:FuncData
 pi:Addr
 ph:FuncData
 ng:Addr
 ma:FuncData
 tf:Addr
 t9:FuncData
 uh:Addr
 uK:FuncData
 uq:Addr
 ue:FuncData
 ux:Addr
 ud:FuncData
 tL:Addr
 t6:FuncData
 qt:Addr
 pj:FuncData
 sX:Addr
 t7:FuncData
 qv:Addr
 qe:FuncData
 tH:Addr
 t8:FuncData
 tE:Addr
 tm:FuncData
 x6:Addr
 w_:FuncData
structure Txt (K:PySem.W.Frag) (mg:Str->Option Value) (t:Adr):Prop where
 tw:Fun K "__init__" "BeyondRim.__init__" A4z t.dv t.dj
 tK:A1i K t.dj ["self","name","array","spot","cell"] []
 bf:Fun K "copied" "copied" B7f t.df t.di
 bx:mg "copied"=some (.ref t.df)
 bw:A1i K t.di ["value"] []
 uL:Fun K "__init__" "Number.__init__" A6w t.h_ t.g_
 ci:A1i K t.g_ ["self","number"] []
 xj:Fun K "__init__" "Place.__init__" B1v t.rj t.rq
 xq:A1i K t.rq ["self","axis"] []
 vK:Fun K "__init__" "Read.__init__" A9j t.o0 t.m6
 v_:A1i K t.m6 ["self","array","indexes"] []
 uA:Fun K "cell_at" "Read.cell_at" A6f t.g9 t.fw
 uH:A1i K t.fw ["self","at"] []
 uC:Fun K "index_at" "index_at" B0x t.q0 t.qk
 ww:mg "index_at"=some (.ref t.q0)
 wI:A1i K t.qk ["axis","shift","at"] []
 vV:Fun K "__init__" "Pair.__init__" A9n t.gc t.lu
 tU:A1i K t.lu ["self","left","right"] []
 wy:Fun K "__init__" "Sum.__init__" B1o t.qc t.py
 wr:A1i K t.py ["self","axis","body"] []
 vC:Fun K "__init__" "Guard.__init__" A7h t.jv t.jn
 r_:A1i K t.jn ["self","axis","low","high","inner","outer"] []
 tZ:Fun K "lets_in" "Guard.lets_in" A5h t.fe t.fi
 ua:A1i K t.fi ["self","at"] []
 vZ:Fun K "__init__" "Part.__init__" A9e t.k_ t.nu
 cu:A1i K t.nu ["self","term","sums","guards"] []
 j6:Fun K "parts_of" "parts_of" B1q t.qa t.qx
 pq:mg "parts_of"=some (.ref t.qa)
 qr:A1i K t.qx ["term"] []
 jx:Fun K "parts_from" "parts_from" A8a t.de t.c_
 se:mg "parts_from"=some (.ref t.de)
 rz:A1i K t.c_ ["part"] []
 e9:Fun K "parts_right_within" "parts_right_within" A3k t.cf t.c9
 nj:mg "parts_right_within"=some (.ref t.cf)
 lh:A1i K t.c9 ["part"] []
 o_:Fun K "sums_at_top" "sums_at_top" A6u t.i6 t.gr
 uM:mg "sums_at_top"=some (.ref t.i6)
 uT:A1i K t.gr ["term"] []
 uE:Fun K "cells_of" "cells_of" B1n t.qp t.qj
 wm:mg "cells_of"=some (.ref t.qp)
 wt:A1i K t.qj ["lengths"] []
 su:Fun K "lengthened" "lengthened" A7x t.jq t.jf
 vg:mg "lengthened"=some (.ref t.jq)
 vi:A1i K t.jf ["cells","length"] []
 wA:Fun K "__init__" "Let.__init__" B1h t.qg t.qw
 uo:A1i K t.qw ["self","name","axes","term"] []
 uD:Fun K "__init__" "Program.__init__" A6i t.f_ t.fv
 um:A1i K t.fv ["self","wheel","axes","tables","lets","outs"] []
 ft:Fun K "axis_names" "axis_names" A7z t.j5 t.jh
 jb:mg "axis_names"=some (.ref t.j5)
 jr:A1i K t.jh ["program"] []
 pe:Fun K "table_names" "table_names" A6r t.gy t.gj
 uS:mg "table_names"=some (.ref t.gy)
 uW:A1i K t.gj ["program"] []
 ig:Fun K "array_names" "array_names" A6x t.ik t.ib
 pf:mg "array_names"=some (.ref t.ik)
 pb:A1i K t.ib ["program"] []
 je:Fun K "lengths_of" "lengths_of" A8h t.j3 t.jk
 rm:mg "lengths_of"=some (.ref t.j3)
 sQ:A1i K t.jk ["program"] []
 m5:Fun K "arrays_of" "arrays_of" A8v t.nc t.nw
 tP:mg "arrays_of"=some (.ref t.nc)
 tX:A1i K t.nw ["program"] []
 cm:Fun K "lengths_along" "lengths_along" A5r t.e_ t.fm
 fc:mg "lengths_along"=some (.ref t.e_)
 fk:A1i K t.fm ["axes","lengths"] []
 pd:Fun K "cells_along" "cells_along" A6z t.gu t.ie
 uX:mg "cells_along"=some (.ref t.gu)
 uV:A1i K t.ie ["axes","lengths"] []
 rg:Fun K "look_names" "look_names" A7i t.jy t.ji
 vd:mg "look_names"=some (.ref t.jy)
 vc:A1i K t.ji ["program"] []
 gh:Fun K "look_told_names" "look_told_names" A4m t.dg t.cx
 sj:mg "look_told_names"=some (.ref t.dg)
 rb:A1i K t.cx ["names"] []
 v9:Fun K "is_name" "is_name" B4h t.tD t.tJ
 wM:mg "is_name"=some (.ref t.tD)
 wV:A1i K t.tJ ["text"] []
 kc:Fun K "is_of_letters" "is_of_letters" A5p t.fh t.fj
 u3:mg "is_of_letters"=some (.ref t.fh)
 u9:A1i K t.fj ["text"] []
 tS:Fun K "look_outs" "look_outs" A9k t.md t.lj
 vL:mg "look_outs"=some (.ref t.md)
 vX:A1i K t.lj ["outs","names"] []
 tV:Fun K "look_axes" "look_axes" A9l t.m_ t.kg
 wc:mg "look_axes"=some (.ref t.m_)
 vG:A1i K t.kg ["axes","known"] []
 qy:Fun K "look_terms" "look_terms" A7v t.j7 t.jl
 vn:mg "look_terms"=some (.ref t.j7)
 vv:A1i K t.jl ["program"] []
 tN:Fun K "look_part" "look_part" A9g t.kl t.mj
 w8:mg "look_part"=some (.ref t.kl)
 wb:A1i K t.mj ["part","let","arrays","known"] []
 j8:Fun K "look_bound" "look_bound" A7l t.j9 t.jg
 sO:mg "look_bound"=some (.ref t.j9)
 sf:A1i K t.jg ["axis","bound"] []
 uF:Fun K "look_sum" "look_sum" B1l t.qm t.q9
 wD:mg "look_sum"=some (.ref t.qm)
 wB:A1i K t.q9 ["axis","bound","known"] []
 tY:Fun K "look_read" "look_read" A8w t.ni t.mo
 vM:mg "look_read"=some (.ref t.ni)
 vJ:A1i K t.mo ["read","bound","arrays"] []
 jz:Fun K "look_own_read" "look_own_read" A5i t.fg t.eu
 u6:mg "look_own_read"=some (.ref t.fg)
 u0:A1i K t.eu ["part","let"] []
 v5:Fun K "work_of" "work_of" B3p t.tG t.sY
 wU:mg "work_of"=some (.ref t.tG)
 wS:A1i K t.sY ["program"] []
 j4:Fun K "cell_count" "cell_count" A8d t.jo t.iy
 sw:mg "cell_count"=some (.ref t.jo)
 ri:A1i K t.iy ["axes","lengths"] []
 wv:Fun K "look" "look" C6h t.wq t.wG
 x8:mg "look"=some (.ref t.wq)
 wX:A1i K t.wG ["program"] []
 tR:Fun K "look_work" "look_work" A9b t.mx t.kx
 wd:mg "look_work"=some (.ref t.mx)
 vQ:A1i K t.kx ["program"] []
 rn:Fun K "look_reads" "look_reads" A7m t.jp t.jd
 vp:mg "look_reads"=some (.ref t.jp)
 vm:A1i K t.jd ["program"] []
 sx:Fun K "look_spots" "look_spots" A7w t.iz t.jw
 vE:mg "look_spots"=some (.ref t.iz)
 vD:A1i K t.jw ["let","part","lengths","axes"] []
 uJ:Fun K "leads_of" "leads_of" B1a t.qh t.p_
 wC:mg "leads_of"=some (.ref t.qh)
 wl:A1i K t.p_ ["let","part","lengths"] []
 so:Fun K "is_reached" "is_reached" A7n t.j0 t.jm
 vh:mg "is_reached"=some (.ref t.j0)
 vb:A1i K t.jm ["guards","at"] []
 tT:Fun K "look_rims" "look_rims" A9q t.ml t.m9
 vS:mg "look_rims"=some (.ref t.ml)
 vR:A1i K t.m9 ["let","read","leads","lengths"] []
 tQ:Fun K "is_within" "is_within" A9i t.mt t.ku
 vT:mg "is_within"=some (.ref t.mt)
 vF:A1i K t.ku ["cell","lengths"] []
 cy:Fun K "_law_cell" "_law_cell" B6t t.uf t.uG
 d_:mg "_law_cell"=some (.ref t.uf)
 em:A1i K t.uG ["_law_rest"] []
 ug:Fun K "_law_axes" "_law_axes" B6a t.ut t.ul
 vU:mg "_law_axes"=some (.ref t.ut)
 wj:A1i K t.ul ["_law_cell_here","_law_names"] []
 uw:Fun K "_law_layers" "_law_layers" B1i t.pi t.ph
 wz:mg "_law_layers"=some (.ref t.pi)
 wH:A1i K t.ph ["_law_rest","_law_own","_law_names","_law_many_here"] []
 tO:Fun K "_law_indexes" "_law_indexes" A8y t.ng t.ma
 vH:mg "_law_indexes"=some (.ref t.ng)
 vI:A1i K t.ma ["_law_rest","_law_sizes","_law_bound","_law_lengths"] []
 v8:Fun K "_law_guard" "_law_guard" B3f t.tf t.t9
 wP:mg "_law_guard"=some (.ref t.tf)
 wN:A1i K t.t9 ["_law_layer","_law_indexes_here","_law_sizes"] []
 vY:Fun K "_law_term" "_law_term" B6w t.uh t.uK
 x3:mg "_law_term"=some (.ref t.uh)
 wY:A1i K t.uK ["_law_read","_law_layers_here","_law_guards"] []
 uv:Fun K "_law_many" "_law_many" B6z t.uq t.ue
 vP:mg "_law_many"=some (.ref t.uq)
 vW:A1i K t.ue ["_law_axes_here","_law_lengths"] []
 wg:Fun K "_law_work" "_law_work" B6j t.ux t.ud
 xf:mg "_law_work"=some (.ref t.ux)
 wZ:A1i K t.ud ["_law_layers_here","_law_own","_law_lengths"] []
 uY:Fun K "_law_spots" "_law_spots" B2z t.tL t.t6
 wK:mg "_law_spots"=some (.ref t.tL)
 wT:A1i K t.t6 ["_law_names","_law_lengths"] []
 ur:Fun K "_law_longer" "_law_longer" B1r t.qt t.pj
 wn:mg "_law_longer"=some (.ref t.qt)
 wx:A1i K t.pj ["_law_spots_here","_law_length"] []
 uZ:Fun K "_law_first" "_law_first" B4i t.sX t.t7
 wL:mg "_law_first"=some (.ref t.sX)
 wQ:A1i K t.t7 ["_law_names","_law_lengths","_law_guards","_law_indexes_here","_law_sizes"] []
 qf:Fun K "_law_wholes" "_law_wholes" B1d t.qv t.qe
 uy:mg "_law_wholes"=some (.ref t.qv)
 uI:A1i K t.qe ["_law_found","_law_due"] []
 tF:Fun K "_law_holds" "_law_holds" B2v t.tH t.t8
 u_:mg "_law_holds"=some (.ref t.tH)
 v7:A1i K t.t8 ["_law_program","_law_array","_law_due","_law_much"] []
 v3:Fun K "_law_under" "_law_under" B3b t.tE t.tm
 wW:mg "_law_under"=some (.ref t.tE)
 wO:A1i K t.tm ["_law_program"] []
 xD:Fun K "law" "law" C8m t.x6 t.w_
 xG:mg "law"=some (.ref t.x6)
 xH:A1i K t.w_ ["_law_script"] []
 t_:∃u,mg "MOST_LETTERS"=some u/\A2z (.int (8)) u
 vx:∃u,mg "MOST_AXES"=some u/\A2z (.int (3)) u
 sr:∃u,mg "WORDS_OF_TERMS"=some u/\A2z (.ref t.dq) u
 rf:∃(o:Obj) (its:Array Value) (n:Nat),K.lookup t.dq=some o/\o.cls= .type "tuple"/\o.data= .seq its n/\its.size<=sizeLine/\A2u [(.str "if"),(.str "sum")] its.toList
 sh:∃u,mg "MOST_WORK"=some u/\A2z (.int (4000)) u
 m7:mg "BeyondRim"=some (.ref t.aa)
 gi:mg "LoomError"=some (.ref t.c8)
 iw:mg "NoName"=some (.ref t.iu)
 cv:mg "NoShape"=some (.ref t.ir)
 wa:mg "NotYet"=some (.ref t.cb)
 og:mg "TooMuch"=some (.ref t.ag)
 vy:MkX K t.aa t.dv
 q_:B5h K t.aa "name"
 pw:B5h K t.aa "array"
 sV:B5h K t.aa "spot"
 sW:B5h K t.aa "cell"
 sN:D5d K t.aa "name"
 qi:D5d K t.aa "array"
 sS:D5d K t.aa "spot"
 qz:D5d K t.aa "cell"
 ip:PySem.W.mroIn K t.aa (.type "ValueError")=some true
 kf:PySem.W.mroIn K t.ag (.type "ValueError")=some true
 fu:PySem.W.excIn K t.iu D1p "ValueError.__new__"=true
 c7:PySem.W.excIn K t.ir D1p "ValueError.__new__"=true
 wE:PySem.W.excIn K t.ag D1p "ValueError.__new__"=true
 qb:PySem.W.XcIn K t.ag
 kz:PySem.W.kitOne K (.ref t.ag) (.ref t.aa)=some false
 rc:PySem.W.kitOne K (.ref t.ag) (.ref t.cb)=some false
 l_:PySem.W.kitOne K (.ref t.ag) (.ref t.c8)=some true
 jc:PySem.W.XcIn K t.aa
 mq:PySem.W.kitOne K (.ref t.aa) (.ref t.ag)=some false
 oi:PySem.W.kitOne K (.ref t.aa) (.ref t.cb)=some false
 i_:PySem.W.kitOne K (.ref t.aa) (.ref t.c8)=some true
 qu:PySem.W.exmOne K (.ref t.ag) (.ref t.ag)=some true
 mr:PySem.W.exmOne K (.ref t.ag) (.ref t.c8)=some true
 kh:PySem.W.exmOne K (.ref t.aa) (.ref t.ag)=some false
 ju:PySem.W.exmOne K (.ref t.aa) (.ref t.aa)=some true
 jj:PySem.W.exmOne K (.ref t.aa) (.ref t.c8)=some true
 kj:mg "Number"=some (.ref t.aj)
 xk:mg "Place"=some (.ref t.ah)
 wF:mg "Read"=some (.ref t.ak)
 xx:mg "Pair"=some (.ref t.ij)
 xu:mg "Plus"=some (.ref t.cz)
 xh:mg "Times"=some (.ref t.bv)
 wJ:mg "Sum"=some (.ref t.bi)
 ub:mg "Guard"=some (.ref t.ae)
 t0:mg "Part"=some (.ref t.ba)
 xr:mg "Let"=some (.ref t.bu)
 wR:mg "Program"=some (.ref t.af)
 ay:Cls K t.ae
 vO:Mk K t.ae t.jv
 ia:A1u K t.ae "axis"
 sM:A1u K t.ae "low"
 oq:A1u K t.ae "high"
 mw:A1u K t.ae "inner"
 me:A1u K t.ae "outer"
 s_:D8j K t.ae "lets_in" t.fe
 ap:TyC K t.ae
 mh:PySem.W.kitOne K (.ref t.ae) (.ref t.ae)=some true
 uP:PySem.W.kitOne K (.ref t.ae) (.ref t.ij)=some false
 om:PySem.W.kitOne K (.ref t.ae) (.ref t.ak)=some false
 jt:PySem.W.kitOne K (.ref t.ae) (.ref t.bi)=some false
 uz:PySem.W.kitOne K (.ref t.ae) (.ref t.ah)=some false
 bp:Cls K t.bu
 x0:Mk K t.bu t.qg
 bt:A1u K t.bu "name"
 cr:A1u K t.bu "axes"
 dz:A1u K t.bu "term"
 vB:TyC K t.bu
 vN:PySem.W.mroIn K t.bu (.type "list")=some false
 vA:PySem.W.mroIn K t.bu (.type "tuple")=some false
 we:PySem.W.mroIn K t.bu (.type "dict")=some false
 c6:Cls K t.aj
 im:Mk K t.aj t.h_
 bq:A1u K t.aj "number"
 al:TyC K t.aj
 j_:PySem.W.kitOne K (.ref t.aj) (.ref t.ae)=some false
 uB:PySem.W.kitOne K (.ref t.aj) (.ref t.ij)=some false
 ky:PySem.W.kitOne K (.ref t.aj) (.ref t.ak)=some false
 gw:PySem.W.kitOne K (.ref t.aj) (.ref t.bi)=some false
 u7:PySem.W.kitOne K (.ref t.aj) (.ref t.ah)=some false
 ao:Cls K t.ba
 oa:Mk K t.ba t.k_
 bc:A1u K t.ba "term"
 av:A1u K t.ba "sums"
 be:A1u K t.ba "guards"
 xE:TyC K t.ba
 iq:Cls K t.ah
 xA:Mk K t.ah t.rj
 uO:A1u K t.ah "axis"
 au:TyC K t.ah
 uk:PySem.W.kitOne K (.ref t.ah) (.ref t.ae)=some false
 uU:PySem.W.kitOne K (.ref t.ah) (.ref t.ij)=some false
 oy:PySem.W.kitOne K (.ref t.ah) (.ref t.ak)=some false
 ja:PySem.W.kitOne K (.ref t.ah) (.ref t.bi)=some false
 uj:PySem.W.kitOne K (.ref t.ah) (.ref t.ah)=some true
 vq:Cls K t.cz
 xp:Mk K t.cz t.gc
 sk:A1u K t.cz "left"
 oz:A1u K t.cz "right"
 sy:TyC K t.cz
 uN:PySem.W.kitOne K (.ref t.cz) (.ref t.ae)=some false
 vz:PySem.W.kitOne K (.ref t.cz) (.ref t.ij)=some true
 sU:PySem.W.kitOne K (.ref t.cz) (.ref t.ak)=some false
 tW:PySem.W.kitOne K (.ref t.cz) (.ref t.bi)=some false
 uQ:PySem.W.kitOne K (.ref t.cz) (.ref t.ah)=some false
 am:Cls K t.af
 wu:Mk K t.af t.f_
 sZ:A1u K t.af "wheel"
 fb:A1u K t.af "axes"
 bj:A1u K t.af "tables"
 bh:A1u K t.af "lets"
 ka:A1u K t.af "outs"
 xz:TyC K t.af
 bo:Cls K t.ak
 xo:Mk K t.ak t.o0
 b_:A1u K t.ak "array"
 cj:A1u K t.ak "indexes"
 u8:D8j K t.ak "cell_at" t.g9
 a_:TyC K t.ak
 ot:PySem.W.kitOne K (.ref t.ak) (.ref t.ae)=some false
 vf:PySem.W.kitOne K (.ref t.ak) (.ref t.ij)=some false
 sv:PySem.W.kitOne K (.ref t.ak) (.ref t.ak)=some true
 my:PySem.W.kitOne K (.ref t.ak) (.ref t.bi)=some false
 uR:PySem.W.kitOne K (.ref t.ak) (.ref t.ah)=some false
 fz:Cls K t.bi
 xy:Mk K t.bi t.qc
 gb:A1u K t.bi "axis"
 n_:A1u K t.bi "body"
 br:TyC K t.bi
 ve:PySem.W.kitOne K (.ref t.bi) (.ref t.ae)=some false
 wf:PySem.W.kitOne K (.ref t.bi) (.ref t.ij)=some false
 tM:PySem.W.kitOne K (.ref t.bi) (.ref t.ak)=some false
 qo:PySem.W.kitOne K (.ref t.bi) (.ref t.bi)=some true
 vj:PySem.W.kitOne K (.ref t.bi) (.ref t.ah)=some false
 mi:Cls K t.bv
 x9:Mk K t.bv t.gc
 ii:A1u K t.bv "left"
 g6:A1u K t.bv "right"
 cg:TyC K t.bv
 nh:PySem.W.kitOne K (.ref t.bv) (.ref t.ae)=some false
 oj:PySem.W.kitOne K (.ref t.bv) (.ref t.ij)=some true
 dw:PySem.W.kitOne K (.ref t.bv) (.ref t.ak)=some false
 fq:PySem.W.kitOne K (.ref t.bv) (.ref t.bi)=some false
 mn:PySem.W.kitOne K (.ref t.bv) (.ref t.ah)=some false
 ac:mg "isinstance"=none
 ti:mg "list"=none
 fo:mg "tuple"=none
 tI:mg "dict"=none
 uc:mg "range"=none
 mf:mg "enumerate"=none
 cw:mg "len"=none
 x4:mg "all"=none
 v6:mg "zip"=none
 xB:mg "min"=none
 ui:mg "reversed"=none
 xw:mg "bool"=none
 xC:mg "int"=none
 rh:mg "ValueError"=none
local macro_rules | `(tactic| walk_at "sc") => `(tactic| exact ⟨rfl, rfl, rfl, by decide +kernel, rfl, by decide +kernel, by decide +kernel⟩)
local macro_rules | `(tactic| walk_at "ln") => `(tactic| (intro _ _ _ _ h; (repeat (obtain ⟨_, h⟩ := h)); subst_vars; rfl))
theorem B1f:A0o ["self","name","array","spot","cell"] ["self","name","array","spot","cell"] (A0i A4z):=by walk_at "sc"
theorem B3r:A0o ["value"] ["value"] (A0i B7f):=by walk_at "sc"
theorem B4x:A0o ["self","number"] ["self","number"] (A0i A6w):=by walk_at "sc"
theorem B8w:A0o ["self","array","indexes"] ["self","array","indexes"] (A0i A9j):=by walk_at "sc"
theorem B3o:A0o ["self","at"] ["self","at"] (A0i A6f):=by walk_at "sc"
theorem C0x:A0o ["axis","shift","at"] ["axis","shift","at"] (A0i B0x):=by walk_at "sc"
theorem B7t:A0o ["self","left","right"] ["self","left","right"] (A0i A9n):=by walk_at "sc"
theorem C0k:A0o ["self","axis","body"] ["self","axis","body"] (A0i B1o):=by walk_at "sc"
theorem B7c:A0o ["self","axis","low","high","inner","outer"] ["self","axis","low","high","inner","outer"] (A0i A7h):=by walk_at "sc"
theorem B2b:A0o ["self","at"] ["self","at"] (A0i A5h):=by walk_at "sc"
theorem B8o:A0o ["self","term","sums","guards"] ["self","term","sums","guards"] (A0i A9e):=by walk_at "sc"
theorem C1h:A0o ["term"] ["term"] (A0i B1q):=by walk_at "sc"
theorem A7b:A0o ["part","parts","inner"] ["part"] (A0i A8a):=by walk_at "sc"
theorem A2i:A0o ["part","term","inner","outer"] ["part"] (A0i A3k):=by walk_at "sc"
theorem A4n:A0o ["term","axes","rest"] ["term"] (A0i A6u):=by walk_at "sc"
theorem A6t:A0o ["lengths","cells","length"] ["lengths"] (A0i B1n):=by walk_at "sc"
theorem A5e:A0o ["cells","length","longer","cell","number"] ["cells","length"] (A0i A7x):=by walk_at "sc"
theorem C0m:A0o ["self","name","axes","term"] ["self","name","axes","term"] (A0i B1h):=by walk_at "sc"
theorem B3h:A0o ["self","wheel","axes","tables","lets","outs"] ["self","wheel","axes","tables","lets","outs"] (A0i A6i):=by walk_at "sc"
theorem B7i:A0o ["program"] ["program"] (A0i A7z):=by walk_at "sc"
theorem B4v:A0o ["program"] ["program"] (A0i A6r):=by walk_at "sc"
theorem B4l:A0o ["program"] ["program"] (A0i A6x):=by walk_at "sc"
theorem B7g:A0o ["program"] ["program"] (A0i A8h):=by walk_at "sc"
theorem A4t:A0o ["program","arrays","name","axes","let"] ["program"] (A0i A8v):=by walk_at "sc"
theorem B2d:A0o ["axes","lengths"] ["axes","lengths"] (A0i A5r):=by walk_at "sc"
theorem B4n:A0o ["axes","lengths"] ["axes","lengths"] (A0i A6z):=by walk_at "sc"
theorem A9x:A0o ["program","axes"] ["program"] (A0i A7i):=by walk_at "sc"
theorem A4f:A0o ["names","place","name"] ["names"] (A0i A4m):=by walk_at "sc"
theorem C3n:A0o ["text"] ["text"] (A0i B4h):=by walk_at "sc"
theorem B1z:A0o ["text"] ["text"] (A0i A5p):=by walk_at "sc"
theorem A7r:A0o ["outs","names","place","out"] ["outs","names"] (A0i A9k):=by walk_at "sc"
theorem A8f:A0o ["axes","known","place","axis"] ["axes","known"] (A0i A9l):=by walk_at "sc"
theorem A4b:A0o ["program","known","arrays","let","part"] ["program"] (A0i A7v):=by walk_at "sc"
theorem A7o:A0o ["part","let","arrays","known","term","bound"] ["part","let","arrays","known"] (A0i A9g):=by walk_at "sc"
theorem B5z:A0o ["axis","bound"] ["axis","bound"] (A0i A7l):=by walk_at "sc"
theorem C1e:A0o ["axis","bound","known"] ["axis","bound","known"] (A0i B1l):=by walk_at "sc"
theorem A6e:A0o ["read","bound","arrays","name","axis","shift"] ["read","bound","arrays"] (A0i A8w):=by walk_at "sc"
theorem A7e:A0o ["part","let","name"] ["part","let"] (A0i A5i):=by walk_at "sc"
theorem A3i:A0o ["program","lengths","work","name","axes","let","part"] ["program"] (A0i B3p):=by walk_at "sc"
theorem A5d:A0o ["axes","lengths","count","length"] ["axes","lengths"] (A0i A8d):=by walk_at "sc"
theorem D3o:A0o ["program"] ["program"] (A0i C6h):=by walk_at "sc"
theorem B1s:A0o ["program","work"] ["program"] (A0i A9b):=by walk_at "sc"
theorem A4a:A0o ["program","lengths","arrays","let","part"] ["program"] (A0i A7m):=by walk_at "sc"
theorem A9y:A0o ["let","part","lengths","axes","leads"] ["let","part","lengths","axes"] (A0i A7w):=by walk_at "sc"
theorem A5q:A0o ["let","part","lengths","axes","leads","spot","at"] ["let","part","lengths"] (A0i B1a):=by walk_at "sc"
theorem B6v:A0o ["guards","at"] ["guards","at"] (A0i A7n):=by walk_at "sc"
theorem A8c:A0o ["let","read","leads","lengths","spot","cell"] ["let","read","leads","lengths"] (A0i A9q):=by walk_at "sc"
theorem B7r:A0o ["cell","lengths"] ["cell","lengths"] (A0i A9i):=by walk_at "sc"
theorem C4s:A0o ["_law_rest"] ["_law_rest"] (A0i B6t):=by walk_at "sc"
theorem B0q:A0o ["_law_cell_here","_law_names","_law_many_here","_law_turn"] ["_law_cell_here","_law_names"] (A0i B6a):=by walk_at "sc"
theorem A4l:A0o ["_law_rest","_law_own","_law_names","_law_many_here","_law_layers_here","_law_bound","_law_k","_law_cell_here","_law_free"] ["_law_rest","_law_own","_law_names","_law_many_here"] (A0i B1i):=by walk_at "sc"
theorem A1q:A0o ["_law_rest","_law_sizes","_law_bound","_law_lengths","_law_some","_law_indexes_here","_law_size","_law_cell_here","_law_axis","_law_way","_law_shift"] ["_law_rest","_law_sizes","_law_bound","_law_lengths"] (A0i A8y):=by walk_at "sc"
theorem A3u:A0o ["_law_layer","_law_indexes_here","_law_sizes","_law_way","_law_cell_here","_law_inside","_law_index","_law_size","_law_low"] ["_law_layer","_law_indexes_here","_law_sizes"] (A0i B3f):=by walk_at "sc"
theorem A2h:A0o ["_law_read","_law_layers_here","_law_guards","_law_term_here","_law_left","_law_layer","_law_axis","_law_low","_law_high","_law_inside"] ["_law_read","_law_layers_here","_law_guards"] (A0i B6w):=by walk_at "sc"
theorem B0a:A0o ["_law_axes_here","_law_lengths","_law_many_here","_law_name"] ["_law_axes_here","_law_lengths"] (A0i B6z):=by walk_at "sc"
theorem A5m:A0o ["_law_layers_here","_law_own","_law_lengths","_law_factor","_law_work_here","_law_layer"] ["_law_layers_here","_law_own","_law_lengths"] (A0i B6j):=by walk_at "sc"
theorem A8k:A0o ["_law_names","_law_lengths","_law_spots_here","_law_name"] ["_law_names","_law_lengths"] (A0i B2z):=by walk_at "sc"
theorem A7a:A0o ["_law_spots_here","_law_length","_law_longer_here","_law_spot","_law_number"] ["_law_spots_here","_law_length"] (A0i B1r):=by walk_at "sc"
theorem A1z:A0o ["_law_names","_law_lengths","_law_guards","_law_indexes_here","_law_sizes","_law_spot","_law_at","_law_name","_law_number","_law_reached","_law_axis","_law_low","_law_high","_law_inside","_law_cell_here","_law_size"] ["_law_names","_law_lengths","_law_guards","_law_indexes_here","_law_sizes"] (A0i B4i):=by walk_at "sc"
theorem A9h:A0o ["_law_found","_law_due","_law_one","_law_other"] ["_law_found","_law_due"] (A0i B1d):=by walk_at "sc"
theorem A6n:A0o ["_law_program","_law_array","_law_due","_law_much","_law_found","e"] ["_law_program","_law_array","_law_due","_law_much"] (A0i B2v):=by walk_at "sc"
theorem B1j:A0o ["_law_program","e"] ["_law_program"] (A0i B3b):=by walk_at "sc"
theorem A3c:A0o ["_law_script","_law_rest","_law_way","_law_names","_law_lengths","_law_name","_law_array","_law_shape","_law_own","_law_layers_here","_law_bound","_law_sizes","_law_indexes_here","_law_guards","_law_work_here","_law_due","_law_tables","_law_lets","_law_axes_here","_law_program"] ["_law_script"] (A0i C8m):=by walk_at "sc"
theorem A6o:(["member"]:List Str).Nodup:=by decide +kernel
theorem B8i:(["axis","shift","at"]:List Str).Nodup:=by decide +kernel
theorem B8t:(["name","length"]:List Str).Nodup:=by decide +kernel
theorem B8j:(["name","axes"]:List Str).Nodup:=by decide +kernel
theorem C7b:(["let"]:List Str).Nodup:=by decide +kernel
theorem C7n:(["axis","lengths"]:List Str).Nodup:=by decide +kernel
theorem C6r:(["sign"]:List Str).Nodup:=by decide +kernel
theorem B8b:(["guard","inner","at"]:List Str).Nodup:=by decide +kernel
theorem B9s:(["number","length"]:List Str).Nodup:=by decide +kernel
theorem C7m:(["_law_j","_law_cell_here","_law_many_here","_law_names","_law_turn"]:List Str).Nodup:=by decide +kernel
theorem C3x:(["_law_name","_law_bound"]:List Str).Nodup:=by decide +kernel
theorem B5l:(["_law_axis","_law_shift","_law_at"]:List Str).Nodup:=by decide +kernel
theorem C3m:(["_law_cell_here"]:List Str).Nodup:=by decide +kernel
theorem C3e:(["_law_layer"]:List Str).Nodup:=by decide +kernel
theorem C4h:(["_law_name","_law_lengths"]:List Str).Nodup:=by decide +kernel
theorem C3t:(["_law_layer","_law_indexes_here","_law_sizes"]:List Str).Nodup:=by decide +kernel
theorem C4b:(["_law_name","_law_lengths"]:List Str).Nodup:=by decide +kernel
theorem A2e.none {P:Program} {w:World} {K:PySem.W.Frag} {mg:Str->Option Value} {base:Heap} {CX:CXT} {k:Nat} {f:Addr} {fd:FuncData} {ps:List Str} {sp:Sp} (h:∀vs H Q E,¬sp vs H Q E):A2e P w K mg base CX k f fd ps sp :=
 ⟨λvs H Q E q=>(h vs H Q E q).elim,λ_ _ _ H _ _ vs Q E _ _ _ _ q=>(h vs H Q E q).elim⟩
def C1x (e:Str×List Str):PyData:= .tuple [.str e.1,.list (e.2.map PyData.str)]
def B2w (ts:List (Str×List Str)):PyData:= .list (ts.map C1x)
def C4o (xs:List Str):PyData:= .list (xs.map PyData.str)
theorem C1l:∀xs:List Str,PyData.depthAll (xs.map PyData.str)=0/\A3z (xs.map PyData.str)=xs.length
 | []=>⟨rfl,rfl⟩
 | x::r=>by
  obtain ⟨h2,h3⟩:=C1l r;refine ⟨?_,?_⟩
  ·simp [PyData.depthAll,PyData.depth,h2]
  ·simp [A3z,cnt,h3];lia
theorem C5d (xs:List Str):(C4o xs).depth<=1/\cnt (C4o xs)<=1+xs.length:=by
 obtain ⟨h2,h3⟩:=C1l xs;refine ⟨?_,?_⟩
 ·simp [C4o,PyData.depth,h2]
 ·simp only [C4o,cnt,h3];lia
theorem D6z {n:Nat}:∀ts:List (Str×List Str),(∀e∈ts,e.2.length<=n)->PyData.depthAll (ts.map C1x)<=2/\A3z (ts.map C1x)<=ts.length*(n+4)
 | [],_=>⟨by simp [PyData.depthAll],by simp [A3z]⟩
 | e::r,h=>by
  obtain ⟨h2,h3⟩:=D6z r λx hx=>h x (.tail _ hx);obtain ⟨g2,g3⟩:=C1l e.2;have hl:=h e (.head _);refine ⟨?_,?_⟩
  ·simp only [Z0p,C1x,PyData.depthAll,PyData.depth,g2]
   lia
  ·simp only [Z0p,C1x,A3z,cnt,g3,Z0y,Nat.add_mul,Nat.one_mul]
   lia
theorem C9f {n:Nat} (ts:List (Str×List Str)) (h:∀e∈ts,e.2.length<=n):(B2w ts).depth<=3/\cnt (B2w ts)<=1+ts.length*(n+4):=by
 obtain ⟨h2,h3⟩:=D6z ts h;refine ⟨?_,?_⟩
 ·simp only [B2w,PyData.depth];lia
 ·simp only [B2w,cnt];lia
theorem D7r:∀ts:List (Str×Int),PyData.depthAll (ts.map B7p)<=1
 | []=>by simp [PyData.depthAll]
 | e::r=>by
  have h2:=D7r r;simp only [Z0p,B7p,PyData.depthAll,PyData.depth];lia
theorem D0f (ts:List (Str×Int)):(A6j ts).depth<=2:=by
 have h2:=D7r ts;simp only [A6j,PyData.depth];lia
theorem B9q {H:Hp}:∀{ys:List Str} {xs:List V},A5f H xs (ys.map PyData.str)->xs=ys.map V.str
 | [],_,r=>by cases r;rfl
 | y::ys,_,r=>by
  rw [Z0p] at r
  cases r with
  | cons a r =>
   cases a
   rw [Z0p,B9q r]
theorem C9x {H:Hp} {v:V} {ys:List Str} (h:Rep H v (C4o ys)):∃p,v= .ref p/\H p=some (.lst (ys.map V.str)):=by
 obtain ⟨p,xs,rfl,e,r⟩:=A4w (show Rep H v (.list (ys.map PyData.str)) from h);rw [B9q r] at e;exact ⟨p,rfl,e⟩
theorem D2w {H:Hp} {p:Addr} {ys:List Str} (e:H p=some (.lst (ys.map V.str))):Rep H (.ref p) (C4o ys):= .lst e (A5f.strs ys)
theorem C9i {H:Hp} {v:V} {e:Str×List Str} (h:Rep H v (C1x e)):∃b c,v= .ref b/\H b=some (.tup [.str e.1,.ref c])/\H c=some (.lst (e.2.map V.str)):=by
 unfold C1x at h
 cases h with
 | @tup b xs _ eb r =>
  cases r with
  | cons a r =>
   cases r with
   | cons a2 r =>
    cases r
    cases a
    obtain ⟨c,rfl,ec⟩:=C9x a2;exact ⟨b,c,rfl,eb,ec⟩
theorem D9p {H:Hp} {b c:Addr} {e:Str×List Str} (eb:H b=some (.tup [.str e.1,.ref c])) (ec:H c=some (.lst (e.2.map V.str))):Rep H (.ref b) (C1x e):= .tup eb (.cons (.str _) (.cons (D2w ec) .nil))
theorem D3k {H:Hp} {v:V} {e:Str×Int} (h:Rep H v (B7p e)):∃b,v= .ref b/\H b=some (.tup [.str e.1,.int e.2]):=by
 unfold B7p at h
 cases h with
 | @tup b xs _ eb r =>
  cases r with
  | cons a r =>
   cases r with
   | cons a2 r =>
    cases r
    cases a
    cases a2
    exact ⟨b,rfl,eb⟩
theorem B3u {α:Type} {H:Hp} {f:α->PyData} {ts:List α} {xs:List V} (r:A5f H xs (ts.map f)) {i:Nat} {x:V} (hx:xs[i]? =some x):∃e,ts[i]? =some e/\Rep H x (f e):=by
 obtain ⟨d,hd,rx⟩:=r.get2 hx;rw [Z1z] at hd;obtain ⟨e,he,rfl⟩:=Z0i.mp hd;exact ⟨e,he,rx⟩
def A9w (A:Adr):Op3->Addr
 | .plus=>A.cz
 | .minus=>A.bv
 | .times=>A.bv
inductive Ob (A:Adr) (H:Hp):V->Tm->Prop
 | num {a dx:Addr} {z:Int}:H a=some (.ins A.aj dx [("number",.int z)])->Ob A H (.ref a) (.num z)
 | place {a dx:Addr} {x:Str}:H a=some (.ins A.ah dx [("axis",.str x)])->Ob A H (.ref a) (.place x)
 | read {a dx l:Addr} {x:Str} {ix:List (Str×Int)}:H a=some (.ins A.ak dx [("array",.str x),("indexes",.ref l)])->Rep H (.ref l) (A6j ix)->Ob A H (.ref a) (.read x ix)
 | sum {a dx:Addr} {x:Str} {u:V} {b:Tm}:H a=some (.ins A.bi dx [("axis",.str x),("body",u)])->Ob A H u b->Ob A H (.ref a) (.sum x b)
 | pair {a dx:Addr} {k:Op3} {u w:V} {l r:Tm}:H a=some (.ins (A9w A k) dx [("left",u),("right",w)])->Ob A H u l->Ob A H w r->Ob A H (.ref a) (.pair k l r)
 | guard {a dx:Addr} {x:Str} {lo hi:Int} {u w:V} {l r:Tm}:H a=some (.ins A.ae dx [("axis",.str x),("low",.int lo),("high",.int hi),("inner",u),("outer",w)])->Ob A H u l->Ob A H w r->Ob A H (.ref a) (.guard x lo hi l r)
theorem Ob.imp {A:Adr} {H H':Hp} (f:A0n H H') {v:V} {t:Tm} (h:Ob A H v t):Ob A H' v t:=by
 induction h with
 | num e=>exact .num (f _ _ e)
 | place e=>exact .place (f _ _ e)
 | read e r=>exact .read (f _ _ e) (r.same f)
 | sum e _ ih=>exact .sum (f _ _ e) ih
 | pair e _ _ i1 i2=>exact .pair (f _ _ e) i1 i2
 | guard e _ _ i1 i2=>exact .guard (f _ _ e) i1 i2
abbrev Lt:=Str×List Str×Tm
def B1y (A:Adr) (S:Addr->Prop) (H:Hp) (v:V) (e:Lt):Prop:=∃(a dx c:Addr) (n:V) (dn:Unit),v= .ref a/\H a=some (.ins A.bu dx [("name",.str e.1),("axes",.ref c),("term",n)])/\S c/\H c=some (.lst (e.2.1.map V.str))/\Ob A H n e.2.2
abbrev C7e (A:Adr) (S:Addr->Prop) (H:Hp) (xs:List V) (ls:List Lt):Prop:=Paired (B1y A S H) xs ls
theorem B1y.same {A:Adr} {S:Addr->Prop} {H H':Hp} {v:V} {e:Lt} (h:B1y A S H v e) (s:A0n H H'):B1y A S H' v e:=by
 obtain ⟨a,dx,c,n,dn,rfl,e1,s1,e2,e3⟩:=h;exact ⟨a,dx,c,n,dn,rfl,s _ _ e1,s1,s _ _ e2,e3.imp s⟩
structure B9n (A:Adr) (H:Hp) (p:Addr) (wh:Int) (ax:List (Str×Int)) (tb:List (Str×List Str)) (ls:List Lt) (os:List Str):Prop where
 ob:∃dx a t l o,H p=some (.ins A.af dx [("wheel",.int wh),("axes",.ref a),("tables",.ref t),("lets",.ref l),("outs",.ref o)])/\Rep H (.ref a) (A6j ax)/\Rep H (.ref t) (B2w tb)/\(∃xs,H l=some (.lst xs)/\C7e A (λ_=>True) H xs ls)/\Rep H (.ref o) (C4o os)
theorem B9n.same {A:Adr} {H H':Hp} {p:Addr} {wh:Int} {ax:List (Str×Int)} {tb:List (Str×List Str)} {ls:List Lt} {os:List Str} (h:B9n A H p wh ax tb ls os) (s:A0n H H'):B9n A H' p wh ax tb ls os:=by
 obtain ⟨dx,a,t,l,o,e,r1,r2,⟨xs,e2,r3⟩,r4⟩:=h.ob;exact ⟨dx,a,t,l,o,s _ _ e,r1.same s,r2.same s,⟨xs,s _ _ e2,Paired.mapP r3 λ_ _ z=>z.same s⟩,r4.same s⟩
abbrev Gd:=Str×Int×Int×Bool
abbrev PT:=Tm×List Str×List Gd
def prT:Tm->List Str->List Gd->List PT
 | .sum x b,s,g=>(.sum x b,s,g)::prT b (s++[x]) g
 | .pair k l r,s,g=>(.pair k l r,s,g)::(prT l s g++prT r s g)
 | .guard x lo hi l r,s,g=>(.guard x lo hi l r,s,g)::(prT l s (g++[(x,lo,hi,true)])++prT r s (g++[(x,lo,hi,false)]))
 | .num z,s,g=>[(.num z,s,g)]
 | .place x,s,g=>[(.place x,s,g)]
 | .read a i,s,g=>[(.read a i,s,g)]
def B8m:Tm->List Str->List Gd->List PT
 | .sum x b,s,g=>[(b,s++[x],g)]
 | .pair _ l r,s,g=>[(l,s,g),(r,s,g)]
 | .guard x lo hi l r,s,g=>[(l,s,g++[(x,lo,hi,true)]),(r,s,g++[(x,lo,hi,false)])]
 | _,_,_=>[]
theorem C2g:∀(u:Tm) (s:List Str) (g:List Gd),prT u s g=(u,s,g)::(B8m u s g).flatMap λk=>prT k.1 k.2.1 k.2.2
 | .num _,_,_=>rfl
 | .place _,_,_=>rfl
 | .read _ _,_,_=>rfl
 | .sum x b,s,g=>by simp [prT,B8m]
 | .pair k l r,s,g=>by simp [prT,B8m]
 | .guard x lo hi l r,s,g=>by simp [prT,B8m]
theorem D0n {u:Tm} {s:List Str} {g:List Gd} {k:PT} (h:k∈B8m u s g):dep k.1+1<=dep u:=by
 cases u with
 | num z=>cases h
 | place x=>cases h
 | read a ix=>cases h
 | sum x b=>rw [Z0w.mp h];simp [dep]
 | pair o l r =>
  simp only [B8m,Z0e,Z1i,or_false] at h;rcases h with rfl | rfl <;> simp only [dep] <;> lia
 | guard x lo hi l r =>
  simp only [B8m,Z0e,Z1i,or_false] at h;rcases h with rfl | rfl <;> simp only [dep] <;> lia
theorem A8e:∀(u:Tm) (s:List Str) (g:List Gd),(prT u s g).length=nod u
 | .num _,_,_=>rfl
 | .place _,_,_=>rfl
 | .read _ _,_,_=>rfl
 | .sum x b,s,g=>by simp [prT,nod,A8e b]
 | .pair k l r,s,g=>by simp [prT,nod,A8e l,A8e r]
 | .guard x lo hi l r,s,g=>by simp [prT,nod,A8e l,A8e r]
def D6x (A:Adr) (H:Hp) (v:V) (g:Gd):Prop:=∃(tp go dx:Addr) (u w:V),v= .ref tp/\H tp=some (.tup [.ref go,.bl g.2.2.2])/\H go=some (.ins A.ae dx [("axis",.str g.1),("low",.int g.2.1),("high",.int g.2.2.1),("inner",u),("outer",w)])
theorem D6x.same {A:Adr} {H H':Hp} {v:V} {g:Gd} (h:D6x A H v g) (s:A0n H H'):D6x A H' v g:=by
 obtain ⟨tp,go,dx,u,w,rfl,e1,e2⟩:=h;exact ⟨tp,go,dx,u,w,rfl,s _ _ e1,s _ _ e2⟩
def A4p (A:Adr) (H:Hp) (v:V) (e:PT):Prop:=∃a dx tv sl gl gs,v= .ref a/\H a=some (.ins A.ba dx [("term",tv),("sums",.ref sl),("guards",.ref gl)])/\Ob A H tv e.1/\H sl=some (.lst (e.2.1.map V.str))/\H gl=some (.lst gs)/\gs.length+dep e.1<=100/\e.2.1.length+dep e.1<=100/\Paired (D6x A H) gs e.2.2
theorem A4p.same {A:Adr} {H H':Hp} {v:V} {e:PT} (h:A4p A H v e) (s:A0n H H'):A4p A H' v e:=by
 obtain ⟨a,dx,tv,sl,gl,gs,rfl,e1,o,e2,e3,r1,r2,r3⟩:=h;exact ⟨a,dx,tv,sl,gl,gs,rfl,s _ _ e1,o.imp s,s _ _ e2,s _ _ e3,r1,r2,Paired.mapP r3 λ_ _ z=>z.same s⟩
local macro_rules | `(tactic| walk_at "lk") => `(tactic| first | with_reducible exact lk0 | (refine lk1 (by decide +kernel) ?_; walk_at "lk") | rfl)
def D0w (K:PySem.W.Frag) (f:Str):Sp:=λvs H Q _=>∃(p C dx:Addr) (v:V),vs=[.ref p,v]/\H p=some (.ins C dx [])/\Cls K C/\A1u K C f/\Q .non (upd H p (.ins C dx [(f,v)]))
def C5g (n:Nat):Sp:=λvs H Q _=>∃(v:V) (d:PyData),vs=[v]/\Rep H v d/\PyData.depth d<=n/\cnt d<=100000/\∀(v':V) (H':Hp),A0n H H'->Rep (A2s (λa=>H a=none) H') v' d->Q v' H'
def D6s (A:Adr):Sp:=λvs H Q _=>∃(a dx:Addr) (fs:List (Str×V)),vs=[.ref a]/\H a=some (.ins A.bu dx fs)/\Q (.ref a) H
def D1r (A:Adr):Sp:=λvs H Q _=>∃(p:Addr) (xs:List V),vs=[.ref p]/\H p=some (.lst xs)/\xs.length<=1000/\(∀x∈xs,∃a dx fs,x= .ref a/\H a=some (.ins A.bu dx fs))/\∀(D:Addr) (H':Hp),H D=none->A0n H H'->H' D=some (.lst xs)->Q (.ref D) H'
def C2q (K:PySem.W.Frag) (f g:Str):Sp:=λvs H Q _=>∃(p C dx:Addr) (v u:V),vs=[.ref p,v,u]/\H p=some (.ins C dx [])/\Cls K C/\A1u K C f/\A1u K C g/\Q .non (upd H p (.ins C dx [(f,v),(g,u)]))
def C9v (A:Adr):Sp:=λvs H Q _=>∃(p dx:Addr) (a b c d e:V),vs=[.ref p,a,b,c,d,e]/\H p=some (.ins A.ae dx [])/\Q .non (upd H p (.ins A.ae dx [("axis",a),("low",b),("high",c),("inner",d),("outer",e)]))
def C9m (A:Adr):Sp:=λvs H Q _=>∃(p dx l:Addr) (x:Str) (ix:List (Str×Int)),vs=[.ref p,.str x,.ref l]/\H p=some (.ins A.ak dx [])/\Rep H (.ref l) (A6j ix)/\ix.length<=1000/\
 ∀(l':Addr) (H':Hp),H' p=some (.ins A.ak dx [("array",.str x),("indexes",.ref l')])->Rep (A2s (λb=>H b=none) H') (.ref l') (A6j ix)->(∀b o,b≠p->H b=some o->H' b=some o)->Q .non H'
def C8s (A:Adr):Sp:=λvs H Q _=>∃(p dx l:Addr) (n:V) (x:Str) (ys:List Str),vs=[.ref p,.str x,.ref l,n]/\H p=some (.ins A.bu dx [])/\H l=some (.lst (ys.map V.str))/\ys.length<=1000/\
 ∀(c:Addr) (H':Hp),H c=none->H' p=some (.ins A.bu dx [("name",.str x),("axes",.ref c),("term",n)])->H' c=some (.lst (ys.map V.str))->(∀b o,b≠p->H b=some o->H' b=some o)->Q .non H'
def D0z (A:Adr):Sp:=λvs H Q _=>∃(p dx a t l o:Addr) (wh:Int) (ax:List (Str×Int)) (tb:List (Str×List Str)) (xs:List V) (os:List Str),vs=[.ref p,.int wh,.ref a,.ref t,.ref l,.ref o]/\H p=some (.ins A.af dx [])/\
 Rep H (.ref a) (A6j ax)/\ax.length<=1000/\Rep H (.ref t) (B2w tb)/\tb.length<=1000/\(∀e∈tb,e.2.length<=10)/\H l=some (.lst xs)/\xs.length<=1000/\(∀x∈xs,∃a dx fs,x= .ref a/\a≠p/\H a=some (.ins A.bu dx fs))/\Rep H (.ref o) (C4o os)/\os.length<=1000/\
 ∀(a' t' l' o':Addr) (H':Hp),H' p=some (.ins A.af dx [("wheel",.int wh),("axes",.ref a'),("tables",.ref t'),("lets",.ref l'),("outs",.ref o')])->Rep (A2s (λb=>H b=none) H') (.ref a') (A6j ax)->Rep (A2s (λb=>H b=none) H') (.ref t') (B2w tb)->H l'=none->H' l'=some (.lst xs)->Rep (A2s (λb=>H b=none) H') (.ref o') (C4o os)->(∀b o,b≠p->H b=some o->H' b=some o)->Q .non H'
variable {P:Program} {w:World} {K:PySem.W.Frag} {mg:Str->Option Value} {base:Heap} {t:Adr}
theorem A8n (T:Txt K mg t):A2e P w K mg base CX0 1 t.h_ t.g_ ["self","number"] (D0w K "number"):=by
 refine T.uL.ok B4x (by walk_at "ln") (λcdv A outer s H vs Q E hr h=> ?_)
 ·obtain ⟨p,C,dx,v,rfl,hp,cl,na,k⟩:=h;exact ⟨_,(A0e (A3e (pv 0) (pv 1) rfl)),_,rfl,_,rfl,p,C,dx,[],rfl,hp,cl,na,(by decide),k⟩
theorem B9b (T:Txt K mg t):A2e P w K mg base CX0 1 t.gc t.lu ["self","left","right"] (C2q K "left" "right"):=by
 refine T.vV.ok B7t (by walk_at "ln") (λcdv A outer s H vs Q E hr h=> ?_)
 ·obtain ⟨p,C,dx,v,u,rfl,hp,cl,n1,n2,k⟩:=h
  refine ⟨_,(A0c (A3e (pv 0) (pv 1) rfl)
   (A0e (A3e (pv 0) (pv 2) rfl))),_,rfl,_,rfl,p,C,dx,[],rfl,hp,cl,n1,(by decide),_,rfl,_,rfl,p,C,dx,_,rfl,A0b,cl,n2,(by show 1<1000;decide),?_⟩
  show Q V.non (upd (upd H p _) p (.ins C dx (A5w "right" u (A5w "left" v []))));rw [A6y,A1v,A1t (by decide +kernel),A1v];exact k
theorem C0l (T:Txt K mg t):A2e P w K mg base CX0 1 t.qc t.py ["self","axis","body"] (C2q K "axis" "body"):=by
 refine T.wy.ok C0k (by walk_at "ln") (λcdv A outer s H vs Q E hr h=> ?_)
 ·obtain ⟨p,C,dx,v,u,rfl,hp,cl,n1,n2,k⟩:=h
  refine ⟨_,(A0c (A3e (pv 0) (pv 1) rfl)
   (A0e (A3e (pv 0) (pv 2) rfl))),_,rfl,_,rfl,p,C,dx,[],rfl,hp,cl,n1,(by decide),_,rfl,_,rfl,p,C,dx,_,rfl,A0b,cl,n2,(by show 1<1000;decide),?_⟩
  show Q V.non (upd (upd H p _) p (.ins C dx (A5w "body" u (A5w "axis" v []))));rw [A6y,A1v,A1t (by decide +kernel),A1v];exact k
theorem B5t (T:Txt K mg t):A2e P w K mg base CX0 1 t.jv t.jn ["self","axis","low","high","inner","outer"] (C9v t):=by
 refine T.vC.ok B7c (by walk_at "ln") (λcdv A outer s H vs Q E hr h=> ?_)
 ·obtain ⟨p,dx,a,b,c,d,e,rfl,hp,k⟩:=h;have e1:A5w "low" b (A5w "axis" a [])=([("axis",a),("low",b)]:List (Str×V)):=by rw [A1v,A1t (by decide +kernel),A1v]
  have e2:A5w "high" c ([("axis",a),("low",b)]:List (Str×V))=([("axis",a),("low",b),("high",c)]:List (Str×V)):=by rw [A1t (by decide +kernel),A1t (by decide +kernel),A1v]
  have e3:A5w "inner" d ([("axis",a),("low",b),("high",c)]:List (Str×V))=([("axis",a),("low",b),("high",c),("inner",d)]:List (Str×V)):=by rw [A1t (by decide +kernel),A1t (by decide +kernel),A1t (by decide +kernel),A1v]
  have e4:A5w "outer" e ([("axis",a),("low",b),("high",c),("inner",d)]:List (Str×V))=([("axis",a),("low",b),("high",c),("inner",d),("outer",e)]:List (Str×V)):=by rw [A1t (by decide +kernel),A1t (by decide +kernel),A1t (by decide +kernel),A1t (by decide +kernel),A1v]
  refine ⟨_,(A0c (A3e (pv 0) (pv 1) rfl)
   (A0c (A3e (pv 0) (pv 2) rfl)
   (A0c (A3e (pv 0) (pv 3) rfl)
   (A0c (A3e (pv 0) (pv 4) rfl)
   (A0e (A3e (pv 0) (pv 5) rfl)))))),_,rfl,_,rfl,p,_,dx,[],rfl,hp,T.ay,T.ia,(by decide),_,rfl,_,rfl,p,_,dx,_,rfl,A0b,T.ay,T.sM,(by show 1<1000;decide),?_⟩
  rw [A6y,e1];refine ⟨_,rfl,_,rfl,p,_,dx,_,rfl,A0b,T.ay,T.oq,(by show 2<1000;decide),?_⟩;rw [A6y,e2];refine ⟨_,rfl,_,rfl,p,_,dx,_,rfl,A0b,T.ay,T.mw,(by show 3<1000;decide),?_⟩;rw [A6y,e3];refine ⟨_,rfl,_,rfl,p,_,dx,_,rfl,A0b,T.ay,T.me,(by show 4<1000;decide),?_⟩;show Q V.non (upd (upd H p _) p _);rw [A6y,e4];exact k
theorem A5j {T:String} (h:T="NoneType"\/T="bool"\/T="int"\/T="str"\/T="tuple"):∀u,A2z (.ty "list") u->PySem.W.kitOne K (.type T) u=some false:=by
 rcases h with rfl | rfl | rfl | rfl | rfl <;> exact C1v (by decide +kernel) (by decide +kernel) (by decide +kernel)
theorem A6a {T:String} (h:T="NoneType"\/T="bool"\/T="int"\/T="str"):∀u,A2z (.ty "tuple") u->PySem.W.kitOne K (.type T) u=some false:=by
 rcases h with rfl | rfl | rfl | rfl <;> exact C1v (by decide +kernel) (by decide +kernel) (by decide +kernel)
theorem A7c {T:String} (h:T="NoneType"\/T="bool"\/T="int"\/T="str"):∀u,A2z (.ty "dict") u->PySem.W.kitOne K (.type T) u=some false:=by
 rcases h with rfl | rfl | rfl | rfl <;> exact C1v (by decide +kernel) (by decide +kernel) (by decide +kernel)
theorem C1y (T:Txt K mg t) {m n:Nat} {sp':Sp} (G_copied:A2e P w K mg base CX0 m t.df t.di ["value"] sp')
  (hs:∀(v:V) (d:PyData) (H:Hp) (Q:VK),Rep H v d->PyData.depth d+1<=n->cnt d<=100000->(∀(v':V) (H':Hp),A0n H H'->Rep (A2s (λa=>H a=none) H') v' d->Q v' H')->sp' [v] H Q E0) :
  A2e P w K mg base CX0 (m+1) t.df t.di ["value"] (C5g n):=by
 refine T.bf.ok B3r (by walk_at "ln") (λcdv A outer s H vs Q E hr h=> ?_)
 ·obtain ⟨v,d,rfl,rp,hd,hc,k⟩:=h
  refine ⟨_,(A0c (A1s (A2g (A0q A1f (by rfl) T.ac Z0d (A0a (pv 0) (A0a (A4g (v:=V.ty "list") rfl T.ti Z1o rfl) A0d))))
    (A0e (A0y (A3l (N':=["member"]) (ix:=(List.replicate 1 none)) rfl (A2m rfl (by decide +kernel) (by decide +kernel)) (A2n rfl) (B5i (pv 0)) (λ_ _ _ _=>(A0m (i:=0) A6o rfl (Or.inl rfl) (Or.inr rfl))) (λ_ _ _ _=>(A0l G_copied (hr.mono (by lia)) rfl T.bx T.bf.kp T.bw .nil A0z (A0a (pv 0) A0d))))))
    A0v)
   (A0c (A1s (A2g (A0q A1f (by rfl) T.ac Z0d (A0a (pv 0) (A0a (A4g (v:=V.ty "tuple") rfl T.fo Z0m rfl) A0d))))
    (A0e (A0y (A3q A4d (by rfl) T.fo Z0m (A0a (A3l (N':=["member"]) (ix:=(List.replicate 1 none)) rfl (A2m rfl (by decide +kernel) (by decide +kernel)) (A2n rfl) (B5i (pv 0)) (λ_ _ _ _=>(A0m (i:=0) A6o rfl (Or.inl rfl) (Or.inr rfl))) (λ_ _ _ _=>(A0l G_copied (hr.mono (by lia)) rfl T.bx T.bf.kp T.bw .nil A0z (A0a (pv 0) A0d)))) A0d))))
    A0v)
   (A0c (A1s (A2g (A0q A1f (by rfl) T.ac Z0d (A0a (pv 0) (A0a (A4g (v:=V.ty "dict") rfl T.tI PyProof.Rows.boot_dict rfl) A0d))))
    (A0e B2j)
    A0v)
   (A0e (A0y (pv 0)))))),?_⟩
  cases rp with
  | non =>
   refine ⟨_,rfl,_,_,_,_,rfl,.non,A5j (.inl rfl),false,rfl,A3o ?_⟩;refine ⟨_,rfl,_,_,_,_,rfl,.non,A6a (.inl rfl),false,rfl,A3o ?_⟩;exact ⟨_,rfl,_,_,_,_,rfl,.non,A7c (.inl rfl),false,rfl,A3o ⟨_,rfl,k _ _ (A0n.refl _) .non⟩⟩
  | bl b =>
   refine ⟨_,rfl,_,_,_,_,rfl,.bl b,A5j (.inr (.inl rfl)),false,rfl,A3o ?_⟩;refine ⟨_,rfl,_,_,_,_,rfl,.bl b,A6a (.inr (.inl rfl)),false,rfl,A3o ?_⟩;exact ⟨_,rfl,_,_,_,_,rfl,.bl b,A7c (.inr (.inl rfl)),false,rfl,A3o ⟨_,rfl,k _ _ (A0n.refl _) (.bl b)⟩⟩
  | int b =>
   refine ⟨_,rfl,_,_,_,_,rfl,.int b,A5j (.inr (.inr (.inl rfl))),false,rfl,A3o ?_⟩;refine ⟨_,rfl,_,_,_,_,rfl,.int b,A6a (.inr (.inr (.inl rfl))),false,rfl,A3o ?_⟩;exact ⟨_,rfl,_,_,_,_,rfl,.int b,A7c (.inr (.inr (.inl rfl))),false,rfl,A3o ⟨_,rfl,k _ _ (A0n.refl _) (.int b)⟩⟩
  | str b =>
   refine ⟨_,rfl,_,_,_,_,rfl,.str b,A5j (.inr (.inr (.inr (.inl rfl)))),false,rfl,A3o ?_⟩;refine ⟨_,rfl,_,_,_,_,rfl,.str b,A6a (.inr (.inr (.inr rfl))),false,rfl,A3o ?_⟩;exact ⟨_,rfl,_,_,_,_,rfl,.str b,A7c (.inr (.inr (.inr rfl))),false,rfl,A3o ⟨_,rfl,k _ _ (A0n.refl _) (.str b)⟩⟩
  | @lst p xs ds e r =>
   have hl1:=r.len;have hl2:=C0g ds;have hc':A3z ds+1<=100000:=hc;have hd':PyData.depthAll ds+1<=n:=hd;refine ⟨_,rfl,_,_,_,_,rfl,.lst e,B0e "list",true,rfl,B4j ?_⟩;refine .inl ⟨_,rfl,p,rfl,⟨_,SqL.of e⟩,λD hD=> ?_⟩
   refine A2o (K:=K) (a:=p) (D:=D) (xs:=xs) (λi ys H2=>A0n H H2/\H2 D=some (.lst ys)/\A5f (A2s (λa=>H a=none/\a≠D) H2) ys (ds.take i)/\ys.length=i)
    ⟨A0f hD,A0b,(by rw [List.take_zero];exact .nil),rfl⟩ (λi ys H2 ⟨s2,_⟩=>SqL.of (s2 _ _ e)) ?_ ?_
   ·rintro i x ys H2 hx ⟨s2,hD2,rs,hyl⟩;obtain ⟨d,hdi,rx⟩:=r.get2 hx;obtain ⟨c1,c2⟩:=C7r hdi;have hi:i<xs.length:=(Z03.mp hx).1;refine ⟨True.intro,_,rfl,hs x d H2 _ (rx.same s2) (by lia) (by lia) λv' H5 s5 rp5=> ?_⟩;have hnS:¬(H D=none/\D≠D):=λz=>z.2 rfl;refine ⟨s5 _ _ hD2,A1j (by lia),A0r (s2.trans s5) hD,A0b,?_,by simp [hyl]⟩;rw [Z14,hdi];show A5f _ (ys++[v']) (ds.take i++[d]);refine (rs.same (A7u (A1d s5) hnS)).snoc (rp5.same ((A7k (A0n.refl _) λa o _ ha=>⟨s2.free ha,λz=> ?_⟩).trans (A7u (A0n.refl _) hnS)));subst z;rw [hD2] at ha;cases ha
   ·rintro ys H2 ⟨s2,hD2,rs,hyl⟩;refine k (.ref D) H2 s2 (.lst (A1n hD hD2) ?_);rw [hl1,Z18] at rs;exact rs.same (A7k (A0n.refl _) λa o _ h=>h.1)
  | @tup p xs ds e r =>
   have hl1:=r.len;have hl2:=C0g ds;have hc':A3z ds+1<=100000:=hc;have hd':PyData.depthAll ds+1<=n:=hd;refine ⟨_,rfl,_,_,_,_,rfl,.tup e,A5j (.inr (.inr (.inr (.inr rfl)))),false,rfl,A3o ?_⟩;refine ⟨_,rfl,_,_,_,_,rfl,.tup e,B0e "tuple",true,rfl,B4j ?_⟩;refine .inr ⟨_,rfl,p,rfl,⟨_,SqT.of e⟩,λD hD=> ?_⟩
   refine C8c (K:=K) (a:=p) (D:=D) (xs:=xs) (λi ys H2=>A0n H H2/\H2 D=some (.lst ys)/\A5f (A2s (λa=>H a=none/\a≠D) H2) ys (ds.take i)/\ys.length=i)
    ⟨A0f hD,A0b,(by rw [List.take_zero];exact .nil),rfl⟩ (λi ys H2 ⟨s2,_⟩=>SqT.of (s2 _ _ e)) ?_ ?_
   ·rintro i x ys H2 hx ⟨s2,hD2,rs,hyl⟩;obtain ⟨d,hdi,rx⟩:=r.get2 hx;obtain ⟨c1,c2⟩:=C7r hdi;have hi:i<xs.length:=(Z03.mp hx).1;refine ⟨True.intro,_,rfl,hs x d H2 _ (rx.same s2) (by lia) (by lia) λv' H5 s5 rp5=> ?_⟩;have hnS:¬(H D=none/\D≠D):=λz=>z.2 rfl;refine ⟨s5 _ _ hD2,A1j (by lia),A0r (s2.trans s5) hD,A0b,?_,by simp [hyl]⟩;rw [Z14,hdi];show A5f _ (ys++[v']) (ds.take i++[d]);refine (rs.same (A7u (A1d s5) hnS)).snoc (rp5.same ((A7k (A0n.refl _) λa o _ ha=>⟨s2.free ha,λz=> ?_⟩).trans (A7u (A0n.refl _) hnS)));subst z;rw [hD2] at ha;cases ha
   ·rintro ys H2 ⟨s2,hD2,rs,hyl⟩;refine ⟨D,ys,rfl,.inl ⟨SqL.of hD2,λl hl=> ?_⟩⟩;refine k (.ref l) _ (s2.trans (A0f hl)) (.tup (A1n (s2.free hl) A0b) ?_);rw [hl1,Z18] at rs;exact rs.same ((A7k (A0n.refl _) λa o _ h=>h.1).trans (A1d (A0f hl)))
theorem B3m (T:Txt K mg t):∀n:Nat,A2e P w K mg base CX0 (n+1) t.df t.di ["value"] (C5g n)
 | 0=>C1y T (sp':=λ_ _ _ _=>False) (m:=0) (A2e.none λ_ _ _ _ h=>h) λv d H Q _ h=>absurd h (by lia)
 | n+1=>C1y T (B3m T n) λv d H Q rp hd hc k=>⟨v,d,rfl,rp,by lia,hc,k⟩
theorem B9w (T:Txt K mg t):A2e P w K mg base CX0 5 t.o0 t.m6 ["self","array","indexes"] (C9m t):=by
 have G_copied:= @B3m P w K mg base t T 2;refine T.vK.ok B8w (by walk_at "ln") (λcdv A outer s H vs Q E hr h=> ?_)
 ·obtain ⟨p,dx,l,x,ix,rfl,hp,rp,hix,k⟩:=h;have hcn:=D1f (ix:=ix)
  refine ⟨_,(A0c (A3e (pv 0) (pv 1) rfl)
   (A0e (A3e (pv 0) (A0l G_copied (hr.mono (by lia)) rfl T.bx T.bf.kp T.bw .nil A0z (A0a (pv 2) A0d)) rfl))),_,rfl,_,rfl,p,_,dx,[],rfl,hp,T.bo,T.b_,(by decide),?_⟩
  refine ⟨_,rfl,.ref l,A6j ix,rfl,rp.ins hp,C8x,by lia,λv' H2 s2 rp2=> ?_⟩;have hp2:=s2 _ _ (A0b (H:=H) (a:=p));obtain ⟨l',xs,rfl,el,rs⟩:=A4w (show Rep _ v' (.list (ix.map B7p)) from rp2);refine ⟨_,rfl,p,_,dx,_,rfl,hp2,T.bo,T.cj,(by show 1<1000;decide),?_⟩;show Q V.non (upd H2 p (.ins t.ak dx (A5w "indexes" (.ref l') (A5w "array" (.str x) []))));rw [A1v,A1t (by decide +kernel),A1v]
  have fr:∀{q:Addr},upd H p (.ins t.ak dx (A5w "array" (.str x) [])) q=none->H q=none:=λ{q} z=>by
   by_cases zb:q=p
   ·subst zb;rw [A0b] at z;cases z
   ·rw [A0h zb] at z;exact z
  refine k l' _ A0b (rp2.imp2 (λq ys z=>A1n (fr (A1c z).1) (by rw [A0h (A3j (A1c z).2 hp2 (by intro z;cases z))];exact (A1c z).2)) λq ys z=>A1n (fr (A1c z).1) (by rw [A0h (A3j (A1c z).2 hp2 (by intro z;cases z))];exact (A1c z).2)) λb o hb e=> ?_;rw [A0h hb];exact s2 _ _ (by rw [A0h hb];exact e)
theorem D4j (T:Txt K mg t):A2e P w K mg base CX0 1 t.df t.di ["value"] (D6s t):=by
 refine T.bf.ok B3r (by walk_at "ln") (λcdv A outer s H vs Q E hr h=> ?_)
 ·obtain ⟨a,dx,fs,rfl,e,k⟩:=h;have G_copied:A2e P w K mg base CX0 0 t.df t.di ["value"] (λ_ _ _ _=>False):=A2e.none λ_ _ _ _ h=>h;have ty:A9o K H (.ref a) (.ref t.bu):= .ins e T.bp T.vB.ha T.vB.hn T.vB.htk T.vB.hm
  refine ⟨_,(A0c (A1s (A2g (A0q A1f (by rfl) T.ac Z0d (A0a (pv 0) (A0a (A4g (v:=V.ty "list") rfl T.ti Z1o rfl) A0d))))
    (A0e (A0y (A3l (N':=["member"]) (ix:=(List.replicate 1 none)) rfl (A2m rfl (by decide +kernel) (by decide +kernel)) (A2n rfl) (B5i (pv 0)) (λ_ _ _ _=>(A0m (i:=0) A6o rfl (Or.inl rfl) (Or.inr rfl))) (λ_ _ _ _=>(A0l G_copied (hr.mono (by lia)) rfl T.bx T.bf.kp T.bw .nil A0z (A0a (pv 0) A0d))))))
    A0v)
   (A0c (A1s (A2g (A0q A1f (by rfl) T.ac Z0d (A0a (pv 0) (A0a (A4g (v:=V.ty "tuple") rfl T.fo Z0m rfl) A0d))))
    (A0e (A0y (A3q A4d (by rfl) T.fo Z0m (A0a (A3l (N':=["member"]) (ix:=(List.replicate 1 none)) rfl (A2m rfl (by decide +kernel) (by decide +kernel)) (A2n rfl) (B5i (pv 0)) (λ_ _ _ _=>(A0m (i:=0) A6o rfl (Or.inl rfl) (Or.inr rfl))) (λ_ _ _ _=>(A0l G_copied (hr.mono (by lia)) rfl T.bx T.bf.kp T.bw .nil A0z (A0a (pv 0) A0d)))) A0d))))
    A0v)
   (A0c (A1s (A2g (A0q A1f (by rfl) T.ac Z0d (A0a (pv 0) (A0a (A4g (v:=V.ty "dict") rfl T.tI PyProof.Rows.boot_dict rfl) A0d))))
    (A0e B2j)
    A0v)
   (A0e (A0y (pv 0)))))),?_⟩
  refine ⟨_,rfl,_,_,_,_,rfl,ty,B9g T.vN (by decide +kernel),false,rfl,A3o ?_⟩;refine ⟨_,rfl,_,_,_,_,rfl,ty,B9g T.vA (by decide +kernel),false,rfl,A3o ?_⟩;exact ⟨_,rfl,_,_,_,_,rfl,ty,B9g T.we (by decide +kernel),false,rfl,A3o ⟨_,rfl,k⟩⟩
theorem D4m (T:Txt K mg t):A2e P w K mg base CX0 2 t.df t.di ["value"] (D1r t):=by
 have G_copied:= @D4j P w K mg base t T;refine T.bf.ok B3r (by walk_at "ln") (λcdv A outer s H vs Q E hr h=> ?_)
 ·obtain ⟨p,xs,rfl,e,hl,hx,k⟩:=h
  refine ⟨_,(A0c (A1s (A2g (A0q A1f (by rfl) T.ac Z0d (A0a (pv 0) (A0a (A4g (v:=V.ty "list") rfl T.ti Z1o rfl) A0d))))
    (A0e (A0y (A3l (N':=["member"]) (ix:=(List.replicate 1 none)) rfl (A2m rfl (by decide +kernel) (by decide +kernel)) (A2n rfl) (B5i (pv 0)) (λ_ _ _ _=>(A0m (i:=0) A6o rfl (Or.inl rfl) (Or.inr rfl))) (λ_ _ _ _=>(A0l G_copied (hr.mono (by lia)) rfl T.bx T.bf.kp T.bw .nil A0z (A0a (pv 0) A0d))))))
    A0v)
   (A0c (A1s (A2g (A0q A1f (by rfl) T.ac Z0d (A0a (pv 0) (A0a (A4g (v:=V.ty "tuple") rfl T.fo Z0m rfl) A0d))))
    (A0e (A0y (A3q A4d (by rfl) T.fo Z0m (A0a (A3l (N':=["member"]) (ix:=(List.replicate 1 none)) rfl (A2m rfl (by decide +kernel) (by decide +kernel)) (A2n rfl) (B5i (pv 0)) (λ_ _ _ _=>(A0m (i:=0) A6o rfl (Or.inl rfl) (Or.inr rfl))) (λ_ _ _ _=>(A0l G_copied (hr.mono (by lia)) rfl T.bx T.bf.kp T.bw .nil A0z (A0a (pv 0) A0d)))) A0d))))
    A0v)
   (A0c (A1s (A2g (A0q A1f (by rfl) T.ac Z0d (A0a (pv 0) (A0a (A4g (v:=V.ty "dict") rfl T.tI PyProof.Rows.boot_dict rfl) A0d))))
    (A0e B2j)
    A0v)
   (A0e (A0y (pv 0)))))),?_⟩
  refine ⟨_,rfl,_,_,_,_,rfl,.lst e,B0e "list",true,rfl,B4j ?_⟩;refine .inl ⟨_,rfl,p,rfl,⟨_,SqL.of e⟩,λD hD=> ?_⟩
  refine A2o (K:=K) (a:=p) (D:=D) (xs:=xs) (λi ys H2=>A0n H H2/\H2 D=some (.lst ys)/\ys=xs.take i)
   ⟨A0f hD,A0b,rfl⟩ (λi ys H2 ⟨s2,_⟩=>SqL.of (s2 _ _ e)) ?_ ?_
  ·rintro i x ys H2 hxi ⟨s2,hD2,rfl⟩;obtain ⟨a,dx,fs,rfl,ea⟩:=hx x (Z13 hxi);have hlt:(xs.take i).length<=xs.length:=by rw [Z0x];lia
   refine ⟨True.intro,_,rfl,a,dx,fs,rfl,s2 _ _ ea,hD2,A1j (by lia),A0r s2 hD,A0b,?_⟩;rw [Z14,hxi];rfl
  ·rintro ys H2 ⟨s2,hD2,rfl⟩;rw [Z18] at hD2;exact k D H2 hD s2 hD2
theorem D1l (T:Txt K mg t):A2e P w K mg base CX0 4 t.df t.di ["value"] (λvs H Q E=>C5g 3 vs H Q E\/D1r t vs H Q E):=A2e.or (B3m T 3) ((D4m T).mono (by lia))
theorem C0s (T:Txt K mg t):A2e P w K mg base CX0 5 t.qg t.qw ["self","name","axes","term"] (C8s t):=by
 have G_copied:= @D1l P w K mg base t T;refine T.wA.ok C0m (by walk_at "ln") (λcdv A outer s H vs Q E hr h=> ?_)
 ·obtain ⟨p,dx,l,n,x,ys,rfl,hp,hl,hy,k⟩:=h;obtain ⟨c2,c3⟩:=C5d ys;have lp:l≠p:=A3j hl hp (by intro z;cases z)
  refine ⟨_,(A0c (A3e (pv 0) (pv 1) rfl)
   (A0c (A3e (pv 0) (A0l G_copied (hr.mono (by lia)) rfl T.bx T.bf.kp T.bw .nil A0z (A0a (pv 2) A0d)) rfl)
   (A0e (A3e (pv 0) (pv 3) rfl)))),_,rfl,_,rfl,p,_,dx,[],rfl,hp,T.bp,T.bt,(by decide),?_⟩
  refine ⟨_,rfl,.inl ⟨.ref l,C4o ys,rfl,(D2w hl).ins hp,by lia,by lia,λv' H2 s2 rp2=> ?_⟩⟩;have hp2:=s2 _ _ (A0b (H:=H) (a:=p));obtain ⟨c,rfl,ec⟩:=C9x rp2;obtain ⟨hc0,ec⟩:=A1c ec
  have hcn:H c=none:=by
   by_cases z:c=p
   ·subst z;rw [A0b] at hc0;cases hc0
   ·rw [A0h z] at hc0;exact hc0
  have cp:c≠p:=λz=>by subst z;rw [hp] at hcn;cases hcn
  refine ⟨_,rfl,p,_,dx,_,rfl,hp2,T.bp,T.cr,(by show 1<1000;decide),?_⟩;refine ⟨_,rfl,_,rfl,p,_,dx,_,rfl,A0b,T.bp,T.dz,(by show 2<1000;decide),?_⟩;show Q V.non (upd (upd H2 p _) p (.ins t.bu dx (A5w "term" n (A5w "axes" (.ref c) (A5w "name" (.str x) [])))));have e1:A5w "axes" (V.ref c) (A5w "name" (.str x) [])=([("name",.str x),("axes",.ref c)]:List (Str×V)):=by rw [A1v,A1t (by decide +kernel),A1v]
  have e2:A5w "term" n ([("name",.str x),("axes",.ref c)]:List (Str×V))=([("name",.str x),("axes",.ref c),("term",n)]:List (Str×V)):=by rw [A1t (by decide +kernel),A1t (by decide +kernel),A1v]
  rw [A6y,e1,e2];refine k c _ hcn A0b (by rw [A0h cp];exact ec) λb o hb e=> ?_;rw [A0h hb];exact s2 _ _ (by rw [A0h hb];exact e)
theorem B3a (T:Txt K mg t):A2e P w K mg base CX0 5 t.f_ t.fv ["self","wheel","axes","tables","lets","outs"] (D0z t):=by
 have G_copied:= @D1l P w K mg base t T;refine T.uD.ok B3h (by walk_at "ln") (λcdv A outer s H vs Q E hr h=> ?_)
 ·obtain ⟨p,dx,a,tt,l,o,wh,ax,tb,xs,os,rfl,hp,ra,la,rt,lt,lt2,hl,ll,hx,ro,lo,k⟩:=h;have a2:=D0f ax;have a3:=D1f (ix:=ax);obtain ⟨t2,t3⟩:=C9f tb lt2;obtain ⟨o2,o3⟩:=C5d os
  have fr:∀{H':Hp} {u:HO} {b:Addr},A0n (upd H p u) H'->H' b=none->H b=none:=λ{H' u b} s z=>by
   have z2:=s.free z;by_cases zb:b=p
   ·subst zb;rw [A0b] at z2;cases z2
   ·rw [A0h zb] at z2;exact z2
  have e1:∀v:V,A5w "axes" v [("wheel",.int wh)]=([("wheel",.int wh),("axes",v)]:List (Str×V)):=λv=>by rw [A1t (by decide +kernel),A1v]
  have e2:∀u v:V,A5w "tables" v [("wheel",.int wh),("axes",u)]=([("wheel",.int wh),("axes",u),("tables",v)]:List (Str×V)):=λu v=>by rw [A1t (by decide +kernel),A1t (by decide +kernel),A1v]
  have e3:∀u1 u v:V,A5w "lets" v [("wheel",.int wh),("axes",u1),("tables",u)]=([("wheel",.int wh),("axes",u1),("tables",u),("lets",v)]:List (Str×V)):=λu1 u v=>by rw [A1t (by decide +kernel),A1t (by decide +kernel),A1t (by decide +kernel),A1v]
  have e4:∀u1 u2 u v:V,A5w "outs" v [("wheel",.int wh),("axes",u1),("tables",u2),("lets",u)]=([("wheel",.int wh),("axes",u1),("tables",u2),("lets",u),("outs",v)]:List (Str×V)):=λu1 u2 u v=>by rw [A1t (by decide +kernel),A1t (by decide +kernel),A1t (by decide +kernel),A1t (by decide +kernel),A1v]
  refine ⟨_,(A0c (A3e (pv 0) (pv 1) rfl)
   (A0c (A3e (pv 0) (A0l G_copied (hr.mono (by lia)) rfl T.bx T.bf.kp T.bw .nil A0z (A0a (pv 2) A0d)) rfl)
   (A0c (A3e (pv 0) (A0l G_copied (hr.mono (by lia)) rfl T.bx T.bf.kp T.bw .nil A0z (A0a (pv 3) A0d)) rfl)
   (A0c (A3e (pv 0) (A0l G_copied (hr.mono (by lia)) rfl T.bx T.bf.kp T.bw .nil A0z (A0a (pv 4) A0d)) rfl)
   (A0e (A3e (pv 0) (A0l G_copied (hr.mono (by lia)) rfl T.bx T.bf.kp T.bw .nil A0z (A0a (pv 5) A0d)) rfl)))))),_,rfl,_,rfl,p,_,dx,[],rfl,hp,T.am,T.sZ,(by decide),?_⟩
  rw [A1v];refine ⟨_,rfl,.inl ⟨.ref a,A6j ax,rfl,ra.ins hp,by lia,by lia,λva H2 s2 rp2=> ?_⟩⟩;have hp2:=s2 _ _ (A0b (H:=H) (a:=p));obtain ⟨a',xa,rfl,ea,_⟩:=A4w (show Rep _ va (.list (ax.map B7p)) from rp2);refine ⟨_,rfl,p,_,dx,_,rfl,hp2,T.am,T.fb,(by show 1<1000;decide),?_⟩;rw [e1];have sA:∀b u,b≠p->H b=some u->upd H2 p (.ins t.af dx [("wheel",.int wh),("axes",.ref a')]) b=some u:=λb u hb e=>by rw [A0h hb];exact s2 _ _ (by rw [A0h hb];exact e)
  have rA:Rep (A2s (λb=>H b=none) (upd H2 p (.ins t.af dx [("wheel",.int wh),("axes",.ref a')]))) (.ref a') (A6j ax):=by
   refine rp2.imp2 (λq ys z=> ?_) λq ys z=> ?_
   ·obtain ⟨z1,z2⟩:=A1c z;have hq:H q=none:=fr (A0n.refl _) z1;exact A1n hq (by rw [A0h (A3j z2 hp2 (by intro z;cases z))];exact z2)
   ·obtain ⟨z1,z2⟩:=A1c z;have hq:H q=none:=fr (A0n.refl _) z1;exact A1n hq (by rw [A0h (A3j z2 hp2 (by intro z;cases z))];exact z2)
  have nap:∀{b:Addr} {u:HO},H b=some u->(∀C d fs,u≠.ins C d fs)->b≠p:=λe n z=>by subst z;rw [hp] at e;cases e;exact n _ _ _ rfl
  have rt2:Rep (upd H2 p (.ins t.af dx [("wheel",.int wh),("axes",.ref a')])) (.ref tt) (B2w tb):=rt.imp2 (λq ys z=>sA _ _ (nap z (by intros;intro z;cases z)) z) λq ys z=>sA _ _ (nap z (by intros;intro z;cases z)) z;refine ⟨_,rfl,.inl ⟨.ref tt,B2w tb,rfl,rt2,by lia,by lia,λvt H3 s3 rp3=> ?_⟩⟩;have hp3:=s3 _ _ (A0b (H:=H2) (a:=p));obtain ⟨t',xt,rfl,et,_⟩:=A4w (show Rep _ vt (.list (tb.map C1x)) from rp3);refine ⟨_,rfl,p,_,dx,_,rfl,hp3,T.am,T.bj,(by show 2<1000;decide),?_⟩;rw [e2]
  have f3:∀{b:Addr},upd H2 p (.ins t.af dx [("wheel",.int wh),("axes",.ref a')]) b=none->H b=none:=λ{b} z=>by
   by_cases zb:b=p
   ·subst zb;rw [A0b] at z;cases z
   ·rw [A0h zb] at z;exact fr s2 z
  have mv3:∀{v:V} {d:PyData} {G:Hp},A0n G H3->(∀b o,G b=some o->H b=none)->Rep G v d->Rep (A2s (λb=>H b=none) (upd H3 p (.ins t.af dx [("wheel",.int wh),("axes",.ref a'),("tables",.ref t')]))) v d:=λ{v d G} sg hg r=>r.imp2 (λq ys z=>A1n (hg _ _ z) (by rw [A0h (A3j (sg _ _ z) hp3 (by intro z;cases z))];exact sg _ _ z)) λq ys z=>A1n (hg _ _ z) (by rw [A0h (A3j (sg _ _ z) hp3 (by intro z;cases z))];exact sg _ _ z);have sB:∀b u,b≠p->H b=some u->upd H3 p (.ins t.af dx [("wheel",.int wh),("axes",.ref a'),("tables",.ref t')]) b=some u:=λb u hb e=>by rw [A0h hb];exact s3 _ _ (sA b u hb e)
  have rA3:=mv3 (A1m.trans s3) (λb o z=>(A1c z).1) rA;have rT3:=mv3 A1m (λb o z=>f3 (A1c z).1) rp3;refine ⟨_,rfl,.inr ⟨l,xs,rfl,sB _ _ (nap hl (by intros;intro z;cases z)) hl,ll,λx hxx=> ?_,λl' H4 hl' s4 hl4=> ?_⟩⟩
  ·obtain ⟨b,db,fs,rfl,nb,eb⟩:=hx x hxx;exact ⟨b,db,fs,rfl,sB _ _ nb eb⟩
  have hp4:=s4 _ _ (A0b (H:=H3) (a:=p));refine ⟨_,rfl,p,_,dx,_,rfl,hp4,T.am,T.bh,(by show 3<1000;decide),?_⟩;rw [e3]
  have hln:H l'=none:=by
   by_cases zb:l'=p
   ·subst zb;rw [A0b] at hl';cases hl'
   ·rw [A0h zb] at hl';exact f3 (s3.free hl')
  have lp:l'≠p:=λz=>by subst z;rw [hp] at hln;cases hln
  have sC:∀b u,b≠p->H b=some u->upd H4 p (.ins t.af dx [("wheel",.int wh),("axes",.ref a'),("tables",.ref t'),("lets",.ref l')]) b=some u:=λb u hb e=>by rw [A0h hb];exact s4 _ _ (sB b u hb e)
  have ro4:Rep (upd H4 p (.ins t.af dx [("wheel",.int wh),("axes",.ref a'),("tables",.ref t'),("lets",.ref l')])) (.ref o) (C4o os):=ro.imp2 (λq ys z=>sC _ _ (nap z (by intros;intro z;cases z)) z) λq ys z=>sC _ _ (nap z (by intros;intro z;cases z)) z;refine ⟨_,rfl,.inl ⟨.ref o,C4o os,rfl,ro4,by lia,by lia,λvo H5 s5 rp5=> ?_⟩⟩;have hp5:=s5 _ _ (A0b (H:=H4) (a:=p));obtain ⟨o',rfl,eo⟩:=C9x rp5;refine ⟨_,rfl,p,_,dx,_,rfl,hp5,T.am,T.ka,(by show 4<1000;decide),?_⟩;show Q V.non (upd H5 p _);rw [e4]
  have f5:∀{b:Addr},upd H4 p (.ins t.af dx [("wheel",.int wh),("axes",.ref a'),("tables",.ref t'),("lets",.ref l')]) b=none->H b=none:=λ{b} z=>by
   by_cases zb:b=p
   ·subst zb;rw [A0b] at z;cases z
   ·rw [A0h zb] at z;have z:=s4.free z;rw [A0h zb] at z;exact f3 (s3.free z)
  have mv5:∀{v:V} {d:PyData} {G:Hp},(∀b xs,G b=some (.lst xs)->H5 b=some (.lst xs))->(∀b xs,G b=some (.tup xs)->H5 b=some (.tup xs))->(∀b o,G b=some o->H b=none)->Rep G v d->Rep (A2s (λb=>H b=none) (upd H5 p (.ins t.af dx [("wheel",.int wh),("axes",.ref a'),("tables",.ref t'),("lets",.ref l'),("outs",.ref o')]))) v d:=λ{v d G} s1 s2 hg r=>r.imp2 (λq ys z=>A1n (hg _ _ z) (by rw [A0h (A3j (s1 _ _ z) hp5 (by intro z;cases z))];exact s1 _ _ z)) λq ys z=>A1n (hg _ _ z) (by rw [A0h (A3j (s2 _ _ z) hp5 (by intro z;cases z))];exact s2 _ _ z)
  have up4:∀{b:Addr} {u:HO},(∀C d fs,u≠.ins C d fs)->upd H3 p (.ins t.af dx [("wheel",.int wh),("axes",.ref a'),("tables",.ref t')]) b=some u->H5 b=some u:=λ{b u} n z=>s5 _ _ (by
   have z4:=s4 _ _ z;rw [A0h (A3j z4 hp4 (n _ _ _))]
   exact z4)
  refine k a' t' l' o' _ A0b (mv5 (λb ys z=>up4 (by intros;intro z;cases z) (A1m _ _ z)) (λb ys z=>up4 (by intros;intro z;cases z) (A1m _ _ z)) (λb o z=>(A1c z).1) rA3)
   (mv5 (λb ys z=>up4 (by intros;intro z;cases z) (A1m _ _ z)) (λb ys z=>up4 (by intros;intro z;cases z) (A1m _ _ z)) (λb o z=>(A1c z).1) rT3) hln ?_
   (mv5 (λb ys z=>A1m _ _ z) (λb ys z=>A1m _ _ z) (λb o z=>f5 (A1c z).1) rp5) λb u hb e=> ?_
  ·rw [A0h lp];exact s5 _ _ (by rw [A0h lp];exact hl4)
  ·rw [A0h hb];exact s5 _ _ (sC b u hb e)
theorem B2s {α β:Type} {F:α->β->Prop}:∀{l:List α} {m:List β},Paired F l m->∀{i:Nat} {x:α},l[i]? =some x->∃y,m[i]? =some y/\F x y
 | _,_,.nil,i,x,e=>by simp at e
 | _,_,.cons r t,0,x,e=>by simp at e;subst e;exact ⟨_,rfl,r⟩
 | _,_,.cons r t,i+1,x,e=>by
  obtain ⟨y,e1,e2⟩:=B2s t (i:=i) (by simpa using e);exact ⟨y,by simpa using e1,e2⟩
theorem D7h {α β:Type} {F:α->β->Prop}:∀{a c:List α} {b d:List β},Paired F a b->Paired F c d->Paired F (a++c) (b++d)
 | _,_,_,_,.nil,h=>h
 | _,_,_,_,.cons r t,h=> .cons r (D7h t h)
def B6r (ax:List (Str×Int)):List (Key×V):=ax.map λe=>(Sum.inr e.1,V.int e.2)
theorem D5f {H:Hp}:∀{ax:List (Str×Int)} {xs:List V},A5f H xs (ax.map B7p)->PL H xs (B6r ax)
 | [],_,r=>by cases r;exact .nil
 | e::ax,_,r=>by
  rw [Z0p] at r
  cases r with
  | cons a r =>
   obtain ⟨b,rfl,eb⟩:=D3k a;exact .cons ⟨b,rfl,eb⟩ (D5f r)
def C4v (A:Adr):Sp:=λvs H Q _=>∃(p dx:Addr) (a b c:V),vs=[.ref p,a,b,c]/\H p=some (.ins A.ba dx [])/\Q .non (upd H p (.ins A.ba dx [("term",a),("sums",b),("guards",c)]))
def C6k (A:Adr):Sp:=λvs H Q _=>∃(p:V) (u:Tm) (s:List Str) (g:List Gd) (S:Addr->Prop),vs=[p]/\Fr S H/\A4p A (A2s S H) p (u,s,g)/\∀(q:Addr) (xs:List V) (H':Hp),H q=none->A0n H H'->H' q=some (.lst xs)->Paired (A4p A (A2s S H')) xs (B8m u s g)->Q (.ref q) H'
def C6z (A:Adr) (n:Nat):Sp:=λvs H Q _=>∃(p:V) (u:Tm) (s:List Str) (g:List Gd) (S:Addr->Prop),vs=[p]/\Fr S H/\A4p A (A2s S H) p (u,s,g)/\dep u<=n/\nod u<=1000/\∀(q:Addr) (xs:List V) (H':Hp),H q=none->A0n H H'->H' q=some (.lst xs)->Paired (A4p A (A2s S H')) xs (prT u s g)->Q (.ref q) H'
def D0b (A:Adr):Sp:=λvs H Q _=>∃(v:V) (u:Tm),vs=[v]/\Ob A H v u/\dep u<=9/\nod u<=1000/\∀(q:Addr) (xs:List V) (H':Hp),H q=none->A0n H H'->H' q=some (.lst xs)->Paired (A4p A H') xs (prT u [] [])->Q (.ref q) H'
theorem A1w {H:Hp} {x dx:Addr} {o u v:HO} (hx:H x=none) (hd:H dx=none):A0n H (upd (upd (upd H dx o) x u) x v):=C6s hx hd
theorem B1x (T:Txt K mg t):A2e P w K mg base CX0 1 t.k_ t.nu ["self","term","sums","guards"] (C4v t):=by
 refine T.vZ.ok B8o (by walk_at "ln") (λcdv A outer s H vs Q E hr h=> ?_)
 ·obtain ⟨p,dx,a,b,c,rfl,hp,k⟩:=h;have e1:A5w "sums" b (A5w "term" a [])=([("term",a),("sums",b)]:List (Str×V)):=by rw [A1v,A1t (by decide +kernel),A1v]
  have e2:A5w "guards" c ([("term",a),("sums",b)]:List (Str×V))=([("term",a),("sums",b),("guards",c)]:List (Str×V)):=by rw [A1t (by decide +kernel),A1t (by decide +kernel),A1v]
  refine ⟨_,(A0c (A3e (pv 0) (pv 1) rfl)
   (A0c (A3e (pv 0) (pv 2) rfl)
   (A0e (A3e (pv 0) (pv 3) rfl)))),_,rfl,_,rfl,p,_,dx,[],rfl,hp,T.ao,T.bc,(by decide),_,rfl,_,rfl,p,_,dx,_,rfl,A0b,T.ao,T.av,(by show 1<1000;decide),?_⟩
  rw [A6y,e1];refine ⟨_,rfl,_,rfl,p,_,dx,_,rfl,A0b,T.ao,T.be,(by show 2<1000;decide),?_⟩;show Q V.non (upd (upd H p _) p _);rw [A6y,e2];exact k
theorem A1e {A:Addr} {B:Addr} {b:Bool} (h:PySem.W.kitOne K (.ref A) (.ref B)=some b):∀u,A2z (.ref B) u->PySem.W.kitOne K (.ref A) u=some b:=λu z=>by
 cases (show u=Value.ref B from z)
 exact h
theorem B2n (T:Txt K mg t) {H:Hp} {a dx:Addr} {k:Op3} {fs:List (Str×V)} (e:H a=some (.ins (A9w t k) dx fs)):A9o K H (.ref a) (.ref (A9w t k)):=by
 cases k with
 | plus=>exact .ins e T.vq T.sy.ha T.sy.hn T.sy.htk T.sy.hm
 | minus=>exact .ins e T.mi T.cg.ha T.cg.hn T.cg.htk T.cg.hm
 | times=>exact .ins e T.mi T.cg.ha T.cg.hn T.cg.htk T.cg.hm
theorem D3c (T:Txt K mg t) (k:Op3):PySem.W.kitOne K (.ref (A9w t k)) (.ref t.ij)=some true:=by
 cases k with
 | plus=>exact T.vz
 | minus=>exact T.oj
 | times=>exact T.oj
theorem C5r (T:Txt K mg t) (k:Op3):Cls K (A9w t k):=by cases k with
 | plus=>exact T.vq
 | minus=>exact T.mi
 | times=>exact T.mi
theorem D9m (T:Txt K mg t) (k:Op3):A1u K (A9w t k) "left":=by cases k with
 | plus=>exact T.sk
 | minus=>exact T.ii
 | times=>exact T.ii
theorem E0c (T:Txt K mg t) (k:Op3):A1u K (A9w t k) "right":=by cases k with
 | plus=>exact T.oz
 | minus=>exact T.g6
 | times=>exact T.g6
theorem A7q (T:Txt K mg t):A2e P w K mg base CX0 3 t.cf t.c9 ["part"] (C6k t):=by
 have G_Part_init:= @B1x P w K mg base t T;refine T.e9.ok A2i (by walk_at "ln") (λcdv A outer s H vs Q E hr h=> ?_)
 ·obtain ⟨p,u,ss,gg,S,rfl,fr,⟨a,dx,tv,sl,gl,gs,rfl,e0,ob,hs0,hg0,bg,bs,pg⟩,k⟩:=h;have e:=A1m _ _ e0;have hs:=A1m _ _ hs0;have hg:=A1m _ _ hg0
  refine ⟨_,(A0c (A0p (i:=1) A2i.nd rfl (Or.inl rfl) (A0s (pv 0) rfl))
   (A0c (A1s (A2g (A0q A1f (by rfl) T.ac Z0d (A0a (pv 1) (A0a (A3t (v:=V.ref t.ij) rfl T.xx rfl) A0d))))
    (A0e (A0y (A2p (A0a (A2l T.oa G_Part_init (hr.mono (by lia)) rfl T.t0 T.cu .nil A0z (A0a (A0s (pv 1) rfl) (A0a (A0s (pv 0) rfl) (A0a (A0s (pv 0) rfl) A0d)))) (A0a (A2l T.oa G_Part_init (hr.mono (by lia)) rfl T.t0 T.cu .nil A0z (A0a (A0s (pv 1) rfl) (A0a (A0s (pv 0) rfl) (A0a (A0s (pv 0) rfl) A0d)))) A0d)))))
    A0v)
   (A0c (A1s (A2g (A0q A1f (by rfl) T.ac Z0d (A0a (pv 1) (A0a (A3t (v:=V.ref t.bi) rfl T.wJ rfl) A0d))))
    (A0e (A0y (A2p (A0a (A2l T.oa G_Part_init (hr.mono (by lia)) rfl T.t0 T.cu .nil A0z (A0a (A0s (pv 1) rfl) (A0a (A0t A8i (A0s (pv 0) rfl) (A2p (A0a (A0s (pv 1) rfl) A0d))) (A0a (A0s (pv 0) rfl) A0d)))) A0d))))
    A0v)
   (A0c (A1s (A2g (A0q A1f (by rfl) T.ac Z0d (A0a (pv 1) (A0a (A3t (v:=V.ref t.ae) rfl T.ub rfl) A0d))))
    (A0c (A0p (i:=2) A2i.nd rfl (Or.inl rfl) (A2l T.oa G_Part_init (hr.mono (by lia)) rfl T.t0 T.cu .nil A0z (A0a (A0s (pv 1) rfl) (A0a (A0s (pv 0) rfl) (A0a (A0t A8i (A0s (pv 0) rfl) (A2p (A0a (A3v (A0a (pv 1) (A0a B3d A0d))) A0d))) A0d)))))
    (A0c (A0p (i:=3) A2i.nd rfl (Or.inl rfl) (A2l T.oa G_Part_init (hr.mono (by lia)) rfl T.t0 T.cu .nil A0z (A0a (A0s (pv 1) rfl) (A0a (A0s (pv 0) rfl) (A0a (A0t A8i (A0s (pv 0) rfl) (A2p (A0a (A3v (A0a (pv 1) (A0a B3d A0d))) A0d))) A0d)))))
    (A0e (A0y (A2p (A0a (pv 2) (A0a (pv 3) A0d)))))))
    A0v)
   (A0e (A0y (A2p A0d))))))),?_⟩
  refine ⟨_,rfl,a,_,dx,_,_,rfl,e,T.ao,T.bc,(by walk_at "lk"),?_⟩
  cases id ob with
  | @num o dd z eo0 =>
   have eo:=A1m _ _ eo0;have ty:A9o K H (.ref o) (.ref t.aj):= .ins eo T.c6 T.al.ha T.al.hn T.al.htk T.al.hm;refine ⟨_,rfl,_,_,_,_,rfl,ty,A1e T.uB,false,rfl,A3o ?_⟩;refine ⟨_,rfl,_,_,_,_,rfl,ty,A1e T.gw,false,rfl,A3o ?_⟩;refine ⟨_,rfl,_,_,_,_,rfl,ty,A1e T.j_,false,rfl,A3o ?_⟩;exact ⟨A0g (by simp),λq hq=>k q [] _ hq (A0f hq) A0b .nil⟩
  | @place o dd x eo0 =>
   have eo:=A1m _ _ eo0;have ty:A9o K H (.ref o) (.ref t.ah):= .ins eo T.iq T.au.ha T.au.hn T.au.htk T.au.hm;refine ⟨_,rfl,_,_,_,_,rfl,ty,A1e T.uU,false,rfl,A3o ?_⟩;refine ⟨_,rfl,_,_,_,_,rfl,ty,A1e T.ja,false,rfl,A3o ?_⟩;refine ⟨_,rfl,_,_,_,_,rfl,ty,A1e T.uk,false,rfl,A3o ?_⟩;exact ⟨A0g (by simp),λq hq=>k q [] _ hq (A0f hq) A0b .nil⟩
  | @read o dd ll x ix eo0 rp0 =>
   have eo:=A1m _ _ eo0;have ty:A9o K H (.ref o) (.ref t.ak):= .ins eo T.bo T.a_.ha T.a_.hn T.a_.htk T.a_.hm;refine ⟨_,rfl,_,_,_,_,rfl,ty,A1e T.vf,false,rfl,A3o ?_⟩;refine ⟨_,rfl,_,_,_,_,rfl,ty,A1e T.my,false,rfl,A3o ?_⟩;refine ⟨_,rfl,_,_,_,_,rfl,ty,A1e T.ot,false,rfl,A3o ?_⟩;exact ⟨A0g (by simp),λq hq=>k q [] _ hq (A0f hq) A0b .nil⟩
  | @sum o dd x v b eo0 ob1 =>
   have eo:=A1m _ _ eo0;have ty:A9o K H (.ref o) (.ref t.bi):= .ins eo T.fz T.br.ha T.br.hn T.br.htk T.br.hm;simp only [dep] at bg bs;refine ⟨_,rfl,_,_,_,_,rfl,ty,A1e T.wf,false,rfl,A3o ?_⟩;refine ⟨_,rfl,_,_,_,_,rfl,ty,A1e T.qo,true,rfl,B4j ?_⟩;refine ⟨_,rfl,o,_,dd,_,_,rfl,eo,T.fz,T.n_,(by walk_at "lk"),_,rfl,a,_,dx,_,_,rfl,e,T.ao,T.av,(by walk_at "lk"),_,rfl,o,_,dd,_,_,rfl,eo,T.fz,T.gb,(by walk_at "lk"),A0g (by simp),λl1 hl1=> ?_⟩;have s1:A0n H (upd H l1 (.lst [.str x])):=A0f hl1;refine ⟨sl,l1,_,_,rfl,rfl,s1 _ _ hs,A0b,A0g (by simp;lia),λl2 hl2=> ?_⟩;have s2:=s1.trans (A0f (o:= .lst (ss.map V.str++[.str x])) hl2);refine ⟨_,rfl,a,_,dx,_,_,rfl,s2 _ _ e,T.ao,T.be,(by walk_at "lk"),λnp dn hn hdn ndn=>⟨np,dn,_,_,_,rfl,A0b,rfl,A0g (by simp),λq hq=> ?_⟩⟩;have s3:=s2.trans (A1w (o:= .own np) (u:= .ins t.ba dn []) (v:= .ins t.ba dn [("term",v),("sums",.ref l2),("guards",.ref gl)]) hn hdn);have s4:=s3.trans (A0f (o:= .lst [.ref np]) hq);refine k q _ _ (s3.free hq) s4 A0b (.cons ⟨np,dn,v,l2,gl,gs,rfl,A1n (fr _ (s2.free hn)) ?_,ob1.imp (A1d s4),A1n (fr _ (s1.free hl2)) ?_,A1d s4 _ _ hg0,by show gs.length+dep b<=100;lia,by show (ss++[x]).length+dep b<=100;rw [Z06];simp only [Z0y,List.length_nil];lia,Paired.mapP pg λ_ _ z=>z.same (A1d s4)⟩ .nil)
   ·exact (A0f hq) _ _ A0b
   ·have e2:=((A1w (o:= .own np) (u:= .ins t.ba dn []) (v:= .ins t.ba dn [("term",v),("sums",.ref l2),("guards",.ref gl)]) hn hdn).trans (A0f (o:= .lst [.ref np]) hq)) _ _ (A0b (H:=upd H l1 (.lst [.str x])) (a:=l2) (o:= .lst (ss.map V.str++[.str x])));rw [Z0s];exact e2
  | @pair o dd op v1 v2 l r eo0 ob1 ob2 =>
   have eo:=A1m _ _ eo0;simp only [dep] at bg bs;refine ⟨_,rfl,_,_,_,_,rfl,B2n T eo,A1e (D3c T op),true,rfl,B4j ?_⟩;refine ⟨_,rfl,o,_,dd,_,_,rfl,eo,C5r T op,D9m T op,(by walk_at "lk"),_,rfl,a,_,dx,_,_,rfl,e,T.ao,T.av,(by walk_at "lk"),_,rfl,a,_,dx,_,_,rfl,e,T.ao,T.be,(by walk_at "lk"),λn1 d1 hn1 hd1 nd1=>⟨n1,d1,_,_,_,rfl,A0b,rfl,?_⟩⟩;have s1:=A1w (o:= .own n1) (u:= .ins t.ba d1 []) (v:= .ins t.ba d1 [("term",v1),("sums",.ref sl),("guards",.ref gl)]) hn1 hd1;refine ⟨_,rfl,o,_,dd,_,_,rfl,s1 _ _ eo,C5r T op,E0c T op,(by walk_at "lk"),_,rfl,a,_,dx,_,_,rfl,s1 _ _ e,T.ao,T.av,(by walk_at "lk"),_,rfl,a,_,dx,_,_,rfl,s1 _ _ e,T.ao,T.be,(by walk_at "lk"),λn2 d2 hn2 hd2 nd2=>⟨n2,d2,_,_,_,rfl,A0b,rfl,A0g (by simp),λq hq=> ?_⟩⟩;have s2:=A1w (o:= .own n2) (u:= .ins t.ba d2 []) (v:= .ins t.ba d2 [("term",v2),("sums",.ref sl),("guards",.ref gl)]) hn2 hd2;have s3:=A0f (o:= .lst [.ref n1,.ref n2]) hq;have s4:=s1.trans (s2.trans s3);refine k q _ _ ((s1.trans s2).free hq) s4 A0b (.cons ⟨n1,d1,v1,sl,gl,gs,rfl,A1n (fr _ hn1) (s3 _ _ (s2 _ _ A0b)),ob1.imp (A1d s4),A1d s4 _ _ hs0,A1d s4 _ _ hg0,by show gs.length+dep l<=100;lia,by show ss.length+dep l<=100;lia,Paired.mapP pg λ_ _ z=>z.same (A1d s4)⟩ (.cons ⟨n2,d2,v2,sl,gl,gs,rfl,A1n (fr _ (s1.free hn2)) (s3 _ _ A0b),ob2.imp (A1d s4),A1d s4 _ _ hs0,A1d s4 _ _ hg0,by show gs.length+dep r<=100;lia,by show ss.length+dep r<=100;lia,Paired.mapP pg λ_ _ z=>z.same (A1d s4)⟩ .nil))
  | @guard o dd x lo hi v1 v2 l r eo0 ob1 ob2 =>
   have eo:=A1m _ _ eo0;have ty:A9o K H (.ref o) (.ref t.ae):= .ins eo T.ay T.ap.ha T.ap.hn T.ap.htk T.ap.hm;simp only [dep] at bg bs;refine ⟨_,rfl,_,_,_,_,rfl,ty,A1e T.uP,false,rfl,A3o ?_⟩;refine ⟨_,rfl,_,_,_,_,rfl,ty,A1e T.jt,false,rfl,A3o ?_⟩;refine ⟨_,rfl,_,_,_,_,rfl,ty,A1e T.mh,true,rfl,B4j ?_⟩;refine ⟨_,rfl,o,_,dd,_,_,rfl,eo,T.ay,T.mw,(by walk_at "lk"),_,rfl,a,_,dx,_,_,rfl,e,T.ao,T.av,(by walk_at "lk"),_,rfl,a,_,dx,_,_,rfl,e,T.ao,T.be,(by walk_at "lk"),_,rfl,A0g (by simp),λt1 ht1=>⟨A0g (by simp),λl1 hl1=> ?_⟩⟩;have z1:=(A0f (o:= .tup [.ref o,.bl true]) ht1).trans (A0f (o:= .lst [.ref t1]) hl1);refine ⟨gl,l1,_,_,rfl,rfl,z1 _ _ hg,A0b,A0g (by simp;lia),λg1 hg1=> ?_⟩;have z2:=z1.trans (A0f (o:= .lst (gs++[.ref t1])) hg1);refine λn1 d1 hn1 hd1 nd1=>⟨n1,d1,_,_,_,rfl,A0b,rfl,?_⟩;have y1:=A1w (o:= .own n1) (u:= .ins t.ba d1 []) (v:= .ins t.ba d1 [("term",v1),("sums",.ref sl),("guards",.ref g1)]) hn1 hd1;have z3:=z2.trans y1;refine ⟨_,rfl,o,_,dd,_,_,rfl,z3 _ _ eo,T.ay,T.me,(by walk_at "lk"),_,rfl,a,_,dx,_,_,rfl,z3 _ _ e,T.ao,T.av,(by walk_at "lk"),_,rfl,a,_,dx,_,_,rfl,z3 _ _ e,T.ao,T.be,(by walk_at "lk"),_,rfl,A0g (by simp),λt2 ht2=>⟨A0g (by simp),λl2 hl2=> ?_⟩⟩;have y2:=(A0f (o:= .tup [.ref o,.bl false]) ht2).trans (A0f (o:= .lst [.ref t2]) hl2);refine ⟨gl,l2,_,_,rfl,rfl,y2 _ _ (z3 _ _ hg),A0b,A0g (by simp;lia),λg2 hg2=> ?_⟩;have y3:=y2.trans (A0f (o:= .lst (gs++[.ref t2])) hg2);refine λn2 d2 hn2 hd2 nd2=>⟨n2,d2,_,_,_,rfl,A0b,rfl,_,rfl,_,rfl,A0g (by simp),λq hq=> ?_⟩;have y4:=A1w (o:= .own n2) (u:= .ins t.ba d2 []) (v:= .ins t.ba d2 [("term",v2),("sums",.ref sl),("guards",.ref g2)]) hn2 hd2;have y5:=A0f (o:= .lst [.ref n1,.ref n2]) hq;have s4:=z3.trans (y3.trans (y4.trans y5));refine k q _ _ ((z3.trans (y3.trans y4)).free hq) s4 A0b (.cons ⟨n1,d1,v1,sl,g1,_,rfl,A1n (fr _ (z2.free hn1)) ((y3.trans (y4.trans y5)) _ _ A0b),ob1.imp (A1d s4),A1d s4 _ _ hs0,A1n (fr _ (z1.free hg1)) ((y1.trans (y3.trans (y4.trans y5))) _ _ A0b),by show (gs++[V.ref t1]).length+dep l<=100;rw [Z06];simp only [Z0y,List.length_nil];lia,by show ss.length+dep l<=100;lia,D7h (Paired.mapP pg λ_ _ z=>z.same (A1d s4)) (.cons ⟨t1,o,dd,v1,v2,rfl,A1n (fr _ ht1) (((A0f hl1).trans ((A0f hg1).trans (y1.trans (y3.trans (y4.trans y5))))) _ _ A0b),A1d s4 _ _ eo0⟩ .nil)⟩ (.cons ⟨n2,d2,v2,sl,g2,_,rfl,A1n (fr _ ((z3.trans y3).free hn2)) (y5 _ _ A0b),ob2.imp (A1d s4),A1d s4 _ _ hs0,A1n (fr _ ((z3.trans y2).free hg2)) ((y4.trans y5) _ _ A0b),by show (gs++[V.ref t2]).length+dep r<=100;rw [Z06];simp only [Z0y,List.length_nil];lia,by show ss.length+dep r<=100;lia,D7h (Paired.mapP pg λ_ _ z=>z.same (A1d s4)) (.cons ⟨t2,o,dd,v1,v2,rfl,A1n (fr _ (z3.free ht2)) (((A0f hl2).trans ((A0f hg2).trans (y4.trans y5))) _ _ A0b),A1d s4 _ _ eo0⟩ .nil)⟩ .nil))
theorem B9r (T:Txt K mg t) {m n:Nat} {sp':Sp} (hm:3<=m) (G_parts_from:A2e P w K mg base CX0 m t.de t.c_ ["part"] sp')
  (hs:∀(p:V) (u:Tm) (s:List Str) (g:List Gd) (S:Addr->Prop) (H:Hp) (Q:VK),Fr S H->A4p t (A2s S H) p (u,s,g)->dep u+1<=n->nod u<=1000->(∀(q:Addr) (xs:List V) (H':Hp),H q=none->A0n H H'->H' q=some (.lst xs)->Paired (A4p t (A2s S H')) xs (prT u s g)->Q (.ref q) H')->sp' [p] H Q E0) :
  A2e P w K mg base CX0 (m+1) t.de t.c_ ["part"] (C6z t n):=by
 have G_parts_right_within:= @A7q P w K mg base t T;refine T.jx.ok A7b (by walk_at "ln") (λcdv A outer s H vs Q E hr h=> ?_)
 ·obtain ⟨p,u,ss,gg,S,rfl,fr,pa,hd,hn,k⟩:=h;obtain ⟨a,dx,tv,sl,gl,gs,rfl,e0,ob,hs0,hg0,bg,bs,pg⟩:=id pa;have dp:=C5e u
  refine ⟨_,(A0c (A0p (i:=1) A7b.nd rfl (Or.inl rfl) (A2p (A0a (pv 0) A0d)))
   (A0c (A1x PassesOwn.never rfl (A1k (A0l G_parts_right_within (hr.mono (by lia)) rfl T.nj T.e9.kp T.lh .nil A0z (A0a (pv 0) A0d))) (A0m (i:=2) A7b.nd rfl (Or.inl rfl) (Or.inl rfl))
    (A0e (A2a (B4w Z0k PySem.F.slot_list_extend PySem.F.type_list_extend C5q (pv 1) (A0a (A0l G_parts_from (hr.mono (by lia)) rfl T.se T.jx.kp T.rz .nil A0z (A0a (pv 2) A0d)) A0d)))))
   (A0e (A0y (pv 1))))),?_⟩
  refine ⟨_,rfl,A0g (by simp),λl hl=> ?_⟩;have s1:A0n H (upd H l (.lst [.ref a])):=A0f hl;have m1:A0n (A2s S H) (A2s (λb=>S b/\b≠l) (upd H l (.lst [.ref a]))):=λb o z=>A1n ⟨(A1c z).1,A0k (A1c z).2 hl⟩ (s1 _ _ (A1c z).2);have fr1:∀{G:Hp},A0n (upd H l (.lst [.ref a])) G->Fr (λb=>S b/\b≠l) G:=λ{G} s b hb=>⟨fr b (s1.free (s.free hb)),λz=>by subst z;rw [s _ _ A0b] at hb;cases hb⟩;have nl:¬(S l/\l≠l):=λz=>z.2 rfl;refine ⟨_,rfl,.ref a,u,ss,gg,λb=>S b/\b≠l,rfl,fr1 (A0n.refl _),pa.same m1,λq ks H2 hq s2 h2 pk=>⟨q,rfl,⟨_,SqL.of h2⟩,?_⟩⟩;have ql:q≠l:=λz=>by subst z;rw [A0b] at hq;cases hq
  have hlk:=Paired.length pk
  have tot:((B8m u ss gg).flatMap λk=>prT k.1 k.2.1 k.2.2).length+1=nod u:=by
   have h1:(prT u ss gg).length=nod u:=A8e u ss gg;rw [C2g,Z0y] at h1;exact h1
  have bnd:∀(i:Nat),(((B8m u ss gg).take i).flatMap λk=>prT k.1 k.2.1 k.2.2).length<=nod u:=λi=>by
   have e:=Z2e i (B8m u ss gg);have e2:((B8m u ss gg).flatMap λk=>prT k.1 k.2.1 k.2.2)=(((B8m u ss gg).take i).flatMap λk=>prT k.1 k.2.1 k.2.2)++(((B8m u ss gg).drop i).flatMap λk=>prT k.1 k.2.1 k.2.2):=by rw [<-List.flatMap_append,e]
   rw [e2,Z06] at tot;lia
  refine A1r (K:=K) (a:=q) (xs:=ks) (λi σ H3=>∃(o2:Option V) (xs:List V),σ=[some (.ref a),some (.ref l),o2]/\A0n H H3/\(∀b,H3 b=none->upd H l (.lst [.ref a]) b=none)/\H3 q=some (.lst ks)/\Paired (A4p t (A2s (λb=>S b/\b≠l) H3)) ks (B8m u ss gg)/\H3 l=some (.lst (.ref a::xs))/\Paired (A4p t (A2s (λb=>S b/\b≠l) H3)) xs (((B8m u ss gg).take i).flatMap λk=>prT k.1 k.2.1 k.2.2))
   ⟨none,[],rfl,s1.trans s2,λb hb=>s2.free hb,h2,pk,s2 _ _ A0b,.nil⟩ (λi σ H3 _ ⟨_,_,_,_,_,h,_⟩=>SqL.of h) ?_ ?_
  ·rintro i y σ H3 hy ⟨o2,xs,rfl,s3,f3,h3,pk3,hl3,ps⟩;obtain ⟨kd,hkd,pkd⟩:=B2s pk3 hy;have km:=Z13 hkd;have kd1:=D0n km
   have nk:nod kd.1<=1000:=by
    have h2:(prT kd.1 kd.2.1 kd.2.2).length<=((B8m u ss gg).flatMap λk=>prT k.1 k.2.1 k.2.2).length:=by
     obtain ⟨l1,l2,e2⟩:=List.append_of_mem km;rw [e2,List.flatMap_append,List.flatMap_cons,Z06,Z06];lia
    rw [A8e] at h2
    lia
   have fr3:Fr (λb=>S b/\b≠l) H3:=λb hb=>⟨fr b (s1.free (f3 b hb)),λz=>by subst z;rw [hl3] at hb;cases hb⟩;refine ⟨_,rfl,.inl ⟨rfl,_,SqL.of hl3⟩,_,rfl,hs y kd.1 kd.2.1 kd.2.2 _ H3 _ fr3 pkd (by lia) nk λq2 zs H4 hq2 s4 h4 pz=> ?_⟩;have lxs:=Paired.length ps;have lzs:=Paired.length pz;rw [A8e] at lzs;have b1:=bnd i;refine ⟨l,q2,_,_,rfl,rfl,s4 _ _ hl3,h4,A0g (by simp;lia),?_⟩;have u4:A0n (A2s (λb=>S b/\b≠l) H4) (A2s (λb=>S b/\b≠l) (upd H4 l (.lst (.ref a::xs++zs)))):=A7u (A0n.refl _) nl;have v4:=(A1d (S:=λb=>S b/\b≠l) s4).trans u4;refine ⟨_,xs++zs,rfl,A0r (s3.trans s4) hl,λb hb=> ?_,?_,Paired.mapP pk3 λ_ _ z=>z.same v4,A0b,?_⟩
   ·by_cases z:b=l
    ·subst z;rw [A0b] at hb;cases hb
    ·rw [A0h z] at hb;exact f3 b (s4.free hb)
   ·rw [A0h ql];exact s4 _ _ h3
   ·rw [Z14,hkd,Option.toList_some,List.flatMap_append,List.flatMap_cons,List.flatMap_nil,Z0u];exact D7h (Paired.mapP ps λ_ _ z=>z.same v4) (Paired.mapP pz λ_ _ z=>z.same u4)
  ·rintro σ H3 ⟨o2,xs,rfl,s3,f3,h3,pk3,hl3,ps⟩;rw [hlk,Z18] at ps;refine ⟨_,rfl,k l _ H3 hl s3 hl3 ?_⟩;rw [C2g];refine .cons (pa.same (A1d s3)) (Paired.mapP ps λ_ _ z=>z.same (A7k (A0n.refl _) λb o _ h=>h.1))
theorem C4q (T:Txt K mg t):∀n:Nat,A2e P w K mg base CX0 (n+4) t.de t.c_ ["part"] (C6z t n)
 | 0=>B9r T (sp':=λ_ _ _ _=>False) (m:=3) (by lia) (A2e.none λ_ _ _ _ h=>h) λp u s g S H Q _ _ h=>absurd h (by lia)
 | n+1=>B9r T (m:=n+4) (by lia) (C4q T n) λp u s g S H Q fr pa hd hn k=>⟨p,u,s,g,S,rfl,fr,pa,by lia,hn,k⟩
theorem A8u (T:Txt K mg t):A2e P w K mg base CX0 14 t.qa t.qx ["term"] (D0b t):=by
 have G_parts_from:= @C4q P w K mg base t T 9;have G_Part_init:= @B1x P w K mg base t T;refine T.j6.ok C1h (by walk_at "ln") (λcdv A outer s H vs Q E hr h=> ?_)
 ·obtain ⟨v,u,rfl,ob,hd,hn,k⟩:=h;refine ⟨_,(A0e (A0y (A0l G_parts_from (hr.mono (by lia)) rfl T.se T.jx.kp T.rz .nil A0z (A0a (A2l T.oa G_Part_init (hr.mono (by lia)) rfl T.t0 T.cu .nil A0z (A0a (pv 0) (A0a (A2p A0d) (A0a (A2p A0d) A0d)))) A0d)))),?_⟩;refine ⟨_,rfl,A0g (by simp),λl1 hl1=>⟨A0g (by simp),λl2 hl2=> ?_⟩⟩;refine λn dn hnn hdn nd=>⟨n,dn,_,_,_,rfl,A0b,rfl,?_⟩;have s1:=(A0f (o:= .lst []) hl1).trans (A0f (o:= .lst []) hl2);have s2:=A1w (o:= .own n) (u:= .ins t.ba dn []) (v:= .ins t.ba dn [("term",v),("sums",.ref l1),("guards",.ref l2)]) hnn hdn;have s3:=s1.trans s2;have tr:∀{G:Hp},A0n G (A2s (λ_=>True) G):=λb o z=>A1n True.intro z;refine ⟨.ref n,u,[],[],λ_=>True,rfl,λ_ _=>True.intro,⟨n,dn,v,l1,l2,[],rfl,A1n True.intro A0b,ob.imp (s3.trans tr),tr _ _ (s2 _ _ ((A0f hl2) _ _ A0b)),tr _ _ (s2 _ _ A0b),by show 0+dep u<=100;lia,by show 0+dep u<=100;lia,.nil⟩,hd,hn,λq xs H4 hq s4 h4 ps=> ?_⟩;exact k q xs H4 (s3.free hq) (s3.trans s4) h4 (Paired.mapP ps λ_ _ z=>z.same A1m)
end My
namespace L2
open PySem PySem.Spec PyProof.Rows
end L2
namespace My
open PySem L2
local macro_rules | `(tactic| walk_at "sc") => `(tactic| exact ⟨rfl, rfl, rfl, by decide +kernel, rfl, by decide +kernel, by decide +kernel⟩)
local macro_rules | `(tactic| walk_at "ln") => `(tactic| (intro _ _ _ _ h; (repeat (obtain ⟨_, h⟩ := h)); subst_vars; rfl))
local macro_rules | `(tactic| walk_at "lk") => `(tactic| first | with_reducible exact lk0 | (refine lk1 (by decide +kernel) ?_; walk_at "lk") | rfl)
abbrev B9y (S:Addr->Prop) (H:Hp) (ws:List (Key×V)) (es:List (Str×List Str)):Prop:=Paired (λ(p:Key×V) (e:Str×List Str)=>p.1=Sum.inr e.1/\∃b,p.2= .ref b/\S b/\H b=some (.lst (e.2.map V.str))) ws es
def arr (tb:List (Str×List Str)) (ls:List Lt):List (Str×List Str):=tb++ls.map λe=>(e.1,e.2.1)
def D5r (A:Adr):Sp:=λvs H Q _=>∃(p:Addr) (wh:Int) (ax:List (Str×Int)) (tb:List (Str×List Str)) (ls:List Lt) (os:List Str),vs=[.ref p]/\B9n A H p wh ax tb ls os/\tb.length<=1000/\ls.length<=1000/\
 ∀(q:Addr) (ws:List (Key×V)) (H':Hp),H q=none->A0n H H'->H' q=some (.dK (A1b [] ws))->B9y (λb=>H b=none) H' ws (arr tb ls)->Q (.ref q) H'
variable {P:Program} {w:World} {K:PySem.W.Frag} {mg:Str->Option Value} {base:Heap} {t:Adr}
theorem B1u (T:Txt K mg t):A2e P w K mg base CX0 1 t.nc t.nw ["program"] (D5r t):=by
 refine T.m5.ok A4t (by walk_at "ln") (λcdv A outer s H vs Q E hr h=> ?_)
 ·obtain ⟨p,wh,ax,tb,ls,os,rfl,pr,ht,hls,k⟩:=h;have hu:=B0b hr;obtain ⟨dx,a,tt,l,o,e,ra,rt,⟨xl,hl,rl⟩,ro⟩:=pr.ob;obtain ⟨t2,xs,et,hx,rs⟩:=A4w (show Rep H (.ref tt) (.list (tb.map C1x)) from rt);cases et;have lxs:=rs.len;rw [Z08] at lxs;have lxl:=Paired.length rl
  refine ⟨_,(A0c (A0p (i:=1) A4t.nd rfl (Or.inl rfl) C2p)
   (A0c (A1x PassesOwn.never rfl (A1k (A0s (pv 0) rfl)) (A4j (n:=2) rfl (A0u (A0m (i:=2) A4t.nd rfl (Or.inl rfl) (Or.inl rfl)) (A0u (A0m (i:=3) A4t.nd rfl (Or.inl rfl) (Or.inl rfl)) A2q)))
    (A0e (B1e hu (pv 1) (pv 2) (A3q A7t (by rfl) T.ti Z1o (A0a (pv 3) A0d)) rfl)))
   (A0c (A1x PassesOwn.never rfl (A1k (A0s (pv 0) rfl)) (A0m (i:=4) A4t.nd rfl (Or.inl rfl) (Or.inl rfl))
    (A0e (B1e hu (pv 1) (A0s (pv 4) rfl) (A3q A7t (by rfl) T.ti Z1o (A0a (A0s (pv 4) rfl) A0d)) rfl)))
   (A0e (A0y (pv 1)))))),?_⟩
  refine λq hq=> ?_;have s0:A0n H (upd H q (.dK [])):=A0f hq
  have put:∀{H2:Hp} {ws:List (Key×V)} {es:List (Str×List Str)} {n:Str} {c:Addr} {ys:List Str},A0n H H2->H2 q=some (.dK (A1b [] ws))->B9y (λb=>H b=none/\b≠q) H2 ws es->H2 c=none->
    A0n H (upd (upd H2 c (.lst (ys.map V.str))) q (.dK (A8p (A1b [] ws) (Sum.inr n) (.ref c))))/\upd (upd H2 c (.lst (ys.map V.str))) q (.dK (A8p (A1b [] ws) (Sum.inr n) (.ref c))) q=some (.dK (A1b [] (ws++[(Sum.inr n,.ref c)])))/\
    B9y (λb=>H b=none/\b≠q) (upd (upd H2 c (.lst (ys.map V.str))) q (.dK (A8p (A1b [] ws) (Sum.inr n) (.ref c)))) (ws++[(Sum.inr n,.ref c)]) (es++[(n,ys)]):=by
   intro H2 ws es n c ys s2 h2 r2 hc;have cq:c≠q:=λz=>by subst z;rw [h2] at hc;cases hc
   refine ⟨A0r (s2.trans (A0f hc)) hq,?_,?_⟩
   ·rw [B4e];exact A0b
   ·refine Paired.snoc ⟨rfl,c,rfl,⟨s2.free hc,cq⟩,by rw [A0h cq];exact A0b⟩ (Paired.mapP r2 λa b ⟨z1,b',z2,z3,z4⟩=>⟨z1,b',z2,z3,?_⟩);rw [A0h z3.2,A0h (A0k z4 hc)];exact z4
  refine ⟨_,rfl,p,_,dx,_,_,rfl,s0 _ _ e,T.am,T.bj,(by walk_at "lk"),tt,rfl,⟨_,SqL.of (s0 _ _ hx)⟩,?_⟩
  refine A1r (K:=K) (a:=tt) (xs:=xs) (λi σ H2=>∃(o2 o3:Option V) (ws:List (Key×V)),σ=[some (.ref p),some (.ref q),o2,o3,none]/\A0n H H2/\H2 q=some (.dK (A1b [] ws))/\B9y (λb=>H b=none/\b≠q) H2 ws (tb.take i))
   ⟨none,none,[],rfl,s0,A0b,.nil⟩ (λi σ H2 _ ⟨_,_,_,_,s2,_⟩=>SqL.of (s2 _ _ hx)) ?_ ?_
  ·rintro i y σ H2 hy ⟨o2,o3,ws,rfl,s2,h2,r2⟩;obtain ⟨te,hte,ry⟩:=B3u rs hy;obtain ⟨b,c,rfl,eb,ec⟩:=C9i ry;have lw:=Paired.length r2;have lt:(tb.take i).length<=tb.length:=by rw [Z0x];lia
   have lm:=A2t ws [];rw [List.length_nil] at lm;refine ⟨b,_,rfl,SqT.of (s2 _ _ eb),rfl,_,_,rfl,_,_,rfl,rfl,?_⟩;refine ⟨_,rfl,c,_,rfl,.inl (SqL.of (s2 _ _ ec)),λc' hc'=> ?_⟩;have cq:q≠c':=λz=>by subst z;rw [h2] at hc';cases hc'
   refine ⟨_,rfl,_,rfl,q,_,rfl,C8i.k (k:=Sum.inr te.1) (by rw [A0h cq];exact h2) (A1j (by lia)),?_⟩;obtain ⟨p1,p2,p3⟩:=put (n:=te.1) (ys:=te.2) s2 h2 r2 hc';refine ⟨_,_,_,rfl,p1,p2,?_⟩;rw [Z14,hte];exact p3
  ·rintro σ H2 ⟨o2,o3,ws,rfl,s2,h2,r2⟩;rw [lxs,Z18] at r2;refine ⟨_,rfl,p,_,dx,_,_,rfl,s2 _ _ e,T.am,T.bh,(by walk_at "lk"),l,rfl,⟨_,SqL.of (s2 _ _ hl)⟩,?_⟩
   refine A1r (K:=K) (a:=l) (xs:=xl) (λi σ H3=>∃(o4:Option V) (ws:List (Key×V)),σ=[some (.ref p),some (.ref q),o2,o3,o4]/\A0n H H3/\H3 q=some (.dK (A1b [] ws))/\B9y (λb=>H b=none/\b≠q) H3 ws (tb++(ls.take i).map λe=>(e.1,e.2.1)))
    ⟨none,ws,rfl,s2,h2,by simpa using r2⟩ (λi σ H3 _ ⟨_,_,_,s3,_⟩=>SqL.of (s3 _ _ hl)) ?_ ?_
   ·rintro i y σ H3 hy ⟨o4,ws,rfl,s3,h3,r3⟩;obtain ⟨le,hle,b,db,c,n,dn,rfl,eb,_,ec,_⟩:=B2s rl hy;have lw:=Paired.length r3;have lt:((ls.take i).map λe=>(e.1,e.2.1)).length<=ls.length:=by rw [Z08,Z0x];lia
    rw [Z06] at lw;have lm:=A2t ws [];rw [List.length_nil] at lm;refine ⟨_,rfl,b,_,db,_,_,rfl,s3 _ _ eb,T.bp,T.cr,(by walk_at "lk"),c,_,rfl,.inl (SqL.of (s3 _ _ ec)),λc' hc'=> ?_⟩;have cq:q≠c':=λz=>by subst z;rw [h3] at hc';cases hc'
    refine ⟨_,rfl,_,rfl,b,_,db,_,_,rfl,by rw [A0h (A0k (s3 _ _ eb) hc')];exact s3 _ _ eb,T.bp,T.bt,(by walk_at "lk"),q,_,rfl,C8i.k (k:=Sum.inr le.1) (by rw [A0h cq];exact h3) (A1j (by lia)),?_⟩;obtain ⟨p1,p2,p3⟩:=put (n:=le.1) (ys:=le.2.1) s3 h3 r3 hc';refine ⟨_,_,rfl,p1,p2,?_⟩;rw [Z14,hle,Option.toList_some,Z0s,<-Z0z];exact p3
   ·rintro σ H3 ⟨o4,ws,rfl,s3,h3,r3⟩;rw [lxl,Z18] at r3;exact ⟨_,rfl,k q ws H3 hq s3 h3 (Paired.mapP r3 λ_ _ ⟨z1,b',z2,z3,z4⟩=>⟨z1,b',z2,z3.1,z4⟩)⟩
def Oth (r:Addr) (H H':Hp):Prop:=∀b,b≠r->H' b=H b
def OkX (z:Str):Prop:=PyData.strOk z=true/\z.length<=4000
def OkN (xs:List Str):Prop:=∀x∈xs,OkX x
theorem D7v {b:Bool} {A B:Prop} (h1:b=false->A) (h2:b=true->B):if (!b)=true then A else B:=by
 cases b
 ·exact h1 rfl
 ·exact h2 rfl
theorem C6x {b:Bool} {A B:Prop} (h1:b=true->A) (h2:b=false->B):if b=true then A else B:=by
 cases b
 ·exact h2 rfl
 ·exact h1 rfl
theorem A5u (z:Str):∀bs:List Str,inV (.str z) (bs.map V.str)=decide (z∈bs)
 | []=>rfl
 | b::r=>by
  have ih:=A5u z r;unfold inV at ih⊢;rw [Z0p,List.any_cons,ih];show ((b == z)||decide (z∈r))=decide (z∈b::r);by_cases e:b=z
  ·subst e;simp
  ·have:¬z=b:=λh=>e h.symm;simp [e,this]
theorem A3p:∀bs:List Str,(bs.map V.str).all B6m=true
 | []=>rfl
 | b::r=>by rw [Z0p,List.all_cons,A3p r];rfl
theorem B2i {ys:List Str} {i:Nat} (hi:i<=ys.length):D1q (ys.map V.str) none (some (i:Int))=(ys.take i).map V.str:=by
 unfold D1q;have e1:HT.sIx (ys.map V.str).length 0 none=0:=rfl
 have e2:HT.sIx (ys.map V.str).length (ys.map V.str).length (some (i:Int))=i:=by
  unfold HT.sIx;rw [Z08];simp only [show¬((i:Int)<0) by lia,if_false]
  lia
 rw [e1,e2,List.drop_zero,Nat.sub_zero,List.map_take]
def axN (ax:List (Str×Int)):List Str:=ax.map (·.1)
def arN (tb:List (Str×List Str)) (ls:List Lt):List Str:=tb.map (·.1)++ls.map (·.1)
def D7a (A:Adr):Sp:=λvs H Q _=>∃(p:Addr) (wh:Int) (ax:List (Str×Int)) (tb:List (Str×List Str)) (ls:List Lt) (os:List Str),vs=[.ref p]/\B9n A H p wh ax tb ls os/\ax.length<=100/\∀(q:Addr) (H':Hp),H q=none->A0n H H'->H' q=some (.lst ((axN ax).map V.str))->Q (.ref q) H'
def D7t (A:Adr):Sp:=λvs H Q _=>∃(p:Addr) (wh:Int) (ax:List (Str×Int)) (tb:List (Str×List Str)) (ls:List Lt) (os:List Str),vs=[.ref p]/\B9n A H p wh ax tb ls os/\tb.length<=100/\∀(q:Addr) (H':Hp),H q=none->A0n H H'->H' q=some (.lst ((tb.map (·.1)).map V.str))->Q (.ref q) H'
def D7j (A:Adr):Sp:=λvs H Q _=>∃(p:Addr) (wh:Int) (ax:List (Str×Int)) (tb:List (Str×List Str)) (ls:List Lt) (os:List Str),vs=[.ref p]/\B9n A H p wh ax tb ls os/\tb.length<=100/\ls.length<=100/\∀(q:Addr) (H':Hp),H q=none->A0n H H'->H' q=some (.lst ((arN tb ls).map V.str))->Q (.ref q) H'
def la (c:Nat):Bool:= !(decide (([c]:List Nat)<("a":Str).cps.toList))
def lz (c:Nat):Bool:= !(decide (("z":Str).cps.toList<[c]))
def D2b (x:Str):Bool:=(!(decide (x="")))&&x.cps.toList.all λc=>la c&&lz c
def nmB (x:Str):Bool:=D2b x&&decide (x.length<=8)&& !(decide (x∈(["if","sum"]:List Str)))
def D6g:Sp:=λvs H Q _=>∃x:Str,vs=[.str x]/\x.length<=4000/\∀H',A0n H H'->Q (.bl (D2b x)) H'
def D5l:Sp:=λvs H Q _=>∃x:Str,vs=[.str x]/\x.length<=4000/\∀H',A0n H H'->Q (.bl (nmB x)) H'
theorem B0s (T:Txt K mg t):A2e P w K mg base CX0 1 t.j5 t.jh ["program"] (D7a t):=by
 refine T.ft.ok B7i (by walk_at "ln") (λcdv A outer s H vs Q E hr h=> ?_)
 ·obtain ⟨p,wh,ax,tb,ls,os,rfl,pr,la,k⟩:=h;obtain ⟨dx,a,tt,l,o,e,ra,rt,⟨xl,hl,rl⟩,ro⟩:=pr.ob;obtain ⟨a2,xs,ea,hx,rs⟩:=A4w (show Rep H (.ref a) (.list (ax.map B7p)) from ra);cases ea;have lxs:=rs.len;rw [Z08] at lxs;refine ⟨_,(A0e (A0y (A3l (N':=["name","length"]) (ix:=(List.replicate 2 none)) (g:=D4s K 2 (B0u (A8b 0) (B0u (A8b 1) D2k))) rfl (A2m rfl (by decide +kernel) (by decide +kernel)) (A2n rfl) (A1k (A0s (pv 0) rfl)) (λ_ _ _ _=>(A4j (n:=2) rfl (A0u (A0m (i:=0) B8t rfl (Or.inl rfl) (Or.inr rfl)) (A0u (A0m (i:=1) B8t rfl (Or.inl rfl) (Or.inr rfl)) A2q)))) (λ_ _ _ _=>(pv 0))))),?_⟩;refine ⟨_,rfl,p,_,dx,_,_,rfl,e,T.am,T.fb,(by walk_at "lk"),a,rfl,⟨_,SqL.of hx⟩,λD hD=> ?_⟩;refine A2o (K:=K) (a:=a) (D:=D) (xs:=xs) (λi zs H2=>A0n H H2/\H2 D=some (.lst zs)/\zs=(axN (ax.take i)).map V.str) ⟨A0f hD,A0b,rfl⟩ (λi zs H2 ⟨s2,_⟩=>SqL.of (s2 _ _ hx)) ?_ ?_
  ·rintro i x zs H2 hy ⟨s2,hD2,rfl⟩;have hi:i<xs.length:=(Z03.mp hy).1;obtain ⟨te,hte,ry⟩:=B3u rs hy;obtain ⟨b,rfl,eb⟩:=D3k ry;refine ⟨b,_,rfl,SqT.of (s2 _ _ eb),rfl,_,_,rfl,_,_,rfl,rfl,?_⟩;refine ⟨True.intro,_,rfl,hD2,A1j (by simp [axN];lia),A0r s2 hD,A0b,?_⟩;rw [Z14,hte,Option.toList_some];simp [axN]
  ·rintro zs H2 ⟨s2,hD2,rfl⟩;rw [lxs,Z18] at hD2;exact k D H2 hD s2 hD2
theorem B4y (T:Txt K mg t):A2e P w K mg base CX0 1 t.gy t.gj ["program"] (D7t t):=by
 refine T.pe.ok B4v (by walk_at "ln") (λcdv A outer s H vs Q E hr h=> ?_)
 ·obtain ⟨p,wh,ax,tb,ls,os,rfl,pr,lt,k⟩:=h;obtain ⟨dx,a,tt,l,o,e,ra,rt,⟨xl,hl,rl⟩,ro⟩:=pr.ob;obtain ⟨t2,xs,et,hx,rs⟩:=A4w (show Rep H (.ref tt) (.list (tb.map C1x)) from rt);cases et;have lxs:=rs.len;rw [Z08] at lxs;refine ⟨_,(A0e (A0y (A3l (N':=["name","axes"]) (ix:=(List.replicate 2 none)) (g:=D4s K 2 (B0u (A8b 0) (B0u (A8b 1) D2k))) rfl (A2m rfl (by decide +kernel) (by decide +kernel)) (A2n rfl) (A1k (A0s (pv 0) rfl)) (λ_ _ _ _=>(A4j (n:=2) rfl (A0u (A0m (i:=0) B8j rfl (Or.inl rfl) (Or.inr rfl)) (A0u (A0m (i:=1) B8j rfl (Or.inl rfl) (Or.inr rfl)) A2q)))) (λ_ _ _ _=>(pv 0))))),?_⟩;refine ⟨_,rfl,p,_,dx,_,_,rfl,e,T.am,T.bj,(by walk_at "lk"),tt,rfl,⟨_,SqL.of hx⟩,λD hD=> ?_⟩;refine A2o (K:=K) (a:=tt) (D:=D) (xs:=xs) (λi zs H2=>A0n H H2/\H2 D=some (.lst zs)/\zs=((tb.take i).map (·.1)).map V.str) ⟨A0f hD,A0b,rfl⟩ (λi zs H2 ⟨s2,_⟩=>SqL.of (s2 _ _ hx)) ?_ ?_
  ·rintro i x zs H2 hy ⟨s2,hD2,rfl⟩;have hi:i<xs.length:=(Z03.mp hy).1;obtain ⟨te,hte,ry⟩:=B3u rs hy;obtain ⟨b,c,rfl,eb,ec⟩:=C9i ry;refine ⟨b,_,rfl,SqT.of (s2 _ _ eb),rfl,_,_,rfl,_,_,rfl,rfl,?_⟩;refine ⟨True.intro,_,rfl,hD2,A1j (by simp;lia),A0r s2 hD,A0b,?_⟩;rw [Z14,hte,Option.toList_some];simp
  ·rintro zs H2 ⟨s2,hD2,rfl⟩;rw [lxs,Z18] at hD2;exact k D H2 hD s2 hD2
theorem B4o (T:Txt K mg t):A2e P w K mg base CX0 2 t.ik t.ib ["program"] (D7j t):=by
 have G_table_names:= @B4y P w K mg base t T;refine T.ig.ok B4l (by walk_at "ln") (λcdv A outer s H vs Q E hr h=> ?_)
 ·obtain ⟨p,wh,ax,tb,ls,os,rfl,pr,lt,ll,k⟩:=h;obtain ⟨dx,a,tt,l,o,e,ra,rt,⟨xl,hl,rl⟩,ro⟩:=pr.ob;have lxl:=Paired.length rl;refine ⟨_,(A0e (A0y (A0t A8i (A0l G_table_names (hr.mono (by lia)) rfl T.uS T.pe.kp T.uW .nil A0z (A0a (pv 0) A0d)) (A3l (N':=["let"]) (ix:=(List.replicate 1 none)) rfl (A2m rfl (by decide +kernel) (by decide +kernel)) (A2n rfl) (A1k (A0s (pv 0) rfl)) (λ_ _ _ _=>(A0m (i:=0) C7b rfl (Or.inl rfl) (Or.inr rfl))) (λ_ _ _ _=>(D2l (K:=K) rfl (pv 0) rfl)))))),?_⟩;refine ⟨_,rfl,p,wh,ax,tb,ls,os,rfl,pr,lt,λD H2 hD s2 hD2=> ?_⟩;refine ⟨_,rfl,p,_,dx,_,_,rfl,s2 _ _ e,T.am,T.bh,(by walk_at "lk"),l,rfl,⟨_,SqL.of (s2 _ _ hl)⟩,λD2 hE=> ?_⟩;refine A2o (K:=K) (a:=l) (D:=D2) (xs:=xl) (λi zs H3=>A0n H2 H3/\H3 D2=some (.lst zs)/\zs=((ls.take i).map (·.1)).map V.str) ⟨A0f hE,A0b,rfl⟩ (λi zs H3 ⟨s3,_⟩=>SqL.of (s3 _ _ (s2 _ _ hl))) ?_ ?_
  ·rintro i x zs H3 hy ⟨s3,hD3,rfl⟩;have hi:i<xl.length:=(Z03.mp hy).1;obtain ⟨le,hle,b,db,c,n,dn,rfl,eb,_,ec,_⟩:=B2s rl hy;refine ⟨True.intro,_,rfl,b,_,db,_,_,rfl,s3 _ _ (s2 _ _ eb),T.bp,T.bt,(by walk_at "lk"),hD3,A1j (by simp;lia),A0r s3 hE,A0b,?_⟩;rw [Z14,hle,Option.toList_some];simp
  ·rintro zs H3 ⟨s3,hD3,rfl⟩;rw [lxl,Z18] at hD3;refine ⟨D,D2,_,_,rfl,rfl,s3 _ _ hD2,hD3,A0g (by simp;lia),λq hq=> ?_⟩;have s4:=s2.trans (s3.trans (A0f (o:= .lst ((tb.map (·.1)).map V.str++(ls.map (·.1)).map V.str)) hq));refine k q _ ((s2.trans s3).free hq) s4 ?_;rw [show (arN tb ls).map V.str=(tb.map (·.1)).map V.str++(ls.map (·.1)).map V.str by simp [arN]];exact A0b
theorem B2e (T:Txt K mg t):A2e P w K mg base CX0 1 t.fh t.fj ["text"] D6g:=by
 refine T.kc.ok B1z (by walk_at "ln") (λcdv A outer s H vs Q E hr h=> ?_)
 ·obtain ⟨x,rfl,lx,k⟩:=h;refine ⟨_,(A0e (A0y (A9s (A5n B7n (pv 0) A3a (A1h _)) (B5s (A0q (B6p rfl) (by rfl) T.x4 PyProof.Rows.boot_all (A0a (A3l (N':=["sign"]) (ix:=(List.replicate 1 none)) rfl (A2m rfl (by decide +kernel) (by decide +kernel)) (A2n rfl) (D7b (pv 0)) (λ_ _ _ _=>(A0m (i:=0) C6r rfl (Or.inl rfl) (Or.inr rfl))) (λ_ _ _ _=>(B7b D1d D1d A3a (pv 0) A3a))) A0d)))))),?_⟩;by_cases hx:x=""
  ·have n0:(!(decide ((V.str x)=V.str "")))=false:=by rw [hx];decide
   have e:D2b x=false:=by unfold D2b;rw [Z20 hx];rfl
   refine ⟨_,rfl,rfl,false,congrArg V.bl n0,A3o ?_⟩;have:=k H (A0n.refl _);rw [e] at this;exact this
  have n0:(!(decide ((V.str x)=V.str "")))=true:=by
   rw [Z1j (λe=>hx (by injection e))];rfl
  refine ⟨_,rfl,rfl,true,congrArg V.bl n0,B4j ?_⟩;refine ⟨_,rfl,x,rfl,λD hD=> ?_⟩;have lc:x.cps.size<=4000:=lx;refine B0k (J:=Its x) (D:=D) x.cps.size (λi ys H2=>A0n H H2/\H2 D=some (.lst ys)/\ys=(((x.cps.toList.take i).map λc=>la c&&lz c).map V.bl)) ⟨A0f hD,A0b,rfl⟩ (λi ys H2 hi _=>hi) (λys H2 _=>rfl) ?_ ?_
  ·rintro i ys H2 hi ⟨s2,hD2,rfl⟩ v H3 ⟨rfl,c,hc,rfl⟩;have hc':x.cps.toList[i]? =some c:=by simpa using hc
   have lt:(((x.cps.toList.take i).map λc=>la c&&lz c).map V.bl).length<=4000:=by
    rw [Z08,Z08,Z0x]
    lia
   have nx:∀b:Bool,b=(la c&&lz c)->((x.cps.toList.take i).map λc=>la c&&lz c).map V.bl++[V.bl b]=((x.cps.toList.take (i+1)).map λc=>la c&&lz c).map V.bl:=λb hb=>by
    rw [Z14,hc',Option.toList_some,Z0s,Z0s,hb];rfl
   by_cases h1:la c=true
   ·refine ⟨True.intro,_,rfl,_,_,rfl,rfl,true,congrArg V.bl h1,B4j ⟨_,_,rfl,rfl,hD2,A1j (by lia),A0r s2 hD,A0b,?_⟩⟩;exact nx (lz c) (by rw [h1];rfl)
   ·have h1:la c=false:=by simpa using h1
    refine ⟨True.intro,_,rfl,_,_,rfl,rfl,false,congrArg V.bl h1,A3o ⟨hD2,A1j (by lia),A0r s2 hD,A0b,?_⟩⟩;exact nx false (by rw [h1];rfl)
  ·rintro ys H2 ⟨s2,hD2,rfl⟩;rw [show x.cps.size=x.cps.toList.length by simp,Z18] at hD2;refine ⟨D,x.cps.toList.map λc=>la c&&lz c,rfl,SqL.of hD2,?_⟩
   have e:D2b x=(x.cps.toList.map λc=>la c&&lz c).all id:=by
    unfold D2b;rw [Z1j hx,List.all_map];rfl
   rw [<-e];exact k H2 s2
theorem C3d (T:Txt K mg t):A2e P w K mg base CX0 2 t.tD t.tJ ["text"] D5l:=by
 have G_is_of_letters:= @B2e P w K mg base t T;refine T.v9.ok C3n (by walk_at "ln") (λcdv A outer s H vs Q E hr h=> ?_)
 ·obtain ⟨x,rfl,lx,k⟩:=h;have lzz:x.length<=sizeLine:=A0g (by lia);refine ⟨_,(A0e (A0y (A9s (A0l G_is_of_letters (hr.mono (by lia)) rfl T.u3 T.kc.kp T.u9 .nil A0z (A0a (pv 0) A0d)) (A9s (A5n C6t (A0q B9d (by rfl) T.cw Z0r (A0a (pv 0) A0d)) (B0g T.t_ rfl) (A1h _)) (B5s (A5n A3w (pv 0) (B0g T.sr rfl) (by with_unfolding_all rfl))))))),?_⟩;refine ⟨_,rfl,x,rfl,lx,λH1 s1=> ?_⟩;have kk:=k H1 s1;by_cases h1:D2b x=true
  ·refine ⟨true,congrArg V.bl h1,B4j ?_⟩;by_cases h2:x.length<=8
   ·have h2':((x.length:Nat):Int)<=8:=by lia
    refine ⟨_,rfl,x,rfl,lzz,_,_,rfl,rfl,true,congrArg V.bl (Z20 h2'),B4j ?_⟩;refine ⟨_,rfl,t.dq,[.str "if",.str "sum"],rfl,.inr (.inr T.rf),rfl,rfl,?_⟩
    have e:nmB x= !(inV (.str x) ((["if","sum"]:List Str).map V.str)):=by
     unfold nmB;rw [h1,Z20 h2,A5u];rfl
    rw [e] at kk;exact kk
   ·have h2':¬((x.length:Nat):Int)<=8:=by lia
    refine ⟨_,rfl,x,rfl,lzz,_,_,rfl,rfl,false,congrArg V.bl (Z1j h2'),A3o ?_⟩
    have e:nmB x=false:=by
     unfold nmB;rw [h1,Z1j h2];rfl
    rw [e] at kk;exact kk
  ·have h1:D2b x=false:=by simpa using h1
   refine ⟨false,congrArg V.bl h1,A3o ?_⟩;have e:nmB x=false:=by unfold nmB;rw [h1];rfl
   rw [e] at kk;exact kk
def B5q (p:Str->Prop) (ns:List Str):Prop:=∀i x,ns[i]? =some x->p x/\x∉ns.take i
def C6g (ns:List Str):Prop:=B5q (λx=>nmB x=true) ns
def C6l (kn os:List Str):Prop:=os≠[]/\B5q (λx=>x∈kn) os
def C2t (kn ys:List Str):Prop:=ys.length<=3/\B5q (λx=>x∈kn) ys
def D4n (A:Adr):Sp:=λvs H Q E=>∃(l:Addr) (ns:List Str),vs=[.ref l]/\H l=some (.lst (ns.map V.str))/\ns.length<=500/\OkN ns/\(C6g ns->∀H',A0n H H'->Q .non H')/\(¬C6g ns->∀H',A0n H H'->E (.ref A.iu) none H')
def D2h (A:Adr):Sp:=λvs H Q E=>∃(l k:Addr) (ys kn:List Str),vs=[.ref l,.ref k]/\H l=some (.lst (ys.map V.str))/\H k=some (.lst (kn.map V.str))/\ys.length<=500/\OkN ys/\(C6l kn ys->∀H',A0n H H'->Q .non H')/\(¬C6l kn ys->∀H',A0n H H'->E (.ref A.iu) none H')
def D6b (A:Adr):Sp:=λvs H Q E=>∃(l k:Addr) (ys kn:List Str),vs=[.ref l,.ref k]/\H l=some (.lst (ys.map V.str))/\H k=some (.lst (kn.map V.str))/\ys.length<=20/\OkN ys/\(C2t kn ys->∀H',A0n H H'->Q .non H')/\(¬C2t kn ys->∀H',A0n H H'->E (.ref A.ir) none H')
theorem B6n {p:Str->Prop} {ns:List Str} (h:∀j x,j<ns.length->ns[j]? =some x->p x/\x∉ns.take j):B5q p ns:=λi x e=>h i x (Z03.mp e).1 e
theorem D9f {ys:List Str} (ok:OkN ys):B0w ys<=ys.length*40004+3:=by
 unfold B0w;refine Nat.add_le_add_right ?_ 3
 induction ys with
 | nil=>simp
 | cons y r ih =>
  have h1:=(ok y (.head _)).2;have h2:=ih λz hz=>ok z (.tail _ hz);simp only [Z0p,List.sum_cons,Z0y]
  lia
theorem A8q (a b:Str):(a++b).length=a.length+b.length:=Str.length_append _ _
theorem A3y:(Str.empty:Str).length=0:=rfl
theorem B0p (T:Txt K mg t):A2e P w K mg base (CXD P w) 3 t.dg t.cx ["names"] (D4n t):=by
 have G_is_name:= @C3d P w K mg base t T;refine T.gh.okD A4f (by walk_at "ln") (λcdv A outer s H vs Q E hr h=> ?_)
 ·obtain ⟨l,ns,rfl,hl,ln,ok,kq,ke⟩:=h
  refine ⟨_,(A0e (A1x PassesOwn.leaving rfl (C0c rfl T.mf (A0a (pv 0) A0d)) (A4j (n:=2) rfl (A0u (A0m (i:=1) A4f.nd rfl (Or.inl rfl) (Or.inl rfl)) (A0u (A0m (i:=2) A4f.nd rfl (Or.inl rfl) (Or.inl rfl)) A2q)))
    (A0c (A1s (B2m (A2g (A0l G_is_name (hr.mono (by lia)) rfl T.wM T.v9.kp T.wV .nil A0z (A0a (pv 2) A0d))))
     (A0e (A2r A5k T.fu rfl T.iw rfl (A0a (A4e (A4v (pv 2) (A3n A5y))) A0d)))
     A0v)
    (A0e (A1s (A0x B0d (pv 2) (B0r B3s (pv 0) B2q (B3w (pv 1))) (by with_unfolding_all rfl))
     (A0e (A2r A5k T.fu rfl T.iw rfl (A0a (A4e (A4v (pv 2) (A3n A5y))) A0d)))
     A0v))))),?_⟩
  refine ⟨_,rfl,l,_,rfl,SqL.of hl,?_⟩;refine B5v (K:=K) (a:=l) (xs:=ns.map V.str) (λi σ H2=>∃o1 o2:Option V,σ=[some (.ref l),o1,o2]/\A0n H H2/\∀j x,j<i->ns[j]? =some x->nmB x=true/\x∉ns.take j) ⟨none,none,rfl,A0n.refl _,by intro j x h;lia⟩ (λi σ H2 ⟨_,_,_,s2,_⟩=>SqL.of (s2 _ _ hl)) ?_ ?_
  ·rintro i v σ H2 p hv ⟨o1,o2,rfl,s2,gd⟩ hp;rw [Z1z] at hv;obtain ⟨x,hx,rfl⟩:=Z0i.mp hv;have hi:i<ns.length:=(Z03.mp hx).1;obtain ⟨okx,lx⟩:=ok x (Z13 hx);have s3:=s2.trans (A0f (o:= .tup [.int (i:Nat),.str x]) hp);refine ⟨p,_,rfl,SqT.of A0b,rfl,_,_,rfl,_,_,rfl,rfl,?_⟩;refine ⟨_,rfl,x,rfl,lx,λH4 s4=>⟨_,rfl,D7v (λhb=> ?_) (λhb=> ?_)⟩⟩
   ·refine ⟨_,rfl,x,rfl,okx,A0g (by rw [A3y];lia),λz hz=>⟨A0g ?_,A0g ?_,A0g (by show 1<=1000000;decide),ke (λg=> ?_) H4 (s3.trans s4)⟩⟩
    ·have:(" is no name":Str).length<=20:=by decide +kernel
     rw [A8q,A8q,A3y];lia
    ·have:(" is no name":Str).length<=20:=by decide +kernel
     rw [A8q,A8q,A3y];lia
    ·have:=(g i x hx).1;rw [this] at hb;cases hb
   have s5:=s3.trans s4;refine ⟨_,rfl,_,rfl,_,rfl,_,rfl,l,_,rfl,SqL.of (s5 _ _ hl),λq hq=> ?_⟩;rw [B2i (Nat.le_of_lt hi)];have s6:A0n H4 (upd H4 q (.lst ((ns.take i).map V.str))):=A0f hq;refine ⟨q,(ns.take i).map V.str,rfl,.inl (SqL.of A0b),rfl,A3p _,_,rfl,?_⟩;rw [A5u];refine A8m (λhin=> ?_) (λhout=>⟨_,_,rfl,s5.trans s6,λj y hj hy=> ?_⟩)
   ·refine ⟨_,rfl,x,rfl,okx,A0g (by rw [A3y];lia),λz hz=>⟨A0g ?_,A0g ?_,A0g (by show 1<=1000000;decide),ke (λg=>(g i x hx).2 hin) _ (s5.trans s6)⟩⟩
    ·have:(" is told twice":Str).length<=20:=by decide +kernel
     rw [A8q,A8q,A3y];lia
    ·have:(" is told twice":Str).length<=20:=by decide +kernel
     rw [A8q,A8q,A3y];lia
   ·rcases Nat.lt_or_ge j i with h | h
    ·exact gd j y h hy
    ·have:j=i:=by lia
     subst this;rw [hx] at hy;cases hy;exact ⟨hb,hout⟩
  ·rintro σ H2 ⟨o1,o2,rfl,s2,gd⟩;rw [Z08] at gd;exact kq (B6n gd) H2 s2
theorem B9c (T:Txt K mg t):A2e P w K mg base (CXD P w) 1 t.md t.lj ["outs","names"] (D2h t):=by
 refine T.tS.okD A7r (by walk_at "ln") (λcdv A outer s H vs Q E hr h=> ?_)
 ·obtain ⟨l,kk,ys,kn,rfl,hl,hk,ly,ok,kq,ke⟩:=h
  refine ⟨_,(A0c (A1s (A0x A5l (A0q A1a (by rfl) T.cw Z0r (A0a (pv 0) A0d)) A0j (A1h _))
    (A0e (A2r A5k T.fu rfl T.iw rfl (A0a A3a A0d)))
    A0v)
   (A0e (A1x PassesOwn.leaving rfl (C0c rfl T.mf (A0a (pv 0) A0d)) (A4j (n:=2) rfl (A0u (A0m (i:=2) A7r.nd rfl (Or.inl rfl) (Or.inl rfl)) (A0u (A0m (i:=3) A7r.nd rfl (Or.inl rfl) (Or.inl rfl)) A2q)))
    (A0c (A1s (A0x A3w (pv 3) (pv 1) (by with_unfolding_all rfl))
     (A0e (A2r A5k T.fu rfl T.iw rfl (A0a (A4e (A3n (A4v (pv 3) (A3n A5y)))) A0d)))
     A0v)
    (A0e (A1s (A0x B0d (pv 3) (B0r B3s (pv 0) B2q (B3w (pv 2))) (by with_unfolding_all rfl))
     (A0e (A2r A5k T.fu rfl T.iw rfl (A0a (A4e (A3n (A4v (pv 3) (A3n A5y)))) A0d)))
     A0v)))))),?_⟩
  refine ⟨_,rfl,l,_,rfl,.inl (SqL.of hl),rfl,_,rfl,A8m (λh0=>⟨A0g (by show 1<=1000000;decide),ke (λg=>g.1 (List.eq_nil_of_length_eq_zero ?_)) _ (A0n.refl _)⟩) (λh0=> ?_)⟩
  ·have h0:((ys.map V.str).length:Int)=0:=by injection h0
   rw [Z08] at h0;lia
  have ne:ys≠[]:=λz=>h0 (by rw [z];rfl);refine ⟨_,rfl,l,_,rfl,SqL.of hl,?_⟩;refine B5v (K:=K) (a:=l) (xs:=ys.map V.str) (λi σ H2=>∃o1 o2:Option V,σ=[some (.ref l),some (.ref kk),o1,o2]/\A0n H H2/\∀j x,j<i->ys[j]? =some x->x∈kn/\x∉ys.take j) ⟨none,none,rfl,A0n.refl _,by intro j x h;lia⟩ (λi σ H2 ⟨_,_,_,s2,_⟩=>SqL.of (s2 _ _ hl)) ?_ ?_
  ·rintro i v σ H2 p hv ⟨o1,o2,rfl,s2,gd⟩ hp;rw [Z1z] at hv;obtain ⟨x,hx,rfl⟩:=Z0i.mp hv;have hi:i<ys.length:=(Z03.mp hx).1;obtain ⟨okx,lx⟩:=ok x (Z13 hx);have s3:=s2.trans (A0f (o:= .tup [.int (i:Nat),.str x]) hp);refine ⟨p,_,rfl,SqT.of A0b,rfl,_,_,rfl,_,_,rfl,rfl,?_⟩;refine ⟨_,rfl,_,rfl,kk,_,rfl,.inl (SqL.of (s3 _ _ hk)),rfl,A3p _,_,rfl,?_⟩;rw [A5u];refine B1c (λhno=> ?_) (λhyes=> ?_)
   ·refine ⟨A0g ?_,_,rfl,x,rfl,okx,A0g ?_,λz hz=>⟨A0g ?_,A0g ?_,A0g (by show 1<=1000000;decide),ke (λg=>hno (g.2 i x hx).1) _ s3⟩⟩
    ·have:("the out ":Str).length<=50:=by decide +kernel
     have:(" is no table and no let":Str).length<=50:=by decide +kernel
     simp only [A8q,A3y];lia
    ·have:("the out ":Str).length<=50:=by decide +kernel
     have:(" is no table and no let":Str).length<=50:=by decide +kernel
     simp only [A8q,A3y];lia
    ·have:("the out ":Str).length<=50:=by decide +kernel
     have:(" is no table and no let":Str).length<=50:=by decide +kernel
     simp only [A8q,A3y];lia
    ·have:("the out ":Str).length<=50:=by decide +kernel
     have:(" is no table and no let":Str).length<=50:=by decide +kernel
     simp only [A8q,A3y];lia
   refine ⟨_,rfl,_,rfl,_,rfl,_,rfl,l,_,rfl,SqL.of (s3 _ _ hl),λq hq=> ?_⟩;rw [B2i (Nat.le_of_lt hi)];have s6:=A0f (o:= .lst ((ys.take i).map V.str)) hq;refine ⟨q,(ys.take i).map V.str,rfl,.inl (SqL.of A0b),rfl,A3p _,_,rfl,?_⟩;rw [A5u];refine A8m (λhin=> ?_) (λhout=>⟨_,_,rfl,s3.trans s6,λj y hj hy=> ?_⟩)
   ·refine ⟨A0g ?_,_,rfl,x,rfl,okx,A0g ?_,λz hz=>⟨A0g ?_,A0g ?_,A0g (by show 1<=1000000;decide),ke (λg=>(g.2 i x hx).2 hin) _ (s3.trans s6)⟩⟩
    ·have:("the out ":Str).length<=50:=by decide +kernel
     have:(" is told twice":Str).length<=50:=by decide +kernel
     simp only [A8q,A3y];lia
    ·have:("the out ":Str).length<=50:=by decide +kernel
     have:(" is told twice":Str).length<=50:=by decide +kernel
     simp only [A8q,A3y];lia
    ·have:("the out ":Str).length<=50:=by decide +kernel
     have:(" is told twice":Str).length<=50:=by decide +kernel
     simp only [A8q,A3y];lia
    ·have:("the out ":Str).length<=50:=by decide +kernel
     have:(" is told twice":Str).length<=50:=by decide +kernel
     simp only [A8q,A3y];lia
   ·rcases Nat.lt_or_ge j i with h | h
    ·exact gd j y h hy
    ·have:j=i:=by lia
     subst this;rw [hx] at hy;cases hy;exact ⟨hyes,hout⟩
  ·rintro σ H2 ⟨o1,o2,rfl,s2,gd⟩;rw [Z08] at gd;exact kq ⟨ne,B6n gd⟩ H2 s2
theorem B9o (T:Txt K mg t):A2e P w K mg base (CXD P w) 1 t.m_ t.kg ["axes","known"] (D6b t):=by
 refine T.tV.okD A8f (by walk_at "ln") (λcdv A outer s H vs Q E hr h=> ?_)
 ·obtain ⟨l,kk,ys,kn,rfl,hl,hk,ly,ok,kq,ke⟩:=h
  refine ⟨_,(A0c (A1s (A0x B8n (A0q A1a (by rfl) T.cw Z0r (A0a (pv 0) A0d)) (B0g T.vx rfl) (A1h _))
    (A0e (A2r A5k T.c7 rfl T.cv rfl (A0a (A4e (D0m hr.gd hr.units0 (pv 0) (A3n A5y))) A0d)))
    A0v)
   (A0e (A1x PassesOwn.leaving rfl (C0c rfl T.mf (A0a (pv 0) A0d)) (A4j (n:=2) rfl (A0u (A0m (i:=2) A8f.nd rfl (Or.inl rfl) (Or.inl rfl)) (A0u (A0m (i:=3) A8f.nd rfl (Or.inl rfl) (Or.inl rfl)) A2q)))
    (A0c (A1s (A0x A3w (pv 3) (pv 1) (by with_unfolding_all rfl))
     (A0e (A2r A5k T.c7 rfl T.cv rfl (A0a (A4e (A4v (pv 3) (A3n A5y))) A0d)))
     A0v)
    (A0e (A1s (A0x B0d (pv 3) (B0r B3s (pv 0) B2q (B3w (pv 2))) (by with_unfolding_all rfl))
     (A0e (A2r A5k T.c7 rfl T.cv rfl (A0a (A4e (A3n (A4v (pv 3) (A3n A5y)))) A0d)))
     A0v)))))),?_⟩
  have rs:=D9f ok;refine ⟨_,rfl,l,_,rfl,.inl (SqL.of hl),_,_,rfl,rfl,_,rfl,A8m (λh0=> ?_) (λh0=> ?_)⟩
  ·have h3:3<ys.length:=by
    have h0:(3:Int)<((ys.map V.str).length:Nat):=h0;rw [Z08] at h0;lia
   have lit:(" are too many axes":Str).length<=30:=by decide +kernel
   refine ⟨_,rfl,l,ys,rfl,hl,(λz=>by rw [z] at h3;simp at h3),(λy hy=>(ok y hy).1),A0g (by rw [A3y];lia),λz hz=>⟨A0g ?_,A0g ?_,A0g (by show 1<=1000000;decide),ke (λg=>by have:=g.1;lia) _ (A0n.refl _)⟩⟩
   ·simp only [A8q,A3y];lia
   ·simp only [A8q,A3y];lia
  have l3:ys.length<=3:=by
   have h0:¬(3:Int)<((ys.map V.str).length:Nat):=h0;rw [Z08] at h0;lia
  refine ⟨_,rfl,l,_,rfl,SqL.of hl,?_⟩;refine B5v (K:=K) (a:=l) (xs:=ys.map V.str) (λi σ H2=>∃o1 o2:Option V,σ=[some (.ref l),some (.ref kk),o1,o2]/\A0n H H2/\∀j x,j<i->ys[j]? =some x->x∈kn/\x∉ys.take j) ⟨none,none,rfl,A0n.refl _,by intro j x h;lia⟩ (λi σ H2 ⟨_,_,_,s2,_⟩=>SqL.of (s2 _ _ hl)) ?_ ?_
  ·rintro i v σ H2 p hv ⟨o1,o2,rfl,s2,gd⟩ hp;rw [Z1z] at hv;obtain ⟨x,hx,rfl⟩:=Z0i.mp hv;have hi:i<ys.length:=(Z03.mp hx).1;obtain ⟨okx,lx⟩:=ok x (Z13 hx);have s3:=s2.trans (A0f (o:= .tup [.int (i:Nat),.str x]) hp);refine ⟨p,_,rfl,SqT.of A0b,rfl,_,_,rfl,_,_,rfl,rfl,?_⟩;refine ⟨_,rfl,_,rfl,kk,_,rfl,.inl (SqL.of (s3 _ _ hk)),rfl,A3p _,_,rfl,?_⟩;rw [A5u];refine B1c (λhno=> ?_) (λhyes=> ?_)
   ·refine ⟨_,rfl,x,rfl,okx,A0g ?_,λz hz=>⟨A0g ?_,A0g ?_,A0g (by show 1<=1000000;decide),ke (λg=>hno (g.2 i x hx).1) _ s3⟩⟩
    ·have:(" is no axis of the program":Str).length<=50:=by decide +kernel
     simp only [A8q,A3y];lia
    ·have:(" is no axis of the program":Str).length<=50:=by decide +kernel
     simp only [A8q,A3y];lia
    ·have:(" is no axis of the program":Str).length<=50:=by decide +kernel
     simp only [A8q,A3y];lia
   refine ⟨_,rfl,_,rfl,_,rfl,_,rfl,l,_,rfl,SqL.of (s3 _ _ hl),λq hq=> ?_⟩;rw [B2i (Nat.le_of_lt hi)];have s6:=A0f (o:= .lst ((ys.take i).map V.str)) hq;refine ⟨q,(ys.take i).map V.str,rfl,.inl (SqL.of A0b),rfl,A3p _,_,rfl,?_⟩;rw [A5u];refine A8m (λhin=> ?_) (λhout=>⟨_,_,rfl,s3.trans s6,λj y hj hy=> ?_⟩)
   ·refine ⟨A0g ?_,_,rfl,x,rfl,okx,A0g ?_,λz hz=>⟨A0g ?_,A0g ?_,A0g (by show 1<=1000000;decide),ke (λg=>(g.2 i x hx).2 hin) _ (s3.trans s6)⟩⟩
    ·have:("the axis ":Str).length<=50:=by decide +kernel
     have:(" comes twice in one list":Str).length<=50:=by decide +kernel
     simp only [A8q,A3y];lia
    ·have:("the axis ":Str).length<=50:=by decide +kernel
     have:(" comes twice in one list":Str).length<=50:=by decide +kernel
     simp only [A8q,A3y];lia
    ·have:("the axis ":Str).length<=50:=by decide +kernel
     have:(" comes twice in one list":Str).length<=50:=by decide +kernel
     simp only [A8q,A3y];lia
    ·have:("the axis ":Str).length<=50:=by decide +kernel
     have:(" comes twice in one list":Str).length<=50:=by decide +kernel
     simp only [A8q,A3y];lia
   ·rcases Nat.lt_or_ge j i with h | h
    ·exact gd j y h hy
    ·have:j=i:=by lia
     subst this;rw [hx] at hy;cases hy;exact ⟨hyes,hout⟩
  ·rintro σ H2 ⟨o1,o2,rfl,s2,gd⟩;rw [Z08] at gd;exact kq ⟨l3,B6n gd⟩ H2 s2
theorem C4x {k:Key}:∀{l:List (Key×V)},k∉l.map (·.1)->A4u l k=none
 | [],_=>rfl
 | p::r,h=>by
  have h1:¬p.1=k:=λz=>h (by rw [<-z];exact .head _);have h2:=C4x (l:=r) λz=>h (.tail _ z);unfold A4u at h2⊢;rw [List.find?_cons];simp only [Z1j h1];exact h2
theorem A6d:∀{ws acc:List (Key×V)},((acc++ws).map (·.1)).Nodup->A1b acc ws=acc++ws
 | [],acc,_=>by rw [Z0u];rfl
 | w::r,acc,h=>by
  have hn:w.1∉acc.map (·.1):=λz=>by
   rw [Z0s,Z0p] at h;exact (Z0l.mp h).2.2 _ z _ (.head _) rfl
  show A1b (A8p acc w.1 w.2) r=_;rw [C9r w.2 (C4x hn),A6d (by rw [Z0z];exact h),Z0z];rfl
structure D8p (ax:List (Str×Int)) (tb:List (Str×List Str)) (ls:List Lt) (os:List Str):Prop where
 la:ax.length<=100
 lt:tb.length<=100
 ll:ls.length<=100
 lo:os.length<=500
 on:OkN (axN ax++arN tb ls)
 oo:OkN os
 t:∀e∈arr tb ls,e.2.length<=20/\OkN e.2
def GdN (ax:List (Str×Int)) (tb:List (Str×List Str)) (ls:List Lt) (os:List Str):Prop:=C6g (axN ax++arN tb ls)/\C6l (arN tb ls) os
def GdS (ax:List (Str×Int)) (tb:List (Str×List Str)) (ls:List Lt):Prop:=∀e∈arr tb ls,C2t (axN ax) e.2
def C9j (A:Adr):Sp:=λvs H Q E=>∃(p:Addr) (wh:Int) (ax:List (Str×Int)) (tb:List (Str×List Str)) (ls:List Lt) (os:List Str),vs=[.ref p]/\B9n A H p wh ax tb ls os/\D8p ax tb ls os/\
 (GdN ax tb ls os->GdS ax tb ls->∀H',A0n H H'->Q .non H')/\(¬GdN ax tb ls os->∀H',A0n H H'->E (.ref A.iu) none H')/\(GdN ax tb ls os->¬GdS ax tb ls->∀H',A0n H H'->E (.ref A.ir) none H')
theorem D4a {p:Str->Prop} {ns:List Str} (h:B5q p ns):ns.Nodup:=by
 rw [List.Nodup,List.pairwise_iff_getElem];intro i j hi hj hij e;refine (h j ns[j] (Z0b hj)).2 ?_;rw [<-e];exact List.mem_iff_getElem.mpr ⟨i,by rw [Z0x];lia,List.getElem_take⟩
theorem B4g {S:Addr->Prop} {H:Hp}:∀{ws:List (Key×V)} {es:List (Str×List Str)},B9y S H ws es->ws.map (·.1)=es.map λe=>(Sum.inr e.1:Key)
 | _,_,.nil=>rfl
 | _,_,.cons ⟨h,_⟩ t=>by rw [Z0p,Z0p,B4g t,h]
theorem C5j (tb:List (Str×List Str)) (ls:List Lt):(arr tb ls).map (·.1)=arN tb ls:=by
 unfold arr arN;rw [Z0s,List.map_map];rfl
theorem B7o (T:Txt K mg t):A2e P w K mg base (CXD P w) 4 t.jy t.ji ["program"] (C9j t):=by
 have G_array_names:= @B4o P w K mg base t T;have G_arrays_of:= @B1u P w K mg base t T;have G_axis_names:= @B0s P w K mg base t T;have G_look_axes:= @B9o P w K mg base t T;have G_look_outs:= @B9c P w K mg base t T;have G_look_told_names:= @B0p P w K mg base t T;refine T.rg.okD A9x (by walk_at "ln") (λcdv A outer s H vs Q E hr h=> ?_)
 ·obtain ⟨p,wh,ax,tb,ls,os,rfl,pr,ok,kQ,kN,kS⟩:=h;obtain ⟨dx,a,tt,l,o,e,ra,rt,⟨xl,hl,rl⟩,ro⟩:=pr.ob;obtain ⟨o2,eo,ho⟩:=C9x ro;cases eo;have la:=ok.la;have lt:=ok.lt;have ll:=ok.ll
  refine ⟨_,(A0c (A2a (A0l G_look_told_names (hr.mono (by lia)) rfl T.sj T.gh.kp T.rb .nil A9f (A0a (A0t A8i (A0l G_axis_names (hr.mono (by lia)) rfl T.jb T.ft.kp T.jr .nil A0z (A0a (pv 0) A0d)) (A0l G_array_names (hr.mono (by lia)) rfl T.pf T.ig.kp T.pb .nil A0z (A0a (pv 0) A0d))) A0d)))
   (A0c (A2a (A0l G_look_outs (hr.mono (by lia)) rfl T.vL T.tS.kp T.vX .nil A9f (A0a (A0s (pv 0) rfl) (A0a (A0l G_array_names (hr.mono (by lia)) rfl T.pf T.ig.kp T.pb .nil A0z (A0a (pv 0) A0d)) A0d))))
   (A0c (A1x PassesOwn.leaving rfl (C6m (D1n PySem.F.plainAttrs_dict PySem.F.slot_dict_values PySem.F.type_dict_values C7d (A0l G_arrays_of (hr.mono (by lia)) rfl T.tP T.m5.kp T.tX .nil A0z (A0a (pv 0) A0d)))) (A0m (i:=1) A9x.nd rfl (Or.inl rfl) (Or.inl rfl))
    (A0e (A2a (A0l G_look_axes (hr.mono (by lia)) rfl T.wc T.tV.kp T.vG .nil A9f (A0a (pv 1) (A0a (A0l G_axis_names (hr.mono (by lia)) rfl T.jb T.ft.kp T.jr .nil A0z (A0a (pv 0) A0d)) A0d))))))
   (C8z A0v)))),?_⟩
  refine ⟨_,rfl,p,wh,ax,tb,ls,os,rfl,pr,la,λq1 H1 hq1 s1 h1=> ?_⟩;refine ⟨_,rfl,p,wh,ax,tb,ls,os,rfl,pr.same s1,lt,ll,λq2 H2 hq2 s2 h2=> ?_⟩;have z1:((axN ax).map V.str++(arN tb ls).map V.str)=(axN ax++arN tb ls).map V.str:=by simp
  have ln:(axN ax++arN tb ls).length<=300:=by simp [axN,arN];lia
  refine ⟨q1,q2,_,_,rfl,rfl,s2 _ _ h1,h2,A0g (by rw [Z06] at ln;rw [Z08,Z08];lia),λq3 hq3=> ?_⟩;rw [z1];have s3:=(s1.trans s2).trans (A0f (o:= .lst ((axN ax++arN tb ls).map V.str)) hq3);refine ⟨q3,_,rfl,A0b,by lia,ok.on,λg1 H4 s4=> ?_,λg1 H4 s4=>kN (λz=>g1 z.1) H4 (s3.trans s4)⟩;have s5:=s3.trans s4;refine ⟨_,rfl,p,_,dx,_,_,rfl,s5 _ _ e,T.am,T.ka,(by walk_at "lk"),_,rfl,p,wh,ax,tb,ls,os,rfl,pr.same s5,lt,ll,λq6 H6 hq6 s6 h6=> ?_⟩;have s7:=s5.trans s6;refine ⟨o,q6,os,_,rfl,s7 _ _ ho,h6,ok.lo,ok.oo,λg2 H8 s8=> ?_,λg2 H8 s8=>kN (λz=>g2 z.2) H8 (s7.trans s8)⟩;have s9:=s7.trans s8;have gN:GdN ax tb ls os:=⟨g1,g2⟩;refine ⟨_,rfl,p,wh,ax,tb,ls,os,rfl,pr.same s9,by lia,by lia,λqd ws Hd hqd sd hd arw=> ?_⟩
  have nk:A1b [] ws=ws:=by
   refine A6d ?_;rw [List.nil_append,B4g arw]
   have h1:((arr tb ls).map (·.1)).Nodup:=by
    rw [C5j];exact (Z0l.mp (D4a g1)).2.1
   rw [List.Nodup,List.pairwise_map] at h1⊢;exact h1.imp λhne z=>hne (by injection z)
  rw [nk] at hd;have s10:=s9.trans sd;refine ⟨.inr (.inr (.inl ⟨rfl,.inl ⟨ws,hd⟩⟩)),qd,ws,rfl,rfl,hd,λpv hpv=> ?_⟩;have nv:qd≠pv:=λz=>by subst z;rw [hd] at hpv;cases hpv
  refine ⟨pv,qd,ws,rfl,A0b,by rw [A0h nv];exact hd,λob=> ?_⟩
  have frq:∀b u,b≠qd->Hd b=some u->upd (upd Hd pv (B9k pv qd)) qd (.frz ob (.dK ws)) b=some u:=λb u hb e=>by
   rw [A0h hb];exact A0f hpv _ _ e
  have nq:∀b u,H b=some u->b≠qd:=λb u e z=>by
   subst z;have:=s9 _ _ e;rw [this] at hqd;cases hqd
  have S11:A0n H (upd (upd Hd pv (B9k pv qd)) qd (.frz ob (.dK ws))):=λb u e=>frq b u (nq b u e) (s10 _ _ e);refine C3q (a:=qd) (o:=ob) (kvs:=ws) (λi σ H2=>∃o1:Option V,σ=[some (.ref p),o1]/\A0n (upd (upd Hd pv (B9k pv qd)) qd (.frz ob (.dK ws))) H2/\∀j e,j<i->(arr tb ls)[j]? =some e->C2t (axN ax) e.2) ⟨none,rfl,A0n.refl _,by intro j e h;lia⟩ (λi σ H2 ⟨_,_,s2,_⟩=>s2 _ _ A0b) ?_ ?_
  ·rintro i kk v σ H2 hkv ⟨o1,rfl,s2,gd⟩;obtain ⟨ee,hee,_,c,ec,_,hc⟩:=B2s arw hkv;have ec:v= .ref c:=ec;subst ec;have cq:c≠qd:=A3j hc hd (by intro z;cases z);have hc2:=s2 _ _ (frq _ _ cq hc);obtain ⟨l20,okys⟩:=ok.t ee (Z13 hee);refine ⟨_,rfl,_,rfl,p,wh,ax,tb,ls,os,rfl,pr.same (S11.trans s2),la,λq3 H3 hq3 s3 h3=> ?_⟩;refine ⟨c,q3,ee.2,_,rfl,s3 _ _ hc2,h3,l20,okys,λg H4 s4=>⟨_,rfl,s2.trans (s3.trans s4),λj e hj he=> ?_⟩,λg H4 s4=>kS gN (λz=>g (z ee (Z13 hee))) H4 (S11.trans (s2.trans (s3.trans s4)))⟩;rcases Nat.lt_or_ge j i with h | h
   ·exact gd j e h he
   ·have:j=i:=by lia
    subst this;rw [hee] at he;cases he;exact g
  ·rintro σ H2 ⟨o1,rfl,s2,gd⟩;have hq0:H qd=none:=s9.free hqd;refine ⟨qd,ob,ws,s2 _ _ A0b,λo' u' z=> ?_,kQ gN (λe he=> ?_) _ (A0r (S11.trans s2) hq0)⟩
   ·have z':H qd=some _:=z;rw [hq0] at z';cases z'
   ·obtain ⟨j,hj,e2⟩:=List.mem_iff_getElem.mp he;refine gd j e ?_ (by rw [Z0b hj,e2]);rw [Paired.length arw];exact hj
theorem C9y {ws:List (Key×V)} {k:Key} (n:∀p∈ws,p.1≠k) (u:V):A8p ws k u=ws++[(k,u)]:=by
 unfold A8p;rw [Z0t];intro h;obtain ⟨p,hp,e⟩:=List.any_eq_true.mp h;exact n p hp (of_decide_eq_true e)
def shp (es:List (Str×List Str)) (a:Str):Option (List Str):=(es.find? λe=>decide (e.1=a)).map (·.2)
def B5p:Tm->List Str
 | .sum x b=>x::B5p b
 | _=>[]
def ixB (bd:List Str) (ix:List (Str×Int)):Bool:=ix.all λe=>decide (e.1="")||decide (e.1∈bd)
def C5k (es:List (Str×List Str)) (bd:List Str) (a:Str) (ix:List (Str×Int)):Option Bool:=match shp es a with
 | none=>some true
 | some zs=>if ix.length≠zs.length then some false else if ixB bd ix=true then none else some false
def pOk (kn:List Str) (es:List (Str×List Str)) (own:Str) (ys:List Str) (nt:Nat) (e:PT):Option Bool:=match e.1 with
 | .place x=>if x∈ys++e.2.1 then none else some false
 | .guard x _ _ _ _=>if x∈ys++e.2.1 then none else some false
 | .sum x _=>if x∈kn then (if x∈ys++e.2.1 then some false else none) else some false
 | .read a ix=>match C5k es (ys++e.2.1) a ix with
  | some b=>some b
  | none=>if a=own/\nt<e.2.1.length then some false else none
 | .num _=>none
 | .pair _ _ _=>none
def D2u (es:List (Str×List Str)) (l:Lt):List (Str×List Str):=es++[(l.1,l.2.1)]
def D2a (kn:List Str) (es:List (Str×List Str)) (l:Lt):Option Bool:=(prT l.2.2 [] []).findSome? (pOk kn (D2u es l) l.1 l.2.1 (B5p l.2.2).length)
def B6c (kn:List Str):List (Str×List Str)->List Lt->Option Bool
 | _,[]=>none
 | es,l::r=>match D2a kn es l with
  | some b=>some b
  | none=>B6c kn (D2u es l) r
def clsX (A:Adr):Bool->Addr
 | true=>A.iu
 | false=>A.ir
def Out (A:Adr) (r:Option Bool) (Q:VK) (E:XK) (H:Hp):Prop:=(r=none->∀H',A0n H H'->Q .non H')/\∀b,r=some b->∀H',A0n H H'->E (.ref (clsX A b)) none H'
theorem Out.of {A:Adr} {r:Option Bool} {Q:VK} {E:XK} {H H1:Hp} (h:Out A r Q E H) (s:A0n H H1):Out A r Q E H1:=⟨λz H' s'=>h.1 z H' (s.trans s'),λb z H' s'=>h.2 b z H' (s.trans s')⟩
def OkT:Tm->Prop
 | .num _=>True
 | .place x=>OkX x
 | .read a ix=>OkX a/\ix.length<=100/\∀e∈ix,OkX e.1
 | .sum x b=>OkX x/\OkT b
 | .pair _ l r=>OkT l/\OkT r
 | .guard x _ _ l r=>OkX x/\OkT l/\OkT r
theorem A6m:∀(u:Tm) (s:List Str) (g:List Gd),OkT u->∀e∈prT u s g,OkT e.1
 | .num _,s,g,h,e,he=>by rw [Z0w.mp he];exact h
 | .place _,s,g,h,e,he=>by rw [Z0w.mp he];exact h
 | .read _ _,s,g,h,e,he=>by rw [Z0w.mp he];exact h
 | .sum x b,s,g,h,e,he=>by
  rcases Z0e.mp he with rfl | he
  ·exact h
  ·exact A6m b _ _ h.2 e he
 | .pair k l r,s,g,h,e,he=>by
  rcases Z0e.mp he with rfl | he
  ·exact h
  ·rcases Z07.mp he with he | he
   ·exact A6m l _ _ h.1 e he
   ·exact A6m r _ _ h.2 e he
 | .guard x lo hi l r,s,g,h,e,he=>by
  rcases Z0e.mp he with rfl | he
  ·exact h
  ·rcases Z07.mp he with he | he
   ·exact A6m l _ _ h.2.1 e he
   ·exact A6m r _ _ h.2.2 e he
theorem B6d {S:Addr->Prop} {H:Hp} {a:Str}:∀{kvs:List (Key×V)} {es:List (Str×List Str)},B9y S H kvs es->(shp es a=none/\A4u kvs (Sum.inr a)=none)\/∃zs c,shp es a=some zs/\A4u kvs (Sum.inr a)=some (.ref c)/\H c=some (.lst (zs.map V.str))
 | _,_,.nil=> .inl ⟨rfl,rfl⟩
 | _,_,@Paired.cons _ _ _ p e _ _ ⟨ek,b,eb,_,hb⟩ t=>by
  by_cases he:e.1=a
  ·refine .inr ⟨e.2,b,by simp [shp,List.find?_cons,he],?_,hb⟩;rw [A3g (by rw [ek,he]),eb]
  ·have h1:∀r,shp (e::r) a=shp r a:=λr=>by simp [shp,List.find?_cons,he]
   rw [h1,A3r (λz=>he (by rw [ek] at z;injection z))];exact B6d t
def D0p (A:Adr):Sp:=λvs H Q E=>∃(x:Str) (b:Addr) (bs:List Str),vs=[.str x,.ref b]/\H b=some (.lst (bs.map V.str))/\OkX x/\Out A (if x∈bs then none else some false) Q E H
def D7d (A:Adr):Sp:=λvs H Q E=>∃(x:Str) (b k:Addr) (bs kn:List Str),vs=[.str x,.ref b,.ref k]/\H b=some (.lst (bs.map V.str))/\H k=some (.lst (kn.map V.str))/\OkX x/\Out A (if x∈kn then (if x∈bs then some false else none) else some false) Q E H
def D3q (A:Adr):Sp:=λvs H Q E=>∃(o dx l b d:Addr) (a:Str) (ix:List (Str×Int)) (bs:List Str) (kvs:List (Key×V)) (es:List (Str×List Str)),vs=[.ref o,.ref b,.ref d]/\H o=some (.ins A.ak dx [("array",.str a),("indexes",.ref l)])/\Rep H (.ref l) (A6j ix)/\H b=some (.lst (bs.map V.str))/\H d=some (.dK kvs)/\B9y (λ_=>True) H kvs es/\OkX a/\(∀e∈ix,OkX e.1)/\Out A (C5k es bs a ix) Q E H
def D6l (A:Adr):Sp:=λvs H Q _=>∃(v:V) (u:Tm),vs=[v]/\Ob A H v u/\dep u<=100/\∀(q:Addr) (H':Hp),H q=none->A0n H H'->H' q=some (.lst ((B5p u).map V.str))->Q (.ref q) H'
def D6e (A:Adr):Sp:=λvs H Q E=>∃(v y:V) (a:Str) (ix:List (Str×Int)) (ss:List Str) (gg:List Gd) (le:Lt),vs=[v,y]/\A4p A H v (.read a ix,ss,gg)/\B1y A (λ_=>True) H y le/\dep le.2.2<=100/\OkX le.1/\Out A (if a=le.1/\(B5p le.2.2).length<ss.length then some false else none) Q E H
def D3t (A:Adr):Sp:=λvs H Q E=>∃(v y:V) (d k:Addr) (e:PT) (le:Lt) (kn:List Str) (kvs:List (Key×V)) (es:List (Str×List Str)),vs=[v,y,.ref d,.ref k]/\A4p A H v e/\B1y A (λ_=>True) H y le/\le.2.1.length<=100/\dep le.2.2<=100/\OkX le.1/\H k=some (.lst (kn.map V.str))/\H d=some (.dK kvs)/\B9y (λ_=>True) H kvs es/\OkT e.1/\Out A (pOk kn es le.1 le.2.1 (B5p le.2.2).length e) Q E H
structure E0f (ax:List (Str×Int)) (tb:List (Str×List Str)) (ls:List Lt):Prop where
 la:ax.length<=100
 lt:tb.length<=100
 ll:ls.length<=100
 nd:(arN tb ls).Nodup
 l:∀e∈ls,e.2.1.length<=100/\OkX e.1/\OkT e.2.2/\dep e.2.2<=9/\nod e.2.2<=1000
def D0g (A:Adr):Sp:=λvs H Q E=>∃(p:Addr) (wh:Int) (ax:List (Str×Int)) (tb:List (Str×List Str)) (ls:List Lt) (os:List Str),vs=[.ref p]/\B9n A H p wh ax tb ls os/\E0f ax tb ls/\Out A (B6c (axN ax) tb ls) Q E H
theorem D6t {H:Hp}:∀{tb:List (Str×List Str)} {xs:List V},A5f H xs (tb.map C1x)->∃kvs,PL H xs kvs/\B9y (λ_=>True) H kvs tb
 | [],_,r=>by cases r;exact ⟨[],.nil,.nil⟩
 | e::tb,_,r=>by
  rw [Z0p] at r
  cases r with
  | cons a r =>
   obtain ⟨b,c,rfl,eb,ec⟩:=C9i a;obtain ⟨kvs,h1,h2⟩:=D6t r;exact ⟨(Sum.inr e.1,.ref c)::kvs,.cons ⟨b,rfl,eb⟩ h1,.cons ⟨rfl,c,rfl,True.intro,ec⟩ h2⟩
theorem A9u {S:Addr->Prop} {H H':Hp} {kvs:List (Key×V)} {es:List (Str×List Str)} (h:B9y S H kvs es) (s:A0n H H'):B9y S H' kvs es:=Paired.mapP h λ_ _ ⟨z1,b,z2,z3,z4⟩=>⟨z1,b,z2,z3,s _ _ z4⟩
theorem A6b {α:Type} {l:List α} {i:Nat} {x:α} (h:l[i]? =some x):l.drop i=x::l.drop (i+1):=by
 have hi:=(Z03.mp h).1;rw [List.drop_eq_getElem_cons hi,(Z03.mp h).2]
theorem A9r (T:Txt K mg t):A2e P w K mg base (CXD P w) 1 t.j9 t.jg ["axis","bound"] (D0p t):=by
 refine T.j8.okD B5z (by walk_at "ln") (λcdv A outer s H vs Q E hr h=> ?_)
 ·obtain ⟨x,b,bs,rfl,hb,⟨okx,lx⟩,ko⟩:=h
  refine ⟨_,(A0e (A1s (A0x A3w (pv 0) (pv 1) (by with_unfolding_all rfl))
    (A0e (A2r A5k T.c7 rfl T.cv rfl (A0a (A4e (A3n (A4v (pv 0) (A3n A5y)))) A0d)))
    A0v)),?_⟩
  have l1:("the axis ":Str).length<=50:=by decide +kernel
  have l2:(" is not bound":Str).length<=50:=by decide +kernel
  refine ⟨_,rfl,_,rfl,b,_,rfl,.inl (SqL.of hb),rfl,A3p _,_,rfl,?_⟩;rw [A5u];refine B1c (λhno=> ?_) (λhyes=>ko.1 (Z12 hyes) _ (A0n.refl _));refine ⟨A0g ?_,_,rfl,x,rfl,okx,A0g ?_,λz hz=>⟨A0g ?_,A0g ?_,A0g (by show 1<=1000000;decide),ko.2 false (Z0t hno) _ (A0n.refl _)⟩⟩ <;> (simp only [A8q,A3y];lia)
theorem C0y (T:Txt K mg t):A2e P w K mg base (CXD P w) 1 t.qm t.q9 ["axis","bound","known"] (D7d t):=by
 refine T.uF.okD C1e (by walk_at "ln") (λcdv A outer s H vs Q E hr h=> ?_)
 ·obtain ⟨x,b,kk,bs,kn,rfl,hb,hk,⟨okx,lx⟩,ko⟩:=h
  refine ⟨_,(A0c (A1s (A0x A3w (pv 0) (pv 2) (by with_unfolding_all rfl))
    (A0e (A2r A5k T.c7 rfl T.cv rfl (A0a (A4e (A4v (pv 0) (A3n A5y))) A0d)))
    A0v)
   (A0e (A1s (A0x B0d (pv 0) (pv 1) (by with_unfolding_all rfl))
    (A0e (A2r A5k T.c7 rfl T.cv rfl (A0a (A4e (A3n (A4v (pv 0) (A3n A5y)))) A0d)))
    A0v))),?_⟩
  have l1:("the axis ":Str).length<=50:=by decide +kernel
  have l2:(" of a sum is bound already":Str).length<=50:=by decide +kernel
  have l3:(" is no axis of the program":Str).length<=50:=by decide +kernel
  refine ⟨_,rfl,_,rfl,kk,_,rfl,.inl (SqL.of hk),rfl,A3p _,_,rfl,?_⟩;rw [A5u];refine B1c (λhno=> ?_) (λhyes=> ?_)
  ·refine ⟨_,rfl,x,rfl,okx,A0g ?_,λz hz=>⟨A0g ?_,A0g ?_,A0g (by show 1<=1000000;decide),ko.2 false (Z0t hno) _ (A0n.refl _)⟩⟩ <;> (simp only [A8q,A3y];lia)
  rw [Z12 hyes] at ko;refine ⟨_,rfl,_,rfl,b,_,rfl,.inl (SqL.of hb),rfl,A3p _,_,rfl,?_⟩;rw [A5u];refine A8m (λhin=> ?_) (λhout=>ko.1 (Z0t hout) _ (A0n.refl _));refine ⟨A0g ?_,_,rfl,x,rfl,okx,A0g ?_,λz hz=>⟨A0g ?_,A0g ?_,A0g (by show 1<=1000000;decide),ko.2 false (Z12 hin) _ (A0n.refl _)⟩⟩ <;> (simp only [A8q,A3y];lia)
theorem B7u (T:Txt K mg t):A2e P w K mg base (CXD P w) 2 t.ni t.mo ["read","bound","arrays"] (D3q t):=by
 have G_look_bound:= @A9r P w K mg base t T;refine T.tY.okD A6e (by walk_at "ln") (λcdv A outer s H vs Q E hr h=> ?_)
 ·obtain ⟨o,dx,l,b,d,a,ix,bs,kvs,es,rfl,ho,rl,hb,hd,aw,⟨oka,la'⟩,okx,ko⟩:=h;have hu:=B0b hr;obtain ⟨l',xs,el,hl,rs⟩:=A4w (show Rep H (.ref l) (.list (ix.map B7p)) from rl);cases el;have lxs:=rs.len;rw [Z08] at lxs
  refine ⟨_,(A0c (A0p (i:=3) A6e.nd rfl (Or.inl rfl) (A0s (pv 0) rfl))
   (A0c (A1s (D5c (C5a hu (pv 3) (pv 2)) (by with_unfolding_all rfl))
    (A0e (A2r A5k T.fu rfl T.iw rfl (A0a (A4e (A4v (pv 3) (A3n A5y))) A0d)))
    A0v)
   (A0c (A1s (A0x B7n (A0q A1a (by rfl) T.cw Z0r (A0a (A0s (pv 0) rfl) A0d)) (A0q A1a (by rfl) T.cw Z0r (A0a (A4c hu (pv 2) (pv 3) (λ_ _=>rfl)) A0d)) (A1h _))
    (A0e (A2r A5k T.c7 rfl T.cv rfl (A0a (A4e (A3n (A4v (pv 3) (A3n A5y)))) A0d)))
    A0v)
   (A0e (A1x PassesOwn.leaving rfl (A1k (A0s (pv 0) rfl)) (A4j (n:=2) rfl (A0u (A0m (i:=4) A6e.nd rfl (Or.inl rfl) (Or.inl rfl)) (A0u (A0m (i:=5) A6e.nd rfl (Or.inl rfl) (Or.inl rfl)) A2q)))
    (A0e (A1s (A0x B7n (pv 4) A3a (A1h _))
     (A0e (A2a (A0l G_look_bound (hr.mono (by lia)) rfl T.sO T.j8.kp T.sf .nil A9f (A0a (pv 4) (A0a (pv 1) A0d)))))
     A0v))))))),?_⟩
  have l1:(" is no table, no let ahead and not the let itself":Str).length<=90:=by decide +kernel
  have l2:("a read of ":Str).length<=90:=by decide +kernel
  have l3:(" has another number of indexes than the array axes":Str).length<=90:=by decide +kernel
  refine ⟨_,rfl,o,_,dx,_,_,rfl,ho,T.bo,T.b_,(by walk_at "lk"),?_⟩;rcases B6d (a:=a) aw with ⟨e1,e2⟩ | ⟨zs,c,e1,e2,hc⟩
  ·have g:B2l H d (.str a) none:= .inl ⟨kvs,Sum.inr a,.inl hd,rfl,e2.symm⟩;have er:C5k es bs a ix=some true:=by unfold C5k;rw [e1]
   refine ⟨_,rfl,_,rfl,d,_,rfl,g,_,rfl,B4j ?_⟩;refine ⟨_,rfl,a,rfl,oka,A0g ?_,λz hz=>⟨A0g ?_,A0g ?_,A0g (by show 1<=1000000;decide),ko.2 true er _ (A0n.refl _)⟩⟩ <;> (simp only [A8q,A3y];lia)
  have g:B2l H d (.str a) (some (.ref c)):= .inl ⟨kvs,Sum.inr a,.inl hd,rfl,e2.symm⟩;refine ⟨_,rfl,_,rfl,d,_,rfl,g,_,rfl,A3o ?_⟩;refine ⟨_,rfl,o,_,dx,_,_,rfl,ho,T.bo,T.cj,(by walk_at "lk"),l,_,rfl,.inl (SqL.of hl),_,rfl,_,rfl,d,_,rfl,g,c,_,rfl,.inl (SqL.of hc),rfl,_,rfl,B1c (λhne=> ?_) (λheq=> ?_)⟩
  ·have hne:ix.length≠zs.length:=λz=>hne (by rw [lxs,z,Z08]);have er:C5k es bs a ix=some false:=by unfold C5k;rw [e1];exact Z12 hne
   refine ⟨A0g ?_,_,rfl,a,rfl,oka,A0g ?_,λz hz=>⟨A0g ?_,A0g ?_,A0g (by show 1<=1000000;decide),ko.2 false er _ (A0n.refl _)⟩⟩ <;> (simp only [A8q,A3y];lia)
  have heq:ix.length=zs.length:=by have:=V.int.inj heq;rw [lxs,Z08] at this;lia
  have er:C5k es bs a ix=if ixB bs ix=true then none else some false:=by unfold C5k;rw [e1];exact Z0t (λz=>z heq)
  rw [er] at ko;refine ⟨_,rfl,o,_,dx,_,_,rfl,ho,T.bo,T.cj,(by walk_at "lk"),l,rfl,⟨_,SqL.of hl⟩,?_⟩;refine A1r (K:=K) (a:=l) (xs:=xs) (λi σ H2=>∃(o4 o5:Option V),σ=[some (.ref o),some (.ref b),some (.ref d),some (.str a),o4,o5]/\A0n H H2/\∀j e,j<i->ix[j]? =some e->e.1=""\/e.1∈bs) ⟨none,none,rfl,A0n.refl _,by intro j e h;lia⟩ (λi σ H2 _ ⟨_,_,_,s2,_⟩=>SqL.of (s2 _ _ hl)) ?_ ?_
  ·rintro i x σ H2 hx ⟨o4,o5,rfl,s2,gd⟩;obtain ⟨e,he,rx⟩:=B3u rs hx;obtain ⟨p,rfl,ep⟩:=D3k rx
   have nxt:(e.1=""\/e.1∈bs)->∀j e',j<i+1->ix[j]? =some e'->e'.1=""\/e'.1∈bs:=λh j e' hj he'=>by
    rcases Nat.lt_or_ge j i with hji | hji
    ·exact gd j e' hji he'
    ·have:j=i:=by lia
     subst this;rw [he] at he';cases he';exact h
   refine ⟨p,_,rfl,SqT.of (s2 _ _ ep),rfl,_,_,rfl,_,_,rfl,rfl,?_⟩;refine ⟨_,rfl,rfl,_,rfl,B1c (λhne=> ?_) (λheq=>⟨_,_,rfl,s2,nxt (.inl (V.str.inj heq))⟩)⟩;refine ⟨_,rfl,_,rfl,e.1,b,bs,rfl,s2 _ _ hb,okx e (Z13 he),λhq H3 s3=>⟨_,_,rfl,s2.trans s3,nxt (.inr ?_)⟩,λbb hbb H3 s3=> ?_⟩
   ·by_cases hin:e.1∈bs
    ·exact hin
    ·rw [Z0t hin] at hq;cases hq
   ·by_cases hin:e.1∈bs
    ·rw [Z12 hin] at hbb;cases hbb
    ·rw [Z0t hin] at hbb;cases hbb;refine ko.2 false (Z0t λz=> ?_) _ (s2.trans s3);have:=List.all_eq_true.mp z e (Z13 he);rcases Bool.or_eq_true_iff.mp this with z | z
     ·exact hne (by rw [of_decide_eq_true z])
     ·exact hin (of_decide_eq_true z)
  ·rintro σ H2 ⟨o4,o5,rfl,s2,gd⟩;refine ko.1 (Z12 (List.all_eq_true.mpr λe he=> ?_)) _ s2;obtain ⟨j,hj⟩:=List.getElem?_of_mem he;rcases gd j e (by rw [lxs];exact (Z03.mp hj).1) hj with z | z
   ·rw [Z20 z];rfl
   ·rw [Z20 z,Bool.or_true]
theorem B4q (T:Txt K mg t):A2e P w K mg base CX0 1 t.i6 t.gr ["term"] (D6l t):=by
 refine T.o_.ok A4n (by walk_at "ln") (λcdv A outer s H vs Q E hr h=> ?_)
 ·obtain ⟨v,u,rfl,ob,hd,k⟩:=h
  refine ⟨_,(A0c (A0p (i:=1) A4n.nd rfl (Or.inl rfl) (A2p A0d))
   (A0c (A0p (i:=2) A4n.nd rfl (Or.inl rfl) (pv 0))
   (A0c (D0j PassesOwn.never (A2g (A0q A1f (by rfl) T.ac Z0d (A0a (pv 2) (A0a (A3t (v:=V.ref t.bi) rfl T.wJ rfl) A0d))))
    (A0c (A2a (B4w Z0k Z0n Z0o A2x (pv 1) (A0a (A0s (pv 2) rfl) A0d)))
    (A0e (A0p (i:=2) A4n.nd rfl (Or.inl rfl) (A0s (pv 2) rfl)))))
   (A0e (A0y (pv 1)))))),?_⟩
  refine ⟨A0g (by simp),λl hl=> ?_⟩;have s1:A0n H (upd H l (.lst [])):=A0f hl;refine ⟨_,rfl,?_⟩;refine ⟨λm σ H2=>∃(rest:V) (u':Tm) (dn:List Str),σ=[some v,some (.ref l),some rest]/\Ob t H rest u'/\A0n H H2/\H2 l=some (.lst (dn.map V.str))/\dn++B5p u'=B5p u/\dn.length+dep u'<=100/\m=dep u',⟨dep u,v,u,[],rfl,ob,s1,A0b,rfl,by show 0+dep u<=100;lia,rfl⟩,?_⟩;rintro m σ H2 ⟨rest,u',dn,rfl,ob',s2,h2,ed,bd,rfl⟩
  cases id ob' with
  | @num o dd z eo =>
   have ty:A9o K H2 (.ref o) (.ref t.aj):= .ins (s2 _ _ eo) T.c6 T.al.ha T.al.hn T.al.htk T.al.hm;have e:dn=B5p u:=by rw [<-ed];exact (Z0u _).symm
   exact ⟨_,rfl,_,_,_,_,rfl,ty,A1e T.gw,false,rfl,A3o ⟨_,rfl,k l H2 hl s2 (by rw [<-e];exact h2)⟩⟩
  | @place o dd x eo =>
   have ty:A9o K H2 (.ref o) (.ref t.ah):= .ins (s2 _ _ eo) T.iq T.au.ha T.au.hn T.au.htk T.au.hm;have e:dn=B5p u:=by rw [<-ed];exact (Z0u _).symm
   exact ⟨_,rfl,_,_,_,_,rfl,ty,A1e T.ja,false,rfl,A3o ⟨_,rfl,k l H2 hl s2 (by rw [<-e];exact h2)⟩⟩
  | @read o dd ll x ix eo rp =>
   have ty:A9o K H2 (.ref o) (.ref t.ak):= .ins (s2 _ _ eo) T.bo T.a_.ha T.a_.hn T.a_.htk T.a_.hm;have e:dn=B5p u:=by rw [<-ed];exact (Z0u _).symm
   exact ⟨_,rfl,_,_,_,_,rfl,ty,A1e T.my,false,rfl,A3o ⟨_,rfl,k l H2 hl s2 (by rw [<-e];exact h2)⟩⟩
  | @pair o dd op v1 v2 ll r eo ob1 ob2 =>
   have e:dn=B5p u:=by rw [<-ed];exact (Z0u _).symm
   have ki:PySem.W.kitOne K (.ref (A9w t op)) (.ref t.bi)=some false:=by cases op with
    | plus=>exact T.tW
    | minus=>exact T.fq
    | times=>exact T.fq
   exact ⟨_,rfl,_,_,_,_,rfl,B2n T (s2 _ _ eo),A1e ki,false,rfl,A3o ⟨_,rfl,k l H2 hl s2 (by rw [<-e];exact h2)⟩⟩
  | @guard o dd x lo hi v1 v2 ll r eo ob1 ob2 =>
   have ty:A9o K H2 (.ref o) (.ref t.ae):= .ins (s2 _ _ eo) T.ay T.ap.ha T.ap.hn T.ap.htk T.ap.hm;have e:dn=B5p u:=by rw [<-ed];exact (Z0u _).symm
   exact ⟨_,rfl,_,_,_,_,rfl,ty,A1e T.jt,false,rfl,A3o ⟨_,rfl,k l H2 hl s2 (by rw [<-e];exact h2)⟩⟩
  | @sum o dd x v2 bb eo ob1 =>
   have ty:A9o K H2 (.ref o) (.ref t.bi):= .ins (s2 _ _ eo) T.fz T.br.ha T.br.hn T.br.htk T.br.hm;have bd:dn.length+(dep bb+1)<=100:=bd;refine ⟨_,rfl,_,_,_,_,rfl,ty,A1e T.qo,true,rfl,B4j ?_⟩;refine ⟨λσ' H'=>∃m',m'<dep (.sum x bb)/\∃(rest:V) (u':Tm) (dn:List Str),σ'=[some v,some (.ref l),some rest]/\Ob t H rest u'/\A0n H H'/\H' l=some (.lst (dn.map V.str))/\dn++B5p u'=B5p u/\dn.length+dep u'<=100/\m'=dep u',λσ' H' z=>z,?_⟩;refine ⟨_,rfl,.inl ⟨rfl,_,SqL.of h2⟩,_,rfl,o,_,dd,_,_,rfl,s2 _ _ eo,T.fz,T.gb,(by walk_at "lk"),l,_,_,rfl,rfl,h2,A1j (by rw [Z08];lia),?_⟩;have ol:o≠l:=λz=>by subst z;rw [hl] at eo;cases eo
   refine ⟨_,rfl,o,_,dd,_,_,rfl,by rw [A0h ol];exact s2 _ _ eo,T.fz,T.n_,(by walk_at "lk"),?_⟩;refine ⟨dep bb,by show dep bb<dep bb+1;lia,v2,bb,dn++[x],rfl,ob1,A0r s2 hl,by rw [A0b,Z0s];rfl,?_,?_,rfl⟩
   ·rw [<-ed,Z0z];rfl
   ·rw [Z06];show dn.length+1+dep bb<=100;lia
theorem C4z {α:Type} {f:α->Option Bool} {l:List α} {i:Nat} {x:α} (h:l[i]? =some x):(l.drop i).findSome? f=match f x with | some b=>some b | none=>(l.drop (i+1)).findSome? f:=by
 rw [A6b h,List.findSome?_cons];cases f x <;> rfl
theorem C4r {K:PySem.W.Frag} {t:Value} {c d:Addr} (h1:PySem.W.kitOne K t (.ref c)=some false) (h2:PySem.W.kitOne K t (.ref d)=some true):∀us,A2u ([c,d].map V.ref) us->PySem.W.kitAny K t us=some true:=λus r=>by
 cases r with
 | cons a r =>
  cases r with
  | cons b r =>
   cases r
   cases (show _=Value.ref c from a)
   cases (show _=Value.ref d from b)
   simp [PySem.W.kitAny,h1,h2]
theorem C7w {kn:List Str} {es:List (Str×List Str)} {l:Lt} {r:List Lt}:B6c kn es (l::r)=match D2a kn es l with | some b=>some b | none=>B6c kn (D2u es l) r:=rfl
theorem B2c (T:Txt K mg t):A2e P w K mg base (CXD P w) 2 t.fg t.eu ["part","let"] (D6e t):=by
 have G_sums_at_top:= @B4q P w K mg base t T;refine T.jz.okD A7e (by walk_at "ln") (λcdv A outer s H vs Q E hr h=> ?_)
 ·obtain ⟨v,y,a,ix,ss,gg,le,rfl,⟨pa,dx,tv,sl,gl,gs,rfl,e,ob,hs,hg,bg,bs,pg⟩,⟨b,db,c,tv2,_,rfl,eb,_,ec,ob2⟩,dl,⟨okn,ln⟩,ko⟩:=h;have l1:(" reads itself within a sum that does not stand at the top":Str).length<=90:=by decide +kernel
  cases ob with
  | @read o dd ll x ix eo rp =>
   refine ⟨_,(A0e (A1s (PW.pt (B2r (A0x A5l (A0s (A0s (pv 0) rfl) rfl) (A0s (pv 1) rfl) (A1h _)) (B0y (A0x B8n (A0q A1a (by rfl) T.cw Z0r (A0a (A0s (pv 0) rfl) A0d)) (A0q A1a (by rfl) T.cw Z0r (A0a (A0l G_sums_at_top (hr.mono (by lia)) rfl T.uM T.o_.kp T.uT .nil A0z (A0a (A0s (pv 1) rfl) A0d)) A0d)) (A1h _)))))
    (A0c (A0p (i:=2) A7e.nd rfl (Or.inl rfl) (A0s (pv 1) rfl))
    (A0e (A2r A5k T.c7 rfl T.cv rfl (A0a (A4e (A4v (pv 2) (A3n A5y))) A0d))))
    A0v)),?_⟩
   refine ⟨_,rfl,pa,_,dx,_,_,rfl,e,T.ao,T.bc,(by walk_at "lk"),o,_,dd,_,_,rfl,eo,T.bo,T.b_,(by walk_at "lk"),_,rfl,b,_,db,_,_,rfl,eb,T.bp,T.bt,(by walk_at "lk"),rfl,_,rfl,A8m (λheq=> ?_) (λhne=>A3o (ko.1 (Z0t λz=>hne (by rw [z.1])) _ (A0n.refl _)))⟩;have heq:a=le.1:=V.str.inj heq;refine ⟨_,rfl,pa,_,dx,_,_,rfl,e,T.ao,T.av,(by walk_at "lk"),sl,_,rfl,.inl (SqL.of hs),_,rfl,b,_,db,_,_,rfl,eb,T.bp,T.dz,(by walk_at "lk"),tv2,le.2.2,rfl,ob2,dl,λq H1 hq s1 h1=>⟨q,_,rfl,.inl (SqL.of h1),_,_,rfl,rfl,_,rfl,A8m (λhgt=> ?_) (λhle=> ?_)⟩⟩
   ·have hgt:(B5p le.2.2).length<ss.length:=by
     have hgt:(((B5p le.2.2).map V.str).length:Int)<((ss.map V.str).length:Int):=hgt;rw [Z08,Z08] at hgt;lia
    refine ⟨_,rfl,b,_,db,_,_,rfl,s1 _ _ eb,T.bp,T.bt,(by walk_at "lk"),?_⟩;refine ⟨_,rfl,le.1,rfl,okn,A0g ?_,λz hz=>⟨A0g ?_,A0g ?_,A0g (by show 1<=1000000;decide),ko.2 false (Z12 ⟨heq,hgt⟩) _ s1⟩⟩ <;> (simp only [A8q,A3y];lia)
   ·have hle:¬(B5p le.2.2).length<ss.length:=by
     have hle:¬(((B5p le.2.2).map V.str).length:Int)<((ss.map V.str).length:Int):=hle;rw [Z08,Z08] at hle;lia
    exact ko.1 (Z0t λz=>hle z.2) _ s1
theorem B8z (T:Txt K mg t):A2e P w K mg base (CXD P w) 3 t.kl t.mj ["part","let","arrays","known"] (D3t t):=by
 have G_look_bound:= @A9r P w K mg base t T;have G_look_own_read:= @B2c P w K mg base t T;have G_look_read:= @B7u P w K mg base t T;have G_look_sum:= @C0y P w K mg base t T;refine T.tN.okD A7o (by walk_at "ln") (λcdv A outer s H vs Q E hr h=> ?_)
 ·obtain ⟨v,y,d,kk,⟨u,ss,gg⟩,le,kn,kvs,es,rfl,pat,lat,lc,dl,okn,hk,hd,aw,okt,ko⟩:=h;obtain ⟨a,dx,tv,sl,gl,gs,rfl,e,ob,hs,hg,bg,bs,pg⟩:=id pat;obtain ⟨b,db,c,tv2,_,rfl,eb,_,ec,ob2⟩:=id lat;have ls:ss.length<=100:=by have bs:ss.length+dep u<=100:=bs;lia
  refine ⟨_,(A0c (A0p (i:=4) A7o.nd rfl (Or.inl rfl) (A0s (pv 0) rfl))
   (A0c (A0p (i:=5) A7o.nd rfl (Or.inl rfl) (A0t A8i (A0s (pv 1) rfl) (A0s (pv 0) rfl)))
   (A9a (A1s (A2g (A0q C4j (by rfl) T.ac Z0d (A0a (pv 4) (A0a (A3v (A0a (A3t (v:=V.ref t.ah) rfl T.xk rfl) (A0a (A3t (v:=V.ref t.ae) rfl T.ub rfl) A0d))) A0d))))
    (A0e (A2a (A0l G_look_bound (hr.mono (by lia)) rfl T.sO T.j8.kp T.sf .nil A9f (A0a (A0s (pv 4) rfl) (A0a (pv 5) A0d)))))
    A0v)
   (A9a (A1s (A2g (A0q A1f (by rfl) T.ac Z0d (A0a (pv 4) (A0a (A3t (v:=V.ref t.bi) rfl T.wJ rfl) A0d))))
    (A0e (A2a (A0l G_look_sum (hr.mono (by lia)) rfl T.wD T.uF.kp T.wB .nil A9f (A0a (A0s (pv 4) rfl) (A0a (pv 5) (A0a (pv 3) A0d))))))
    A0v)
   (A0e (A1s (A2g (A0q A1f (by rfl) T.ac Z0d (A0a (pv 4) (A0a (A3t (v:=V.ref t.ak) rfl T.wF rfl) A0d))))
    (A0c (A2a (A0l G_look_read (hr.mono (by lia)) rfl T.vM T.tY.kp T.vJ .nil A9f (A0a (pv 4) (A0a (pv 5) (A0a (pv 2) A0d)))))
    (A0e (A2a (A0l G_look_own_read (hr.mono (by lia)) rfl T.u6 T.jz.kp T.u0 .nil A9f (A0a (pv 0) (A0a (pv 1) A0d))))))
    A0v)))))),?_⟩
  refine ⟨_,rfl,a,_,dx,_,_,rfl,e,T.ao,T.bc,(by walk_at "lk"),?_⟩;refine ⟨_,rfl,b,_,db,_,_,rfl,eb,T.bp,T.cr,(by walk_at "lk"),_,rfl,a,_,dx,_,_,rfl,e,T.ao,T.av,(by walk_at "lk"),c,sl,_,_,rfl,rfl,ec,hs,A0g (by rw [Z08,Z08];lia),λl1 hl1=> ?_⟩;have z1:(le.2.1.map V.str++ss.map V.str)=(le.2.1++ss).map V.str:=by simp
  rw [z1];have s1:=A0f (o:= .lst ((le.2.1++ss).map V.str)) hl1;generalize hG:upd H l1 (.lst ((le.2.1++ss).map V.str))=G at s1⊢;have h1:G l1=some (.lst ((le.2.1++ss).map V.str)):=by rw [<-hG];exact A0b
  have skip:∀{C:Addr} {o dd:Addr} {fs:List (Str×V)} {G':Hp} {Q':VK},A0n G G'->G' o=some (.ins C dd fs)->True:=λ_ _=>True.intro;clear skip
  cases id ob with
  | @num o dd z eo0 =>
   have ty:∀{G':Hp},A0n H G'->A9o K G' (.ref o) (.ref t.aj):=λs=> .ins (s _ _ eo0) T.c6 T.al.ha T.al.hn T.al.htk T.al.hm;refine ⟨λσ' H'=>σ'=[some (.ref a),some (.ref b),some (.ref d),some (.ref kk),some (.ref o),some (.ref l1)]/\A0n H H',?_,?_⟩
   ·refine ⟨_,rfl,A0g (by show 2<=1000000;decide),λtp htp=> ?_⟩;have s2:=s1.trans (A0f (o:= .tup [.ref t.ah,.ref t.ae]) htp)
    exact ⟨o,_,dd,_,tp,_,false,rfl,s2 _ _ eo0,T.c6,T.al.ha,T.al.hn,T.al.htk,T.al.hm,A0b,A5t (cs:=[t.ah,t.ae]) (λc hc=>by
     rcases Z0e.mp hc with rfl | hc
     ·exact T.u7
     ·rw [Z0w.mp hc];exact T.j_),false,rfl,A3o ⟨rfl,s2⟩⟩
   rintro σ' H' ⟨rfl,s2⟩;refine ⟨λσ' H'=>σ'=[some (.ref a),some (.ref b),some (.ref d),some (.ref kk),some (.ref o),some (.ref l1)]/\A0n H H',?_,?_⟩
   ·exact ⟨_,rfl,_,_,_,_,rfl,ty s2,A1e T.gw,false,rfl,A3o ⟨rfl,s2⟩⟩
   rintro σ' H' ⟨rfl,s2⟩;exact ⟨_,rfl,_,_,_,_,rfl,ty s2,A1e T.ky,false,rfl,A3o (ko.1 rfl _ s2)⟩
  | @pair o dd op v1 v2 ll r eo0 ob1 ob2' =>
   have kiS:PySem.W.kitOne K (.ref (A9w t op)) (.ref t.bi)=some false:=by cases op with
    | plus=>exact T.tW
    | minus=>exact T.fq
    | times=>exact T.fq
   have kiR:PySem.W.kitOne K (.ref (A9w t op)) (.ref t.ak)=some false:=by cases op with
    | plus=>exact T.sU
    | minus=>exact T.dw
    | times=>exact T.dw
   have kiP:PySem.W.kitOne K (.ref (A9w t op)) (.ref t.ah)=some false:=by cases op with
    | plus=>exact T.uQ
    | minus=>exact T.mn
    | times=>exact T.mn
   have kiG:PySem.W.kitOne K (.ref (A9w t op)) (.ref t.ae)=some false:=by cases op with
    | plus=>exact T.uN
    | minus=>exact T.nh
    | times=>exact T.nh
   have tyc:TyC K (A9w t op):=by cases op with
    | plus=>exact T.sy
    | minus=>exact T.cg
    | times=>exact T.cg
   refine ⟨λσ' H'=>σ'=[some (.ref a),some (.ref b),some (.ref d),some (.ref kk),some (.ref o),some (.ref l1)]/\A0n H H',?_,?_⟩
   ·refine ⟨_,rfl,A0g (by show 2<=1000000;decide),λtp htp=> ?_⟩;have s2:=s1.trans (A0f (o:= .tup [.ref t.ah,.ref t.ae]) htp)
    exact ⟨o,_,dd,_,tp,_,false,rfl,s2 _ _ eo0,C5r T op,tyc.ha,tyc.hn,tyc.htk,tyc.hm,A0b,A5t (cs:=[t.ah,t.ae]) (λc hc=>by
     rcases Z0e.mp hc with rfl | hc
     ·exact kiP
     ·rw [Z0w.mp hc];exact kiG),false,rfl,A3o ⟨rfl,s2⟩⟩
   rintro σ' H' ⟨rfl,s2⟩;refine ⟨λσ' H'=>σ'=[some (.ref a),some (.ref b),some (.ref d),some (.ref kk),some (.ref o),some (.ref l1)]/\A0n H H',?_,?_⟩
   ·exact ⟨_,rfl,_,_,_,_,rfl,B2n T (s2 _ _ eo0),A1e kiS,false,rfl,A3o ⟨rfl,s2⟩⟩
   rintro σ' H' ⟨rfl,s2⟩;exact ⟨_,rfl,_,_,_,_,rfl,B2n T (s2 _ _ eo0),A1e kiR,false,rfl,A3o (ko.1 rfl _ s2)⟩
  | @place o dd x eo0 =>
   have ty:∀{G':Hp},A0n H G'->A9o K G' (.ref o) (.ref t.ah):=λs=> .ins (s _ _ eo0) T.iq T.au.ha T.au.hn T.au.htk T.au.hm;have ko:Out t (if x∈le.2.1++ss then none else some false) Q E H:=ko;refine ⟨λσ' H'=>σ'=[some (.ref a),some (.ref b),some (.ref d),some (.ref kk),some (.ref o),some (.ref l1)]/\A0n H H'/\(if x∈le.2.1++ss then none else some false)=(none:Option Bool),?_,?_⟩
   ·refine ⟨_,rfl,A0g (by show 2<=1000000;decide),λtp htp=> ?_⟩;have sT:=A0f (o:= .tup [.ref t.ah,.ref t.ae]) htp;have s2:=s1.trans sT;refine ⟨o,_,dd,_,tp,_,true,rfl,s2 _ _ eo0,T.iq,T.au.ha,T.au.hn,T.au.htk,T.au.hm,A0b,C8p (c:=t.ah) (cs:=[t.ae]) T.uj,true,rfl,B4j ?_⟩;exact ⟨_,rfl,o,_,dd,_,_,rfl,s2 _ _ eo0,T.iq,T.uO,(by walk_at "lk"),_,rfl,x,l1,_,rfl,sT _ _ h1,okt,λhq H3 s3=>⟨rfl,s2.trans s3,hq⟩,λbb hbb H3 s3=>ko.2 bb hbb _ (s2.trans s3)⟩
   rintro σ' H' ⟨rfl,s2,hq⟩;refine ⟨λσ' H'=>σ'=[some (.ref a),some (.ref b),some (.ref d),some (.ref kk),some (.ref o),some (.ref l1)]/\A0n H H',?_,?_⟩
   ·exact ⟨_,rfl,_,_,_,_,rfl,ty s2,A1e T.ja,false,rfl,A3o ⟨rfl,s2⟩⟩
   rintro σ' H' ⟨rfl,s2⟩;exact ⟨_,rfl,_,_,_,_,rfl,ty s2,A1e T.oy,false,rfl,A3o (ko.1 hq _ s2)⟩
  | @guard o dd x lo hi v1 v2 ll r eo0 ob1 ob2' =>
   have ty:∀{G':Hp},A0n H G'->A9o K G' (.ref o) (.ref t.ae):=λs=> .ins (s _ _ eo0) T.ay T.ap.ha T.ap.hn T.ap.htk T.ap.hm;have ko:Out t (if x∈le.2.1++ss then none else some false) Q E H:=ko;refine ⟨λσ' H'=>σ'=[some (.ref a),some (.ref b),some (.ref d),some (.ref kk),some (.ref o),some (.ref l1)]/\A0n H H'/\(if x∈le.2.1++ss then none else some false)=(none:Option Bool),?_,?_⟩
   ·refine ⟨_,rfl,A0g (by show 2<=1000000;decide),λtp htp=> ?_⟩;have sT:=A0f (o:= .tup [.ref t.ah,.ref t.ae]) htp;have s2:=s1.trans sT;refine ⟨o,_,dd,_,tp,_,true,rfl,s2 _ _ eo0,T.ay,T.ap.ha,T.ap.hn,T.ap.htk,T.ap.hm,A0b,C4r T.uz T.mh,true,rfl,B4j ?_⟩;exact ⟨_,rfl,o,_,dd,_,_,rfl,s2 _ _ eo0,T.ay,T.ia,(by walk_at "lk"),_,rfl,x,l1,_,rfl,sT _ _ h1,okt.1,λhq H3 s3=>⟨rfl,s2.trans s3,hq⟩,λbb hbb H3 s3=>ko.2 bb hbb _ (s2.trans s3)⟩
   rintro σ' H' ⟨rfl,s2,hq⟩;refine ⟨λσ' H'=>σ'=[some (.ref a),some (.ref b),some (.ref d),some (.ref kk),some (.ref o),some (.ref l1)]/\A0n H H',?_,?_⟩
   ·exact ⟨_,rfl,_,_,_,_,rfl,ty s2,A1e T.jt,false,rfl,A3o ⟨rfl,s2⟩⟩
   rintro σ' H' ⟨rfl,s2⟩;exact ⟨_,rfl,_,_,_,_,rfl,ty s2,A1e T.om,false,rfl,A3o (ko.1 hq _ s2)⟩
  | @sum o dd x v2 bb eo0 ob1 =>
   have ty:∀{G':Hp},A0n H G'->A9o K G' (.ref o) (.ref t.bi):=λs=> .ins (s _ _ eo0) T.fz T.br.ha T.br.hn T.br.htk T.br.hm;have ko:Out t (if x∈kn then (if x∈le.2.1++ss then some false else none) else some false) Q E H:=ko;refine ⟨λσ' H'=>σ'=[some (.ref a),some (.ref b),some (.ref d),some (.ref kk),some (.ref o),some (.ref l1)]/\A0n G H',?_,?_⟩
   ·refine ⟨_,rfl,A0g (by show 2<=1000000;decide),λtp htp=> ?_⟩;have s2:=A0f (o:= .tup [.ref t.ah,.ref t.ae]) htp
    exact ⟨o,_,dd,_,tp,_,false,rfl,s2 _ _ (s1 _ _ eo0),T.fz,T.br.ha,T.br.hn,T.br.htk,T.br.hm,A0b,A5t (cs:=[t.ah,t.ae]) (λc hc=>by
     rcases Z0e.mp hc with rfl | hc
     ·exact T.vj
     ·rw [Z0w.mp hc];exact T.ve),false,rfl,A3o ⟨rfl,s2⟩⟩
   rintro σ' H' ⟨rfl,s2⟩;refine ⟨λσ' H'=>σ'=[some (.ref a),some (.ref b),some (.ref d),some (.ref kk),some (.ref o),some (.ref l1)]/\A0n H H'/\(if x∈kn then (if x∈le.2.1++ss then some false else none) else some false)=(none:Option Bool),?_,?_⟩
   ·refine ⟨_,rfl,_,_,_,_,rfl,ty (s1.trans s2),A1e T.qo,true,rfl,B4j ?_⟩;exact ⟨_,rfl,o,_,dd,_,_,rfl,s2 _ _ (s1 _ _ eo0),T.fz,T.gb,(by walk_at "lk"),_,rfl,_,rfl,x,l1,kk,_,kn,rfl,s2 _ _ h1,s2 _ _ (s1 _ _ hk),okt.1,λhq H3 s3=>⟨rfl,s1.trans (s2.trans s3),hq⟩,λbb hbb H3 s3=>ko.2 bb hbb _ (s1.trans (s2.trans s3))⟩
   rintro σ' H' ⟨rfl,s2,hq⟩;exact ⟨_,rfl,_,_,_,_,rfl,ty s2,A1e T.tM,false,rfl,A3o (ko.1 hq _ s2)⟩
  | @read o dd ll x ix eo0 rp =>
   have ty:∀{G':Hp},A0n H G'->A9o K G' (.ref o) (.ref t.ak):=λs=> .ins (s _ _ eo0) T.bo T.a_.ha T.a_.hn T.a_.htk T.a_.hm;have ko:Out t (match C5k es (le.2.1++ss) x ix with | some b=>some b | none=>if x=le.1/\(B5p le.2.2).length<ss.length then some false else none) Q E H:=ko
   refine ⟨λσ' H'=>σ'=[some (.ref a),some (.ref b),some (.ref d),some (.ref kk),some (.ref o),some (.ref l1)]/\A0n G H',?_,?_⟩
   ·refine ⟨_,rfl,A0g (by show 2<=1000000;decide),λtp htp=> ?_⟩;have s2:=A0f (o:= .tup [.ref t.ah,.ref t.ae]) htp
    exact ⟨o,_,dd,_,tp,_,false,rfl,s2 _ _ (s1 _ _ eo0),T.bo,T.a_.ha,T.a_.hn,T.a_.htk,T.a_.hm,A0b,A5t (cs:=[t.ah,t.ae]) (λc hc=>by
     rcases Z0e.mp hc with rfl | hc
     ·exact T.uR
     ·rw [Z0w.mp hc];exact T.ot),false,rfl,A3o ⟨rfl,s2⟩⟩
   rintro σ' H' ⟨rfl,s2⟩;refine ⟨λσ' H'=>σ'=[some (.ref a),some (.ref b),some (.ref d),some (.ref kk),some (.ref o),some (.ref l1)]/\A0n G H',?_,?_⟩
   ·exact ⟨_,rfl,_,_,_,_,rfl,ty (s1.trans s2),A1e T.my,false,rfl,A3o ⟨rfl,s2⟩⟩
   rintro σ' H' ⟨rfl,s2⟩;have s12:=s1.trans s2;refine ⟨_,rfl,_,_,_,_,rfl,ty s12,A1e T.sv,true,rfl,B4j ?_⟩;refine ⟨_,rfl,_,rfl,_,rfl,o,dd,ll,l1,d,x,ix,_,kvs,es,rfl,s12 _ _ eo0,rp.same s12,s2 _ _ h1,s12 _ _ hd,A9u aw s12,okt.1,okt.2.2,λhq H3 s3=> ?_,λbb hbb H3 s3=>ko.2 bb (by rw [hbb]) _ (s12.trans s3)⟩;rw [hq] at ko;exact ⟨_,rfl,_,rfl,.ref a,.ref b,x,ix,ss,gg,le,rfl,pat.same (s12.trans s3),lat.same (s12.trans s3),dl,okn,ko.of (s12.trans s3)⟩
theorem B5x (T:Txt K mg t):A2e P w K mg base (CXD P w) 15 t.j7 t.jl ["program"] (D0g t):=by
 have G_axis_names:= @B0s P w K mg base t T;have G_look_part:= @B8z P w K mg base t T;have G_parts_of:= @A8u P w K mg base t T;refine T.qy.okD A4b (by walk_at "ln") (λcdv A outer s H vs Q E hr h=> ?_)
 ·obtain ⟨p,wh,ax,tb,ls,os,rfl,pr,ok,ko⟩:=h;have hu:=B0b hr;obtain ⟨dx,a,tt,l,o,e,ra,rt,⟨xl,hl,rl⟩,ro⟩:=pr.ob;obtain ⟨t2,xs,et,hx,rs⟩:=A4w (show Rep H (.ref tt) (.list (tb.map C1x)) from rt);cases et;have lxl:=Paired.length rl;have lt:=ok.lt;have ll:=ok.ll
  refine ⟨_,(A0c (A0p (i:=1) A4b.nd rfl (Or.inl rfl) (A0l G_axis_names (hr.mono (by lia)) rfl T.jb T.ft.kp T.jr .nil A0z (A0a (pv 0) A0d)))
   (A0c (A0p (i:=2) A4b.nd rfl (Or.inl rfl) (A3q (B5e rfl) (by rfl) T.tI PyProof.Rows.boot_dict (A0a (A0s (pv 0) rfl) A0d)))
   (A0e (A1x PassesOwn.leaving rfl (A1k (A0s (pv 0) rfl)) (A0m (i:=3) A4b.nd rfl (Or.inl rfl) (Or.inl rfl))
    (A0c (B1e hu (pv 2) (A0s (pv 3) rfl) (A0s (pv 3) rfl) rfl)
    (A0e (A1x PassesOwn.leaving rfl (A1k (A0l G_parts_of (hr.mono (by lia)) rfl T.pq T.j6.kp T.qr .nil A0z (A0a (A0s (pv 3) rfl) A0d))) (A0m (i:=4) A4b.nd rfl (Or.inl rfl) (Or.inl rfl))
     (A0e (A2a (A0l G_look_part (hr.mono (by lia)) rfl T.w8 T.tN.kp T.wb .nil A9f (A0a (pv 4) (A0a (pv 3) (A0a (pv 2) (A0a (pv 1) A0d)))))))))))))),?_⟩
  refine ⟨_,rfl,p,wh,ax,tb,ls,os,rfl,pr,ok.la,λq H1 hq s1 h1=> ?_⟩;obtain ⟨kvs,pl,aw⟩:=D6t (rs.same s1);have lkv:=Paired.length aw;refine ⟨_,rfl,p,_,dx,_,_,rfl,s1 _ _ e,T.am,T.bj,(by walk_at "lk"),tt,xs,_,rfl,s1 _ _ hx,pl,λad had=> ?_⟩;have nd0:(tb.map (·.1)).Nodup:=(Z0l.mp ok.nd).1
  have nk:A1b [] kvs=kvs:=by
   refine A6d ?_;rw [List.nil_append,B4g aw];have h1:=nd0;rw [List.Nodup,List.pairwise_map] at h1⊢;exact h1.imp λhne z=>hne (by injection z)
  rw [nk];have adH:H ad=none:=s1.free had;have aq:ad≠q:=(A0k h1 had).symm;have s2:=s1.trans (A0f (o:= .dK kvs) had);refine ⟨_,rfl,p,_,dx,_,_,rfl,s2 _ _ e,T.am,T.bh,(by walk_at "lk"),l,rfl,⟨_,SqL.of (s2 _ _ hl)⟩,?_⟩
  refine A1r (K:=K) (a:=l) (xs:=xl) (λi σ H2=>∃(o3 o4:Option V) (m:List (Key×V)),σ=[some (.ref p),some (.ref q),some (.ref ad),o3,o4]/\A0n H H2/\H2 q=some (.lst ((axN ax).map V.str))/\H2 ad=some (.dK m)/\B9y (λ_=>True) H2 m (tb++(ls.take i).map λe=>(e.1,e.2.1))/\B6c (axN ax) (tb++(ls.take i).map λe=>(e.1,e.2.1)) (ls.drop i)=B6c (axN ax) tb ls)
   ⟨none,none,kvs,rfl,s2,A0f had _ _ h1,A0b,by rw [List.take_zero,List.map_nil,Z0u];exact A9u aw (A0f had),by rw [List.take_zero,List.map_nil,Z0u,List.drop_zero]⟩ (λi σ H2 _ ⟨_,_,_,_,s2,_⟩=>SqL.of (s2 _ _ hl)) ?_ ?_
  ·rintro i y σ H2 hy ⟨o3,o4,m,rfl,s3,q3,a3,aw3,el⟩;obtain ⟨le,hle,lat⟩:=B2s rl hy;obtain ⟨b,db,c,tv,_,rfl,eb,_,ec,ob⟩:=id lat;obtain ⟨k1,k2,k3,k4,k5⟩:=ok.l le (Z13 hle);have lm:=Paired.length aw3;rw [Z06,Z08,Z0x] at lm;refine ⟨_,rfl,b,_,db,_,_,rfl,s3 _ _ eb,T.bp,T.cr,(by walk_at "lk"),_,rfl,_,rfl,b,_,db,_,_,rfl,s3 _ _ eb,T.bp,T.bt,(by walk_at "lk"),ad,_,rfl,C8i.k (k:=Sum.inr le.1) a3 (A1j (by lia)),?_⟩
   have kn':∀pp∈m,pp.1≠Sum.inr le.1:=λpp hpp z=>by
    obtain ⟨j,hj⟩:=List.getElem?_of_mem hpp;obtain ⟨e',he',ek,_⟩:=B2s aw3 hj;have ek:pp.1=Sum.inr e'.1:=ek;rw [z] at ek;injection ek with ek;have nd:=ok.nd;have sub:List.Sublist (tb.map (·.1)++(ls.take (i+1)).map (·.1)) (arN tb ls):=(List.Sublist.refl _).append ((List.take_sublist _ _).map _);have nd2:=List.Pairwise.sublist sub nd;rw [Z14,hle,Option.toList_some,Z0s,<-Z0z] at nd2;refine (Z0l.mp nd2).2.2 le.1 ?_ le.1 (.head _) rfl;have hm:e'.1∈(tb++(ls.take i).map λe=>(e.1,e.2.1)).map (·.1):=Z2c.mpr ⟨e',Z13 he',rfl⟩
    rw [Z0s,List.map_map] at hm;rw [ek];exact hm
   rw [C9y kn'];have s4:A0n H (upd H2 ad (.dK (m++[(Sum.inr le.1,.ref c)]))):=A0r s3 adH;have q4:upd H2 ad (.dK (m++[(Sum.inr le.1,.ref c)])) q=some (.lst ((axN ax).map V.str)):=by rw [A0h aq.symm];exact q3
   have a4:upd H2 ad (.dK (m++[(Sum.inr le.1,.ref c)])) ad=some (.dK (m++[(Sum.inr le.1,.ref c)])):=A0b;have aw4:B9y (λ_=>True) (upd H2 ad (.dK (m++[(Sum.inr le.1,.ref c)]))) (m++[(Sum.inr le.1,.ref c)]) (D2u (tb++(ls.take i).map λe=>(e.1,e.2.1)) le):=D7h (Paired.mapP aw3 λ_ _ ⟨z1,b',z2,z3,z4⟩=>⟨z1,b',z2,z3,by rw [A0h (A3j z4 a3 (by intro z;cases z))];exact z4⟩) (.cons ⟨rfl,c,rfl,True.intro,s4 _ _ ec⟩ .nil);generalize upd H2 ad (.dK (m++[(Sum.inr le.1,.ref c)]))=H4 at s4 q4 a4 aw4
   have ees:D2u (tb++(ls.take i).map λe=>(e.1,e.2.1)) le=tb++(ls.take (i+1)).map λe=>(e.1,e.2.1):=by
    unfold D2u;rw [Z14,hle,Option.toList_some,Z0s,<-Z0z];rfl
   rw [A6b hle,C7w] at el;refine ⟨_,rfl,b,_,db,_,_,rfl,s4 _ _ eb,T.bp,T.dz,(by walk_at "lk"),tv,le.2.2,rfl,ob.imp s4,k4,k5,λqq ps H5 hqq s5 h5 pp=>⟨qq,rfl,⟨_,SqL.of h5⟩,?_⟩⟩;have lpp:=Paired.length pp
   refine A1r (K:=K) (a:=qq) (xs:=ps) (λj σ H6=>∃(o4:Option V),σ=[some (.ref p),some (.ref q),some (.ref ad),some (.ref b),o4]/\A0n H5 H6/\((prT le.2.2 [] []).drop j).findSome? (pOk (axN ax) (D2u (tb++(ls.take i).map λe=>(e.1,e.2.1)) le) le.1 le.2.1 (B5p le.2.2).length)=D2a (axN ax) (tb++(ls.take i).map λe=>(e.1,e.2.1)) le)
    ⟨o4,rfl,A0n.refl _,by rw [List.drop_zero];rfl⟩ (λj σ H6 _ ⟨_,_,s6,_⟩=>SqL.of (s6 _ _ h5)) ?_ ?_
   ·rintro j z σ H6 hz ⟨o4,rfl,s6,ef⟩;obtain ⟨uu,huu,tat⟩:=B2s pp hz;have s7:=s4.trans (s5.trans s6);have s57:=s5.trans s6;rw [C4z huu] at ef;refine ⟨_,rfl,_,rfl,_,rfl,_,rfl,z,.ref b,ad,q,uu,le,axN ax,_,_,rfl,tat.same s6,lat.same s7,by lia,by lia,k2,s57 _ _ q4,s57 _ _ a4,A9u aw4 s57,A6m _ _ _ k3 uu (Z13 huu),λhn H8 s8=>⟨_,rfl,s6.trans s8,by rw [hn] at ef;exact ef⟩,λbb hbb H8 s8=> ?_⟩;rw [hbb] at ef;rw [<-ef] at el;exact ko.2 bb el.symm _ (s7.trans s8)
   ·rintro σ H6 ⟨o4,rfl,s6,ef⟩;rw [lpp,List.drop_length] at ef;have ef:D2a (axN ax) (tb++(ls.take i).map λe=>(e.1,e.2.1)) le=none:=ef.symm;rw [ef,ees] at el;have s57:=s5.trans s6;refine ⟨_,_,_,rfl,s4.trans s57,s57 _ _ q4,s57 _ _ a4,?_,el⟩;rw [<-ees];exact A9u aw4 s57
  ·rintro σ H2 ⟨o3,o4,m,rfl,s3,_,_,_,el⟩;rw [lxl,List.drop_length] at el;exact ko.1 el.symm _ s3
def prd (L:Str->Int) (ys:List Str):Int:=ys.foldl (λc y=>c*L y) 1
theorem B2k (L:Str->Int) (ys:List Str) (y:Str):prd L (ys++[y])=prd L ys*L y:=by unfold prd;rw [List.foldl_append];rfl
def A7g (lk:List (Key×V)) (L:Str->Int) (ys:List Str):Prop:=∀y∈ys,A4u lk (Sum.inr y)=some (.int (L y))/\0<=L y/\L y<=60
def D8a (A:Adr):Sp:=λvs H Q _=>∃(p:Addr) (wh:Int) (ax:List (Str×Int)) (tb:List (Str×List Str)) (ls:List Lt) (os:List Str),vs=[.ref p]/\B9n A H p wh ax tb ls os/\∀q,H q=none->Q (.ref q) (upd H q (.dK (A1b [] (B6r ax))))
def C8t:Sp:=λvs H Q _=>∃(l d:Addr) (ys:List Str) (lk:List (Key×V)) (L:Str->Int),vs=[.ref l,.ref d]/\H l=some (.lst (ys.map V.str))/\H d=some (.dK lk)/\A7g lk L ys/\ys.length<=1000/\∀(q:Addr) (H':Hp),H q=none->A0n H H'->H' q=some (.lst (ys.map λy=>V.int (L y)))->Q (.ref q) H'
def C2y:Sp:=λvs H Q _=>∃(l d:Addr) (ys:List Str) (lk:List (Key×V)) (L:Str->Int),vs=[.ref l,.ref d]/\H l=some (.lst (ys.map V.str))/\H d=some (.dK lk)/\A7g lk L ys/\ys.length<=1000/\∀(H':Hp),A0n H H'->Q (.int (prd L ys)) H'
def wkL (L:Str->Int) (e:Lt):Int:=((prT e.2.2 [] []).map λq=>prd L (e.2.1++q.2.1)).sum
def wrk (L:Str->Int) (tb:List (Str×List Str)) (ls:List Lt):Int:=(tb.map λe=>prd L e.2).sum+(ls.map (wkL L)).sum
structure D8k (lk:List (Key×V)) (L:Str->Int) (tb:List (Str×List Str)) (ls:List Lt):Prop where
 lt:tb.length<=100
 ll:ls.length<=100
 t:∀e∈tb,e.2.length<=10/\A7g lk L e.2
 l:∀e∈ls,e.2.1.length<=10/\A7g lk L e.2.1/\dep e.2.2<=9/\nod e.2.2<=1000/\∀q∈prT e.2.2 [] [],A7g lk L q.2.1
def D4v (A:Adr):Sp:=λvs H Q _=>∃(p:Addr) (wh:Int) (ax:List (Str×Int)) (tb:List (Str×List Str)) (ls:List Lt) (os:List Str) (L:Str->Int),vs=[.ref p]/\B9n A H p wh ax tb ls os/\D8k (A1b [] (B6r ax)) L tb ls/\∀H',A0n H H'->Q (.int (wrk L tb ls)) H'
def D9g (A:Adr):Sp:=λvs H Q E=>∃(p:Addr) (wh:Int) (ax:List (Str×Int)) (tb:List (Str×List Str)) (ls:List Lt) (os:List Str) (L:Str->Int),vs=[.ref p]/\B9n A H p wh ax tb ls os/\D8k (A1b [] (B6r ax)) L tb ls/\Sm (wrk L tb ls)/\(wrk L tb ls<=4000->∀H',A0n H H'->Q .non H')/\(4000<wrk L tb ls->∀H',A0n H H'->E (.ref A.ag) none H')
theorem B0c (T:Txt K mg t):A2e P w K mg base CX0 1 t.j3 t.jk ["program"] (D8a t):=by
 refine T.je.ok B7g (by walk_at "ln") (λcdv A outer s H vs Q E hr h=> ?_)
 ·obtain ⟨p,wh,ax,tb,ls,os,rfl,pr,k⟩:=h;obtain ⟨dx,a,tt,l,o,e,ra,_⟩:=pr.ob;obtain ⟨a2,xs,ea,hx,rs⟩:=A4w (show Rep H (.ref a) (.list (ax.map B7p)) from ra);cases ea;refine ⟨_,(A0e (A0y (A3q (B5e rfl) (by rfl) T.tI PyProof.Rows.boot_dict (A0a (A0s (pv 0) rfl) A0d)))),?_⟩;exact ⟨_,rfl,p,_,dx,_,_,rfl,e,T.am,T.fb,(by walk_at "lk"),a,xs,_,rfl,hx,D5f rs,k⟩
theorem A4y (T:Txt K mg t):A2e P w K mg base CX0 1 t.e_ t.fm ["axes","lengths"] C8t:=by
 refine T.cm.ok B2d (by walk_at "ln") (λcdv A outer s H vs Q E hr h=> ?_)
 ·obtain ⟨l,d,ys,lk,L,rfl,hl,hd,tl,ly,k⟩:=h;have hu:=B0b hr;refine ⟨_,(A0e (A0y (A3l (N':=["axis","lengths"]) (ix:=(List.replicate 1 none++[some 1])) rfl (A6v (x:="lengths") rfl rfl rfl (by decide +kernel) (by decide +kernel)) (A5s (N0:=["axis"]) rfl (Or.inl rfl) (by first | exact Or.inl rfl | exact Or.inr rfl | (simp [relabel];rfl) | (with_unfolding_all exact Or.inl rfl) | (with_unfolding_all exact Or.inr rfl) | (with_unfolding_all decide))) (A1k (pv 0)) (λ_ _ _ _=>(A0m (i:=0) C7n rfl (Or.inl rfl) (Or.inr rfl))) (λ_ _ _ _=>(A4c hu (pv 1) (pv 0) (λ_ _=>rfl)))))),?_⟩;refine ⟨_,rfl,l,rfl,⟨_,SqL.of hl⟩,λD hD=> ?_⟩;refine A2o (K:=K) (a:=l) (D:=D) (xs:=ys.map V.str) (λi zs H2=>A0n H H2/\H2 D=some (.lst zs)/\zs=(ys.take i).map λy=>V.int (L y)) ⟨A0f hD,A0b,rfl⟩ (λi zs H2 ⟨s2,_⟩=>SqL.of (s2 _ _ hl)) ?_ ?_
  ·rintro i x zs H2 hx ⟨s2,hD2,rfl⟩;rw [Z1z] at hx;obtain ⟨y,hy,rfl⟩:=Z0i.mp hx;have g:=B2l.k (H:=H2) (a:=d) (k:=Sum.inr y) (s2 _ _ hd);rw [(tl y (Z13 hy)).1] at g;refine ⟨⟨rfl,True.intro⟩,_,rfl,_,rfl,d,_,rfl,g,hD2,A1j (by simp;lia),A0r s2 hD,A0b,?_⟩;rw [Z14,hy,Option.toList_some,Z0s];rfl
  ·rintro zs H2 ⟨s2,hD2,rfl⟩;rw [Z08,Z18] at hD2;exact k D H2 hD s2 hD2
theorem B5u (T:Txt K mg t):A2e P w K mg base CX0 2 t.jo t.iy ["axes","lengths"] C2y:=by
 have G_lengths_along:= @A4y P w K mg base t T;refine T.j4.ok A5d (by walk_at "ln") (λcdv A outer s H vs Q E hr h=> ?_)
 ·obtain ⟨l,d,ys,lk,L,rfl,hl,hd,tl,ly,k⟩:=h
  refine ⟨_,(A0c (A0p (i:=2) A5d.nd rfl (Or.inl rfl) A0j)
   (A0c (A1x PassesOwn.never rfl (A1k (A0l G_lengths_along (hr.mono (by lia)) rfl T.fc T.cm.kp T.fk .nil A0z (A0a (pv 0) (A0a (pv 1) A0d)))) (A0m (i:=3) A5d.nd rfl (Or.inl rfl) (Or.inl rfl))
    (A0e (A0p (i:=2) A5d.nd rfl (Or.inl rfl) (A0t B3t (pv 2) (pv 3)))))
   (A0e (A0y (pv 2))))),?_⟩
  refine ⟨_,rfl,_,rfl,l,d,ys,lk,L,rfl,hl,hd,tl,ly,λq H1 hq s1 h1=>⟨q,rfl,⟨_,SqL.of h1⟩,?_⟩⟩;refine A1r (K:=K) (a:=q) (xs:=ys.map λy=>V.int (L y)) (λi σ H2=>H1=H2/\∃o3:Option V,σ=[some (.ref l),some (.ref d),some (.int (prd L (ys.take i))),o3]) ⟨rfl,none,rfl⟩ (λi σ H2 _ ⟨h,_⟩=>by rw [<-h];exact SqL.of h1) ?_ ?_
  ·rintro i x σ H2 hx ⟨rfl,o3,rfl⟩;rw [Z1z] at hx;obtain ⟨y,hy,rfl⟩:=Z0i.mp hx;have b:=(tl y (Z13 hy)).2;refine ⟨_,rfl,_,rfl,_,_,rfl,rfl,.inr ⟨by lia,by lia⟩,rfl,some (.int (L y)),?_⟩;rw [Z14,hy,Option.toList_some,B2k];rfl
  ·rintro σ H2 ⟨rfl,o3,rfl⟩;rw [Z08,Z18];exact ⟨_,rfl,k H1 s1⟩
theorem C4c (T:Txt K mg t):A2e P w K mg base CX0 15 t.tG t.sY ["program"] (D4v t):=by
 have G_cell_count:= @B5u P w K mg base t T;have G_lengths_of:= @B0c P w K mg base t T;have G_parts_of:= @A8u P w K mg base t T;refine T.v5.ok A3i (by walk_at "ln") (λcdv A outer s H vs Q E hr h=> ?_)
 ·obtain ⟨p,wh,ax,tb,ls,os,L,rfl,pr,ok,k⟩:=h;obtain ⟨dx,a,tt,l,o,e,ra,rt,⟨xl,hl,rl⟩,_⟩:=pr.ob;obtain ⟨t2,xs,et,hx,rs⟩:=A4w (show Rep H (.ref tt) (.list (tb.map C1x)) from rt);cases et;have lxs:=rs.len;rw [Z08] at lxs;have lxl:=Paired.length rl
  refine ⟨_,(A0c (A0p (i:=1) A3i.nd rfl (Or.inl rfl) (A0l G_lengths_of (hr.mono (by lia)) rfl T.rm T.je.kp T.sQ .nil A0z (A0a (pv 0) A0d)))
   (A0c (A0p (i:=2) A3i.nd rfl (Or.inl rfl) A0j)
   (A0c (A1x PassesOwn.never rfl (A1k (A0s (pv 0) rfl)) (A4j (n:=2) rfl (A0u (A0m (i:=3) A3i.nd rfl (Or.inl rfl) (Or.inl rfl)) (A0u (A0m (i:=4) A3i.nd rfl (Or.inl rfl) (Or.inl rfl)) A2q)))
    (A0e (A0p (i:=2) A3i.nd rfl (Or.inl rfl) (A0t A4h (pv 2) (A0l G_cell_count (hr.mono (by lia)) rfl T.sw T.j4.kp T.ri .nil A0z (A0a (pv 4) (A0a (pv 1) A0d)))))))
   (A0c (A1x PassesOwn.never rfl (A1k (A0s (pv 0) rfl)) (A0m (i:=5) A3i.nd rfl (Or.inl rfl) (Or.inl rfl))
    (A0e (A1x PassesOwn.never rfl (A1k (A0l G_parts_of (hr.mono (by lia)) rfl T.pq T.j6.kp T.qr .nil A0z (A0a (A0s (pv 5) rfl) A0d))) (A0m (i:=6) A3i.nd rfl (Or.inl rfl) (Or.inl rfl))
     (A0e (A0p (i:=2) A3i.nd rfl (Or.inl rfl) (A0t A4h (pv 2) (A0l G_cell_count (hr.mono (by lia)) rfl T.sw T.j4.kp T.ri .nil A0z (A0a (A0t A8i (A0s (pv 5) rfl) (A0s (pv 6) rfl)) (A0a (pv 1) A0d)))))))))
   (A0e (A0y (pv 2))))))),?_⟩
  refine ⟨_,rfl,p,wh,ax,tb,ls,os,rfl,pr,λld hld=> ?_⟩;have s1:A0n H (upd H ld (.dK (A1b [] (B6r ax)))):=A0f hld;generalize hlk:A1b [] (B6r ax)=lk at *;refine ⟨_,rfl,p,_,dx,_,_,rfl,s1 _ _ e,T.am,T.bj,(by walk_at "lk"),tt,rfl,⟨_,SqL.of (s1 _ _ hx)⟩,?_⟩
  refine A1r (K:=K) (a:=tt) (xs:=xs) (λi σ H2=>∃(o3 o4:Option V),σ=[some (.ref p),some (.ref ld),some (.int ((tb.take i).map λe=>prd L e.2).sum),o3,o4,none,none]/\A0n H H2/\H2 ld=some (.dK lk))
   ⟨none,none,rfl,s1,A0b⟩ (λi σ H2 _ ⟨_,_,_,s2,_⟩=>SqL.of (s2 _ _ hx)) ?_ ?_
  ·rintro i y σ H2 hy ⟨o3,o4,rfl,s2,h2⟩;obtain ⟨te,hte,ry⟩:=B3u rs hy;obtain ⟨b,c,rfl,eb,ec⟩:=C9i ry;have tk:=ok.t te (Z13 hte);refine ⟨b,_,rfl,SqT.of (s2 _ _ eb),rfl,_,_,rfl,_,_,rfl,rfl,?_⟩;refine ⟨_,rfl,_,rfl,_,rfl,c,ld,te.2,lk,L,rfl,s2 _ _ ec,h2,tk.2,by lia,λH3 s3=>⟨_,_,rfl,rfl,some (.str te.1),some (.ref c),?_,s2.trans s3,s3 _ _ h2⟩⟩;rw [Z14,hte,Option.toList_some,Z0s,List.sum_append,List.map_singleton,List.sum_singleton];rfl
  rintro σ H2 ⟨o3,o4,rfl,s2,h2⟩;rw [lxs,Z18];refine ⟨_,rfl,p,_,dx,_,_,rfl,s2 _ _ e,T.am,T.bh,(by walk_at "lk"),l,rfl,⟨_,SqL.of (s2 _ _ hl)⟩,?_⟩;generalize hTT:(tb.map λe=>prd L e.2).sum=TT
  refine A1r (K:=K) (a:=l) (xs:=xl) (λi σ H3=>∃(o5 o6:Option V),σ=[some (.ref p),some (.ref ld),some (.int (TT+((ls.take i).map (wkL L)).sum)),o3,o4,o5,o6]/\A0n H H3/\H3 ld=some (.dK lk))
   ⟨none,none,by simp,s2,h2⟩ (λi σ H3 _ ⟨_,_,_,s3,_⟩=>SqL.of (s3 _ _ hl)) ?_ ?_
  ·rintro i y σ H3 hy ⟨o5,o6,rfl,s3,h3⟩;obtain ⟨le,hle,b,db,c,tv,_,rfl,eb,_,ec,ob⟩:=B2s rl hy;obtain ⟨k1,k2,k4,k5,k3⟩:=ok.l le (Z13 hle);refine ⟨_,rfl,b,_,db,_,_,rfl,s3 _ _ eb,T.bp,T.dz,(by walk_at "lk"),tv,le.2.2,rfl,ob.imp s3,k4,k5,λq ps H4 hq s4 h4 pp=>⟨q,rfl,⟨_,SqL.of h4⟩,?_⟩⟩;have lps:=Paired.length pp;generalize hW:TT+((ls.take i).map (wkL L)).sum=W
   refine A1r (K:=K) (a:=q) (xs:=ps) (λj σ H5=>∃(o6:Option V),σ=[some (.ref p),some (.ref ld),some (.int (W+(((prT le.2.2 [] []).take j).map λz=>prd L (le.2.1++z.2.1)).sum)),o3,o4,some (.ref b),o6]/\A0n H4 H5)
    ⟨o6,by simp,A0n.refl _⟩ (λj σ H5 _ ⟨_,_,s5⟩=>SqL.of (s5 _ _ h4)) ?_ ?_
   ·rintro j z σ H5 hz ⟨o6,rfl,s5⟩;obtain ⟨qq,hqq,pa,dp,tp,sl,gp,gs,rfl,ep,obp,hsl,hgp,lg,lq,_⟩:=B2s pp hz;have dpp:=C5e qq.1;have s35:=s4.trans s5
    have tq:A7g lk L (le.2.1++qq.2.1):=λy hy=>by
     rcases Z07.mp hy with hy | hy
     ·exact k2 y hy
     ·exact k3 qq (Z13 hqq) y hy
    refine ⟨_,rfl,_,rfl,b,_,db,_,_,rfl,s35 _ _ (s3 _ _ eb),T.bp,T.cr,(by walk_at "lk"),_,rfl,pa,_,dp,_,_,rfl,s5 _ _ ep,T.ao,T.av,(by walk_at "lk"),c,sl,_,_,rfl,rfl,s35 _ _ (s3 _ _ ec),s5 _ _ hsl,A0g (by simp;lia),λl1 hl1=> ?_⟩;have s6:=A0f (o:= .lst (le.2.1.map V.str++qq.2.1.map V.str)) hl1;refine ⟨_,rfl,l1,ld,le.2.1++qq.2.1,lk,L,rfl,by rw [Z0s];exact A0b,s6 _ _ (s35 _ _ h3),tq,by rw [Z06];lia,λH7 s7=>⟨_,_,rfl,rfl,some (.ref pa),?_,s5.trans (s6.trans s7)⟩⟩;rw [Z14,hqq,Option.toList_some,Z0s,List.sum_append,List.map_singleton,List.sum_singleton,<-Int.add_assoc];rfl
   ·rintro σ H5 ⟨o6,rfl,s5⟩;refine ⟨some (.ref b),o6,?_,s3.trans (s4.trans s5),(s4.trans s5) _ _ h3⟩;rw [lps,Z18,Z14,hle,Option.toList_some,Z0s,List.sum_append,List.map_singleton,List.sum_singleton,<-hW,Int.add_assoc];rfl
  ·rintro σ H3 ⟨o5,o6,rfl,s3,h3⟩;refine ⟨_,rfl,?_⟩;rw [lxl,Z18,<-hTT];exact k H3 s3
theorem B8d (T:Txt K mg t):A2e P w K mg base (CXD P w) 16 t.mx t.kx ["program"] (D9g t):=by
 have G_work_of:= @C4c P w K mg base t T;refine T.tR.okD B1s (by walk_at "ln") (λcdv A outer s H vs Q E hr h=> ?_)
 ·obtain ⟨p,wh,ax,tb,ls,os,L,rfl,pr,ok,m1,kq,ke⟩:=h
  refine ⟨_,(A0c (A0p (i:=1) B1s.nd rfl (Or.inl rfl) (A0l G_work_of (hr.mono (by lia)) rfl T.wU T.v5.kp T.wS .nil A0z (A0a (pv 0) A0d)))
   (A0e (A1s (A0x B8n (pv 1) (B0g T.sh rfl) (A1h _))
    (A0e (A2r A5k T.wE rfl T.og rfl (A0a (A4e (A3n (D1h (pv 1) (A3n (D1h (B0g T.sh rfl) A5y))))) A0d)))
    A0v))),?_⟩
  refine ⟨_,rfl,p,wh,ax,tb,ls,os,L,rfl,pr,ok,λH1 s1=> ?_⟩;refine ⟨_,rfl,_,_,rfl,rfl,_,rfl,D5q (λh=> ?_) (λh=>kq (by simpa using h) _ s1)⟩;have h4:4000<wrk L tb ls:=by simpa using h
  have m2:Sm 4000:=by unfold Sm;decide
  have l1:=C6w m1;have l2:=C6w m2;have e0:(Str.empty++("the work is ":Str)).length<=20:=by decide +kernel
  have e1:(Str.empty++("the work is ":Str)++(toString (wrk L tb ls):Str)).length<=60:=by rw [Str.length_append];lia
  have e2:(Str.empty++("the work is ":Str)++(toString (wrk L tb ls):Str)++(", above ":Str)).length<=80:=by
   have:((", above ":Str)).length<=10:=by decide +kernel
   rw [Str.length_append];lia
  have e3:(Str.empty++("the work is ":Str)++(toString (wrk L tb ls):Str)++(", above ":Str)++(toString (4000:Int):Str)).length<=120:=by rw [Str.length_append];lia
  exact ⟨A0g (by lia),_,rfl,_,.inr ⟨_,rfl,D1x m1,rfl⟩,A0g (by lia),A0g (by lia),_,.inr ⟨_,rfl,D1x m2,rfl⟩,A0g (by lia),A0g (by lia),A0g (by show 1<=1000000;decide),ke h4 _ s1⟩
def A2k (H:Hp) (ps:List Addr) (cs:List (List Int)):Prop:=Paired (λ(p:Addr) (c:List Int)=>H p=some (.tup (c.map V.int))) ps cs
theorem A2k.imp {H H':Hp}:∀{ps:List Addr} {cs:List (List Int)},A2k H ps cs->(∀p xs,H p=some (.tup xs)->H' p=some (.tup xs))->A2k H' ps cs
 | _,_,.nil,_=> .nil
 | _,_,.cons r t,f=> .cons (f _ _ r) (A2k.imp t f)
theorem A2k.same {H H':Hp} {ps:List Addr} {cs:List (List Int)} (h:A2k H ps cs) (s:A0n H H'):A2k H' ps cs:=h.imp λ_ _ e=>s _ _ e
theorem A2k.lst {H:Hp} {l:Addr} {xs ys:List V} {ps:List Addr} {cs:List (List Int)} (h:A2k H ps cs) (e:H l=some (.lst xs)):A2k (upd H l (.lst ys)) ps cs :=
 h.imp λp zs z=>by rw [A0h (A3j z e (by intro q;cases q))];exact z
theorem A2k.snoc {H:Hp} {p:Addr} {c:List Int} (e:H p=some (.tup (c.map V.int))):∀{ps:List Addr} {cs:List (List Int)},A2k H ps cs->A2k H (ps++[p]) (cs++[c])
 | _,_,.nil=> .cons e .nil
 | _,_,.cons r t=> .cons r (A2k.snoc e t)
theorem A2k.len {H:Hp}:∀{ps:List Addr} {cs:List (List Int)},A2k H ps cs->ps.length=cs.length
 | _,_,.nil=>rfl
 | _,_,.cons _ t=>by simp [A2k.len t]
theorem A2k.get {H:Hp}:∀{ps:List Addr} {cs:List (List Int)} {i:Nat} {p:Addr},A2k H ps cs->ps[i]? =some p->∃c,cs[i]? =some c/\H p=some (.tup (c.map V.int))
 | _,_,_,_,.nil,e=>by simp at e
 | _,_,0,_,.cons r _,e=>by simp at e;subst e;exact ⟨_,rfl,r⟩
 | _,_,i+1,p,.cons _ t,e=>by
  obtain ⟨c,h1,h2⟩:=A2k.get (i:=i) (p:=p) t (by simpa using e);exact ⟨c,by simpa using h1,h2⟩
structure A8r (H:Hp) (a:Addr) (cs:List (List Int)):Prop where
 ex:∃ps:List Addr,H a=some (.lst (ps.map V.ref))/\A2k H ps cs
def B0h:Sp:=λvs H Q _=>∃(a:Addr) (n:Int) (cs:List (List Int)),vs=[.ref a,.int n]/\A8r H a cs/\(∀c∈cs,c.length<=8)/\0<=n/\n<=60/\cs.length<=4000/\
 ∀(p:Addr) (H':Hp),H p=none->A0n H H'->A8r H' p (B3z cs n)->Q (.ref p) H'
def C0f:Sp:=λvs H Q _=>∃(a:Addr) (ls:List Int),vs=[.ref a]/\H a=some (.lst (ls.map V.int))/\C3r ls/\
 ∀(p:Addr) (H':Hp),H p=none->A0n H H'->A8r H' p (A3m ls)->Q (.ref p) H'
def D8x:Sp:=λvs H Q _=>∃(l d:Addr) (ys:List Str) (lk:List (Key×V)) (L:Str->Int),vs=[.ref l,.ref d]/\H l=some (.lst (ys.map V.str))/\H d=some (.dK lk)/\A7g lk L ys/\C3r (ys.map L)/\∀(q:Addr) (H':Hp),H q=none->A0n H H'->A8r H' q (A3m (ys.map L))->Q (.ref q) H'
theorem A2j {α:Type} {f:α->V} {xs:List α} {i:Nat} {v:V} (h:(xs.map f)[i]? =some v):∃x,xs[i]? =some x/\v=f x:=by
 rw [Z1z] at h;obtain ⟨x,hx,rfl⟩:=Z0i.mp h;exact ⟨x,hx,rfl⟩
theorem B7k (T:Txt K mg t):A2e P w K mg base CX0 1 t.jq t.jf ["cells","length"] B0h:=by
 refine T.su.ok A5e (by walk_at "ln") (λcdv A outer s H vs Q E hr h=> ?_)
 ·obtain ⟨a,n,cs,rfl,⟨ps,ha,tp⟩,h8,n0,n60,few,k⟩:=h
  refine ⟨_,(A0c (A0p (i:=2) A5e.nd rfl (Or.inl rfl) (A2p A0d))
   (A0c (A1x PassesOwn.never rfl (A1k (pv 0)) (A0m (i:=3) A5e.nd rfl (Or.inl rfl) (Or.inl rfl))
    (A0e (A1x PassesOwn.never rfl (B0l rfl T.uc (A0a (pv 1) A0d)) (A0m (i:=4) A5e.nd rfl (Or.inl rfl) (Or.inl rfl))
     (A0e (A2a (B4w Z0k Z0n Z0o A2x (pv 2) (A0a (A0t C1z (pv 3) (A3v (A0a (pv 4) A0d))) A0d)))))))
   (A0e (A0y (pv 2))))),?_⟩
  refine ⟨A0g (by decide),λl hl=> ?_⟩;have la:a≠l:=A0k ha hl;have ha1:upd H l (.lst []) a=some (.lst (ps.map V.ref)):=by rw [A0h la];exact ha
  refine ⟨_,rfl,a,rfl,⟨_,SqL.of ha1⟩,A1r (K:=K) (a:=a) (xs:=ps.map V.ref) (λi σ H2=>∃(o3 o4:Option V) (qs:List Addr),σ=[some (.ref a),some (.int n),some (.ref l),o3,o4]/\A0n H H2/\
   H2 l=some (.lst (qs.map V.ref))/\A2k H2 qs (B3z (cs.take i) n)) ⟨none,none,[],rfl,A0f hl,A0b,.nil⟩ (λi σ H2 _ ⟨_,_,_,_,s2,_⟩=>SqL.of (s2 _ _ ha)) ?_ ?_⟩
  ·rintro i y σ H2 hi ⟨o3,o4,qs,rfl,s2,h2,t2⟩;obtain ⟨pc,hpc,rfl⟩:=A2j hi;obtain ⟨c,hc,hpt⟩:=tp.get hpc;have hcm:c.length<=8:=h8 c (Z13 hc)
   refine ⟨_,rfl,n,rfl,by lia,by lia,B4d (n:=n.toNat) (λj σ H3=>∃(o4:Option V) (qs:List Addr),σ=[some (.ref a),some (.int n),some (.ref l),some (.ref pc),o4]/\A0n H H3/\
    H3 l=some (.lst (qs.map V.ref))/\A2k H3 qs (B3z (cs.take i) n++(List.range j).map λ(m:Nat)=>c++[(m:Int)])) ⟨o4,qs,rfl,s2,h2,by simpa using t2⟩ ?_ ?_⟩
   ·rintro j σ H3 hj ⟨o4,qs,rfl,s3,h3,t3⟩;rw [Int.zero_add]
    have hql:qs.length<=300000:=by
     have e:=t3.len;rw [Z06,A9d,Z08,List.length_range] at e;have e1:(cs.take i).length*n.toNat<=4000*60:=Nat.mul_le_mul (by rw [Z0x];lia) (by lia)
     lia
    have hp3:H3 pc=some (.tup (c.map V.int)):=s3 _ _ hpt;refine ⟨_,rfl,.inl ⟨rfl,_,SqL.of h3⟩,_,rfl,_,rfl,A0g (by simp),λu hu=> ?_⟩
    have fin:∀(q:Addr) (H4:Hp),A0n H3 H4->H4 q=some (.tup ((c++[(j:Int)]).map V.int))->C1n (V.ref l) [V.ref q] H4 λ_ H5=>∃(o4:Option V) (qs:List Addr),[some (V.ref a),some (.int n),some (.ref l),some (.ref pc),some (.int (j:Int))]=[some (.ref a),some (.int n),some (.ref l),some (.ref pc),o4]/\A0n H H5/\
      H5 l=some (.lst (qs.map V.ref))/\A2k H5 qs (B3z (cs.take i) n++(List.range (j+1)).map λ(m:Nat)=>c++[(m:Int)]):=λq H4 s4 h4=>by
     refine ⟨l,_,_,rfl,rfl,s4 _ _ h3,by rw [Z08];exact A1j (by lia),?_⟩;refine ⟨_,qs++[q],rfl,A0r (s3.trans s4) hl,by rw [A0b,Z0s];rfl,?_⟩;rw [List.range_succ,Z0s,<-Z0z];exact ((t3.same s4).snoc h4).lst (s4 _ _ h3)
    have s4:A0n H3 (upd H3 u (.tup [V.int (j:Int)])):=A0f hu;refine ⟨pc,u,_,_,rfl,rfl,SqT.of (s4 _ _ hp3),SqT.of A0b,(by simp),A0g (by simp;lia),λhx=> ?_,λhx p hp=> ?_⟩
    ·have ec:c=[]:=by simpa using hx
     subst ec;exact fin u _ s4 A0b
    ·refine fin p _ (s4.trans (A0f hp)) ?_;rw [A0b,Z0s];rfl
   ·rintro σ H3 ⟨o4,qs,rfl,s3,h3,t3⟩;refine ⟨_,_,qs,rfl,s3,h3,?_⟩
    have e:B3z (cs.take (i+1)) n=B3z (cs.take i) n++(List.range n.toNat).map λ(m:Nat)=>c++[(m:Int)]:=by
     rw [Z14,hc];simp [B3z]
    rw [e];exact t3
  ·rintro σ H2 ⟨o3,o4,qs,rfl,s2,h2,t2⟩;refine ⟨_,rfl,k l H2 hl s2 ⟨qs,h2,?_⟩⟩;rw [Z08,tp.len,Z18] at t2;exact t2
theorem C0d (T:Txt K mg t):A2e P w K mg base CX0 2 t.qp t.qj ["lengths"] C0f:=by
 have G_lengthened:= @B7k P w K mg base t T;refine T.uE.ok A6t (by walk_at "ln") (λcdv A outer s H vs Q E hr h=> ?_)
 ·obtain ⟨a,ls,rfl,ha,g,k⟩:=h
  refine ⟨_,(A0c (A0p (i:=1) A6t.nd rfl (Or.inl rfl) (A2p (A0a (A3v A0d) A0d)))
   (A0c (A1x PassesOwn.never rfl (A1k (pv 0)) (A0m (i:=2) A6t.nd rfl (Or.inl rfl) (Or.inl rfl))
    (A0e (A0p (i:=1) A6t.nd rfl (Or.inl rfl) (A0l G_lengthened (hr.mono (by lia)) rfl T.vg T.su.kp T.vi .nil A0z (A0a (pv 1) (A0a (pv 2) A0d))))))
   (A0e (A0y (pv 1))))),?_⟩
  refine ⟨A0g (by simp),λe he=>⟨A0g (by simp),λq hq=> ?_⟩⟩;have hq0:H q=none:=(A0f he).free hq;have s1:A0n H (upd (upd H e (.tup [])) q (.lst [V.ref e])):=(A0f he).trans (A0f hq)
  refine ⟨_,rfl,a,rfl,⟨_,SqL.of (s1 _ _ ha)⟩,A1r (K:=K) (a:=a) (xs:=ls.map V.int) (λi σ H2=>∃(o2:Option V) (q:Addr),σ=[some (.ref a),some (.ref q),o2]/\A0n H H2/\H q=none/\A8r H2 q (A3m (ls.take i)))
   ⟨none,q,rfl,s1,hq0,⟨[e],A0b,.cons (by rw [A0h (A0k A0b hq)];exact A0b) .nil⟩⟩ (λi σ H2 _ ⟨_,_,_,s2,_⟩=>SqL.of (s2 _ _ ha)) ?_ ?_⟩
  ·rintro i y σ H2 hi ⟨o2,q,rfl,s2,hq,c2⟩;obtain ⟨n,hn,rfl⟩:=A2j hi;have gp:=g.pos n (Z13 hn);have cl:=A4r (ls.take i) λm hm=>(g.pos m (List.mem_of_mem_take hm)).1;have pl:=B1w ls (λm hm=>(g.pos m hm).1) i;have gm:=g.most;have gf:=g.few;refine ⟨_,rfl,_,rfl,q,n,_,rfl,c2,λc hc=> ?_,by lia,by lia,by lia,λp H' hp s3 c3=> ?_⟩
   ·have e:=(A6c _ c hc).1;rw [Z0x] at e
    lia
   ·refine ⟨_,p,rfl,s2.trans s3,s2.free hp,?_⟩;rw [A7d hn];exact c3
  ·rintro σ H2 ⟨o2,q,rfl,s2,hq,c2⟩;rw [Z08,Z18] at c2;exact ⟨_,rfl,k q H2 hq s2 c2⟩
theorem B4r (T:Txt K mg t):A2e P w K mg base CX0 3 t.gu t.ie ["axes","lengths"] D8x:=by
 have G_cells_of:= @C0d P w K mg base t T;have G_lengths_along:= @A4y P w K mg base t T;refine T.pd.ok B4n (by walk_at "ln") (λcdv A outer s H vs Q E hr h=> ?_)
 ·obtain ⟨l,d,ys,lk,L,rfl,hl,hd,tl,g,k⟩:=h;have gf:=g.few;rw [Z08] at gf;refine ⟨_,(A0e (A0y (A0l G_cells_of (hr.mono (by lia)) rfl T.wm T.uE.kp T.wt .nil A0z (A0a (A0l G_lengths_along (hr.mono (by lia)) rfl T.fc T.cm.kp T.fk .nil A0z (A0a (pv 0) (A0a (pv 1) A0d))) A0d)))),?_⟩;exact ⟨_,rfl,_,rfl,l,d,ys,lk,L,rfl,hl,hd,tl,by lia,λq1 H1 hq1 s1 h1=>⟨q1,ys.map L,rfl,by rw [List.map_map];exact h1,g,λq H' hq s' c'=>k q H' (s1.free hq) (s1.trans s') c'⟩⟩
def C1b:Sp:=λvs H Q _=>∃(x:Str) (z:Int) (d:Addr) (kvs:List (Key×V)),vs=[.str x,.int z,.ref d]/\H d=some (.dK kvs)/\(¬x=""->A4u kvs (Sum.inr x)=some (.int (ai kvs x)))/\Q (.int (if x="" then z else ai kvs x+z)) H
def C3j (A:Adr):Sp:=λvs H Q _=>∃(o dx d l:Addr) (a:Str) (ix:List (Str×Int)) (kvs:List (Key×V)),vs=[.ref o,.ref d]/\H o=some (.ins A.ak dx [("array",.str a),("indexes",.ref l)])/\Rep H (.ref l) (A6j ix)/\ix.length<=3/\H d=some (.dK kvs)/\
 (∀e∈ix,¬e.1=""->A4u kvs (Sum.inr e.1)=some (.int (ai kvs e.1)))/\∀(p:Addr) (H':Hp),H p=none->A0n H H'->H' p=some (.tup ((A5c (ai kvs) ix).map V.int))->Q (.ref p) H'
def D6w (A:Adr):Sp:=λvs H Q _=>∃(o dx d:Addr) (x:Str) (lo hi:Int) (u v:V) (kvs:List (Key×V)),vs=[.ref o,.ref d]/\H o=some (.ins A.ae dx [("axis",.str x),("low",.int lo),("high",.int hi),("inner",u),("outer",v)])/\B2l H d (.str x) (some (.int (ai kvs x)))/\
 (lo<=ai kvs x/\ai kvs x<hi->Q (.bl true) H)/\(¬(lo<=ai kvs x/\ai kvs x<hi)->Q (.bl false) H)
def C1q (ys:List Str) (c:List Int):List (Key×V):=A1b [] ((ys.map (Sum.inr:Str->Key)).zip (c.map V.int))
theorem B7s {k:Key}:∀(more acc:List (Key×V)),(∀p∈more,∃i,p.2= .int i)->((∃p∈more,p.1=k)\/∃i,A4u acc k=some (.int i))->∃i,A4u (A1b acc more) k=some (.int i)
 | [],acc,_,h=>by
  rcases h with ⟨p,hp,_⟩ | h
  ·cases hp
  ·exact h
 | q::more,acc,hi,h=>by
  show∃i,A4u (A1b (A8p acc q.1 q.2) more) k=some (.int i);refine B7s more _ (λp hp=>hi p (.tail _ hp)) ?_;by_cases hq:k=q.1
  ·obtain ⟨i,ei⟩:=hi q (.head _);exact .inr ⟨i,by rw [A5z,Z12 hq,ei]⟩
  ·rcases h with ⟨p,hp,e⟩ | ⟨i,e⟩
   ·rcases Z0e.mp hp with rfl | hp
    ·exact absurd e.symm hq
    ·exact .inl ⟨p,hp,e⟩
   ·exact .inr ⟨i,by rw [A5z,Z0t hq];exact e⟩
theorem C7p {ys:List Str} {c:List Int} (l:c.length=ys.length) {x:Str} (h:x∈ys):A4u (C1q ys c) (Sum.inr x)=some (.int (ai (C1q ys c) x)):=by
 obtain ⟨j,hj⟩:=List.getElem?_of_mem h;have hl:=(Z03.mp hj).1
 obtain ⟨i,e⟩:=B7s (k:=Sum.inr x) ((ys.map (Sum.inr:Str->Key)).zip (c.map V.int)) [] (λp hp=>by
  have:=List.of_mem_zip hp;obtain ⟨i,_,e⟩:=Z2c.mp this.2
  exact ⟨i,e.symm⟩) (.inl ⟨(Sum.inr x,V.int (c[j]'(by lia))),by
   refine List.mem_iff_getElem?.mpr ⟨j,?_⟩;rw [List.getElem?_zip_eq_some]
   exact ⟨by rw [Z1z,hj];rfl,by rw [Z1z,Z0b (by lia)];rfl⟩,rfl⟩)
 have e:A4u (C1q ys c) (Sum.inr x)=some (.int i):=e;have:ai (C1q ys c) x=i:=by unfold ai;rw [e]
 rw [this];exact e
def inG (at_:Str->Int) (g:Gd):Bool:=decide (decide (g.2.1<=at_ g.1/\at_ g.1<g.2.2.1)=g.2.2.2)
def B0i (ys:List Str) (gg:List Gd) (ix:List (Str×Int)) (c:List Int):Option (List Int×List Int):=if gg.all (inG (ai (C1q ys c)))=true then some (c,A5c (ai (C1q ys c)) ix) else none
def A5a (L:Str->Int) (ys:List Str) (gg:List Gd) (ix:List (Str×Int)):List (List Int×List Int):=(A3m (ys.map L)).filterMap (B0i ys gg ix)
def D5b (H:Hp) (v:V) (e:List Int×List Int):Prop:=∃p s c,v= .ref p/\H p=some (.tup [.ref s,.ref c])/\H s=some (.tup (e.1.map V.int))/\H c=some (.tup (e.2.map V.int))
theorem D5b.kt {H H':Hp} {v:V} {e:List Int×List Int} (h:D5b H v e) (f:∀b xs,H b=some (.tup xs)->H' b=some (.tup xs)):D5b H' v e:=by
 obtain ⟨p,s,c,rfl,e1,e2,e3⟩:=h;exact ⟨p,s,c,rfl,f _ _ e1,f _ _ e2,f _ _ e3⟩
def C3z (A:Adr):Sp:=λvs H Q _=>∃(l d:Addr) (gs:List V) (gl:List Gd) (kvs:List (Key×V)),vs=[.ref l,.ref d]/\H l=some (.lst gs)/\Paired (D6x A H) gs gl/\gs.length<=100/\H d=some (.dK kvs)/\(∀g∈gl,A4u kvs (Sum.inr g.1)=some (.int (ai kvs g.1)))/\∀H',A0n H H'->Q (.bl (gl.all (inG (ai kvs)))) H'
structure D8w (L:Str->Int) (lk:List (Key×V)) (le:Lt) (ss:List Str) (gg:List Gd) (ix:List (Str×Int)):Prop where
 tl:A7g lk L (le.2.1++ss)
 gd:C3r ((le.2.1++ss).map L)
 lx:ix.length<=3
 xi:∀e∈ix,¬e.1=""->e.1∈le.2.1++ss
 xg:∀g∈gg,g.1∈le.2.1++ss
def D1a (A:Adr):Sp:=λvs H Q _=>∃(y v:V) (d:Addr) (le:Lt) (a:Str) (ix:List (Str×Int)) (ss:List Str) (gg:List Gd) (lk:List (Key×V)) (L:Str->Int),vs=[y,v,.ref d]/\B1y A (λ_=>True) H y le/\A4p A H v (.read a ix,ss,gg)/\H d=some (.dK lk)/\D8w L lk le ss gg ix/\
 ∀(q:Addr) (xs:List V) (H':Hp),H q=none->A0n H H'->H' q=some (.lst xs)->Paired (D5b H') xs (A5a L (le.2.1++ss) gg ix)->Q (.ref q) H'
theorem C0v (T:Txt K mg t):A2e P w K mg base CX0 1 t.q0 t.qk ["axis","shift","at"] C1b:=by
 refine T.uC.ok C0x (by walk_at "ln") (λcdv A outer s H vs Q E hr h=> ?_)
 ·obtain ⟨x,z,d,kvs,rfl,hd,hx,k⟩:=h;have hu:=B0b hr
  refine ⟨_,(A0c (A1s (A0x A5l (pv 0) A3a (A1h _))
    (A0e (A0y (pv 1)))
    A0v)
   (A0e (A0y (A0t A4h (A4c hu (pv 2) (pv 0) (λ_ _=>rfl)) (pv 1))))),?_⟩
  refine ⟨_,rfl,rfl,_,rfl,A8m (λh=> ?_) (λh=> ?_)⟩
  ·rw [Z12 (by injection h)] at k;exact ⟨_,rfl,k⟩
  ·have hn:¬x="":=λe=>h (by rw [e]);rw [Z0t hn] at k;have g:=B2l.k (H:=H) (a:=d) (k:=Sum.inr x) hd;rw [hx hn] at g;exact ⟨_,rfl,_,rfl,d,_,rfl,g,_,rfl,_,_,rfl,rfl,k⟩
theorem B2u (T:Txt K mg t):A2e P w K mg base CX0 2 t.g9 t.fw ["self","at"] (C3j t):=by
 have G_index_at:= @C0v P w K mg base t T;refine T.uA.ok B3o (by walk_at "ln") (λcdv A outer s H vs Q E hr h=> ?_)
 ·obtain ⟨o,dx,d,l,a,ix,kvs,rfl,ho,rp,hix,hd,hx,k⟩:=h;obtain ⟨_,es,q,el,rs⟩:=A4w (show Rep H (.ref l) (.list (ix.map B7p)) from rp);cases q;have hl:=rs.len;rw [Z08] at hl;refine ⟨_,(A0e (A0y (A3q A4d (by rfl) T.fo Z0m (A0a (A3l (N':=["axis","shift","at"]) (ix:=(List.replicate 2 none++[some 1])) (g:=D4s K 2 (B0u (A8b 0) (B0u (A8b 1) D2k))) rfl (A6v (x:="at") rfl rfl rfl (by decide +kernel) (by decide +kernel)) (A5s (N0:=["axis","shift"]) rfl (Or.inl rfl) (by first | exact Or.inl rfl | exact Or.inr rfl | (simp [relabel];rfl) | (with_unfolding_all exact Or.inl rfl) | (with_unfolding_all exact Or.inr rfl) | (with_unfolding_all decide))) (A1k (A0s (pv 0) rfl)) (λ_ _ _ _=>(A4j (n:=2) rfl (A0u (A0m (i:=0) B8i rfl (Or.inl rfl) (Or.inr rfl)) (A0u (A0m (i:=1) B8i rfl (Or.inl rfl) (Or.inr rfl)) A2q)))) (λ_ _ _ _=>(A0l G_index_at (hr.mono (by lia)) rfl T.ww T.uC.kp T.wI .nil A0z (A0a (pv 0) (A0a (pv 1) (A0a (pv 2) A0d)))))) A0d)))),?_⟩;refine ⟨_,rfl,o,_,dx,_,_,rfl,ho,T.bo,T.cj,(by walk_at "lk"),l,rfl,⟨_,SqL.of el⟩,λD hD=> ?_⟩;refine A2o (K:=K) (a:=l) (D:=D) (xs:=es) (λi ys H2=>A0n H H2/\H2 D=some (.lst ys)/\ys=(A5c (ai kvs) (ix.take i)).map V.int) ⟨A0f hD,A0b,rfl⟩ (λi ys H2 ⟨s2,_⟩=>SqL.of (s2 _ _ el)) ?_ ?_
  ·rintro i x ys H2 hx' ⟨s2,hD2,rfl⟩;have hi:i<ix.length:=by have:=(Z03.mp hx').1;lia
   obtain ⟨dd,hdd,rx⟩:=rs.get2 hx';have hie:ix[i]? =some ix[i]:=Z0b hi;rw [Z1z,hie] at hdd;cases hdd;obtain ⟨q,rfl,eq⟩:=D5p rx;refine ⟨q,_,rfl,SqT.of (s2 _ _ eq),rfl,_,_,rfl,_,_,rfl,rfl,⟨rfl,True.intro⟩,_,rfl,_,rfl,_,rfl,ix[i].1,ix[i].2,d,kvs,rfl,s2 _ _ hd,hx _ (Z13 hie),?_⟩;refine ⟨hD2,A1j (by simp [A5c];lia),A0r s2 hD,A0b,?_⟩;rw [Z14,hie,Option.toList_some];unfold A5c;rw [Z0s,Z0s];rfl
  ·rintro ys H2 ⟨s2,hD2,rfl⟩;rw [hl,Z18] at hD2;exact ⟨D,_,rfl,.inl ⟨SqL.of hD2,λp hp=>k p _ (s2.free hp) (s2.trans (A0f hp)) A0b⟩⟩
theorem B2g (T:Txt K mg t):A2e P w K mg base CX0 1 t.fe t.fi ["self","at"] (D6w t):=by
 refine T.tZ.ok B2b (by walk_at "ln") (λcdv A outer s H vs Q E hr h=> ?_)
 ·obtain ⟨o,dx,d,x,lo,hi,u,v,kvs,rfl,ho,g,k1,k2⟩:=h;have hu:=B0b hr;refine ⟨_,(A0e (A0y (B7b C6t C3h (A0s (pv 0) rfl) (A4c hu (pv 1) (A0s (pv 0) rfl) (λ_ _=>rfl)) (A0s (pv 0) rfl)))),?_⟩;refine ⟨_,rfl,o,_,dx,_,_,rfl,ho,T.ay,T.sM,(by walk_at "lk"),_,rfl,_,rfl,o,_,dx,_,_,rfl,ho,T.ay,T.ia,(by walk_at "lk"),d,_,rfl,g,_,_,rfl,rfl,?_⟩;refine ⟨_,rfl,A8m (λh1=> ?_) (λh1=> ?_)⟩
  ·have h1:lo<=ai kvs x:=h1;refine ⟨_,rfl,o,_,dx,_,_,rfl,ho,T.ay,T.oq,(by walk_at "lk"),_,_,rfl,rfl,?_⟩;show Q (.bl (decide (ai kvs x<hi))) H;by_cases h2:ai kvs x<hi
   ·rw [Z20 h2];exact k1 ⟨h1,h2⟩
   ·rw [Z1j h2];exact k2 λz=>h2 z.2
  ·have h1:¬lo<=ai kvs x:=h1;exact k2 λz=>h1 z.1
theorem B6y (T:Txt K mg t):A2e P w K mg base CX0 3 t.j0 t.jm ["guards","at"] (C3z t):=by
 have G_Guard_lets_in:= @B2g P w K mg base t T;refine T.so.ok B6v (by walk_at "ln") (λcdv A outer s H vs Q E hr h=> ?_)
 ·obtain ⟨l,d,gs,gl,kvs,rfl,hl,pg,lg,hd,hv,k⟩:=h;refine ⟨_,(A0e (A0y (A0q (B6p rfl) (by rfl) T.x4 PyProof.Rows.boot_all (A0a (A3l (N':=["guard","inner","at"]) (ix:=(List.replicate 2 none++[some 1])) (g:=D4s K 2 (B0u (A8b 0) (B0u (A8b 1) D2k))) rfl (A6v (x:="at") rfl rfl rfl (by decide +kernel) (by decide +kernel)) (A5s (N0:=["guard","inner"]) rfl (Or.inl rfl) (by first | exact Or.inl rfl | exact Or.inr rfl | (simp [relabel];rfl) | (with_unfolding_all exact Or.inl rfl) | (with_unfolding_all exact Or.inr rfl) | (with_unfolding_all decide))) (A1k (pv 0)) (λ_ _ _ _=>(A4j (n:=2) rfl (A0u (A0m (i:=0) B8b rfl (Or.inl rfl) (Or.inr rfl)) (A0u (A0m (i:=1) B8b rfl (Or.inl rfl) (Or.inr rfl)) A2q)))) (λ_ _ _ _=>(A5n A5l (C7c (pv 0) T.ay T.s_ G_Guard_lets_in (hr.mono (by lia)) T.ua .nil A0z (A0a (pv 2) A0d)) (pv 1) (A1h _)))) A0d)))),?_⟩;refine ⟨_,rfl,l,rfl,⟨_,SqL.of hl⟩,λD hD=> ?_⟩;refine A2o (K:=K) (a:=l) (D:=D) (xs:=gs) (λi ys H2=>A0n H H2/\H2 D=some (.lst ys)/\ys=((gl.take i).map (inG (ai kvs))).map V.bl) ⟨A0f hD,A0b,rfl⟩ (λi ys H2 ⟨s2,_⟩=>SqL.of (s2 _ _ hl)) ?_ ?_
  ·rintro i x ys H2 hx ⟨s2,hD2,rfl⟩;obtain ⟨g,hg,tp,go,dx,u,v,rfl,e1,e2⟩:=B2s pg hx;have hi:=(Z03.mp hx).1;have gk:=B2l.k (H:=H2) (a:=d) (k:=Sum.inr g.1) (s2 _ _ hd);rw [hv g (Z13 hg)] at gk
   have fin:∀b:Bool,b=decide (g.2.1<=ai kvs g.1/\ai kvs g.1<g.2.2.1)->H2 D=some (.lst (((gl.take i).map (inG (ai kvs))).map V.bl))->A0n H (upd H2 D (.lst (((gl.take i).map (inG (ai kvs))).map V.bl++[.bl (decide (V.bl b=V.bl g.2.2.2))])))/\upd H2 D (.lst (((gl.take i).map (inG (ai kvs))).map V.bl++[.bl (decide (V.bl b=V.bl g.2.2.2))])) D=some (.lst (((gl.take i).map (inG (ai kvs))).map V.bl++[.bl (decide (V.bl b=V.bl g.2.2.2))]))/\((gl.take i).map (inG (ai kvs))).map V.bl++[.bl (decide (V.bl b=V.bl g.2.2.2))]=((gl.take (i+1)).map (inG (ai kvs))).map V.bl:=λb hb _=>by
    refine ⟨A0r s2 hD,A0b,?_⟩;rw [Z14,hg,Option.toList_some,Z0s,Z0s]
    have:decide (V.bl b=V.bl g.2.2.2)=inG (ai kvs) g:=by
     unfold inG;rw [<-hb];by_cases z:b=g.2.2.2
     ·rw [Z20 z,Z20 (by rw [z])]
     ·rw [Z1j z,Z1j (λy=>z (V.bl.inj y))]
    rw [this];rfl
   refine ⟨tp,_,rfl,SqT.of (s2 _ _ e1),rfl,_,_,rfl,_,_,rfl,rfl,⟨rfl,True.intro⟩,_,rfl,go,dx,_,rfl,s2 _ _ e2,(by walk_at "lk"),_,rfl,go,dx,d,g.1,g.2.1,g.2.2.1,u,v,kvs,rfl,s2 _ _ e2,gk,λc=> ?_,λc=> ?_⟩
   ·exact ⟨_,rfl,rfl,hD2,A1j (by rw [Z08,Z08,Z0x];lia),fin true (Z20 c).symm hD2⟩
   ·exact ⟨_,rfl,rfl,hD2,A1j (by rw [Z08,Z08,Z0x];lia),fin false (Z1j c).symm hD2⟩
  ·rintro ys H2 ⟨s2,hD2,rfl⟩;rw [Paired.length pg,Z18] at hD2;refine ⟨D,_,rfl,SqL.of hD2,?_⟩;have:=k H2 s2;rw [show gl.all (inG (ai kvs))=(gl.map (inG (ai kvs))).all id by rw [List.all_map];rfl] at this;exact this
def KB (p:Addr) (H H':Hp):Prop:=∀b o,b≠p->H b=some o->H' b=some o
theorem KB.upd {p:Addr} {H H':Hp} {o:HO} (k:KB p H H'):KB p H (upd H' p o):=λb u hb e=>by rw [A0h hb];exact k b u hb e
theorem KB.refl {p:Addr} {H:Hp}:KB p H H:=λ_ _ _ e=>e
theorem KB.trans {p:Addr} {H H' H2:Hp} (a:KB p H H') (b:KB p H' H2):KB p H H2:=λc o hc e=>b c o hc (a c o hc e)
theorem KB.of {p:Addr} {H H':Hp} (s:A0n H H'):KB p H H':=λb o _ e=>s _ _ e
def inR (cs ls:List Int):Bool:=(cs.zip ls).all λe=>decide (0<=e.1/\e.1<e.2)
def D5s:Sp:=λvs H Q _=>∃(c l:Addr) (cs ls:List Int),vs=[.ref c,.ref l]/\H c=some (.tup (cs.map V.int))/\H l=some (.lst (ls.map V.int))/\cs.length=ls.length/\cs.length<=100/\∀H',A0n H H'->Q (.bl (inR cs ls)) H'
theorem B5j {ys:List Str} {gg:List Gd} {ix:List (Str×Int)} {cs:List (List Int)} {i:Nat} {c:List Int} (h:cs[i]? =some c):(cs.take (i+1)).filterMap (B0i ys gg ix)=(cs.take i).filterMap (B0i ys gg ix)++(B0i ys gg ix c).toList:=by
 rw [Z14,h,Option.toList_some,List.filterMap_append];congr 1
theorem C0b (T:Txt K mg t):A2e P w K mg base CX0 8 t.qh t.p_ ["let","part","lengths"] (D1a t):=by
 have G_cells_along:= @B4r P w K mg base t T;have G_is_reached:= @B6y P w K mg base t T;have G_Read_cell_at:= @B2u P w K mg base t T;refine T.uJ.ok A5q (by walk_at "ln") (λcdv A outer s H vs Q E hr h=> ?_)
 ·obtain ⟨y,v,d,le,a,ix,ss,gg,lk,L,rfl,lt,pt,hd,li,k⟩:=h;have hu:=B0b hr;obtain ⟨b,db,c,tv,_,rfl,eb,_,ec,_⟩:=lt;obtain ⟨pa,dp,pv',sl,gl,gs,rfl,ep,obp,hsl,hgl,lgs,lss,pgs⟩:=pt;have lgs:gs.length+1<=100:=lgs;have lss:ss.length+1<=100:=lss
  obtain ⟨o,dx,l,rfl,ho,rp⟩:∃o dx l,pv'= .ref o/\H o=some (.ins t.ak dx [("array",.str a),("indexes",.ref l)])/\Rep H (.ref l) (A6j ix):=by
   cases obp with
   | @read o dx l _ _ e r=>exact ⟨o,dx,l,rfl,e,r⟩
  have hgl:H gl=some (.lst gs):=hgl;have hsl:H sl=some (.lst (ss.map V.str)):=hsl;have ll:(le.2.1++ss).length<=8:=by have:=li.gd.few;rw [Z08] at this;exact this
  have ll':le.2.1.length+ss.length<=8:=by rw [Z06] at ll;exact ll
  refine ⟨_,(A0c (A0p (i:=3) A5q.nd rfl (Or.inl rfl) (A0t A8i (A0s (pv 0) rfl) (A0s (pv 1) rfl)))
   (A0c (A0p (i:=4) A5q.nd rfl (Or.inl rfl) (A2p A0d))
   (A0c (A1x PassesOwn.never rfl (A1k (A0l G_cells_along (hr.mono (by lia)) rfl T.uX T.pd.kp T.uV .nil A0z (A0a (pv 3) (A0a (pv 2) A0d)))) (A0m (i:=5) A5q.nd rfl (Or.inl rfl) (Or.inl rfl))
    (A0c (A0p (i:=6) A5q.nd rfl (Or.inl rfl) (C3l rfl (by rfl) T.tI (by rfl) T.v6 (A0a (pv 3) (A0a (pv 5) A0d))))
    (A0e (A1s (A2g (A0l G_is_reached (hr.mono (by lia)) rfl T.vh T.so.kp T.vb .nil A0z (A0a (A0s (pv 1) rfl) (A0a (pv 6) A0d))))
     (A0e (A2a (B4w Z0k Z0n Z0o A2x (pv 4) (A0a (A3v (A0a (pv 5) (A0a (C7c (A0s (pv 1) rfl) T.bo T.u8 G_Read_cell_at (hr.mono (by lia)) T.uH .nil A0z (A0a (pv 6) A0d)) A0d))) A0d))))
     A0v))))
   (A0e (A0y (pv 4)))))),?_⟩
  refine ⟨_,rfl,b,_,db,_,_,rfl,eb,T.bp,T.cr,(by walk_at "lk"),_,rfl,pa,_,dp,_,_,rfl,ep,T.ao,T.av,(by walk_at "lk"),c,sl,_,_,rfl,rfl,ec,hsl,A0g (by simp only [Z08];lia),λl1 hl1=> ?_⟩;have s1:A0n H (upd H l1 (.lst (le.2.1.map V.str++ss.map V.str))):=A0f hl1;have h1:upd H l1 (.lst (le.2.1.map V.str++ss.map V.str)) l1=some (.lst ((le.2.1++ss).map V.str)):=by rw [A0b,Z0s]
  generalize upd H l1 (.lst (le.2.1.map V.str++ss.map V.str))=H1 at s1 h1;generalize hys:le.2.1++ss=ys at *;refine ⟨A0g (by simp),λld hld=> ?_⟩;have s2:A0n H1 (upd H1 ld (.lst [])):=A0f hld;have ldH:H ld=none:=s1.free hld;have h2:upd H1 ld (.lst []) ld=some (.lst []):=A0b;generalize upd H1 ld (.lst [])=H2 at s2 h2;have s12:=s1.trans s2;refine ⟨_,rfl,_,rfl,l1,d,ys,lk,L,rfl,s2 _ _ h1,s12 _ _ hd,by rw [<-hys];exact li.tl,by rw [<-hys];exact li.gd,λq H3 hq s3 ct=> ?_⟩;obtain ⟨ps,hq3,tp⟩:=ct.ex;have lps:=tp.len;have gpos:∀n∈ys.map L,1<=n:=λn hn=>(li.gd.pos n (by rw [hys];exact hn)).1
  have lcs:(A3m (ys.map L)).length<=4000:=by
   have e1:=(A4r (ys.map L) gpos).1;have e2:=li.gd.most;rw [hys] at e2
   lia
  have s13:=s12.trans s3;have qld:q≠ld:=(A0k h2 hq).symm;refine ⟨q,rfl,⟨_,SqL.of hq3⟩,?_⟩
  refine A1r (K:=K) (a:=q) (xs:=ps.map V.ref) (λi σ G=>∃(o5 o6:Option V) (xs:List V),σ=[some (.ref b),some (.ref pa),some (.ref d),some (.ref l1),some (.ref ld),o5,o6]/\KB ld H3 G/\G ld=some (.lst xs)/\Paired (D5b G) xs (((A3m (ys.map L)).take i).filterMap (B0i ys gg ix)))
   ⟨none,none,[],rfl,KB.refl,s3 _ _ h2,.nil⟩ (λi σ G _ ⟨_,_,_,_,kb,_⟩=>SqL.of (kb _ _ qld hq3)) ?_ ?_
  ·rintro i v σ G hv ⟨o5,o6,xs,rfl,kb,hld',px⟩;obtain ⟨pc,hpc,rfl⟩:=A2j hv;have hi:=(Z03.mp hv).1;rw [Z08] at hi;obtain ⟨ce,hce,hcp⟩:=tp.get hpc;have KG:∀{x:Addr} {u:HO},H x=some u->G x=some u:=λ{x u} e=>kb _ _ (A0k e ldH) (s13 _ _ e);have hl1G:G l1=some (.lst (ys.map V.str)):=kb _ _ (A0k h1 hld) (s3 _ _ (s2 _ _ h1));have hcG:G pc=some (.tup (ce.map V.int)):=kb _ _ (A3j hcp (s3 _ _ h2) (by intro z;cases z)) hcp;have ekv:ys.map V.str=(ys.map (Sum.inr:Str->Key)).map kV:=by rw [List.map_map];rfl
   have lce:ce.length=ys.length:=by rw [(A6c _ ce (Z13 hce)).1,Z08]
   refine ⟨_,rfl,_,rfl,l1,pc,ys.map Sum.inr,ce.map V.int,rfl,by rw [<-ekv];exact SqL.of hl1G,SqT.of hcG,by rw [Z08,Z08];lia,λdd hdd=> ?_⟩;have sd:A0n G (upd G dd (.dK (A1b [] ((ys.map Sum.inr).zip (ce.map V.int))))):=A0f hdd;have hd3:upd G dd (.dK (A1b [] ((ys.map Sum.inr).zip (ce.map V.int)))) dd=some (.dK (C1q ys ce)):=A0b;generalize upd G dd (.dK (A1b [] ((ys.map Sum.inr).zip (ce.map V.int))))=G1 at sd hd3;have K1:∀{x:Addr} {u:HO},H x=some u->G1 x=some u:=λe=>sd _ _ (KG e);refine ⟨_,rfl,pa,_,dp,_,_,rfl,K1 ep,T.ao,T.be,(by walk_at "lk"),_,rfl,gl,dd,gs,gg,C1q ys ce,rfl,K1 hgl,Paired.mapP pgs λ_ _ z=>z.same λx u e=>K1 e,by lia,hd3,λg hg=>C7p lce (by have:=li.xg g hg;rw [hys] at this;exact this),λG2 s2'=> ?_⟩;have lxs:=Paired.length px;have lfm:(((A3m (ys.map L)).take i).filterMap (B0i ys gg ix)).length<=4000:=Z1n (List.length_filterMap_le ..) (by rw [Z0x];lia);refine ⟨_,rfl,C6x (λb1=> ?_) (λb0=> ?_)⟩
   ·have el:B0i ys gg ix ce=some (ce,A5c (ai (C1q ys ce)) ix):=by unfold B0i;rw [Z12 b1]
    have sG2:=sd.trans s2';have K2:∀{x:Addr} {u:HO},H x=some u->G2 x=some u:=λe=>sG2 _ _ (KG e);refine ⟨_,rfl,.inl ⟨rfl,_,SqL.of (sG2 _ _ hld')⟩,_,rfl,_,rfl,pa,_,dp,_,_,rfl,K2 ep,T.ao,T.bc,(by walk_at "lk"),o,dx,_,rfl,K2 ho,(by walk_at "lk"),_,rfl,o,dx,dd,l,a,ix,C1q ys ce,rfl,K2 ho,rp.same λx u e=>K2 e,li.lx,s2' _ _ hd3,λe he hne=>C7p lce (by have:=li.xi e he hne;rw [hys] at this;exact this),λp G3 hp sp' hp3=>⟨A0g (by simp),λtq htq=> ?_⟩⟩;have st:A0n G3 (upd G3 tq (.tup [.ref pc,.ref p])):=A0f htq;have htq':upd G3 tq (.tup [.ref pc,.ref p]) tq=some (.tup [.ref pc,.ref p]):=A0b;generalize upd G3 tq (.tup [.ref pc,.ref p])=G4 at st htq';have sG4:=sG2.trans (sp'.trans st);have hld4:=sG4 _ _ hld';refine ⟨ld,_,_,rfl,rfl,hld4,A1j (by lia),some (.ref pc),some (.ref dd),xs++[.ref tq],rfl,(kb.trans (KB.of sG4)).upd,A0b,?_⟩;rw [B5j hce,el];have kt:∀x zs,G4 x=some (.tup zs)->upd G4 ld (.lst (xs++[.ref tq])) x=some (.tup zs):=λx zs e=>(A0h (A3j e hld4 (by intro z;cases z))).trans e;exact Paired.snoc ⟨tq,pc,p,rfl,kt _ _ htq',kt _ _ (sG4 _ _ hcG),kt _ _ (st _ _ hp3)⟩ (Paired.mapP px λ_ _ z=>z.kt λx zs e=>kt _ _ (sG4 _ _ e))
   ·have el:B0i ys gg ix ce=none:=by unfold B0i;rw [Z0t (by rw [b0];exact Z0v)]
    refine ⟨some (.ref pc),some (.ref dd),xs,rfl,kb.trans (KB.of (sd.trans s2')),(sd.trans s2') _ _ hld',?_⟩;rw [B5j hce,el,Option.toList_none,Z0u];exact Paired.mapP px λ_ _ z=>z.kt λx zs e=>(sd.trans s2') _ _ e
  ·rintro σ G ⟨o5,o6,xs,rfl,kb,hld',px⟩;rw [Z08,lps,Z18] at px;exact ⟨_,rfl,k ld xs G ldH (λx u e=>kb _ _ (A0k e ldH) (s13 _ _ e)) hld' px⟩
theorem B8q (T:Txt K mg t):A2e P w K mg base CX0 1 t.mt t.ku ["cell","lengths"] D5s:=by
 refine T.tQ.ok B7r (by walk_at "ln") (λcdv A outer s H vs Q E hr h=> ?_)
 ·obtain ⟨c,l,cs,ls,rfl,hc,hl,len,l100,k⟩:=h;refine ⟨_,(A0e (A0y (A0q (B6p rfl) (by rfl) T.x4 PyProof.Rows.boot_all (A0a (A3l (N':=["number","length"]) (ix:=(List.replicate 2 none)) (g:=D4s K 2 (B0u (A8b 0) (B0u (A8b 1) D2k))) rfl (A2m rfl (by decide +kernel) (by decide +kernel)) (A2n rfl) (D0h rfl T.v6 (A0a (pv 0) (A0a (pv 1) A0d))) (λ_ _ _ _=>(A4j (n:=2) rfl (A0u (A0m (i:=0) B9s rfl (Or.inl rfl) (Or.inr rfl)) (A0u (A0m (i:=1) B9s rfl (Or.inl rfl) (Or.inr rfl)) A2q)))) (λ_ _ _ _=>(B7b C6t C3h A0j (pv 0) (pv 1)))) A0d)))),?_⟩;refine ⟨_,rfl,_,rfl,c,l,_,_,rfl,SqT.of hc,SqL.of hl,λD hD=> ?_⟩;refine B0k (D:=D) cs.length (λi zs H2=>A0n H H2/\H2 D=some (.lst zs)/\zs=(((cs.zip ls).take i).map λe=>decide (0<=e.1/\e.1<e.2)).map V.bl) ⟨A0f hD,A0b,rfl⟩ (λi zs H2 hi ⟨s2,_⟩=>⟨_,_,_,_,SqT.of (s2 _ _ hc),SqL.of (s2 _ _ hl),Z0b (by rw [Z08];exact hi),Z0b (by rw [Z08];lia)⟩) (λzs H2 ⟨s2,_⟩=>⟨_,_,SqT.of (s2 _ _ hc),SqL.of (s2 _ _ hl),.inl (by rw [Z08];exact Z09 _)⟩) ?_ ?_
  ·rintro i zs H2 hi ⟨s2,hD2,rfl⟩ x H3 ⟨p,hp,rfl,x,y,f1,f2,rfl⟩;obtain ⟨n,hn,rfl⟩:=A2j (f1 _ (SqT.of (s2 _ _ hc)));obtain ⟨m,hm,rfl⟩:=A2j (f2 _ (SqL.of (s2 _ _ hl)));have sp':A0n H2 (upd H2 p (.tup [.int n,.int m])):=A0f hp;have hD3:=sp' _ _ hD2;have hz:(cs.zip ls)[i]? =some (n,m):=by rw [List.getElem?_zip_eq_some];exact ⟨hn,hm⟩
   have lz:((((cs.zip ls).take i).map λe=>decide (0<=e.1/\e.1<e.2)).map V.bl).length<=100:=by simp only [Z08,Z0x,List.length_zip];lia
   refine ⟨p,_,rfl,SqT.of A0b,rfl,_,_,rfl,_,_,rfl,rfl,True.intro,?_⟩
   have fin:∀b:Bool,b=decide (0<=n/\n<m)->A0n H (upd (upd H2 p (.tup [.int n,.int m])) D (.lst ((((cs.zip ls).take i).map λe=>decide (0<=e.1/\e.1<e.2)).map V.bl++[.bl b])))/\upd (upd H2 p (.tup [.int n,.int m])) D (.lst ((((cs.zip ls).take i).map λe=>decide (0<=e.1/\e.1<e.2)).map V.bl++[.bl b])) D=some (.lst ((((cs.zip ls).take i).map λe=>decide (0<=e.1/\e.1<e.2)).map V.bl++[.bl b]))/\(((cs.zip ls).take i).map λe=>decide (0<=e.1/\e.1<e.2)).map V.bl++[.bl b]=(((cs.zip ls).take (i+1)).map λe=>decide (0<=e.1/\e.1<e.2)).map V.bl:=λb hb=>by
    refine ⟨A0r (s2.trans sp') hD,A0b,?_⟩;rw [Z14,hz,Option.toList_some,Z0s,Z0s,hb];rfl
   refine ⟨_,rfl,_,_,rfl,rfl,_,rfl,A8m (λh0=> ?_) (λh0=> ?_)⟩
   ·have h0:0<=n:=h0;refine ⟨_,rfl,_,_,rfl,rfl,hD3,A1j (by lia),?_⟩;exact fin (decide (n<m)) (by by_cases z:n<m <;> simp [z,h0])
   ·have h0:¬0<=n:=h0;exact ⟨hD3,A1j (by lia),fin false (Z1j (λz=>h0 z.1)).symm⟩
  ·rintro zs H2 ⟨s2,hD2,rfl⟩;have ez:(cs.zip ls).take cs.length=cs.zip ls:=List.take_of_length_le (by rw [List.length_zip];lia);rw [ez] at hD2;refine ⟨D,_,rfl,SqL.of hD2,?_⟩;have:=k H2 s2;unfold inR at this;rw [show (cs.zip ls).all (λe=>decide (0<=e.1/\e.1<e.2))=((cs.zip ls).map λe=>decide (0<=e.1/\e.1<e.2)).all id by rw [List.all_map];rfl] at this;exact this
def D6m (C:Addr) (f1 f2 f3 f4:Str):Sp:=λvs H Q _=>∃(ea ta:Addr) (a1 a2 a3 a4:V),vs=[.ref ea,a1,a2,a3,a4]/\H ea=some (xcN ea C ta)/\
 ∀(dx:Addr) (H':Hp),H dx=none->H' ea=some (xcD ea C ta dx)->H' dx=some (.xd [(f1,a1),(f2,a2),(f3,a3),(f4,a4)])->(∀b,b≠ea->b≠dx->H' b=H b)->Q .non H'
theorem C4u {C:Addr} {H:Hp} {E E':XK} {a1 a2 a3 a4:V} (hE:∀dx H',A0n H H'->H' dx=some (.xd [("name",a1),("array",a2),("spot",a3),("cell",a4)])->E (.ref C) (some dx) H'):∀ea ta,H ea=none->D6m C "name" "array" "spot" "cell" (.ref ea::([a1,a2,a3,a4]++[])) (upd H ea (xcN ea C ta)) (λv H2=>v= .non/\∃d,H2 ea=some (.ext λh=>h.get? ea=some (B0z C ta d))/\E (.ref C) d (B0f H2 ea)) E':=by
 intro ea ta hn;refine ⟨ea,ta,a1,a2,a3,a4,rfl,A0b,λdx H' hdx h1 h2 h3=>⟨rfl,some dx,h1,hE _ _ (λb o e=> ?_) ?_⟩⟩
 ·have n1:b≠ea:=A0k e hn
  have n2:b≠dx:=λz=>by
   rw [<-z,A0h n1,e] at hdx;cases hdx
  rw [B7a n1,h3 b n1 n2,A0h n1];exact e
 ·have ne:dx≠ea:=λz=>by rw [z,A0b] at hdx;cases hdx
  rw [B7a ne];exact h2
def D4z (C:Addr) (H:Hp) (E:XK) (x a:Str) (e:List Int×List Int):Prop:=∀(dx s c:Addr) (H':Hp),A0n H H'->H' dx=some (.xd [("name",.str x),("array",.str a),("spot",.ref s),("cell",.ref c)])->H' s=some (.tup (e.1.map V.int))->H' c=some (.tup (e.2.map V.int))->E (.ref C) (some dx) H'
theorem D4z.of {C:Addr} {H H1:Hp} {E:XK} {x a:Str} {e:List Int×List Int} (h:D4z C H E x a e) (s:A0n H H1):D4z C H1 E x a e:=λdx s' c H' z=>h dx s' c H' (s.trans z)
def B1b (ls:List Int) (e:List Int×List Int):Bool:= !inR e.2 ls
def D3e (A:Adr):Sp:=λvs H Q E=>∃(y:V) (o dx l ldl lnl:Addr) (le:Lt) (a:Str) (xs:List V) (lds:List (List Int×List Int)) (ls:List Int),vs=[y,.ref o,.ref ldl,.ref lnl]/\B1y A (λ_=>True) H y le/\H o=some (.ins A.ak dx [("array",.str a),("indexes",.ref l)])/\H ldl=some (.lst xs)/\Paired (D5b H) xs lds/\(∀e∈lds,e.2.length=ls.length)/\ls.length<=100/\H lnl=some (.lst (ls.map V.int))/\
 (lds.find? (B1b ls)=none->∀H',A0n H H'->Q .non H')/\∀e,lds.find? (B1b ls)=some e->D4z A.aa H E le.1 a e
theorem C3f {α:Type} {f:α->Bool} {l:List α} {i:Nat} {x:α} (h:l[i]? =some x):(l.drop i).find? f=if f x=true then some x else (l.drop (i+1)).find? f:=by
 rw [A6b h,List.find?_cons];cases f x <;> rfl
theorem A6q (T:Txt K mg t):A2e P w K mg base CX0 1 t.dv t.dj ["self","name","array","spot","cell"] (D6m t.aa "name" "array" "spot" "cell"):=by
 refine T.tw.ok B1f (by walk_at "ln") (λcdv A outer s H vs Q E hr h=> ?_)
 ·obtain ⟨ea,ta,a1,a2,a3,a4,rfl,he,k⟩:=h
  refine ⟨_,(A0c (D4k (pv 0) (pv 1) rfl)
   (A0c (B6e (pv 0) (pv 2) rfl)
   (A0c (B6e (pv 0) (pv 3) rfl)
   (A0e (B6e (pv 0) (pv 4) rfl))))),_,rfl,_,rfl,ea,_,ta,rfl,he,T.q_,λdx hdx=> ?_⟩
  have ne:ea≠dx:=λz=>by rw [z,hdx] at he;cases he
  have e1:upd (upd H ea (xcD ea t.aa ta dx)) dx (.xd [("name",a1)]) ea=some (xcD ea t.aa ta dx):=by rw [A0h ne,A0b]
  have e2:upd (upd H ea (xcD ea t.aa ta dx)) dx (.xd [("name",a1)]) dx=some (.xd [("name",a1)]):=A0b;have e3:∀b,b≠ea->b≠dx->upd (upd H ea (xcD ea t.aa ta dx)) dx (.xd [("name",a1)]) b=H b:=λb n1 n2=>by rw [A0h n2,A0h n1]
  generalize upd (upd H ea (xcD ea t.aa ta dx)) dx (.xd [("name",a1)])=H1 at e1 e2 e3⊢;refine ⟨_,rfl,_,rfl,ea,_,ta,dx,_,rfl,e1,e2,by simp,rfl,T.pw,?_⟩;refine ⟨_,rfl,_,rfl,ea,_,ta,dx,_,rfl,by rw [A0h ne];exact e1,A0b,by simp,rfl,T.sV,?_⟩;refine ⟨_,rfl,_,rfl,ea,_,ta,dx,_,rfl,by rw [A0h ne,A0h ne];exact e1,A0b,by simp,rfl,T.sW,?_⟩;exact k dx _ hdx (by rw [A0h ne,A0h ne,A0h ne];exact e1) A0b (λb n1 n2=>by rw [A0h n2,A0h n2,A0h n2];exact e3 b n1 n2)
theorem B8g (T:Txt K mg t):A2e P w K mg base (CXD P w) 3 t.ml t.m9 ["let","read","leads","lengths"] (D3e t):=by
 have G_BeyondRim_init:= @A6q P w K mg base t T;have G_is_within:= @B8q P w K mg base t T;have G_BeyondRim_init:= @A6q P w K mg base t T;refine T.tT.okD A8c (by walk_at "ln") (λcdv A outer s H vs Q E hr h=> ?_)
 ·obtain ⟨y,o,dx,l,ldl,lnl,le,a,xs,lds,ls,rfl,lt,ho,hld,px,len,l100,hln,kq,ke⟩:=h;obtain ⟨b,db,c0,tv,_,rfl,eb,_,ec,_⟩:=lt
  refine ⟨_,(A0e (A1x PassesOwn.leaving rfl (A1k (pv 2)) (A4j (n:=2) rfl (A0u (A0m (i:=4) A8c.nd rfl (Or.inl rfl) (Or.inl rfl)) (A0u (A0m (i:=5) A8c.nd rfl (Or.inl rfl) (Or.inl rfl)) A2q)))
    (A0e (A1s (B2m (A2g (A0l G_is_within (hr.mono (by lia)) rfl T.vT T.tQ.kp T.vF .nil A0z (A0a (pv 5) (A0a (pv 3) A0d)))))
     (A0e (C7l D3d T.vy G_BeyondRim_init (hr.mono (by lia)) rfl T.m7 T.tK .nil A0z rfl rfl (A0a (A0s (pv 0) rfl) (A0a (A0s (pv 1) rfl) (A0a (pv 4) (A0a (pv 5) A0d))))))
     A0v)))),?_⟩
  refine ⟨_,rfl,ldl,rfl,⟨_,SqL.of hld⟩,?_⟩
  refine A1r (K:=K) (a:=ldl) (xs:=xs) (λi σ G=>∃(o4 o5:Option V),σ=[some (.ref b),some (.ref o),some (.ref ldl),some (.ref lnl),o4,o5]/\A0n H G/\lds.find? (B1b ls)=(lds.drop i).find? (B1b ls))
   ⟨none,none,rfl,A0n.refl _,rfl⟩ (λi σ G _ ⟨_,_,_,s2,_⟩=>SqL.of (s2 _ _ hld)) ?_ ?_
  ·rintro i x σ G hx ⟨o4,o5,rfl,s2,ef⟩;obtain ⟨e,he,p,sp,ce,rfl,e1,e2,e3⟩:=B2s px hx;rw [C3f he] at ef;have l2:=len e (Z13 he);refine ⟨p,_,rfl,SqT.of (s2 _ _ e1),rfl,_,_,rfl,_,_,rfl,rfl,?_⟩;refine ⟨_,rfl,_,rfl,ce,lnl,e.2,ls,rfl,s2 _ _ e3,s2 _ _ hln,l2,by lia,λG2 s3=>⟨_,rfl,D7v (λb0=> ?_) (λb1=> ?_)⟩⟩
   ·have hb:B1b ls e=true:=by unfold B1b;rw [b0];rfl
    rw [Z12 hb] at ef;have s23:=s2.trans s3;refine ⟨_,rfl,b,_,db,_,_,rfl,s23 _ _ eb,T.bp,T.bt,(by walk_at "lk"),_,rfl,o,_,dx,_,_,rfl,s23 _ _ ho,T.bo,T.b_,(by walk_at "lk"),_,rfl,_,rfl,A0g (by show 4<=1000000;decide),C4u λdx' H' s' hd'=> ?_⟩;exact ke e ef dx' sp ce H' (s23.trans s') hd' (s' _ _ (s23 _ _ e2)) (s' _ _ (s23 _ _ e3))
   ·have hb:B1b ls e=false:=by unfold B1b;rw [b1];rfl
    rw [Z0t (by rw [hb];exact Z0v)] at ef;exact ⟨_,_,rfl,s2.trans s3,ef⟩
  ·rintro σ G ⟨o4,o5,rfl,s2,ef⟩;have lx:=Paired.length px;rw [lx,List.drop_length] at ef;exact kq ef G s2
theorem C9u {L:Str->Int} {ys:List Str} {gg:List Gd} {ix:List (Str×Int)} {e:List Int×List Int} (h:e∈A5a L ys gg ix):e.2.length=ix.length:=by
 obtain ⟨c,_,hc⟩:=List.mem_filterMap.mp h;unfold B0i at hc;split at hc
 ·cases hc
  show (A5c _ ix).length=ix.length;unfold A5c;rw [Z08]
 ·cases hc
theorem C6y {xs:List Str} (h:xs.Nodup):(xs.map (Sum.inr:Str->Key)).Nodup:=List.Pairwise.map _ (λa b h z=>h (by injection z)) h
def D4x (L:Str->Int) (es:List (Str×List Str)) (le:Lt) (q:PT):Option (Str×(List Int×List Int)):=match q.1 with
 | .read a ix=>((A5a L (le.2.1++q.2.1) q.2.2 ix).find? (B1b (((shp es a).getD []).map L))).map λe=>(a,e)
 | _=>none
def C8o (L:Str->Int) (es:List (Str×List Str)) (le:Lt):Option (Str×(List Int×List Int)):=(prT le.2.2 [] []).findSome? (D4x L es le)
def D4w (L:Str->Int) (es:List (Str×List Str)) (ls:List Lt):Option (Str×(Str×(List Int×List Int))):=ls.findSome? λle=>(C8o L es le).map λr=>(le.1,r)
def D1b (A:Adr):Sp:=λvs H Q E=>∃(y v:V) (d axl:Addr) (le:Lt) (a:Str) (ix:List (Str×Int)) (ss:List Str) (gg:List Gd) (lk:List (Key×V)) (L:Str->Int) (zs:List Str),vs=[y,v,.ref d,.ref axl]/\B1y A (λ_=>True) H y le/\A4p A H v (.read a ix,ss,gg)/\H d=some (.dK lk)/\D8w L lk le ss gg ix/\H axl=some (.lst (zs.map V.str))/\A7g lk L zs/\zs.length=ix.length/\¬a=le.1/\
 ((A5a L (le.2.1++ss) gg ix).find? (B1b (zs.map L))=none->∀H',A0n H H'->Q .non H')/\∀e,(A5a L (le.2.1++ss) gg ix).find? (B1b (zs.map L))=some e->D4z A.aa H E le.1 a e
structure D8y (lk:List (Key×V)) (L:Str->Int) (tb:List (Str×List Str)) (ls:List Lt):Prop where
 nd:(arN tb ls).Nodup
 lt:tb.length<=100
 ll:ls.length<=100
 tk:∀e∈arr tb ls,A7g lk L e.2
 l:∀le∈ls,dep le.2.2<=9/\nod le.2.2<=1000/\∀q∈prT le.2.2 [] [],∀a ix,q.1= .read a ix->D8w L lk le q.2.1 q.2.2 ix/\(∃zs,shp (arr tb ls) a=some zs/\zs.length=ix.length)/\¬a=le.1
def D6y (C:Addr) (r:Option (Str×(Str×(List Int×List Int)))) (Q:VK) (E:XK) (H:Hp):Prop:=(r=none->∀H',A0n H H'->Q .non H')/\∀x a e,r=some (x,(a,e))->D4z C H E x a e
def C8n (A:Adr):Sp:=λvs H Q E=>∃(p:Addr) (wh:Int) (ax:List (Str×Int)) (tb:List (Str×List Str)) (ls:List Lt) (os:List Str) (L:Str->Int),vs=[.ref p]/\B9n A H p wh ax tb ls os/\D8y (A1b [] (B6r ax)) L tb ls/\D6y A.aa (D4w L (arr tb ls) ls) Q E H
def D4f (A:Adr):Sp:=λvs H Q E=>∃(p:Addr) (wh:Int) (ax:List (Str×Int)) (tb:List (Str×List Str)) (ls:List Lt) (os:List Str) (L:Str->Int),vs=[.ref p]/\B9n A H p wh ax tb ls os/\D8p ax tb ls os/\GdN ax tb ls os/\GdS ax tb ls/\E0f ax tb ls/\B6c (axN ax) tb ls=none/\D8k (A1b [] (B6r ax)) L tb ls/\Sm (wrk L tb ls)/\
 (4000<wrk L tb ls->∀H',A0n H H'->E (.ref A.ag) none H')/\(wrk L tb ls<=4000->D8y (A1b [] (B6r ax)) L tb ls/\D6y A.aa (D4w L (arr tb ls) ls) Q E H)
theorem D6y.of {C:Addr} {r:Option (Str×(Str×(List Int×List Int)))} {Q:VK} {E:XK} {H H1:Hp} (h:D6y C r Q E H) (s:A0n H H1):D6y C r Q E H1:=⟨λz H' s'=>h.1 z H' (s.trans s'),λx a e z=>(h.2 x a e z).of s⟩
theorem B5m {α β:Type} {f:α->Option β} {l:List α} {i:Nat} {x:α} (h:l[i]? =some x):(l.drop i).findSome? f=match f x with | some b=>some b | none=>(l.drop (i+1)).findSome? f:=by
 rw [A6b h];rfl
theorem isRd (T:Txt K mg t) {H:Hp} {v:V} {u:Tm} (h:Ob t H v u):∃(C:Addr) (b:Bool),A9o K H v (.ref C)/\(∀z,A2z (.ref t.ak) z->PySem.W.kitOne K (.ref C) z=some b)/\(b=true->∃a ix,u= .read a ix)/\(b=false->∀a ix,u≠.read a ix):=by
 cases h with
 | num e=>exact ⟨_,false,.ins e T.c6 T.al.ha T.al.hn T.al.htk T.al.hm,A1e T.ky,nofun,λ_ a ix z=>by cases z⟩
 | place e=>exact ⟨_,false,.ins e T.iq T.au.ha T.au.hn T.au.htk T.au.hm,A1e T.oy,nofun,λ_ a ix z=>by cases z⟩
 | read e r=>exact ⟨_,true,.ins e T.bo T.a_.ha T.a_.hn T.a_.htk T.a_.hm,A1e T.sv,λ_=>⟨_,_,rfl⟩,nofun⟩
 | sum e _=>exact ⟨_,false,.ins e T.fz T.br.ha T.br.hn T.br.htk T.br.hm,A1e T.tM,nofun,λ_ a ix z=>by cases z⟩
 | @pair o dd op v1 v2 ll r e o1 o2 =>
  have kiR:PySem.W.kitOne K (.ref (A9w t op)) (.ref t.ak)=some false:=by cases op with
   | plus=>exact T.sU
   | minus=>exact T.dw
   | times=>exact T.dw
  exact ⟨_,false,B2n T e,A1e kiR,nofun,λ_ a ix z=>by cases z⟩
 | guard e _ _=>exact ⟨_,false,.ins e T.ay T.ap.ha T.ap.hn T.ap.htk T.ap.hm,A1e T.om,nofun,λ_ a ix z=>by cases z⟩
theorem B6o (T:Txt K mg t):A2e P w K mg base (CXD P w) 9 t.iz t.jw ["let","part","lengths","axes"] (D1b t):=by
 have G_leads_of:= @C0b P w K mg base t T;have G_lengths_along:= @A4y P w K mg base t T;have G_look_rims:= @B8g P w K mg base t T;refine T.sx.okD A9y (by walk_at "ln") (λcdv A outer s H vs Q E hr h=> ?_)
 ·obtain ⟨y,v,d,axl,le,a,ix,ss,gg,lk,L,zs,rfl,lt,pt,hd,li,hax,tl,lz,ne,kq,ke⟩:=h;obtain ⟨b,db,c0,tv,_,rfl,eb,_,ec,obl⟩:=id lt;obtain ⟨pa,dp,pv',sl,gl,gs,rfl,ep,obp,hsl,hgl,lgs,lss,pgs⟩:=id pt
  obtain ⟨o,dx,l,rfl,ho,rp⟩:∃o dx l,pv'= .ref o/\H o=some (.ins t.ak dx [("array",.str a),("indexes",.ref l)])/\Rep H (.ref l) (A6j ix):=by
   cases obp with
   | @read o dx l _ _ e r=>exact ⟨o,dx,l,rfl,e,r⟩
  have l3:=li.lx
  refine ⟨_,(A0c (A0p (i:=4) A9y.nd rfl (Or.inl rfl) (A0l G_leads_of (hr.mono (by lia)) rfl T.wC T.uJ.kp T.wl .nil A0z (A0a (pv 0) (A0a (pv 1) (A0a (pv 2) A0d)))))
   (A0c (A2a (A0l G_look_rims (hr.mono (by lia)) rfl T.vS T.tT.kp T.vR .nil A9f (A0a (pv 0) (A0a (A0s (pv 1) rfl) (A0a (pv 4) (A0a (A0l G_lengths_along (hr.mono (by lia)) rfl T.fc T.cm.kp T.fk .nil A0z (A0a (pv 3) (A0a (pv 2) A0d))) A0d))))))
   (A0e (A1s (A0x A5l (A0s (A0s (pv 1) rfl) rfl) (A0s (pv 0) rfl) (A1h _))
    (A0e B2j)
    A0v)))),?_⟩
  refine ⟨_,rfl,_,rfl,_,rfl,.ref b,.ref pa,d,le,a,ix,ss,gg,lk,L,rfl,lt,pt,hd,li,λq xs H1 hq s1 h1 px=> ?_⟩;refine ⟨_,rfl,_,rfl,pa,_,dp,_,_,rfl,s1 _ _ ep,T.ao,T.bc,(by walk_at "lk"),_,rfl,_,rfl,_,rfl,axl,d,zs,lk,L,rfl,s1 _ _ hax,s1 _ _ hd,tl,by lia,λq2 H2 hq2 s2 h2=> ?_⟩;have s12:=s1.trans s2;have h2':H2 q2=some (.lst ((zs.map L).map V.int)):=by rw [List.map_map];exact h2
  refine ⟨.ref b,o,dx,l,q,q2,le,a,xs,_,zs.map L,rfl,lt.same s12,s12 _ _ ho,s2 _ _ h1,Paired.mapP px λ_ _ z=>z.kt λx zs e=>s2 _ _ e,λe he=>by rw [C9u he,Z08];lia,by rw [Z08];lia,h2',λhn H3 s3=> ?_,λe he=>(ke e he).of s12⟩;have s13:=s12.trans s3;refine ⟨_,rfl,pa,_,dp,_,_,rfl,s13 _ _ ep,T.ao,T.bc,(by walk_at "lk"),o,_,dx,_,_,rfl,s13 _ _ ho,T.bo,T.b_,(by walk_at "lk"),_,rfl,b,_,db,_,_,rfl,s13 _ _ eb,T.bp,T.bt,(by walk_at "lk"),rfl,_,rfl,A8m (λz=>absurd (V.str.inj z) ne) (λ_=>kq hn _ s13)⟩
theorem B7j (T:Txt K mg t):A2e P w K mg base (CXD P w) 15 t.jp t.jd ["program"] (C8n t):=by
 have G_arrays_of:= @B1u P w K mg base t T;have G_lengths_of:= @B0c P w K mg base t T;have G_look_spots:= @B6o P w K mg base t T;have G_parts_of:= @A8u P w K mg base t T;refine T.rn.okD A4a (by walk_at "ln") (λcdv A outer s H vs Q E hr h=> ?_)
 ·obtain ⟨p,wh,ax,tb,ls,os,L,rfl,pr,ok,ko⟩:=h;have hu:=B0b hr;obtain ⟨dx,a,tt,l,o,e,ra,rt,⟨xl,hl,rl⟩,_⟩:=id pr.ob;have lxl:=Paired.length rl;have ltb:=ok.lt;have lls:=ok.ll
  refine ⟨_,(A0c (A0p (i:=1) A4a.nd rfl (Or.inl rfl) (A0l G_lengths_of (hr.mono (by lia)) rfl T.rm T.je.kp T.sQ .nil A0z (A0a (pv 0) A0d)))
   (A0c (A0p (i:=2) A4a.nd rfl (Or.inl rfl) (A0l G_arrays_of (hr.mono (by lia)) rfl T.tP T.m5.kp T.tX .nil A0z (A0a (pv 0) A0d)))
   (A0e (A1x PassesOwn.leaving rfl (A1k (A0s (pv 0) rfl)) (A0m (i:=3) A4a.nd rfl (Or.inl rfl) (Or.inl rfl))
    (A0e (A1x PassesOwn.leaving rfl (A1k (A0l G_parts_of (hr.mono (by lia)) rfl T.pq T.j6.kp T.qr .nil A0z (A0a (A0s (pv 3) rfl) A0d))) (A0m (i:=4) A4a.nd rfl (Or.inl rfl) (Or.inl rfl))
     (A0e (A1s (A2g (A0q A1f (by rfl) T.ac Z0d (A0a (A0s (pv 4) rfl) (A0a (A3t (v:=V.ref t.ak) rfl T.wF rfl) A0d))))
      (A0e (A2a (A0l G_look_spots (hr.mono (by lia)) rfl T.vE T.sx.kp T.vD .nil A9f (A0a (pv 3) (A0a (pv 4) (A0a (pv 1) (A0a (A4c hu (pv 2) (A0s (A0s (pv 4) rfl) rfl) (λ_ _=>rfl)) A0d)))))))
      A0v)))))))),?_⟩
  refine ⟨_,rfl,p,wh,ax,tb,ls,os,rfl,pr,λld hld=> ?_⟩;have s1:A0n H (upd H ld (.dK (A1b [] (B6r ax)))):=A0f hld;have h1:upd H ld (.dK (A1b [] (B6r ax))) ld=some (.dK (A1b [] (B6r ax))):=A0b;generalize upd H ld (.dK (A1b [] (B6r ax)))=H1 at s1 h1;generalize hlk:A1b [] (B6r ax)=lk at *;refine ⟨_,rfl,p,wh,ax,tb,ls,os,rfl,pr.same s1,by lia,by lia,λaq ws H2 haq s2 h2 aw=> ?_⟩
  have ekeys:ws.map (·.1)=(arN tb ls).map (Sum.inr:Str->Key):=by
   have:∀{ws:List (Key×V)} {es:List (Str×List Str)},B9y (λb=>H1 b=none) H2 ws es->ws.map (·.1)=(es.map (·.1)).map (Sum.inr:Str->Key):=λh=>by
    induction h with
    | nil=>rfl
    | cons r _ ih=>rw [Z0p,Z0p,Z0p,ih,r.1]
   rw [this aw];congr 1;unfold arr arN;rw [Z0s,List.map_map];rfl
  have emg:A1b [] ws=ws:=by
   have:=A6d (ws:=ws) (acc:=[]) (by rw [List.nil_append,ekeys];exact C6y ok.nd);rw [List.nil_append] at this;exact this
  rw [emg] at h2;have s12:=s1.trans s2;have aw':B9y (λ_=>True) H2 ws (arr tb ls):=Paired.mapP aw λ_ _ ⟨z1,b,z2,z3,z4⟩=>⟨z1,b,z2,True.intro,z4⟩;refine ⟨_,rfl,p,_,dx,_,_,rfl,s12 _ _ e,T.am,T.bh,(by walk_at "lk"),l,rfl,⟨_,SqL.of (s12 _ _ hl)⟩,?_⟩
  refine A1r (K:=K) (a:=l) (xs:=xl) (λi σ G=>∃(o3 o4:Option V),σ=[some (.ref p),some (.ref ld),some (.ref aq),o3,o4]/\A0n H2 G/\D4w L (arr tb ls) ls=(ls.drop i).findSome? λle=>(C8o L (arr tb ls) le).map λr=>(le.1,r))
   ⟨none,none,rfl,A0n.refl _,rfl⟩ (λi σ G _ ⟨_,_,_,s3,_⟩=>SqL.of (s3 _ _ (s12 _ _ hl))) ?_ ?_
  ·rintro i y σ G hy ⟨o3,o4,rfl,s3,ef⟩;obtain ⟨le,hle,z⟩:=B2s rl hy;have lat:∀{G':Hp},A0n H G'->B1y t (λ_=>True) G' y le:=λs=>z.same s;obtain ⟨b,db,c,tv,_,rfl,eb,_,ec,ob⟩:=z;obtain ⟨k4,k5,k3⟩:=ok.l le (Z13 hle);rw [B5m hle] at ef;have s13:=s12.trans s3;refine ⟨_,rfl,b,_,db,_,_,rfl,s13 _ _ eb,T.bp,T.dz,(by walk_at "lk"),tv,le.2.2,rfl,ob.imp s13,k4,k5,λq ps H4 hq s4 h4 pp=>⟨q,rfl,⟨_,SqL.of h4⟩,?_⟩⟩;have lps:=Paired.length pp;have s14:=s13.trans s4
   refine A1r (K:=K) (a:=q) (xs:=ps) (λj σ G5=>∃(o4:Option V),σ=[some (.ref p),some (.ref ld),some (.ref aq),some (.ref b),o4]/\A0n H4 G5/\C8o L (arr tb ls) le=((prT le.2.2 [] []).drop j).findSome? (D4x L (arr tb ls) le))
    ⟨o4,rfl,A0n.refl _,rfl⟩ (λj σ G5 _ ⟨_,_,s5,_⟩=>SqL.of (s5 _ _ h4)) ?_ ?_
   ·rintro j z σ G5 hz ⟨o4,rfl,s5,eg⟩;obtain ⟨⟨u,ss,gg⟩,hqq,pz⟩:=B2s pp hz;have pat:∀{G':Hp},A0n H4 G'->A4p t G' z (u,ss,gg):=λs=>pz.same s;obtain ⟨pa,dp,pv',sl,gl,gs,rfl,ep,obp,hsl,hgl,lgs,lss,pgs⟩:=id pz;rw [B5m hqq] at eg;have s15:=s14.trans s5;obtain ⟨C,bb,ty,isi,it,if'⟩:=isRd T (obp.imp s5);refine ⟨_,rfl,pa,_,dp,_,_,rfl,s5 _ _ ep,T.ao,T.bc,(by walk_at "lk"),_,_,_,bb,rfl,ty,isi,bb,rfl,C6x (λb1=> ?_) (λb0=> ?_)⟩
    ·obtain ⟨a',ix,hux⟩:=it b1;have hux:u= .read a' ix:=hux;subst hux;obtain ⟨li,⟨zs,hzs,lz⟩,ne⟩:=k3 _ (Z13 hqq) a' ix rfl
     obtain ⟨ro,rdx,rl',rfl,ho,_⟩:∃o dx l,pv'= .ref o/\H4 o=some (.ins t.ak dx [("array",.str a'),("indexes",.ref l)])/\Rep H4 (.ref l) (A6j ix):=by
      cases obp with
      | @read o dx l _ _ e r=>exact ⟨o,dx,l,rfl,e,r⟩
     have erp:D4x L (arr tb ls) le (.read a' ix,ss,gg)=((A5a L (le.2.1++ss) gg ix).find? (B1b (zs.map L))).map λe=>(a',e):=by
      show ((A5a L (le.2.1++ss) gg ix).find? (B1b (((shp (arr tb ls) a').getD []).map L))).map (λe=>(a',e))=_;rw [hzs];rfl
     obtain ⟨zs',c',hs',hv',hc'⟩:∃zs c,shp (arr tb ls) a'=some zs/\A4u ws (Sum.inr a')=some (.ref c)/\H2 c=some (.lst (zs.map V.str)):=by
      rcases B6d (a:=a') aw' with ⟨z1,_⟩ | z
      ·rw [hzs] at z1;cases z1
      ·exact z
     rw [hzs] at hs';cases hs';have s25:A0n H2 G5:=s3.trans (s4.trans s5);have gk:=B2l.k (H:=G5) (a:=aq) (k:=Sum.inr a') (s25 _ _ h2);rw [hv'] at gk
     have tz:A7g lk L zs:=by
      have:(a',zs)∈arr tb ls:=by
       unfold shp at hzs;obtain ⟨e',he',ee⟩:=Z0i.mp hzs;have h1:=List.find?_some he';have h2:=List.mem_of_find?_eq_some he';have h1:e'.1=a':=of_decide_eq_true h1;rw [<-h1,<-ee];exact h2
      exact ok.tk _ this
     refine ⟨_,rfl,_,rfl,_,rfl,_,rfl,_,rfl,pa,_,dp,_,_,rfl,s5 _ _ ep,T.ao,T.bc,(by walk_at "lk"),ro,_,rdx,_,_,rfl,s5 _ _ ho,T.bo,T.b_,(by walk_at "lk"),aq,_,rfl,gk,.ref b,.ref pa,ld,c',le,a',ix,ss,gg,lk,L,zs,rfl,lat s15,pat s5,s25 _ _ (s2 _ _ h1),li,s25 _ _ hc',tz,lz,ne,λhn G6 s6=> ?_,λe' he'=> ?_⟩
     ·rw [erp,hn] at eg;exact ⟨some (.ref pa),rfl,s5.trans s6,eg⟩
     ·rw [erp,he'] at eg;have eg:C8o L (arr tb ls) le=some (a',e'):=eg;rw [eg] at ef;exact (ko.2 le.1 a' e' ef).of s15
    ·have erp:D4x L (arr tb ls) le (u,ss,gg)=none:=by
      have:=if' b0
      cases u with
      | read a ix=>exact absurd rfl (this a ix)
      | _=>rfl
     rw [erp] at eg;exact ⟨some (.ref pa),rfl,s5,eg⟩
   ·rintro σ G5 ⟨o4,rfl,s5,eg⟩;rw [lps,List.drop_length] at eg;have eg:C8o L (arr tb ls) le=none:=eg;rw [eg] at ef;exact ⟨some (.ref b),o4,rfl,s3.trans (s4.trans s5),ef⟩
  ·rintro σ G ⟨o3,o4,rfl,s3,ef⟩;rw [lxl,List.drop_length] at ef;exact ko.1 ef G (s12.trans s3)
theorem C7v (T:Txt K mg t):A2e P w K mg base (CXD P w) 17 t.wq t.wG ["program"] (D4f t):=by
 have G_look_names:= @B7o P w K mg base t T;have G_look_reads:= @B7j P w K mg base t T;have G_look_terms:= @B5x P w K mg base t T;have G_look_work:= @B8d P w K mg base t T;refine T.wv.okD D3o (by walk_at "ln") (λcdv A outer s H vs Q E hr h=> ?_)
 ·obtain ⟨p,wh,ax,tb,ls,os,L,rfl,pr,nin,gn,gs,tin,el,wk,sm,km,kr⟩:=h
  refine ⟨_,(A0c (A2a (A0l G_look_names (hr.mono (by lia)) rfl T.vd T.rg.kp T.vc .nil A9f (A0a (pv 0) A0d)))
   (A0c (A2a (A0l G_look_terms (hr.mono (by lia)) rfl T.vn T.qy.kp T.vv .nil A9f (A0a (pv 0) A0d)))
   (A0c (A2a (A0l G_look_work (hr.mono (by lia)) rfl T.wd T.tR.kp T.vQ .nil A9f (A0a (pv 0) A0d)))
   (A0e (A2a (A0l G_look_reads (hr.mono (by lia)) rfl T.vp T.rn.kp T.vm .nil A9f (A0a (pv 0) A0d))))))),?_⟩
  refine ⟨_,rfl,p,wh,ax,tb,ls,os,rfl,pr,nin,λ_ _ H1 s1=> ?_,λz=>absurd gn z,λ_ z=>absurd gs z⟩;refine ⟨_,rfl,p,wh,ax,tb,ls,os,rfl,pr.same s1,tin,λ_ H2 s2=> ?_,λb z=>by rw [el] at z;cases z⟩;have s12:=s1.trans s2;refine ⟨_,rfl,p,wh,ax,tb,ls,os,L,rfl,pr.same s12,wk,sm,λh4 H3 s3=> ?_,λh4 H3 s3=>km h4 H3 (s12.trans s3)⟩;have s13:=s12.trans s3;exact ⟨_,rfl,p,wh,ax,tb,ls,os,L,rfl,pr.same s13,(kr h4).1,(kr h4).2.of s13⟩
structure D9a (ax:List (Str×Int)) (tb:List (Str×List Str)) (ls:List Lt) (os:List Str) (L:Str->Int):Prop where
 nin:D8p ax tb ls os
 gn:GdN ax tb ls os
 gs:GdS ax tb ls
 tin:E0f ax tb ls
 el:B6c (axN ax) tb ls=none
 wk:D8k (A1b [] (B6r ax)) L tb ls
 sm:Sm (wrk L tb ls)
 rd:wrk L tb ls<=4000->D8y (A1b [] (B6r ax)) L tb ls
def C4f (H:Hp) (v:V):Option (List Int×List Int)->Prop
 | none=>v= .non
 | some e=>∃dt s c,v= .ref dt/\H dt=some (.tup [.ref s,.ref c])/\H s=some (.tup (e.1.map V.int))/\H c=some (.tup (e.2.map V.int))
theorem C4f.same {H H':Hp} {v:V} (s:A0n H H'):∀{r:Option (List Int×List Int)},C4f H v r->C4f H' v r
 | none,h=>h
 | some e,⟨dt,a,c,h1,h2,h3,h4⟩=>⟨dt,a,c,h1,s _ _ h2,s _ _ h3,s _ _ h4⟩
def C4t (ea:Addr):Sp:=λvs H Q _=>∃(p d:Addr) (ns:List Int) (C:Addr) (od:Option Addr),vs=[.ref p,.ref d]/\H p=some (.tup (ns.map V.int))/\H d=some (.tup (ns.map V.int))/\H ea=some (.ext (xcG ea C od))/\∀H',A0n H H'->Q (.bl true) H'
def C8r (A:Adr):Sp:=λvs H Q _=>∃(p:Addr) (ar:Str) (v:V) (mu:Bool) (wh:Int) (ax:List (Str×Int)) (tb:List (Str×List Str)) (ls:List Lt) (os:List Str) (L:Str->Int) (du:Option (List Int×List Int)),vs=[.ref p,.str ar,v,.bl mu]/\B9n A H p wh ax tb ls os/\D9a ax tb ls os L/\mu=decide (4000<wrk L tb ls)/\(4000<wrk L tb ls->du=none)/\(wrk L tb ls<=4000->D4w L (arr tb ls) ls=du.map λe=>(("mine":Str),(ar,e)))/\C4f H v du/\∀H',A0n H H'->Q (.bl true) H'
def D0r (A:Adr):Sp:=λvs H Q _=>∃(p:Addr) (wh:Int) (ax:List (Str×Int)) (tb:List (Str×List Str)) (ls:List Lt) (os:List Str) (L:Str->Int),vs=[.ref p]/\B9n A H p wh ax tb ls os/\D9a ax tb ls os L/\∀H',A0n H H'->Q (.bl true) H'
theorem C0j (T:Txt K mg t) (ea:Addr):D2q ea P w K mg base CX0 1 t.qv t.qe ["_law_found","_law_due"] (C4t ea):=by
 refine T.qf.okE A9h (by walk_at "ln") (λcdv A outer s H vs Q E hr hh h=> ?_)
 ·obtain ⟨p,d,ns,C,od,rfl,hp,hd,he,k⟩:=h
  refine ⟨_,(A0c (A1s (PW.pt (B6k (B2m (A2g (A0q A1f (by rfl) T.ac Z0d (A0a (pv 0) (A0a (A4g (v:=V.ty "tuple") rfl T.fo Z0m rfl) A0d))))) (B5o (A0x B7n (A0q A1a (by rfl) T.cw Z0r (A0a (pv 0) A0d)) (A0q A1a (by rfl) T.cw Z0r (A0a (pv 1) A0d)) (A1h _)))))
    (A0e (A0y B3d))
    A0v)
   (A0c (D2s (ok:=B1m ea) PassesOwn.never hh (C5l rfl T.v6 (A0a (pv 0) (A0a (pv 1) A0d))) (D3v (ea:=ea) (n:=2) hh (A0u (A0m (i:=2) A9h.nd rfl (Or.inl rfl) (Or.inl rfl)) (A0u (A0m (i:=3) A9h.nd rfl (Or.inl rfl) (Or.inl rfl)) A2q)))
    (A0e (A1s (PW.pt (B6k (B2m (A2g (A0q A1f (by rfl) T.ac Z0d (A0a (pv 2) (A0a (A4g (v:=V.ty "int") rfl T.xC PyProof.Rows.boot_int rfl) A0d))))) (B6k (A2g (A0q A1f (by rfl) T.ac Z0d (A0a (pv 2) (A0a (A4g (v:=V.ty "bool") rfl T.xw PyProof.Rows.boot_bool rfl) A0d)))) (B5o (A0x B7n (pv 2) (pv 3) (A1h _))))))
     (A0e (A0y B3d))
     A0v)))
   (A0e (A0y B3d)))),?_⟩
  refine ⟨_,rfl,_,_,_,_,rfl,.tup hp,B0e "tuple",true,rfl,A3o ?_⟩;refine ⟨_,rfl,p,_,rfl,.inr (SqT.of hp),_,rfl,d,_,rfl,.inr (SqT.of hd),rfl,_,rfl,B1c (λz=>absurd rfl z) (λ_=> ?_)⟩;refine ⟨_,rfl,_,rfl,p,d,_,_,rfl,SqT.of hp,SqT.of hd,?_⟩;refine C4a (ea:=ea) (K:=K) (a:=p) (b:=d) (xs:=ns.map V.int) (ys:=ns.map V.int) (λi σ G=>∃(o2 o3:Option V),σ=[some (.ref p),some (.ref d),o2,o3]/\A0n H G) ⟨none,none,rfl,A0n.refl _⟩ (λi σ G ⟨_,_,_,s2⟩=>⟨SqT.of (s2 _ _ hp),SqT.of (s2 _ _ hd),C,od,s2 _ _ he⟩) rfl ?_ ?_
  ·rintro i x y σ G q hx hy ⟨o2,o3,rfl,s2⟩ hq;rw [hx] at hy;cases hy;obtain ⟨n,hn,rfl⟩:=A2j hx;have sq:A0n G (upd G q (.tup [.int n,.int n])):=A0f hq;refine ⟨q,_,rfl,SqT.of A0b,rfl,⟨C,od,sq _ _ (s2 _ _ he)⟩,_,_,rfl,_,_,rfl,rfl,?_⟩;refine ⟨_,rfl,_,_,_,_,rfl,.int _,B0e "int",true,rfl,A3o ?_⟩;refine ⟨_,rfl,_,_,_,_,rfl,.int _,C1v (by decide +kernel) (by decide +kernel) (by decide +kernel),false,rfl,A3o ?_⟩;exact ⟨_,rfl,_,rfl,rfl,_,rfl,B1c (λz=>absurd rfl z) (λ_=>⟨_,_,rfl,s2.trans sq⟩)⟩
  ·rintro σ G ⟨o2,o3,rfl,s2⟩;exact k G s2
theorem C3v (T:Txt K mg t):A2e P w K mg base CX0 18 t.tH t.t8 ["_law_program","_law_array","_law_due","_law_much"] (C8r t):=by
 have G_look:= @C7v P w K mg base t T;have GE_l_wholes:= @C0j P w K mg base t T;refine T.tF.ok A6n (by walk_at "ln") (λcdv A outer s H vs Q E hr h=> ?_)
 ·obtain ⟨p,ar,v,mu,wh,ax,tb,ls,os,L,du,rfl,pr,lk,hmu,hdn,hri,da,k⟩:=h
  refine ⟨_,(A0c (A0p (i:=4) A6n.nd rfl (Or.inl rfl) A0j)
   (A0c (C9h (i:=4) ⟨rfl,rfl⟩ (C2k G_look (hr.mono (by lia)) rfl T.x8 T.wv.kp T.wX (A0a (pv 0) A0d)) A6n.nd rfl (Or.inl rfl))
   (A0e (A0y (A9s (A5n C5n (pv 4) B8c (A1h _)) (A9s (A5n C5n (pv 2) B8c (A1h _)) (B5s (D1c (pv 3))))))))),?_⟩
  refine ⟨_,rfl,p,wh,ax,tb,ls,os,L,rfl,pr,lk.nin,lk.gn,lk.gs,lk.tin,lk.el,lk.wk,lk.sm,λh4 H1 s1=>⟨t.ag,_,rfl,(C0q (i:=5) rfl T.og T.qu A6n.nd rfl rfl (λ_=>(A0e (A0y (A9s (pv 3) (A9s (A0q (B0j (K:=K) rfl) (by rfl) T.ac Z0d (A0a (pv 5) (A0a (A3t (v:=V.ref t.c8) rfl T.gi rfl) A0d))) (B5s (D1c (A0q (B5r (K:=K) rfl) (by rfl) T.ac Z0d (A0a (pv 5) (A0a (A3v (A0a (A3t (v:=V.ref t.aa) rfl T.m7 rfl) (A0a (A3t (v:=V.ref t.cb) rfl T.wa rfl) A0d))) A0d))))))))))),λea hea=> ?_⟩,λh4=>⟨lk.rd h4,λhn H1 s1=> ?_,λx a e hre dx sp ce H1 s1 hdx hs hc=>⟨t.aa,_,rfl,(C8y rfl T.og T.kh (C8l (i:=5) rfl T.m7 T.ju A6n.nd rfl rfl (λ_=>(A0c (A1s (PW.pt (B6k (A2g (pv 3)) (B6k (A0x C5n (pv 2) B8c (A1h _)) (B6k (B2m (A2g (A0q (B0j (K:=K) rfl) (by rfl) T.ac Z0d (A0a (pv 5) (A0a (A3t (v:=V.ref t.c8) rfl T.gi rfl) A0d))))) (B5o (A2g (A0q (B5r (K:=K) rfl) (by rfl) T.ac Z0d (A0a (pv 5) (A0a (A3v (A0a (A3t (v:=V.ref t.ag) rfl T.og rfl) (A0a (A3t (v:=V.ref t.cb) rfl T.wa rfl) A0d))) A0d)))))))))
    (A0e (A0y B3d))
    A0v)
   (A0c (A1s (PW.pt (B6k (A0x B7n (B6g (K:=K) rfl (pv 5) rfl) A3a (A1h _)) (B5o (A0x B7n (B6g (K:=K) rfl (pv 5) rfl) (pv 1) (A1h _)))))
    (A0e (A0y B3d))
    A0v)
   (A0e (A0y (A9s (C2n (GE_l_wholes _) ((hr.mono (by lia)).held _) rfl rfl T.uy T.qf.kp T.uI .nil A0z (A0a (B6g (K:=K) rfl (pv 5) rfl) (A0a (A3x (B3l (K:=K) rfl) (pv 2) A0j (λ_ _=>rfl)) A0d))) (B5s (C2n (GE_l_wholes _) ((hr.mono (by lia)).held _) rfl rfl T.uy T.qf.kp T.uI .nil A0z (A0a (B6g (K:=K) rfl (pv 5) rfl) (A0a (A3x (B3l (K:=K) rfl) (pv 2) A0j (λ_ _=>rfl)) A0d)))))))))))),λea hea=> ?_⟩⟩⟩
  ·have emu:mu=true:=by rw [hmu];exact Z20 h4
   subst emu;have s2:A0n H1 (upd H1 ea (.ext (xcG ea t.ag none))):=A0f hea;refine ⟨_,rfl,true,rfl,B4j ⟨_,rfl,ea,t.ag,none,_,true,rfl,A0b,T.qb,A1e T.l_,true,rfl,B4j ⟨_,rfl,A0g (by show 2<=1000000;decide),λtp htp=> ?_⟩⟩⟩;have s3:=A0f (o:= .tup [.ref t.aa,.ref t.cb]) htp;refine ⟨ea,t.ag,none,tp,_,false,rfl,s3 _ _ A0b,T.qb,A0b,A5t (cs:=[t.aa,t.cb]) (λc hc=> ?_),false,rfl,k _ (s1.trans (s2.trans s3))⟩;simp only [Z0e,Z1i,or_false] at hc;rcases hc with rfl | rfl
   ·exact T.kz
   ·exact T.rc
  ·have emu:mu=false:=by rw [hmu];exact Z1j (by lia)
   subst emu
   have hdu:du=none:=by
    have:=hri h4;rw [hn] at this
    cases du with
    | none=>rfl
    | some e=>cases this
   subst hdu;cases da;exact ⟨_,rfl,rfl,true,rfl,B4j ⟨_,rfl,rfl,true,rfl,B4j ⟨_,rfl,false,rfl,k _ s1⟩⟩⟩
  ·have emu:mu=false:=by rw [hmu];exact Z1j (by lia)
   subst emu
   obtain ⟨hx,ha,hdu⟩:x="mine"/\a=ar/\du=some e:=by
    have:=hri h4;rw [hre] at this
    cases du with
    | none=>cases this
    | some e'=>cases this;exact ⟨rfl,rfl,rfl⟩
   subst hx ha hdu;have s2:A0n H1 (upd H1 ea (.ext (xcG ea t.aa (some dx)))):=A0f hea;have he2:upd H1 ea (.ext (xcG ea t.aa (some dx))) ea=some (.ext (xcG ea t.aa (some dx))):=A0b;have s12:=s1.trans s2;obtain ⟨dt,s0,c0,rfl,hdt,hs0,hc0⟩:=da.same s12;refine ⟨_,rfl,false,rfl,A3o ⟨_,rfl,rfl,false,rfl,A3o ?_⟩⟩;refine ⟨_,rfl,ea,t.aa,some dx,_,true,rfl,he2,T.jc,A1e T.i_,true,rfl,A3o ?_⟩;refine ⟨_,rfl,A0g (by show 2<=1000000;decide),λtp htp=> ?_⟩;have s3:A0n (upd H1 ea (.ext (xcG ea t.aa (some dx)))) (upd (upd H1 ea (.ext (xcG ea t.aa (some dx)))) tp (.tup [.ref t.ag,.ref t.cb])):=A0f htp;have htp3:upd (upd H1 ea (.ext (xcG ea t.aa (some dx)))) tp (.tup [.ref t.ag,.ref t.cb]) tp=some (.tup [.ref t.ag,.ref t.cb]):=A0b;have he3:=s3 _ _ he2;have s23:=s2.trans s3;have hd3:=s23 _ _ hdx;refine ⟨ea,t.aa,some dx,tp,_,false,rfl,he3,T.jc,htp3,A5t (cs:=[t.ag,t.cb]) (λc hc=> ?_),false,rfl,A3o ?_⟩
   ·simp only [Z0e,Z1i,or_false] at hc;rcases hc with rfl | rfl
    ·exact T.mq
    ·exact T.oi
   refine ⟨_,rfl,ea,t.aa,dx,_,.str "mine",rfl,he3,hd3,(by walk_at "lk"),T.sN,rfl,_,rfl,B1c (λz=>absurd rfl z) (λ_=> ?_)⟩;refine ⟨_,rfl,ea,t.aa,dx,_,.str a,rfl,he3,hd3,(by walk_at "lk"),T.qi,_,rfl,rfl,_,rfl,B1c (λz=>absurd rfl z) (λ_=> ?_)⟩;have e0:atI [V.ref s0,V.ref c0] 0=some (.ref s0):=A3d (j:=0) rfl;have e1:atI [V.ref s0,V.ref c0] 1=some (.ref c0):=A3d (j:=1) rfl;refine ⟨_,rfl,ea,t.aa,dx,_,.ref sp,rfl,he3,hd3,(by walk_at "lk"),T.sS,_,rfl,dt,_,_,_,rfl,rfl,SqT.of (s3 _ _ hdt),e0,sp,s0,e.1,t.aa,some dx,rfl,s23 _ _ hs,s3 _ _ hs0,he3,λH4 s4=>⟨true,rfl,B4j ?_⟩⟩;have s24:=s23.trans s4;exact ⟨_,rfl,ea,t.aa,dx,_,.ref ce,rfl,s4 _ _ he3,s4 _ _ hd3,(by walk_at "lk"),T.qz,_,rfl,dt,_,_,_,rfl,rfl,SqT.of (s4 _ _ (s3 _ _ hdt)),e1,ce,c0,e.2,t.aa,some dx,rfl,s24 _ _ hc,s4 _ _ (s3 _ _ hc0),s4 _ _ he3,λH5 s5=>k _ (s1.trans (s24.trans s5))⟩
theorem C4d (T:Txt K mg t):A2e P w K mg base CX0 18 t.tE t.tm ["_law_program"] (D0r t):=by
 have G_look:= @C7v P w K mg base t T;refine T.v3.ok B1j (by walk_at "ln") (λcdv A outer s H vs Q E hr h=> ?_)
 ·obtain ⟨p,wh,ax,tb,ls,os,L,rfl,pr,lk,k⟩:=h
  refine ⟨_,(A0c (D0y ⟨rfl,rfl⟩ (C2k G_look (hr.mono (by lia)) rfl T.x8 T.wv.kp T.wX (A0a (pv 0) A0d)))
   (A0e (A0y B3d))),?_⟩
  refine ⟨_,rfl,p,wh,ax,tb,ls,os,L,rfl,pr,lk.nin,lk.gn,lk.gs,lk.tin,lk.el,lk.wk,lk.sm,λh4 H1 s1=>⟨t.ag,_,rfl,(C0q (i:=1) rfl T.gi T.mr B1j.nd rfl rfl (λ_=>(A0e (A0y (A0q (B0j (K:=K) rfl) (by rfl) T.ac Z0d (A0a (pv 1) (A0a (A4g (v:=V.ty "ValueError") rfl T.rh PyProof.Rows.Boot.«ValueError» rfl) A0d))))))),λea hea=> ?_⟩,λh4=>⟨lk.rd h4,λhn H1 s1=>k _ s1,λx a e hre dx sp ce H1 s1 hdx hs hc=>⟨t.aa,_,rfl,(C0q (i:=1) rfl T.gi T.jj B1j.nd rfl rfl (λ_=>(A0e (A0y (A0q (B0j (K:=K) rfl) (by rfl) T.ac Z0d (A0a (pv 1) (A0a (A4g (v:=V.ty "ValueError") rfl T.rh PyProof.Rows.Boot.«ValueError» rfl) A0d))))))),λea hea=> ?_⟩⟩⟩
  ·exact ⟨_,rfl,ea,t.ag,none,_,true,rfl,A0b,T.qb,B9g T.kf (by decide +kernel),k _ (s1.trans (A0f hea))⟩
  ·exact ⟨_,rfl,ea,t.aa,some dx,_,true,rfl,A0b,T.jc,B9g T.ip (by decide +kernel),k _ (s1.trans (A0f hea))⟩
def KI (H H':Hp):Prop:=∀b u,(∀n xs,u≠.lst (V.int n::xs))->H b=some u->H' b=some u
theorem D4d (ys:List Str):∀n xs,HO.lst (ys.map V.str)≠.lst (V.int n::xs):=λn xs z=>by
 cases ys with
 | nil=>cases z
 | cons y r=>cases z
theorem A6s {H H':Hp} {D:Addr} {ms:List Int} (hD:H D=some (.lst (ms.map V.int))) (o:Oth D H H') (e:ms=[]->H'=H):KI H H':=by
 cases ms with
 | nil=>rw [e rfl];exact λ_ _ _ y=>y
 | cons n r =>
  intro b u n1 y;by_cases hb:b=D
  ·subst hb;rw [hD] at y;cases y;exact absurd rfl (n1 n _)
  ·rw [o b hb];exact y
theorem KI.of {H H':Hp} (s:A0n H H'):KI H H':=λb u _ e=>s b u e
theorem KI.trans {H H' H2:Hp} (a:KI H H') (b:KI H' H2):KI H H2:=λc u n e=>b c u n (a c u n e)
theorem KI.fresh {H H':Hp} {b:Addr} {o:HO} (k:KI H H') (h:H b=none):KI H (upd H' b o):=λc u n e=>by
 rw [A0h (A0k e h)];exact k c u n e
theorem KI.str {H H':Hp} (k:KI H H') {b:Addr} {ys:List Str} (e:H b=some (.lst (ys.map V.str))):H' b=some (.lst (ys.map V.str)):=k _ _ (D4d ys) e
theorem KI.dk {H H':Hp} (k:KI H H') {b:Addr} {kvs:List (Key×V)} (e:H b=some (.dK kvs)):H' b=some (.dK kvs):=k _ _ (by intro n xs z;cases z) e
def D3s:Sp:=λvs H Q _=>∃(r:Addr) (ns:List Int),vs=[.ref r]/\H r=some (.lst (ns.map V.int))/\∀(i:Int) (ms:List Int) (H':Hp),ms.length<=ns.length->H' r=some (.lst (ms.map V.int))->Oth r H H'->(ns=[]->H'=H)->Q (.int i) H'
structure AxN (nm ys:List Str):Prop where
 nd:ys.Nodup
 sub:∀y∈ys,y∈nm
 few:ys.length<=3
def D2x:Sp:=λvs H Q _=>∃(c:Int) (l:Addr) (nm:List Str),vs=[.int c,.ref l]/\H l=some (.lst (nm.map V.str))/\nm.length<=8/\0<nm.length/\nm.Nodup/\∀(ys:List Str) (p:Addr) (H':Hp),H p=none->A0n H H'->H' p=some (.lst (ys.map V.str))->AxN nm ys->Q (.ref p) H'
theorem D2i {m c tn:Int} {i j:Nat} (m0:0<m) (m8:m<=8) (ht:tn=1\/tn=m-1) (hi:(i:Int)<m) (hj:(j:Int)<m) (e:(c+(i:Int)*tn)%m=(c+(j:Int)*tn)%m):i=j:=by
 have h:m=1\/m=2\/m=3\/m=4\/m=5\/m=6\/m=7\/m=8:=by lia
 rcases h with rfl | rfl | rfl | rfl | rfl | rfl | rfl | rfl <;> rcases ht with rfl | rfl <;> lia
theorem D7n {zs nm:List Str} {f:Nat->Nat} (nd:nm.Nodup) (h:∀j,j<zs.length->zs[j]? =nm[f j]?) (inj:∀i j,i<zs.length->j<zs.length->f i=f j->i=j):zs.Nodup:=by
 rw [List.nodup_iff_pairwise_ne,List.pairwise_iff_getElem];intro i j hi hj hij e;have h1:=h i hi;have h2:=h j hj;rw [Z0b hi] at h1;rw [Z0b hj] at h2;rw [e] at h1;have hb:f i<nm.length:=(Z03.mp h1.symm).1;have:=(List.getElem?_inj hb nd).mp (h1.symm.trans h2);have:=inj i j hi hj this
 lia
def C4p:Sp:=λvs H Q _=>∃(l d:Addr) (ys:List Str) (lk:List (Key×V)) (L:Str->Int),vs=[.ref l,.ref d]/\H l=some (.lst (ys.map V.str))/\H d=some (.dK lk)/\A7g lk L ys/\C3r (ys.map L)/\∀(q:Addr) (H':Hp),H q=none->A0n H H'->A8r H' q (A3m (ys.map L))->Q (.ref q) H'
theorem B4f (T:Txt K mg t):A2e P w K mg base CX0 1 t.uf t.uG ["_law_rest"] D3s:=by
 refine T.cy.ok C4s (by walk_at "ln") (λcdv A outer s H vs Q E hr h=> ?_)
 ·obtain ⟨r,ns,rfl,hns,k⟩:=h
  refine ⟨_,(A0c (A1s (A0x A5l (A0q A1a (by rfl) T.cw Z0r (A0a (pv 0) A0d)) A0j (A1h _))
    (A0e (A0y A0j))
    A0v)
   (A0e (A0y (D1n Z0k PySem.F.slot_list_pop PySem.F.type_list_pop D5g (pv 0))))),?_⟩
  refine ⟨_,rfl,r,_,rfl,.inl (SqL.of hns),rfl,_,rfl,A8m (λ_=> ?_) (λh=> ?_)⟩
  ·exact k 0 ns H (Z09 _) hns (λ_ _=>rfl) λ_=>rfl
  ·have hpos:0<ns.length:=by
    rcases Nat.eq_zero_or_pos ns.length with z | z
    ·exact absurd (by rw [Z08,z];rfl) h
    ·exact z
   have e:(ns.map V.int)[(ns.map V.int).length-1]? =some (V.int (ns[ns.length-1]'(by lia))):=by
    rw [Z08,Z1z,Z0b (by lia:ns.length-1<ns.length)];rfl
   refine ⟨_,rfl,.inl ⟨rfl,_,SqL.of hns⟩,r,_,_,rfl,rfl,hns,e,k _ ns.dropLast _ (by simp) ?_ (λb hb=>A0h hb) λz=>by rw [z] at hpos;cases hpos⟩;rw [A0b,List.map_dropLast]
theorem C5o (T:Txt K mg t):A2e P w K mg base CX0 1 t.ut t.ul ["_law_cell_here","_law_names"] D2x:=by
 refine T.ug.ok B0q (by walk_at "ln") (λcdv A outer s H vs Q E hr h=> ?_)
 ·obtain ⟨c,l,nm,rfl,hl,h8,hpos,nd,k⟩:=h
  refine ⟨_,(A0c (A0p (i:=2) B0q.nd rfl (Or.inr rfl) (A0q A1a (by rfl) T.cw Z0r (A0a (pv 1) A0d)))
   (A0c (A0p (i:=3) B0q.nd rfl (Or.inr rfl) A0j)
   (A9a (A1s (PW.pt (B2r (A0x A5l (A0t A2b (A0t A3b (pv 0) A0j) A0j) A0j (A1h _)) (B0y (A0x B8n (pv 2) A0j (A1h _)))))
    (A0e (A0p (i:=3) B0q.nd rfl (Or.inr rfl) (A0t A6p (pv 2) A0j)))
    A0v)
   (A0e (A0y (A3l (N':=["_law_j","_law_cell_here","_law_many_here","_law_names","_law_turn"]) (ix:=(List.replicate 1 none++[some 0,some 2,some 1,some 3])) rfl (B8x (cl:=[("_law_turn",_),("_law_names",_),("_law_many_here",_),("_law_cell_here",_)]) (xs:=["_law_turn","_law_names","_law_many_here","_law_cell_here"]) rfl ⟨rfl,rfl,rfl,rfl,trivial⟩ rfl rfl (by decide +kernel) (by decide +kernel)) (B9a (N0:=["_law_j"]) (xs:=["_law_cell_here","_law_many_here","_law_names","_law_turn"]) (js:=[0,2,1,3]) ⟨⟨rfl,Or.inl rfl,(by first | exact Or.inl rfl | exact Or.inr rfl | (simp [relabel];rfl) | (with_unfolding_all exact Or.inl rfl) | (with_unfolding_all exact Or.inr rfl) | (with_unfolding_all decide))⟩,⟨rfl,Or.inl rfl,(by first | exact Or.inl rfl | exact Or.inr rfl | (simp [relabel];rfl) | (with_unfolding_all exact Or.inl rfl) | (with_unfolding_all exact Or.inr rfl) | (with_unfolding_all decide))⟩,⟨rfl,Or.inl rfl,(by first | exact Or.inl rfl | exact Or.inr rfl | (simp [relabel];rfl) | (with_unfolding_all exact Or.inl rfl) | (with_unfolding_all exact Or.inr rfl) | (with_unfolding_all decide))⟩,⟨rfl,Or.inl rfl,(by first | exact Or.inl rfl | exact Or.inr rfl | (simp [relabel];rfl) | (with_unfolding_all exact Or.inl rfl) | (with_unfolding_all exact Or.inr rfl) | (with_unfolding_all decide))⟩,trivial⟩) (B0l rfl T.uc (A0a (A0q (C5s rfl) (by rfl) T.xB PyProof.Rows.boot_min (A0a (A0t A2b (pv 0) A0j) (A0a (pv 2) A0d))) A0d)) (λ_ _ _ _=>(A0m (i:=0) C7m rfl (Or.inl rfl) (Or.inr rfl))) (λ_ _ _ _=>(A3x (D0a (K:=K) rfl) (pv 3) (A0t A2b (A0t A4h (A0t A3b (pv 1) A0j) (A0t B3t (pv 0) (pv 4))) (pv 2)) (λ_ _=>rfl))))))))),?_⟩
  refine ⟨_,rfl,l,_,rfl,.inl (SqL.of hl),?_⟩;rw [Z08];refine ⟨λσ H2=>H=H2/\∃tn:Int,(tn=1\/tn=(nm.length:Int)-1)/\σ=[some (.int c),some (.ref l),some (.int nm.length),some (.int tn)],?_,?_⟩
  ·refine ⟨_,rfl,_,_,rfl,rfl,⟨by decide,by decide⟩,_,_,rfl,rfl,(by show (0:Int)<2;decide),rfl,_,rfl,D5q (λ_=> ?_) (λ_=>A3o ⟨rfl,_,.inl rfl,rfl⟩)⟩;refine ⟨_,rfl,_,_,rfl,rfl,_,rfl,A8m (λ_=> ?_) (λ_=>⟨rfl,_,.inl rfl,rfl⟩)⟩;exact ⟨_,rfl,_,_,rfl,rfl,rfl,_,.inr rfl,rfl⟩
  ·rintro σ H2 ⟨rfl,tn,htn,rfl⟩;refine ⟨_,rfl,_,_,rfl,rfl,(by show (0:Int)<4;decide),_,rfl,_,_,rfl,?_⟩;generalize hm:(if (nm.length:Int)<c%4 then (nm.length:Int) else c%4)=m;have hm3:m<=3:=by rw [<-hm];split <;> lia
   have hm0:0<=m:=by rw [<-hm];split <;> lia
   have hmn:m<=nm.length:=by rw [<-hm];split <;> lia
   refine ⟨_,rfl,by lia,by lia,λD hD=> ?_⟩;refine B0k (D:=D) m.toNat (λi ys H3=>A0n H H3/\H3 D=some (.lst ys)/\∃zs:List Str,ys=zs.map V.str/\zs.length=i/\∀j,j<i->zs[j]? =nm[((c/8+(j:Int)*tn)%(nm.length:Int)).toNat]?) ⟨A0f hD,A0b,[],rfl,rfl,by intro j hj;lia⟩ (λi ys H3 hi _=>hi) (λys H3 _=>Z09 _) ?_ ?_
   ·rintro i ys H3 hi ⟨s3,h3,zs,rfl,hz,ez⟩ x H4 ⟨rfl,rfl⟩;rw [Int.zero_add];obtain ⟨x,xm,e⟩:=B3x (f:=V.str) (xs:=nm) (i:=(c/8+(i:Int)*tn)%(nm.length:Int)) (Z1v _ (by lia)) (Z1p _ (by lia));refine ⟨⟨rfl,rfl,rfl,rfl,True.intro⟩,_,rfl,_,rfl,_,_,rfl,rfl,⟨by decide,by decide⟩,_,rfl,_,rfl,_,_,rfl,rfl,.inl ⟨by lia,by lia⟩,_,_,rfl,rfl,_,rfl,_,_,rfl,rfl,(by show (0:Int)<(nm.length:Int);lia),l,_,_,_,rfl,rfl,SqL.of (s3 _ _ hl),e,?_⟩;refine ⟨h3,A1j (by simp;lia),A0r s3 hD,A0b,zs++[x],by simp,by simp [hz],λj hj=> ?_⟩;rcases Nat.lt_or_ge j i with hji | hji
    ·rw [Z26 (by lia)];exact ez j hji
    ·have:j=i:=by lia
     subst this;rw [xm,Z1l (by lia),hz,Nat.sub_self];rfl
   ·rintro ys H3 ⟨s3,h3,zs,rfl,hz,ez⟩
    have zn:zs.Nodup:=D7n (f:=λj=>((c/8+(j:Int)*tn)%(nm.length:Int)).toNat) nd (λj hj=>ez j (by lia)) λi j hi hj e=>by
     have a1:=Z1v (c/8+(i:Int)*tn) (show (nm.length:Int)≠0 by lia);have a2:=Z1v (c/8+(j:Int)*tn) (show (nm.length:Int)≠0 by lia);refine D2i (m:=nm.length) (c:=c/8) (tn:=tn) (by lia) (by lia) htn (by lia) (by lia) ?_;have e:((c/8+(i:Int)*tn)%(nm.length:Int)).toNat=((c/8+(j:Int)*tn)%(nm.length:Int)).toNat:=e
     lia
    have zs':∀y∈zs,y∈nm:=λy hy=>by
     obtain ⟨j,hj⟩:=List.getElem?_of_mem hy;have hl:=(Z03.mp hj).1;rw [ez j (by lia)] at hj;exact Z13 hj
    exact k zs D H3 hD s3 h3 ⟨zn,zs',by lia⟩
theorem B9h (T:Txt K mg t):A2e P w K mg base CX0 1 t.uq t.ue ["_law_axes_here","_law_lengths"] C2y:=by
 refine T.uv.ok B0a (by walk_at "ln") (λcdv A outer s H vs Q E hr h=> ?_)
 ·obtain ⟨l,d,ys,lk,L,rfl,hl,hd,tl,ly,k⟩:=h;have hu:=B0b hr
  refine ⟨_,(A0c (A0p (i:=2) B0a.nd rfl (Or.inl rfl) A0j)
   (A0c (A1x PassesOwn.never rfl (A1k (pv 0)) (A0m (i:=3) B0a.nd rfl (Or.inl rfl) (Or.inl rfl))
    (A0e (A0p (i:=2) B0a.nd rfl (Or.inl rfl) (A0t B3t (pv 2) (A4c hu (pv 1) (pv 3) (λ_ _=>rfl))))))
   (A0e (A0y (pv 2))))),?_⟩
  refine ⟨_,rfl,l,rfl,⟨_,SqL.of hl⟩,?_⟩;refine A1r (K:=K) (a:=l) (xs:=ys.map V.str) (λi σ H2=>H=H2/\∃o3:Option V,σ=[some (.ref l),some (.ref d),some (.int (prd L (ys.take i))),o3]) ⟨rfl,none,rfl⟩ (λi σ H2 _ ⟨h,_⟩=>by rw [<-h];exact SqL.of hl) ?_ ?_
  ·rintro i x σ H2 hx ⟨rfl,o3,rfl⟩;rw [Z1z] at hx;obtain ⟨y,hy,rfl⟩:=Z0i.mp hx;obtain ⟨v1,v2⟩:=tl y (Z13 hy);have g:=B2l.k (H:=H) (a:=d) (k:=Sum.inr y) hd;rw [v1] at g;refine ⟨_,rfl,_,rfl,_,rfl,d,_,rfl,g,_,_,rfl,rfl,.inr ⟨by lia,by lia⟩,rfl,some (.str y),?_⟩;rw [Z14,hy,Option.toList_some,B2k];rfl
  ·rintro σ H2 ⟨rfl,o3,rfl⟩;rw [Z08,Z18];exact ⟨_,rfl,k H (A0n.refl _)⟩
theorem C0u (T:Txt K mg t):A2e P w K mg base CX0 1 t.qt t.pj ["_law_spots_here","_law_length"] B0h:=by
 refine T.ur.ok A7a (by walk_at "ln") (λcdv A outer s H vs Q E hr h=> ?_)
 ·obtain ⟨a,n,cs,rfl,⟨ps,ha,tp⟩,h8,n0,n60,few,k⟩:=h
  refine ⟨_,(A0c (A0p (i:=2) A7a.nd rfl (Or.inl rfl) (A2p A0d))
   (A0c (A1x PassesOwn.never rfl (A1k (pv 0)) (A0m (i:=3) A7a.nd rfl (Or.inl rfl) (Or.inl rfl))
    (A0e (A1x PassesOwn.never rfl (B0l rfl T.uc (A0a (pv 1) A0d)) (A0m (i:=4) A7a.nd rfl (Or.inl rfl) (Or.inl rfl))
     (A0e (A2a (B4w Z0k Z0n Z0o A2x (pv 2) (A0a (A0t C1z (pv 3) (A3v (A0a (pv 4) A0d))) A0d)))))))
   (A0e (A0y (pv 2))))),?_⟩
  refine ⟨A0g (by decide),λl hl=> ?_⟩;have la:a≠l:=A0k ha hl;have ha1:upd H l (.lst []) a=some (.lst (ps.map V.ref)):=by rw [A0h la];exact ha
  refine ⟨_,rfl,a,rfl,⟨_,SqL.of ha1⟩,A1r (K:=K) (a:=a) (xs:=ps.map V.ref) (λi σ H2=>∃(o3 o4:Option V) (qs:List Addr),σ=[some (.ref a),some (.int n),some (.ref l),o3,o4]/\A0n H H2/\
   H2 l=some (.lst (qs.map V.ref))/\A2k H2 qs (B3z (cs.take i) n)) ⟨none,none,[],rfl,A0f hl,A0b,.nil⟩ (λi σ H2 _ ⟨_,_,_,_,s2,_⟩=>SqL.of (s2 _ _ ha)) ?_ ?_⟩
  ·rintro i y σ H2 hi ⟨o3,o4,qs,rfl,s2,h2,t2⟩;obtain ⟨pc,hpc,rfl⟩:=A2j hi;obtain ⟨c,hc,hpt⟩:=tp.get hpc;have hcm:c.length<=8:=h8 c (Z13 hc)
   refine ⟨_,rfl,n,rfl,by lia,by lia,B4d (n:=n.toNat) (λj σ H3=>∃(o4:Option V) (qs:List Addr),σ=[some (.ref a),some (.int n),some (.ref l),some (.ref pc),o4]/\A0n H H3/\
    H3 l=some (.lst (qs.map V.ref))/\A2k H3 qs (B3z (cs.take i) n++(List.range j).map λ(m:Nat)=>c++[(m:Int)])) ⟨o4,qs,rfl,s2,h2,by simpa using t2⟩ ?_ ?_⟩
   ·rintro j σ H3 hj ⟨o4,qs,rfl,s3,h3,t3⟩;rw [Int.zero_add]
    have hql:qs.length<=300000:=by
     have e:=t3.len;rw [Z06,A9d,Z08,List.length_range] at e;have e1:(cs.take i).length*n.toNat<=4000*60:=Nat.mul_le_mul (by rw [Z0x];lia) (by lia)
     lia
    have hp3:H3 pc=some (.tup (c.map V.int)):=s3 _ _ hpt;refine ⟨_,rfl,.inl ⟨rfl,_,SqL.of h3⟩,_,rfl,_,rfl,A0g (by simp),λu hu=> ?_⟩
    have fin:∀(q:Addr) (H4:Hp),A0n H3 H4->H4 q=some (.tup ((c++[(j:Int)]).map V.int))->C1n (V.ref l) [V.ref q] H4 λ_ H5=>∃(o4:Option V) (qs:List Addr),[some (V.ref a),some (.int n),some (.ref l),some (.ref pc),some (.int (j:Int))]=[some (.ref a),some (.int n),some (.ref l),some (.ref pc),o4]/\A0n H H5/\
      H5 l=some (.lst (qs.map V.ref))/\A2k H5 qs (B3z (cs.take i) n++(List.range (j+1)).map λ(m:Nat)=>c++[(m:Int)]):=λq H4 s4 h4=>by
     refine ⟨l,_,_,rfl,rfl,s4 _ _ h3,by rw [Z08];exact A1j (by lia),?_⟩;refine ⟨_,qs++[q],rfl,A0r (s3.trans s4) hl,by rw [A0b,Z0s];rfl,?_⟩;rw [List.range_succ,Z0s,<-Z0z];exact ((t3.same s4).snoc h4).lst (s4 _ _ h3)
    have s4:A0n H3 (upd H3 u (.tup [V.int (j:Int)])):=A0f hu;refine ⟨pc,u,_,_,rfl,rfl,SqT.of (s4 _ _ hp3),SqT.of A0b,(by simp),A0g (by simp;lia),λhx=> ?_,λhx p hp=> ?_⟩
    ·have ec:c=[]:=by simpa using hx
     subst ec;exact fin u _ s4 A0b
    ·refine fin p _ (s4.trans (A0f hp)) ?_;rw [A0b,Z0s];rfl
   ·rintro σ H3 ⟨o4,qs,rfl,s3,h3,t3⟩;refine ⟨_,_,qs,rfl,s3,h3,?_⟩
    have e:B3z (cs.take (i+1)) n=B3z (cs.take i) n++(List.range n.toNat).map λ(m:Nat)=>c++[(m:Int)]:=by
     rw [Z14,hc];simp [B3z]
    rw [e];exact t3
  ·rintro σ H2 ⟨o3,o4,qs,rfl,s2,h2,t2⟩;refine ⟨_,rfl,k l H2 hl s2 ⟨qs,h2,?_⟩⟩;rw [Z08,tp.len,Z18] at t2;exact t2
theorem C3g (T:Txt K mg t):A2e P w K mg base CX0 2 t.tL t.t6 ["_law_names","_law_lengths"] C4p:=by
 have G_l_longer:= @C0u P w K mg base t T;refine T.uY.ok A8k (by walk_at "ln") (λcdv A outer s H vs Q E hr h=> ?_)
 ·obtain ⟨l,d,ys,lk,L,rfl,hl,hd,tl,g,k⟩:=h;have hu:=B0b hr
  refine ⟨_,(A0c (A0p (i:=2) A8k.nd rfl (Or.inl rfl) (A2p (A0a (A3v A0d) A0d)))
   (A0c (A1x PassesOwn.never rfl (A1k (pv 0)) (A0m (i:=3) A8k.nd rfl (Or.inl rfl) (Or.inl rfl))
    (A0e (A0p (i:=2) A8k.nd rfl (Or.inl rfl) (A0l G_l_longer (hr.mono (by lia)) rfl T.wn T.ur.kp T.wx .nil A0z (A0a (pv 2) (A0a (A4c hu (pv 1) (pv 3) (λ_ _=>rfl)) A0d))))))
   (A0e (A0y (pv 2))))),?_⟩
  refine ⟨A0g (by simp),λe he=>⟨A0g (by simp),λq hq=> ?_⟩⟩;have hq0:H q=none:=(A0f he).free hq;have s1:A0n H (upd (upd H e (.tup [])) q (.lst [V.ref e])):=(A0f he).trans (A0f hq)
  refine ⟨_,rfl,l,rfl,⟨_,SqL.of (s1 _ _ hl)⟩,A1r (K:=K) (a:=l) (xs:=ys.map V.str) (λi σ H2=>∃(o3:Option V) (q:Addr),σ=[some (.ref l),some (.ref d),some (.ref q),o3]/\A0n H H2/\H q=none/\A8r H2 q (A3m ((ys.map L).take i)))
   ⟨none,q,rfl,s1,hq0,⟨[e],A0b,.cons (by rw [A0h (A0k A0b hq)];exact A0b) .nil⟩⟩ (λi σ H2 _ ⟨_,_,_,s2,_⟩=>SqL.of (s2 _ _ hl)) ?_ ?_⟩
  ·rintro i y σ H2 hi ⟨o2,q,rfl,s2,hq,c2⟩;obtain ⟨n,hn,rfl⟩:=A2j hi;have hnL:(ys.map L)[i]? =some (L n):=by rw [Z1z,hn];rfl
   have gp:=g.pos (L n) (Z13 hnL);have cl:=A4r ((ys.map L).take i) λm hm=>(g.pos m (List.mem_of_mem_take hm)).1;have pl:=B1w (ys.map L) (λm hm=>(g.pos m hm).1) i;have gm:=g.most;have gf:=g.few;have gk:=B2l.k (H:=H2) (a:=d) (k:=Sum.inr n) (s2 _ _ hd);rw [(tl n (Z13 hn)).1] at gk;refine ⟨_,rfl,_,rfl,_,rfl,d,_,rfl,gk,q,L n,_,rfl,c2,λc hc=> ?_,by lia,by lia,by lia,λp H' hp s3 c3=> ?_⟩
   ·have e:=(A6c _ c hc).1;rw [Z0x] at e
    lia
   ·refine ⟨_,p,rfl,s2.trans s3,s2.free hp,?_⟩;rw [A7d hnL];exact c3
  ·rintro σ H2 ⟨o2,q,rfl,s2,hq,c2⟩;have e:(ys.map L).take (ys.map V.str).length=ys.map L:=List.take_of_length_le (by simp);rw [e] at c2;exact ⟨_,rfl,k q H2 hq s2 c2⟩
theorem D9d {t1 t2 t3:TT} {σ:St} {H:Hp} {Q:Bool->Hp->Prop} {d1 d2 d3:Bool} (e1:∀Q':Bool->Hp->Prop,Q' d1 H->t1 σ H Q') (e2:∀Q':Bool->Hp->Prop,Q' d2 H->t2 σ H Q') (e3:∀Q':Bool->Hp->Prop,Q' d3 H->t3 σ H Q') (h:Q (d1&&d2&&d3) H):D8m t1 (D8m t2 t3) σ H Q:=by
 refine e1 _ ?_
 cases d1 with
 | false=>exact h
 | true =>
  refine e2 _ ?_
  cases d2 with
  | false=>exact h
  | true=>exact e3 _ h
theorem D8q {t1 t2:TT} {σ:St} {H:Hp} {Q:Bool->Hp->Prop} {d1 d2:Bool} (e1:∀Q':Bool->Hp->Prop,Q' d1 H->t1 σ H Q') (e2:∀Q':Bool->Hp->Prop,Q' d2 H->t2 σ H Q') (h:Q (d1&&d2) H):D8m t1 t2 σ H Q:=by
 refine e1 _ ?_
 cases d1 with
 | false=>exact h
 | true=>exact e2 _ h
abbrev Ly:=Int×Str×Int
def C2b (H:Hp) (v:V) (l:Ly):Prop:=∃q,v= .ref q/\H q=some (.tup [.int l.1,.str l.2.1,.int l.2.2])
theorem C2b.kt {H H':Hp} {v:V} {l:Ly} (h:C2b H v l) (f:∀b xs,H b=some (.tup xs)->H' b=some (.tup xs)):C2b H' v l:=let ⟨q,e,z⟩:=h;⟨q,e,f _ _ z⟩
def smL (ly:List Ly):List Str:=(ly.filter λl=>decide (l.1=3)).map λl=>l.2.1
def B9x (nm:List Str):List Str->List Ly->Prop
 | _,[]=>True
 | bd,l::r=>(l.1=3/\l.2.1∈nm/\l.2.1∉bd/\B9x nm (bd++[l.2.1]) r)\/(l.1=2/\l.2.1∈bd/\B9x nm bd r)\/((l.1=0\/l.1=1)/\B9x nm bd r)
theorem B8s {ly:List Ly} {x:Str} {c:Int}:smL (ly++[(3,x,c)])=smL ly++[x]:=by unfold smL;rw [List.filter_append,Z0s];rfl
theorem B7e {ly:List Ly} {l:Ly} (h:¬l.1=3):smL (ly++[l])=smL ly:=by
 unfold smL;rw [List.filter_append,List.filter_cons,Z0t (by rw [Z1j h];exact Z0v)];simp
theorem A4s {l:Ly} {r:List Ly} (h:l.1=3):smL (l::r)=l.2.1::smL r:=by
 unfold smL;rw [List.filter_cons,Z12 (Z20 h)];rfl
theorem A2w {l:Ly} {r:List Ly} (h:¬l.1=3):smL (l::r)=smL r:=by
 unfold smL;rw [List.filter_cons,Z0t (by rw [Z1j h];exact Z0v)]
theorem A7j {nm:List Str} {l:Ly}:∀{ly:List Ly} {bd:List Str},B9x nm bd ly->B9x nm (bd++smL ly) [l]->B9x nm bd (ly++[l])
 | [],bd,_,h=>by
  have e:smL []=[]:=rfl;rw [e,Z0u] at h;exact h
 | a::r,bd,h1,h2=>by
  rcases h1 with ⟨e,m,n,h1⟩ | ⟨e,m,h1⟩ | ⟨e,h1⟩
  ·refine .inl ⟨e,m,n,A7j h1 ?_⟩;rw [A4s e] at h2;rw [Z0z];exact h2
  ·refine .inr (.inl ⟨e,m,A7j h1 ?_⟩);rw [A2w (by lia)] at h2;exact h2
  ·refine .inr (.inr ⟨e,A7j h1 ?_⟩);rw [A2w (by lia)] at h2;exact h2
def C6b:Sp:=λvs H Q _=>∃(D ol nl:Addr) (n:Int) (ms:List Int) (ow nm:List Str),vs=[.ref D,.ref ol,.ref nl,.int n]/\0<=n/\n<=8/\H D=some (.lst (ms.map V.int))/\H ol=some (.lst (ow.map V.str))/\H nl=some (.lst (nm.map V.str))/\ow.length<=3/\nm.length<=8/\
 ∀(q:Addr) (xs:List V) (ly:List Ly) (ms':List Int) (H':Hp),KI H H'->H' D=some (.lst (ms'.map V.int))->H' q=some (.lst xs)->Paired (C2b H') xs ly->B9x nm ow ly->(smL ly).length<=3->ly.length<=8->Q (.ref q) H'
theorem C0h (T:Txt K mg t):A2e P w K mg base CX0 2 t.pi t.ph ["_law_rest","_law_own","_law_names","_law_many_here"] C6b:=by
 have G_l_cell:= @B4f P w K mg base t T;refine T.uw.ok A4l (by walk_at "ln") (λcdv A outer s H vs Q E hr h=> ?_)
 ·obtain ⟨D,ol,nl,n,ms,ow,nm,rfl,n0,n8,hD,hol,hnl,low,lnm,k⟩:=h
  refine ⟨_,(A0c (A0p (i:=4) A4l.nd rfl (Or.inl rfl) (A2p A0d))
   (A0c (A0p (i:=5) A4l.nd rfl (Or.inr rfl) (A3q A7t (by rfl) T.ti Z1o (A0a (pv 1) A0d)))
   (A0c (A1x PassesOwn.never rfl (B0l rfl T.uc (A0a (pv 3) A0d)) (A0m (i:=6) A4l.nd rfl (Or.inl rfl) (Or.inl rfl))
    (A0c (A0p (i:=7) A4l.nd rfl (Or.inl rfl) (A0l G_l_cell (hr.mono (by lia)) rfl T.d_ T.cy.kp T.em .nil A0z (A0a (pv 0) A0d)))
    (A0c (B8p (i₀:=8) (N':=["_law_name","_law_bound"]) (ix:=(List.replicate 1 none++[some 5])) (tc:=D3r (tOp (rIn K true) (D8c 0) (D8c 1))) A4l.nd rfl (Or.inl rfl) rfl (A6v (x:="_law_bound") rfl rfl rfl (by decide +kernel) (by decide +kernel)) (A5s (N0:=["_law_name"]) rfl (Or.inl rfl) (by first | exact Or.inl rfl | exact Or.inr rfl | (simp [relabel];rfl) | (with_unfolding_all exact Or.inl rfl) | (with_unfolding_all exact Or.inr rfl) | (with_unfolding_all decide))) (A1k (pv 2)) (λ_ _ _ _=>(A0m (i:=0) C3x rfl (Or.inl rfl) (Or.inr rfl))) (λ_ _ _ _=>(A0x A3w (pv 0) (pv 1) (by with_unfolding_all rfl))) (λ_ _ _ _=>(pv 0)))
    (A0e (A1s (PW.pt (B2r (A0x A5l (A0t A2b (pv 7) A0j) A0j (A1h _)) (B2r (A0x B8n (A0q A1a (by rfl) T.cw Z0r (A0a (pv 8) A0d)) A0j (A1h _)) (B0y (A0x C3h (A0q A1a (by rfl) T.cw Z0r (A0a (pv 5) A0d)) (A0t A4h (A0q A1a (by rfl) T.cw Z0r (A0a (pv 1) A0d)) A0j) (A1h _))))))
     (A0c (A2a (B4w Z0k Z0n Z0o A2x (pv 4) (A0a (A3v (A0a A0j (A0a (A3x A8g (pv 8) (A0t A2b (A0t A3b (pv 7) A0j) (A0q A1a (by rfl) T.cw Z0r (A0a (pv 8) A0d))) (λ_ _=>rfl)) (A0a (A0t A3b (pv 7) A0j) A0d)))) A0d)))
     (A0e (A2a (B4w Z0k Z0n Z0o A2x (pv 5) (A0a (A3x A4i (A3x A8g (pv 4) (D6n D1z A0j) (λ_ _=>rfl)) A0j (λ_ _=>rfl)) A0d)))))
     (A0e (A1s (PW.pt (B2r (A0x A5l (A0t A2b (pv 7) A0j) A0j (A1h _)) (B0y (A0x B8n (A0q A1a (by rfl) T.cw Z0r (A0a (pv 5) A0d)) A0j (A1h _)))))
      (A0e (A2a (B4w Z0k Z0n Z0o A2x (pv 4) (A0a (A3v (A0a A0j (A0a (A3x A8g (pv 5) (A0t A2b (A0t A3b (pv 7) A0j) (A0q A1a (by rfl) T.cw Z0r (A0a (pv 5) A0d))) (λ_ _=>rfl)) (A0a (A0t A3b (pv 7) A0j) A0d)))) A0d))))
      (A0e (A2a (B4w Z0k Z0n Z0o A2x (pv 4) (A0a (A3v (A0a (A0t A2b (pv 7) A0j) (A0a A3a (A0a (A0t A3b (pv 7) A0j) A0d)))) A0d)))))))))))
   (A0e (A0y (pv 4)))))),?_⟩
  refine ⟨A0g (by simp),λLH hLH=> ?_⟩;have s1:A0n H (upd H LH (.lst [])):=A0f hLH;have h1:upd H LH (.lst []) LH=some (.lst []):=A0b;generalize upd H LH (.lst [])=H1 at s1 h1;refine ⟨_,rfl,ol,_,rfl,.inl (SqL.of (s1 _ _ hol)),λBD hBD=> ?_⟩;have s2:A0n H1 (upd H1 BD (.lst (ow.map V.str))):=A0f hBD;have h2:upd H1 BD (.lst (ow.map V.str)) BD=some (.lst (ow.map V.str)):=A0b;have bdH:H BD=none:=s1.free hBD;generalize upd H1 BD (.lst (ow.map V.str))=H2 at s2 h2;have s12:=s1.trans s2;have LB:LH≠BD:=A0k h1 hBD;have DL:D≠LH:=A0k hD hLH;have DB:D≠BD:=A0k hD bdH;refine ⟨_,rfl,_,rfl,by lia,by lia,?_⟩
  refine B4d (n:=n.toNat) (λi σ G=>∃(o6 o7 o8:Option V) (ms:List Int) (xs:List V) (ly:List Ly),σ=[some (.ref D),some (.ref ol),some (.ref nl),some (.int n),some (.ref LH),some (.ref BD),o6,o7,o8]/\KI H G/\G D=some (.lst (ms.map V.int))/\G LH=some (.lst xs)/\Paired (C2b G) xs ly/\G BD=some (.lst ((ow++smL ly).map V.str))/\B9x nm ow ly/\(smL ly).length<=3/\ly.length=i)
   ⟨none,none,none,ms,[],[],rfl,KI.of s12,s12 _ _ hD,s2 _ _ h1,.nil,(by show H2 BD=some (.lst ((ow++[]).map V.str));rw [Z0u];exact h2),True.intro,Z1e _,rfl⟩ ?_ ?_
  ·rintro i σ G hi ⟨o6,o7,o8,ms,xs,ly,rfl,ki,hD',hLH',px,hBD',lok,l3,lly⟩;rw [Int.zero_add];have lxs:=Paired.length px;refine ⟨_,rfl,D,ms,rfl,hD',λc ms1 G1 l1 hD1 o1 e1=> ?_⟩;have ki1:=A6s hD' o1 e1;have hLH1:G1 LH=some (.lst xs):=(o1 LH DL.symm).trans hLH';have hBD1:G1 BD=some (.lst ((ow++smL ly).map V.str)):=(o1 BD DB.symm).trans hBD';have hnl1:=(ki.trans ki1).str hnl;have hol1:=(ki.trans ki1).str hol;have px1:Paired (C2b G1) xs ly:=Paired.mapP px λ_ _ z=>z.kt λb zs e=>ki1 _ _ (by intro n xs z;cases z) e;generalize hbd:ow++smL ly=bd at hBD1;have lbd:bd.length<=6:=by rw [<-hbd,Z06];lia
   refine ⟨_,rfl,nl,rfl,⟨_,SqL.of hnl1⟩,λD2 hD2=> ?_⟩;refine A8x (K:=K) (a:=nl) (D:=D2) (xs:=nm.map V.str) (λj ys H3=>A0n G1 H3/\H3 D2=some (.lst ys)/\∃zs:List Str,ys=zs.map V.str/\zs.length<=j/\∀z∈zs,z∈nm/\z∉bd) ⟨A0f hD2,A0b,[],rfl,by simp,(by intro z hz;cases hz)⟩ (λj ys H3 ⟨s3,_⟩=>SqL.of (s3 _ _ hnl1)) ?_ ?_
   ·rintro j y ys H3 hy ⟨s3,h3,zs,rfl,lz,mz⟩;obtain ⟨z,hz,rfl⟩:=A2j hy;have hj:j<nm.length:=(Z03.mp hz).1;refine ⟨⟨rfl,True.intro⟩,_,rfl,_,rfl,BD,_,rfl,.inl (SqL.of (s3 _ _ hBD1)),rfl,A3p bd,_,rfl,?_⟩;show if (!inV (V.str z) (bd.map V.str))=true then _ else _
    rw [A5u];refine B1c (λnz=> ?_) (λ_=> ?_)
    ·refine ⟨_,rfl,h3,A1j (by rw [Z08];lia),A0r s3 hD2,A0b,zs++[z],by simp,(by rw [Z06];simp only [Z0y,List.length_nil];lia),λy hy=> ?_⟩;rcases Z07.mp hy with hy | hy
     ·exact mz y hy
     ·rw [Z0w.mp hy];exact ⟨Z13 hz,nz⟩
    ·exact ⟨s3,h3,zs,rfl,by lia,mz⟩
   rintro ys G2 ⟨s3,h3,zs,rfl,lz,mz⟩;have hLH2:=s3 _ _ hLH1;have hBD2:=s3 _ _ hBD1;have hol2:=s3 _ _ hol1;have hD2':=s3 _ _ hD1;have px2:Paired (C2b G2) xs ly:=Paired.mapP px1 λ_ _ z=>z.kt λb zs e=>s3 _ _ e;have kiG:KI H G2:=ki.trans (ki1.trans (KI.of s3))
   have fin:∀{G4:Hp} {q:Addr} {l:Ly},A0n G2 G4->G4 q=some (.tup [.int l.1,.str l.2.1,.int l.2.2])->Paired (C2b (upd G4 LH (.lst (xs++[.ref q])))) (xs++[.ref q]) (ly++[l]):=λ{G4 q l} s4 hq=>by
    have hl4:=s4 _ _ hLH2;have kt:∀b zs,G4 b=some (.tup zs)->upd G4 LH (.lst (xs++[.ref q])) b=some (.tup zs):=λb zs e=>(A0h (A3j e hl4 (by intro z;cases z))).trans e;exact Paired.snoc ⟨q,rfl,kt _ _ hq⟩ (Paired.mapP px2 λ_ _ z=>z.kt λb zs e=>kt _ _ (s4 _ _ e))
   unfold A8b;dsimp only;unfold E0o;refine D9d (d1:=decide (V.int (c%4)=V.int 3)) (d2:=decide ((0:Int)<(zs.length:Int))) (d3:=decide ((bd.length:Int)<(ow.length:Int)+3)) (λQ' q=>⟨_,rfl,_,_,rfl,rfl,(by show (0:Int)<4;decide),rfl,_,rfl,q⟩) (λQ' q=>⟨_,rfl,D2,_,rfl,.inl (SqL.of h3),_,_,rfl,rfl,_,rfl,by rw [Z08];exact q⟩) (λQ' q=>⟨_,rfl,BD,_,rfl,.inl (SqL.of hBD2),_,rfl,ol,_,rfl,.inl (SqL.of hol2),_,_,rfl,rfl,_,_,rfl,rfl,_,rfl,by rw [Z08,Z08];exact q⟩) ?_
   have lay:∀(l:Ly) (q:Addr),G2 q=none->B9x nm bd [l]->¬l.1=3->∃(o6 o7 o8:Option V) (ms:List Int) (xs':List V) (ly':List Ly),[some (V.ref D),some (.ref ol),some (.ref nl),some (.int n),some (.ref LH),some (.ref BD),some (.int (i:Int)),some (.int c),some (.ref D2)]=[some (V.ref D),some (.ref ol),some (.ref nl),some (.int n),some (.ref LH),some (.ref BD),o6,o7,o8]/\KI H (upd (upd G2 q (.tup [.int l.1,.str l.2.1,.int l.2.2])) LH (.lst (xs++[.ref q])))/\upd (upd G2 q (.tup [.int l.1,.str l.2.1,.int l.2.2])) LH (.lst (xs++[.ref q])) D=some (.lst (ms.map V.int))/\upd (upd G2 q (.tup [.int l.1,.str l.2.1,.int l.2.2])) LH (.lst (xs++[.ref q])) LH=some (.lst xs')/\Paired (C2b (upd (upd G2 q (.tup [.int l.1,.str l.2.1,.int l.2.2])) LH (.lst (xs++[.ref q])))) xs' ly'/\upd (upd G2 q (.tup [.int l.1,.str l.2.1,.int l.2.2])) LH (.lst (xs++[.ref q])) BD=some (.lst ((ow++smL ly').map V.str))/\B9x nm ow ly'/\(smL ly').length<=3/\ly'.length=i+1:=λl q hq lo h3'=>by
    have sq:A0n G2 (upd G2 q (.tup [.int l.1,.str l.2.1,.int l.2.2])):=A0f hq;refine ⟨_,_,_,ms1,xs++[.ref q],ly++[l],rfl,(kiG.trans (KI.of sq)).fresh hLH,(A0h DL).trans (sq _ _ hD2'),A0b,fin sq A0b,?_,A7j lok (by rw [hbd];exact lo),by rw [B7e h3'];exact l3,by rw [Z06,lly];rfl⟩;rw [B7e h3',hbd];exact (A0h LB.symm).trans (sq _ _ hBD2)
   refine C6x (λhb=> ?_) (λhb=> ?_)
   ·rw [Z1x,Z1x] at hb;have hz:(0:Int)<(zs.length:Int):=of_decide_eq_true hb.1.2;have hlt:(bd.length:Int)<(ow.length:Int)+3:=of_decide_eq_true hb.2;obtain ⟨x,xm,ex⟩:=B3x (f:=V.str) (xs:=zs) (i:=c/4%(zs.length:Int)) (Z1v _ (by lia)) (Z1p _ (by lia));obtain ⟨xn,xb⟩:=mz x (Z13 xm);refine ⟨_,rfl,.inl ⟨rfl,_,SqL.of hLH2⟩,_,rfl,_,rfl,_,_,rfl,rfl,⟨by decide,by decide⟩,_,rfl,D2,_,rfl,.inl (SqL.of h3),_,_,rfl,rfl,(by show (0:Int)<((zs.map V.str).length:Int);rw [Z08];exact hz),D2,_,_,_,rfl,rfl,SqL.of h3,(by rw [Z08];exact ex),_,rfl,_,_,rfl,rfl,⟨by decide,by decide⟩,A0g (by simp),λq hq=> ?_⟩;have sq:A0n G2 (upd G2 q (.tup [.int 3,.str x,.int (c/32)])):=A0f hq;have hqq:upd G2 q (.tup [.int 3,.str x,.int (c/32)]) q=some (.tup [.int 3,.str x,.int (c/32)]):=A0b;refine ⟨LH,_,_,rfl,rfl,sq _ _ hLH2,A1j (by lia),?_⟩;have px4:=fin (l:=(3,x,c/32)) sq hqq;have hq4:upd (upd G2 q (.tup [.int 3,.str x,.int (c/32)])) LH (.lst (xs++[.ref q])) q=some (.tup [.int 3,.str x,.int (c/32)]):=(A0h (A3j hqq (sq _ _ hLH2) (by intro z;cases z))).trans hqq;have hBD4:upd (upd G2 q (.tup [.int 3,.str x,.int (c/32)])) LH (.lst (xs++[.ref q])) BD=some (.lst (bd.map V.str)):=(A0h LB.symm).trans (sq _ _ hBD2);refine ⟨_,rfl,.inl ⟨rfl,_,SqL.of hBD4⟩,_,rfl,_,rfl,LH,_,_,_,rfl,rfl,SqL.of A0b,D0s xs (.ref q),q,_,_,_,rfl,rfl,SqT.of hq4,A3d (j:=1) rfl,BD,_,_,rfl,rfl,hBD4,A1j (by rw [Z08];lia),?_⟩;refine ⟨_,_,_,ms1,xs++[.ref q],ly++[(3,x,c/32)],rfl,((kiG.trans (KI.of sq)).fresh hLH).fresh bdH,(A0h DB).trans ((A0h DL).trans (sq _ _ hD2')),(A0h LB).trans A0b,Paired.mapP px4 λ_ _ z=>z.kt λb zs e=>(A0h (A3j e hBD4 (by intro z;cases z))).trans e,?_,A7j lok (by rw [hbd];exact .inl ⟨rfl,xn,xb,True.intro⟩),?_,by rw [Z06,lly];rfl⟩
    ·rw [A0b,B8s,<-Z0z,hbd,Z0s];rfl
    ·rw [B8s,Z06];rw [<-hbd,Z06] at hlt;simp only [Z0y,List.length_nil]
     lia
   ·refine D8q (d1:=decide (V.int (c%4)=V.int 2)) (d2:=decide ((0:Int)<(bd.length:Int))) (λQ' q=>⟨_,rfl,_,_,rfl,rfl,(by show (0:Int)<4;decide),rfl,_,rfl,q⟩) (λQ' q=>⟨_,rfl,BD,_,rfl,.inl (SqL.of hBD2),_,_,rfl,rfl,_,rfl,by rw [Z08];exact q⟩) ?_;refine C6x (λhb2=> ?_) (λhb2=> ?_)
    ·rw [Z1x] at hb2;have hz:(0:Int)<(bd.length:Int):=of_decide_eq_true hb2.2;obtain ⟨x,xm,ex⟩:=B3x (f:=V.str) (xs:=bd) (i:=c/4%(bd.length:Int)) (Z1v _ (by lia)) (Z1p _ (by lia));refine ⟨_,rfl,.inl ⟨rfl,_,SqL.of hLH2⟩,_,rfl,_,rfl,_,_,rfl,rfl,⟨by decide,by decide⟩,_,rfl,BD,_,rfl,.inl (SqL.of hBD2),_,_,rfl,rfl,(by show (0:Int)<((bd.map V.str).length:Int);rw [Z08];exact hz),BD,_,_,_,rfl,rfl,SqL.of hBD2,(by rw [Z08];exact ex),_,rfl,_,_,rfl,rfl,⟨by decide,by decide⟩,A0g (by simp),λq hq=> ?_⟩;refine ⟨LH,_,_,rfl,rfl,(A0f hq) _ _ hLH2,A1j (by lia),?_⟩;exact lay (2,x,c/32) q hq (.inr (.inl ⟨rfl,Z13 xm,True.intro⟩)) (by show¬(2:Int)=3;decide)
    ·refine ⟨_,rfl,.inl ⟨rfl,_,SqL.of hLH2⟩,_,rfl,_,_,rfl,rfl,(by show (0:Int)<2;decide),_,rfl,_,_,rfl,rfl,⟨by decide,by decide⟩,A0g (by simp),λq hq=> ?_⟩;refine ⟨LH,_,_,rfl,rfl,(A0f hq) _ _ hLH2,A1j (by lia),?_⟩;exact lay (c%2,"",c/4) q hq (.inr (.inr ⟨by show c%2=0\/c%2=1;lia,True.intro⟩)) (by show¬c%2=3;lia)
  ·rintro σ G ⟨o6,o7,o8,ms,xs,ly,rfl,ki,hD',hLH',px,hBD',lok,l3,lly⟩;exact ⟨_,rfl,k LH xs ly ms G ki hD' hLH' px lok l3 (by lia)⟩
def C5p (H:Hp) (v:V) (e:Str×Int):Prop:=∃q,v= .ref q/\H q=some (.tup [.str e.1,.int e.2])
theorem C5p.kt {H H':Hp} {v:V} {e:Str×Int} (h:C5p H v e) (f:∀b xs,H b=some (.tup xs)->H' b=some (.tup xs)):C5p H' v e:=let ⟨q,e,z⟩:=h;⟨q,e,f _ _ z⟩
theorem C1m {H:Hp}:∀{xs:List V} {ix:List (Str×Int)},Paired (C5p H) xs ix->A5f H xs (ix.map B7p)
 | _,_,.nil=> .nil
 | _,_,.cons ⟨q,e1,e2⟩ t=>by rw [e1];exact .cons (.tup e2 (.cons (.str _) (.cons (.int _) .nil))) (C1m t)
def C4m:Sp:=λvs H Q _=>∃(D sl bl d:Addr) (ms szs:List Int) (bd:List Str) (lk:List (Key×V)) (L:Str->Int),vs=[.ref D,.ref sl,.ref bl,.ref d]/\H D=some (.lst (ms.map V.int))/\H sl=some (.lst (szs.map V.int))/\D≠sl/\szs.length<=3/\(∀n∈szs,1<=n/\n<=60)/\H bl=some (.lst (bd.map V.str))/\bd.length<=100/\H d=some (.dK lk)/\A7g lk L bd/\
 ∀(q:Addr) (xs:List V) (ix:List (Str×Int)) (ms':List Int) (H':Hp),KI H H'->H' sl=some (.lst (szs.map V.int))->H' D=some (.lst (ms'.map V.int))->H' q=some (.lst xs)->Paired (C5p H') xs ix->ix.length=szs.length->(∀e∈ix,¬e.1=""->e.1∈bd)->Q (.ref q) H'
theorem p29:(0:Int)<2*10^(29:Int).toNat:=by decide +kernel
theorem B8r (T:Txt K mg t):A2e P w K mg base CX0 2 t.ng t.ma ["_law_rest","_law_sizes","_law_bound","_law_lengths"] C4m:=by
 have G_l_cell:= @B4f P w K mg base t T;refine T.tO.ok A1q (by walk_at "ln") (λcdv A outer s H vs Q E hr h=> ?_)
 ·obtain ⟨D,sl,bl,d,ms,szs,bd,lk,L,rfl,hD,hsl,nDs,ls3,szp,hbl,lbd,hd,tl,k⟩:=h;have hu:=B0b hr
  refine ⟨_,(A0c (A0p (i:=4) A1q.nd rfl (Or.inl rfl) (A0t A8i (pv 2) (A2p (A0a A3a A0d))))
   (A0c (A0p (i:=5) A1q.nd rfl (Or.inl rfl) (A2p A0d))
   (A0c (A1x PassesOwn.never rfl (A1k (pv 1)) (A0m (i:=6) A1q.nd rfl (Or.inl rfl) (Or.inl rfl))
    (A0c (A0p (i:=7) A1q.nd rfl (Or.inl rfl) (A0l G_l_cell (hr.mono (by lia)) rfl T.d_ T.cy.kp T.em .nil A0z (A0a (pv 0) A0d)))
    (A0c (A0p (i:=8) A1q.nd rfl (Or.inl rfl) (A3x A8g (pv 4) (A0t A2b (pv 7) (A0q A1a (by rfl) T.cw Z0r (A0a (pv 4) A0d))) (λ_ _=>rfl)))
    (A0c (A0p (i:=9) A1q.nd rfl (Or.inl rfl) (A0t A2b (A0t A3b (pv 7) A0j) A0j))
    (A0c (A0p (i:=7) A1q.nd rfl (Or.inl rfl) (A0t A3b (pv 7) A0j))
    (A0c (A0p (i:=10) A1q.nd rfl (Or.inl rfl) A0j)
    (A9a (A1s (A0x A5l (pv 8) A3a (A1h _))
     (A0e (A0p (i:=10) A1q.nd rfl (Or.inl rfl) (A0t A6p (A0t A2b (pv 7) (A0t A4h (pv 6) A0j)) A0j)))
     (A0e (A1s (A0x A5l (pv 9) A0j (A1h _))
      (A0e (A0p (i:=10) A1q.nd rfl (Or.inl rfl) (A0t A6p (A0t A2b (pv 7) A0j) A0j)))
      (A0e (A1s (A0x A5l (pv 9) A0j (A1h _))
       (A0e (A0p (i:=10) A1q.nd rfl (Or.inl rfl) (A0t A6p (A0t A4h (A0t A6p (pv 6) (A4c hu (pv 3) (pv 8) (λ_ _=>rfl))) (A0t A2b (pv 7) A0j)) A0j)))
       (A0e (A1s (A0x A5l (pv 9) A0j (A1h _))
        (A0e (A0p (i:=10) A1q.nd rfl (Or.inl rfl) (A0t A6p (A0t A2b (pv 7) (A0t B3t A0j (A0t B5b A0j A0j))) (A0t B5b A0j A0j))))
        A0v)))))))
    (A0e (A2a (B4w Z0k Z0n Z0o A2x (pv 5) (A0a (A3v (A0a (pv 8) (A0a (pv 10) A0d))) A0d)))))))))))
   (A0e (A0y (pv 5)))))),?_⟩
  refine ⟨_,rfl,A0g (by simp),λzl hzl=> ?_⟩;have s1:A0n H (upd H zl (.lst [.str ""])):=A0f hzl;have h1:upd H zl (.lst [.str ""]) zl=some (.lst [.str ""]):=A0b;generalize upd H zl (.lst [.str ""])=H1 at s1 h1;refine ⟨bl,zl,_,_,rfl,rfl,s1 _ _ hbl,h1,A0g (by rw [Z08];show bd.length+1<=1000000;lia),λSM hSM=> ?_⟩;have s2:A0n H1 (upd H1 SM (.lst (bd.map V.str++[.str ""]))):=A0f hSM;have h2:upd H1 SM (.lst (bd.map V.str++[.str ""])) SM=some (.lst ((bd++([""]:List Str)).map V.str)):=by rw [A0b,Z0s];rfl
  have smH:H SM=none:=s1.free hSM;generalize upd H1 SM (.lst (bd.map V.str++[.str ""]))=H2 at s2 h2;have s12:=s1.trans s2;refine ⟨A0g (by simp),λIL hIL=> ?_⟩;have s3:A0n H2 (upd H2 IL (.lst [])):=A0f hIL;have h3:upd H2 IL (.lst []) IL=some (.lst []):=A0b;have ilH:H IL=none:=s12.free hIL;generalize upd H2 IL (.lst [])=H3 at s3 h3;have s13:=s12.trans s3;have DI:D≠IL:=A0k hD ilH;have SI:SM≠IL:=A0k h2 hIL;have sI:sl≠IL:=A0k hsl ilH;have DS:D≠SM:=A0k hD smH;refine ⟨_,rfl,sl,rfl,⟨_,SqL.of (s13 _ _ hsl)⟩,?_⟩
  refine A1r (K:=K) (a:=sl) (xs:=szs.map V.int) (λi σ G=>∃(o6 o7 o8 o9 o10:Option V) (ms:List Int) (xs:List V) (ix:List (Str×Int)),σ=[some (.ref D),some (.ref sl),some (.ref bl),some (.ref d),some (.ref SM),some (.ref IL),o6,o7,o8,o9,o10]/\KI H G/\G D=some (.lst (ms.map V.int))/\G sl=some (.lst (szs.map V.int))/\G SM=some (.lst ((bd++([""]:List Str)).map V.str))/\G IL=some (.lst xs)/\Paired (C5p G) xs ix/\ix.length=i/\∀e∈ix,¬e.1=""->e.1∈bd)
   ⟨none,none,none,none,none,ms,[],[],rfl,KI.of s13,s13 _ _ hD,s13 _ _ hsl,s3 _ _ h2,h3,.nil,rfl,(by intro e he;cases he)⟩ (λi σ G _ ⟨_,_,_,_,_,_,_,_,_,_,_,hs,_⟩=>SqL.of hs) ?_ ?_
  ·rintro i y σ G hy ⟨o6,o7,o8,o9,o10,ms,xs,ix,rfl,ki,hD',hs',hSM',hIL',px,lix,oki⟩;obtain ⟨sz,hsz,rfl⟩:=A2j hy;have hi:=(Z03.mp hsz).1;have szb:=szp sz (Z13 hsz);have lxs:=Paired.length px;refine ⟨_,rfl,D,ms,rfl,hD',λc ms1 G1 l1 hD1 o1 e1=> ?_⟩;have ki1:=A6s hD' o1 e1;have hs1:=(o1 sl nDs.symm).trans hs';have hSM1:=(o1 SM DS.symm).trans hSM';have hIL1:=(o1 IL DI.symm).trans hIL';have kiG:=ki.trans ki1;have hd1:=kiG.dk hd;have px1:Paired (C5p G1) xs ix:=Paired.mapP px λ_ _ z=>z.kt λb zs e=>ki1 _ _ (by intro n xs z;cases z) e;obtain ⟨x,xm,ex⟩:=B3x (f:=V.str) (xs:=bd++([""]:List Str)) (i:=c%((bd++([""]:List Str)).length:Int)) (Z1v _ (by rw [Z06];simp only [Z0y,List.length_nil];lia)) (Z1p _ (by rw [Z06];simp only [Z0y,List.length_nil];lia))
   have xmem:¬x=""->x∈bd:=λhx=>by
    rcases Z07.mp (Z13 xm) with h | h
    ·exact h
    ·exact absurd (Z0w.mp h) hx
   refine ⟨_,rfl,_,rfl,_,rfl,SM,_,rfl,.inl (SqL.of hSM1),_,_,rfl,rfl,(by show (0:Int)<(((bd++([""]:List Str)).map V.str).length:Int);rw [Z08,Z06];simp only [Z0y,List.length_nil];lia),SM,_,_,_,rfl,rfl,SqL.of hSM1,(by rw [Z08];exact ex),?_⟩;refine ⟨_,rfl,_,_,rfl,rfl,⟨by decide,by decide⟩,_,_,rfl,rfl,(by show (0:Int)<4;decide),?_⟩;refine ⟨_,rfl,_,_,rfl,rfl,⟨by decide,by decide⟩,?_⟩;refine ⟨λσ G2=>G1=G2/\∃z:Int,σ=[some (.ref D),some (.ref sl),some (.ref bl),some (.ref d),some (.ref SM),some (.ref IL),some (.int sz),some (.int (c/32)),some (.str x),some (.int (c/8%4)),some (.int z)],?_,?_⟩
   ·refine ⟨_,rfl,rfl,_,rfl,A8m (λh0=> ?_) (λh0=> ?_)⟩
    ·exact ⟨_,rfl,_,rfl,_,_,rfl,rfl,_,_,rfl,rfl,(by show (0:Int)<sz+2;lia),_,_,rfl,rfl,rfl,_,rfl⟩
    ·have hx:¬x="":=λz=>h0 (by rw [z]);have gk:=B2l.k (H:=G1) (a:=d) (k:=Sum.inr x) hd1;rw [(tl x (xmem hx)).1] at gk;refine ⟨_,rfl,rfl,_,rfl,A8m (λ_=> ?_) (λ_=> ?_)⟩
     ·exact ⟨_,rfl,_,_,rfl,rfl,(by show (0:Int)<5;decide),_,_,rfl,rfl,rfl,_,rfl⟩
     ·refine ⟨_,rfl,rfl,_,rfl,A8m (λ_=> ?_) (λ_=> ?_)⟩
      ·exact ⟨_,rfl,_,rfl,_,rfl,d,_,rfl,gk,_,_,rfl,rfl,_,rfl,_,_,rfl,rfl,(by show (0:Int)<3;decide),_,_,rfl,rfl,_,_,rfl,rfl,rfl,_,rfl⟩
      ·refine ⟨_,rfl,rfl,_,rfl,A8m (λ_=> ?_) (λ_=>⟨rfl,_,rfl⟩)⟩;exact ⟨_,rfl,_,_,rfl,rfl,⟨by decide,by decide,by decide⟩,_,_,rfl,rfl,.inl ⟨by decide,by decide⟩,_,_,rfl,rfl,p29,_,_,rfl,rfl,⟨by decide,by decide,by decide⟩,_,_,rfl,rfl,rfl,_,rfl⟩
   rintro σ G2 ⟨rfl,z,rfl⟩;refine ⟨_,rfl,.inl ⟨rfl,_,SqL.of hIL1⟩,_,rfl,_,rfl,A0g (by simp),λq hq=> ?_⟩;have sq:A0n G1 (upd G1 q (.tup [.str x,.int z])):=A0f hq;have hqq:upd G1 q (.tup [.str x,.int z]) q=some (.tup [.str x,.int z]):=A0b;generalize upd G1 q (.tup [.str x,.int z])=G3 at sq hqq;have hIL3:=sq _ _ hIL1;refine ⟨IL,_,_,rfl,rfl,hIL3,A1j (by lia),?_⟩;have kt:∀b zs,G3 b=some (.tup zs)->upd G3 IL (.lst (xs++[.ref q])) b=some (.tup zs):=λb zs e=>(A0h (A3j e hIL3 (by intro z;cases z))).trans e;refine ⟨_,_,_,_,_,ms1,xs++[.ref q],ix++[(x,z)],rfl,(kiG.trans (KI.of sq)).fresh ilH,(A0h DI).trans (sq _ _ hD1),(A0h sI).trans (sq _ _ hs1),(A0h SI).trans (sq _ _ hSM1),A0b,Paired.snoc ⟨q,rfl,kt _ _ hqq⟩ (Paired.mapP px1 λ_ _ z=>z.kt λb zs e=>kt _ _ (sq _ _ e)),by rw [Z06,lix];rfl,λe he=> ?_⟩;rcases Z07.mp he with he | he
   ·exact oki e he
   ·rw [Z0w.mp he];exact xmem
  ·rintro σ G ⟨o6,o7,o8,o9,o10,ms,xs,ix,rfl,ki,hD',hs',hSM',hIL',px,lix,oki⟩;rw [Z08] at lix;exact ⟨_,rfl,k IL xs ix ms G ki hs' hD' hIL' px lix oki⟩
def C9b:Sp:=λvs H Q _=>∃(q il sl:Addr) (l:Ly) (xs:List V) (ix:List (Str×Int)) (szs:List Int),vs=[.ref q,.ref il,.ref sl]/\H q=some (.tup [.int l.1,.str l.2.1,.int l.2.2])/\H il=some (.lst xs)/\Paired (C5p H) xs ix/\H sl=some (.lst (szs.map V.int))/\ix.length=szs.length/\
 ∀(p:Addr) (lo hi:Int) (b:Bool) (H':Hp),H p=none->A0n H H'->H' p=some (.tup [.str l.2.1,.int lo,.int hi,.bl b])->Q (.ref p) H'
def wkY (L:Str->Int):List Ly->Int->Int
 | [],f=>f
 | l::r,f=>if l.1=3 then f+wkY L r (f*L l.2.1) else f+f+wkY L r f
def C8k:Sp:=λvs H Q _=>∃(ll ol d:Addr) (xs:List V) (ly:List Ly) (ow:List Str) (lk:List (Key×V)) (L:Str->Int),vs=[.ref ll,.ref ol,.ref d]/\H ll=some (.lst xs)/\Paired (C2b H) xs ly/\H ol=some (.lst (ow.map V.str))/\ow.length<=100/\H d=some (.dK lk)/\A7g lk L ow/\A7g lk L (smL ly)/\∀H',A0n H H'->Q (.int (wkY L ly (prd L ow))) H'
theorem C6p {ly:List Ly} {l:Ly} (h:l∈ly) (e:l.1=3):l.2.1∈smL ly:=by
 unfold smL;exact Z2c.mpr ⟨l,List.mem_filter.mpr ⟨h,Z20 e⟩,rfl⟩
theorem C3w (T:Txt K mg t):A2e P w K mg base CX0 1 t.tf t.t9 ["_law_layer","_law_indexes_here","_law_sizes"] C9b:=by
 refine T.v8.ok A3u (by walk_at "ln") (λcdv A outer s H vs Q E hr h=> ?_)
 ·obtain ⟨q,il,sl,l,xs,ix,szs,rfl,hq,hil,px,hsl,len,k⟩:=h;have lxs:=Paired.length px;have a1:atI [V.int l.1,V.str l.2.1,V.int l.2.2] 1=some (.str l.2.1):=A3d (j:=1) rfl;have a2:atI [V.int l.1,V.str l.2.1,V.int l.2.2] 2=some (.int l.2.2):=A3d (j:=2) rfl
  refine ⟨_,(A0c (A0p (i:=3) A3u.nd rfl (Or.inl rfl) (A0t A2b (A3x A4i (pv 0) A0j (λ_ _=>rfl)) A0j))
   (A0c (A0p (i:=4) A3u.nd rfl (Or.inl rfl) (A0t A3b (A3x A4i (pv 0) A0j (λ_ _=>rfl)) A0j))
   (A0c (A0p (i:=5) A3u.nd rfl (Or.inl rfl) (A5n B7n (A0t A2b (pv 4) A0j) A0j (A1h _)))
   (A0c (A0p (i:=4) A3u.nd rfl (Or.inl rfl) (A0t A3b (pv 4) A0j))
   (A0c (A1x PassesOwn.never rfl (C2x rfl T.v6 (A0a (pv 1) (A0a (pv 2) A0d))) (A4j (n:=2) rfl (A0u (A0m (i:=6) A3u.nd rfl (Or.inl rfl) (Or.inl rfl)) (A0u (A0m (i:=7) A3u.nd rfl (Or.inl rfl) (Or.inl rfl)) A2q)))
    (A0e (A1s (PW.pt (B2r (A0x A5l (A3x A4i (pv 6) A0j (λ_ _=>rfl)) (A3x A4i (pv 0) A0j (λ_ _=>rfl)) (A1h _)) (B0y (A0x C3h (pv 3) A0j (A1h _)))))
     (A0c (A0p (i:=8) A3u.nd rfl (Or.inl rfl) (A0t A6p (A0t B3t (pv 3) (A0t A6p (A0t A2b (pv 4) A0j) A0j)) (A3x A4i (pv 6) A0j (λ_ _=>rfl))))
     (A0e (A0y (A3v (A0a (A3x A4i (pv 0) A0j (λ_ _=>rfl)) (A0a (pv 8) (A0a (A0t A4h (A0t A4h (pv 8) (pv 7)) (A0t B3t (pv 3) (A0t A6p (A0t A2b (A0t A3b (pv 4) A0j) A0j) A0j))) (A0a (pv 5) A0d))))))))
     A0v)))
   (A0c (A1s (A0x A5l (pv 3) A0j (A1h _))
    (A0e (A0y (A3v (A0a (A3x A4i (pv 0) A0j (λ_ _=>rfl)) (A0a (A0t A6p (A0t A2b (pv 4) A0j) (A0t B5b A0j A0j)) (A0a (A0t A2b (A0t A3b (pv 4) A0j) A0j) (A0a (pv 5) A0d)))))))
    A0v)
   (A0e (A0y (A3v (A0a (A3x A4i (pv 0) A0j (λ_ _=>rfl)) (A0a (A0t A6p (A0t A2b (pv 4) A0j) A0j) (A0a (A0t A6p (A0t A4h (A0t A2b (pv 4) A0j) (A0t A2b (A0t A3b (pv 4) A0j) A0j)) A0j) (A0a (pv 5) A0d))))))))))))),?_⟩
  refine ⟨_,rfl,q,_,_,_,rfl,rfl,SqT.of hq,a2,_,_,rfl,rfl,(by show (0:Int)<4;decide),?_⟩;refine ⟨_,rfl,q,_,_,_,rfl,rfl,SqT.of hq,a2,_,_,rfl,rfl,⟨by decide,by decide⟩,?_⟩;refine ⟨_,rfl,_,_,rfl,rfl,(by show (0:Int)<3;decide),rfl,?_⟩;refine ⟨_,rfl,_,_,rfl,rfl,⟨by decide,by decide⟩,?_⟩;refine ⟨_,rfl,_,rfl,il,sl,_,_,rfl,SqL.of hil,SqL.of hsl,?_⟩
  refine C2s (K:=K) (a:=il) (b:=sl) (xs:=xs) (ys:=szs.map V.int) (λi σ G=>∃(o6 o7 o8:Option V),σ=[some (.ref q),some (.ref il),some (.ref sl),some (.int (l.2.2%4)),some (.int (l.2.2/4/3)),some (.bl (!decide (V.int (l.2.2/4%3)=V.int 1))),o6,o7,o8]/\A0n H G)
   ⟨none,none,none,rfl,A0n.refl _⟩ (λi σ G ⟨_,_,_,_,s2⟩=>⟨SqL.of (s2 _ _ hil),SqL.of (s2 _ _ hsl)⟩) (by rw [Z08];lia) ?_ ?_
  ·rintro i x y σ G p hx hy ⟨o6,o7,o8,rfl,s2⟩ hp;obtain ⟨e,he,b,rfl,eb⟩:=B2s px hx;obtain ⟨sz,hsz,rfl⟩:=A2j hy;have sp':A0n G (upd G p (.tup [.ref b,.int sz])):=A0f hp;have hpp:upd G p (.tup [.ref b,.int sz]) p=some (.tup [.ref b,.int sz]):=A0b;generalize upd G p (.tup [.ref b,.int sz])=G1 at sp' hpp;have s3:=s2.trans sp';have b0:atI [V.str e.1,V.int e.2] 0=some (.str e.1):=A3d (j:=0) rfl;have b1:atI [V.str e.1,V.int e.2] 1=some (.int e.2):=A3d (j:=1) rfl;refine ⟨p,_,rfl,SqT.of hpp,rfl,_,_,rfl,_,_,rfl,rfl,?_⟩;refine ⟨_,rfl,b,_,_,_,rfl,rfl,SqT.of (s3 _ _ eb),b0,_,rfl,q,_,_,_,rfl,rfl,SqT.of (s3 _ _ hq),a1,rfl,_,rfl,A8m (λ_=> ?_) (λ_=>A3o ⟨_,_,_,rfl,s3⟩)⟩;refine ⟨_,rfl,_,_,rfl,rfl,_,rfl,A8m (λ_=> ?_) (λ_=>⟨_,_,_,rfl,s3⟩)⟩;refine ⟨_,rfl,_,rfl,_,_,rfl,rfl,(by show (0:Int)<3;decide),_,_,rfl,rfl,_,_,rfl,rfl,.inl ⟨by lia,by lia⟩,_,rfl,b,_,_,_,rfl,rfl,SqT.of (s3 _ _ eb),b1,_,_,rfl,rfl,?_⟩;refine ⟨_,rfl,q,_,_,_,rfl,rfl,SqT.of (s3 _ _ hq),a1,_,rfl,_,rfl,_,rfl,_,_,rfl,rfl,_,rfl,_,rfl,_,_,rfl,rfl,⟨by decide,by decide⟩,_,_,rfl,rfl,(by show (0:Int)<3;decide),_,_,rfl,rfl,_,_,rfl,rfl,.inl ⟨by lia,by lia⟩,_,_,rfl,rfl,_,rfl,A0g (by simp),λz hz=> ?_⟩;exact k z _ _ _ _ (s3.free hz) (s3.trans (A0f hz)) A0b
  ·rintro σ G ⟨o6,o7,o8,rfl,s2⟩;refine ⟨_,rfl,rfl,_,rfl,A8m (λ_=> ?_) (λ_=> ?_)⟩
   ·refine ⟨_,rfl,q,_,_,_,rfl,rfl,SqT.of (s2 _ _ hq),a1,_,rfl,_,_,rfl,rfl,(by show (0:Int)<3;decide),_,_,rfl,rfl,⟨by decide,by decide,by decide⟩,_,_,rfl,rfl,_,rfl,_,_,rfl,rfl,⟨by decide,by decide⟩,_,_,rfl,rfl,(by show (0:Int)<5;decide),_,rfl,A0g (by simp),λz hz=> ?_⟩;exact k z _ _ _ _ (s2.free hz) (s2.trans (A0f hz)) A0b
   ·refine ⟨_,rfl,q,_,_,_,rfl,rfl,SqT.of (s2 _ _ hq),a1,_,rfl,_,_,rfl,rfl,(by show (0:Int)<6;decide),_,_,rfl,rfl,_,rfl,_,_,rfl,rfl,(by show (0:Int)<6;decide),_,rfl,_,_,rfl,rfl,⟨by decide,by decide⟩,_,_,rfl,rfl,(by show (0:Int)<5;decide),_,_,rfl,rfl,_,_,rfl,rfl,_,rfl,A0g (by simp),λz hz=> ?_⟩;exact k z _ _ _ _ (s2.free hz) (s2.trans (A0f hz)) A0b
theorem C6n (T:Txt K mg t):A2e P w K mg base CX0 2 t.ux t.ud ["_law_layers_here","_law_own","_law_lengths"] C8k:=by
 have G_l_many:= @B9h P w K mg base t T;refine T.wg.ok A5m (by walk_at "ln") (λcdv A outer s H vs Q E hr h=> ?_)
 ·obtain ⟨ll,ol,d,xs,ly,ow,lk,L,rfl,hll,px,hol,low,hd,tlo,tls,k⟩:=h;have hu:=B0b hr;have lxs:=Paired.length px
  refine ⟨_,(A0c (A0p (i:=3) A5m.nd rfl (Or.inl rfl) (A0l G_l_many (hr.mono (by lia)) rfl T.vP T.uv.kp T.vW .nil A0z (A0a (pv 1) (A0a (pv 2) A0d))))
   (A0c (A0p (i:=4) A5m.nd rfl (Or.inl rfl) A0j)
   (A0c (A1x PassesOwn.never rfl (A1k (pv 0)) (A0m (i:=5) A5m.nd rfl (Or.inl rfl) (Or.inl rfl))
    (A0c (A0p (i:=4) A5m.nd rfl (Or.inl rfl) (A0t A4h (pv 4) (pv 3)))
    (A0e (A1s (A0x A5l (A3x A4i (pv 5) A0j (λ_ _=>rfl)) A0j (A1h _))
     (A0e (A0p (i:=3) A5m.nd rfl (Or.inl rfl) (A0t B3t (pv 3) (A4c hu (pv 2) (A3x A4i (pv 5) A0j (λ_ _=>rfl)) (λ_ _=>rfl)))))
     (A0e (A0p (i:=4) A5m.nd rfl (Or.inl rfl) (A0t A4h (pv 4) (pv 3))))))))
   (A0e (A0y (A0t A4h (pv 4) (pv 3))))))),?_⟩
  refine ⟨_,rfl,_,rfl,ol,d,ow,lk,L,rfl,hol,hd,tlo,by lia,λH1 s1=> ?_⟩;refine ⟨_,rfl,ll,rfl,⟨_,SqL.of (s1 _ _ hll)⟩,?_⟩
  refine A1r (K:=K) (a:=ll) (xs:=xs) (λi σ G=>H1=G/\∃(o5:Option V) (wo f:Int),σ=[some (.ref ll),some (.ref ol),some (.ref d),some (.int f),some (.int wo),o5]/\wo+wkY L (ly.drop i) f=wkY L ly (prd L ow))
   ⟨rfl,none,0,prd L ow,rfl,by rw [List.drop_zero,Int.zero_add]⟩ (λi σ G _ ⟨h,_⟩=>by rw [<-h];exact SqL.of (s1 _ _ hll)) ?_ ?_
  ·rintro i x σ G hx ⟨rfl,o5,wo,f,rfl,eq⟩;obtain ⟨l,hl,q,rfl,hq⟩:=B2s px hx;have hq1:=s1 _ _ hq;have a0:atI [V.int l.1,V.str l.2.1,V.int l.2.2] 0=some (.int l.1):=A3d (j:=0) rfl;have a1:atI [V.int l.1,V.str l.2.1,V.int l.2.2] 1=some (.str l.2.1):=A3d (j:=1) rfl;rw [A6b hl] at eq;refine ⟨_,rfl,_,rfl,_,_,rfl,rfl,?_⟩;refine ⟨_,rfl,q,_,_,_,rfl,rfl,SqT.of hq1,a0,rfl,_,rfl,A8m (λh3=> ?_) (λh3=> ?_)⟩
   ·have h3:l.1=3:=V.int.inj h3;have tx:=tls l.2.1 (C6p (Z13 hl) h3);have gk:=B2l.k (H:=H1) (a:=d) (k:=Sum.inr l.2.1) (s1 _ _ hd);rw [tx.1] at gk;refine ⟨_,rfl,_,rfl,_,rfl,q,_,_,_,rfl,rfl,SqT.of hq1,a1,d,_,rfl,gk,_,_,rfl,rfl,.inr ⟨by lia,by lia⟩,rfl,_,_,_,rfl,?_⟩;have e:wkY L (l::ly.drop (i+1)) f=f+wkY L (ly.drop (i+1)) (f*L l.2.1):=by show (if l.1=3 then _ else _)=_;rw [Z12 h3]
    rw [e] at eq
    lia
   ·have h3:¬l.1=3:=λz=>h3 (by rw [z]);refine ⟨_,rfl,_,rfl,_,_,rfl,rfl,rfl,_,_,_,rfl,?_⟩;have e:wkY L (l::ly.drop (i+1)) f=f+f+wkY L (ly.drop (i+1)) f:=by show (if l.1=3 then _ else _)=_;rw [Z0t h3]
    rw [e] at eq
    lia
  ·rintro σ G ⟨rfl,o5,wo,f,rfl,eq⟩;rw [lxs,List.drop_length] at eq;have eq:wo+f=wkY L ly (prd L ow):=eq;refine ⟨_,rfl,_,rfl,_,_,rfl,rfl,?_⟩;dsimp only;rw [eq];exact k _ s1
def D5a (H:Hp) (v:V) (g:Gd):Prop:=∃q,v= .ref q/\H q=some (.tup [.str g.1,.int g.2.1,.int g.2.2.1,.bl g.2.2.2])
theorem D5a.same {H H':Hp} {v:V} {g:Gd} (h:D5a H v g) (s:A0n H H'):D5a H' v g:=let ⟨q,e,z⟩:=h;⟨q,e,s _ _ z⟩
def c2 (ly:List Ly):Nat:=(ly.filter λl=>decide (l.1=2)).length
def A3h:List Ly->List Gd->Tm->Tm
 | [],_,u=>u
 | l::r,gs,u=>if l.1=3 then .sum l.2.1 (A3h r gs u) else if l.1=0 then .pair .plus (.num (l.2.2%10^(30:Int).toNat)) (A3h r gs u) else if l.1=1 then .pair .times (A3h r gs u) (.num (l.2.2%10^(30:Int).toNat)) else
  match gs with
  | []=>A3h r [] u
  | g::gs'=>if g.2.2.2=true then .guard g.1 g.2.1 g.2.2.1 (A3h r gs' u) (.num 7) else .guard g.1 g.2.1 g.2.2.1 (.num (-7)) (A3h r gs' u)
theorem D4i {ly:List Ly} {l:Ly}:c2 (ly++[l])=c2 ly+if l.1=2 then 1 else 0:=by
 unfold c2;rw [List.filter_append,Z06,List.filter_cons];by_cases h:l.1=2
 ·rw [Z12 (Z20 h),Z12 h];rfl
 ·rw [Z0t (by rw [Z1j h];exact Z0v),Z0t h];rfl
theorem D5i {ly:List Ly} (m:Nat):c2 (ly.take m)<=c2 ly:=by
 unfold c2;exact ((List.take_sublist m ly).filter _).length_le
theorem C1i {ly:List Ly} {m:Nat} {l:Ly} (h:ly[m]? =some l):c2 (ly.take (m+1))=c2 (ly.take m)+if l.1=2 then 1 else 0:=by
 rw [Z14,h,Option.toList_some,D4i]
def D4t (A:Adr):Sp:=λvs H Q _=>∃(v:V) (ll gl:Addr) (u:Tm) (xs gv:List V) (ly:List Ly) (gs:List Gd),vs=[v,.ref ll,.ref gl]/\Ob A H v u/\H ll=some (.lst xs)/\Paired (C2b H) xs ly/\(∀l∈ly,l.1=0\/l.1=1\/l.1=2\/l.1=3)/\H gl=some (.lst gv)/\Paired (D5a H) gv gs/\gs.length=c2 ly/\∀(v':V) (H':Hp),A0n H H'->Ob A H' v' (A3h ly gs u)->Q v' H'
theorem p30:(0:Int)<10^(30:Int).toNat:=by decide +kernel
theorem C7j (T:Txt K mg t):A2e P w K mg base CX0 3 t.uh t.uK ["_law_read","_law_layers_here","_law_guards"] (D4t t):=by
 have G_Number_init:= @A8n P w K mg base t T;have G_Sum_init:= @C0l P w K mg base t T;have G_Guard_init:= @B5t P w K mg base t T;have G_Pair_init:= @B9b P w K mg base t T;refine T.vY.ok A2h (by walk_at "ln") (λcdv A outer s H vs Q E hr h=> ?_)
 ·obtain ⟨v0,ll,gl,u,xs,gv,ly,gs,rfl,ob0,hll,px,kn,hgl,pg,lgs,k⟩:=h;have lxs:=Paired.length px;have lgv:=Paired.length pg
  refine ⟨_,(A0c (A0p (i:=3) A2h.nd rfl (Or.inl rfl) (pv 0))
   (A0c (A0p (i:=4) A2h.nd rfl (Or.inl rfl) (A0q A1a (by rfl) T.cw Z0r (A0a (pv 2) A0d)))
   (A0c (A1x PassesOwn.never rfl (D1j rfl T.ui (A0a (pv 1) A0d)) (A0m (i:=5) A2h.nd rfl (Or.inl rfl) (Or.inl rfl))
    (A0e (A1s (A0x A5l (A3x A4i (pv 5) A0j (λ_ _=>rfl)) A0j (A1h _))
     (A0e (A0p (i:=3) A2h.nd rfl (Or.inl rfl) (A2l T.xy G_Sum_init (hr.mono (by lia)) rfl T.wJ T.wr .nil A0z (A0a (A3x A4i (pv 5) A0j (λ_ _=>rfl)) (A0a (pv 3) A0d)))))
     (A0e (A1s (A0x A5l (A3x A4i (pv 5) A0j (λ_ _=>rfl)) A0j (A1h _))
      (A0e (A0p (i:=3) A2h.nd rfl (Or.inl rfl) (A2l T.xp G_Pair_init (hr.mono (by lia)) rfl T.xu T.tU .nil A0z (A0a (A2l T.im G_Number_init (hr.mono (by lia)) rfl T.kj T.ci .nil A0z (A0a (A0t A2b (A3x A4i (pv 5) A0j (λ_ _=>rfl)) (A0t B5b A0j A0j)) A0d)) (A0a (pv 3) A0d)))))
      (A0e (A1s (A0x A5l (A3x A4i (pv 5) A0j (λ_ _=>rfl)) A0j (A1h _))
       (A0e (A0p (i:=3) A2h.nd rfl (Or.inl rfl) (A2l T.x9 G_Pair_init (hr.mono (by lia)) rfl T.xh T.tU .nil A0z (A0a (pv 3) (A0a (A2l T.im G_Number_init (hr.mono (by lia)) rfl T.kj T.ci .nil A0z (A0a (A0t A2b (A3x A4i (pv 5) A0j (λ_ _=>rfl)) (A0t B5b A0j A0j)) A0d)) A0d)))))
       (A0c (A0p (i:=4) A2h.nd rfl (Or.inl rfl) (A0t A6p (pv 4) A0j))
       (A0c (D7z (A3x A8g (pv 2) (pv 4) (λ_ _=>rfl)) (A4j (n:=4) rfl (A0u (A0m (i:=6) A2h.nd rfl (Or.inl rfl) (Or.inl rfl)) (A0u (A0m (i:=7) A2h.nd rfl (Or.inl rfl) (Or.inl rfl)) (A0u (A0m (i:=8) A2h.nd rfl (Or.inl rfl) (Or.inl rfl)) (A0u (A0m (i:=9) A2h.nd rfl (Or.inl rfl) (Or.inl rfl)) A2q))))))
       (A0e (A1s (A2g (pv 9))
        (A0e (A0p (i:=3) A2h.nd rfl (Or.inl rfl) (A2l T.vO G_Guard_init (hr.mono (by lia)) rfl T.ub T.r_ .nil A0z (A0a (pv 6) (A0a (pv 7) (A0a (pv 8) (A0a (pv 3) (A0a (A2l T.im G_Number_init (hr.mono (by lia)) rfl T.kj T.ci .nil A0z (A0a A0j A0d)) A0d))))))))
        (A0e (A0p (i:=3) A2h.nd rfl (Or.inl rfl) (A2l T.vO G_Guard_init (hr.mono (by lia)) rfl T.ub T.r_ .nil A0z (A0a (pv 6) (A0a (pv 7) (A0a (pv 8) (A0a (A2l T.im G_Number_init (hr.mono (by lia)) rfl T.kj T.ci .nil A0z (A0a (D6n D1z A0j) A0d)) (A0a (pv 3) A0d)))))))))))))))))))
   (A0e (A0y (pv 3)))))),?_⟩
  refine ⟨_,rfl,_,rfl,gl,_,rfl,.inl (SqL.of hgl),?_⟩;refine ⟨_,rfl,ll,_,rfl,SqL.of hll,?_⟩
  refine D4b (K:=K) (a:=ll) (xs:=xs) (λj σ G=>∃(o5 o6 o7 o8 o9:Option V) (v:V),σ=[some v0,some (.ref ll),some (.ref gl),some v,some (.int (c2 (ly.take (ly.length-j)):Int)),o5,o6,o7,o8,o9]/\A0n H G/\Ob t G v (A3h (ly.drop (ly.length-j)) (gs.drop (c2 (ly.take (ly.length-j)))) u))
   ⟨none,none,none,none,none,v0,by rw [Nat.sub_zero,Z18,<-lgs,<-lgv];rfl,A0n.refl _,by rw [Nat.sub_zero,List.drop_length];exact ob0⟩ (λj σ G ⟨_,_,_,_,_,_,_,s2,_⟩=>SqL.of (s2 _ _ hll)) ?_ ?_
  ·rintro j y σ G hj hy ⟨o5,o6,o7,o8,o9,v,rfl,s2,obv⟩;rw [lxs] at hy hj;obtain ⟨l,hl,q,rfl,hq⟩:=B2s px hy;have hq2:=s2 _ _ hq;generalize hm:ly.length-1-j=m at hl;have e1:ly.length-j=m+1:=by lia
   have e2:ly.length-(j+1)=m:=by lia
   rw [e1] at obv;rw [C1i hl] at obv;have a0:atI [V.int l.1,V.str l.2.1,V.int l.2.2] 0=some (.int l.1):=A3d (j:=0) rfl;have a1:atI [V.int l.1,V.str l.2.1,V.int l.2.2] 1=some (.str l.2.1):=A3d (j:=1) rfl;have a2:atI [V.int l.1,V.str l.2.1,V.int l.2.2] 2=some (.int l.2.2):=A3d (j:=2) rfl;have ed:ly.drop m=l::ly.drop (m+1):=A6b hl
   have go:∀{G':Hp} {v':V} {cn:Int} {o6 o7 o8 o9:Option V},A0n H G'->cn=(c2 (ly.take m):Int)->Ob t G' v' (A3h (l::ly.drop (m+1)) (gs.drop (c2 (ly.take m))) u)->∃(p5 p6 p7 p8 p9:Option V) (v:V),[some v0,some (V.ref ll),some (.ref gl),some v',some (.int cn),some (.ref q),o6,o7,o8,o9]=[some v0,some (V.ref ll),some (.ref gl),some v,some (.int (c2 (ly.take (ly.length-(j+1))):Int)),p5,p6,p7,p8,p9]/\A0n H G'/\Ob t G' v (A3h (ly.drop (ly.length-(j+1))) (gs.drop (c2 (ly.take (ly.length-(j+1))))) u):=λ{G' v' cn o6 o7 o8 o9} s' ec ob'=>by
    rw [e2,ed,<-ec];exact ⟨_,_,_,_,_,v',rfl,s',ob'⟩
   rw [e1,C1i hl];refine ⟨_,rfl,q,_,_,_,rfl,rfl,SqT.of hq2,a0,rfl,_,rfl,A8m (λh3=> ?_) (λh3=> ?_)⟩
   ·have h3:l.1=3:=V.int.inj h3;rw [Z0t (show¬l.1=2 by lia)] at obv⊢;refine ⟨_,rfl,q,_,_,_,rfl,rfl,SqT.of hq2,a1,_,rfl,λx dx hx hdx hne=>⟨x,_,dx,_,_,rfl,A0b,T.fz,T.gb,T.n_,rfl,?_⟩⟩;have si:=A1w (o:= .own x) (u:= .ins t.bi dx []) (v:= .ins t.bi dx [("axis",.str l.2.1),("body",v)]) hx hdx;refine go (s2.trans si) (by simp) ?_;show Ob t _ _ (if l.1=3 then _ else _);rw [Z12 h3];exact .sum A0b (obv.imp si)
   have h3:¬l.1=3:=λz=>h3 (by rw [z]);refine ⟨_,rfl,q,_,_,_,rfl,rfl,SqT.of hq2,a0,rfl,_,rfl,A8m (λh0=> ?_) (λh0=> ?_)⟩
   ·have h0:l.1=0:=V.int.inj h0;rw [Z0t (show¬l.1=2 by lia)] at obv⊢;refine ⟨_,rfl,q,_,_,_,rfl,rfl,SqT.of hq2,a2,_,_,rfl,rfl,⟨by decide,by decide,by decide⟩,_,_,rfl,rfl,p30,λy dy hy' hdy hny=>⟨y,_,dy,_,rfl,A0b,T.c6,T.bq,rfl,?_⟩⟩;have sn:=A1w (o:= .own y) (u:= .ins t.aj dy []) (v:= .ins t.aj dy [("number",.int (l.2.2%10^(30:Int).toNat))]) hy' hdy;refine ⟨_,rfl,λx dx hx hdx hne=>⟨x,_,dx,_,_,rfl,A0b,T.vq,T.sk,T.oz,rfl,?_⟩⟩;have si:=A1w (o:= .own x) (u:= .ins t.cz dx []) (v:= .ins t.cz dx [("left",.ref y),("right",v)]) hx hdx;refine go (s2.trans (sn.trans si)) (by simp) ?_;show Ob t _ _ (if l.1=3 then _ else _);rw [Z0t h3,Z12 h0];exact .pair (k:= .plus) A0b (.num (si _ _ A0b)) (obv.imp (sn.trans si))
   have h0:¬l.1=0:=λz=>h0 (by rw [z]);refine ⟨_,rfl,q,_,_,_,rfl,rfl,SqT.of hq2,a0,rfl,_,rfl,A8m (λh1=> ?_) (λh1=> ?_)⟩
   ·have h1:l.1=1:=V.int.inj h1;rw [Z0t (show¬l.1=2 by lia)] at obv⊢;refine ⟨_,rfl,_,rfl,q,_,_,_,rfl,rfl,SqT.of hq2,a2,_,_,rfl,rfl,⟨by decide,by decide,by decide⟩,_,_,rfl,rfl,p30,λy dy hy' hdy hny=>⟨y,_,dy,_,rfl,A0b,T.c6,T.bq,rfl,?_⟩⟩;have sn:=A1w (o:= .own y) (u:= .ins t.aj dy []) (v:= .ins t.aj dy [("number",.int (l.2.2%10^(30:Int).toNat))]) hy' hdy;refine λx dx hx hdx hne=>⟨x,_,dx,_,_,rfl,A0b,T.mi,T.ii,T.g6,rfl,?_⟩;have si:=A1w (o:= .own x) (u:= .ins t.bv dx []) (v:= .ins t.bv dx [("left",v),("right",.ref y)]) hx hdx;refine go (s2.trans (sn.trans si)) (by simp) ?_;show Ob t _ _ (if l.1=3 then _ else _);rw [Z0t h3,Z0t h0,Z12 h1];exact .pair (k:= .times) A0b (obv.imp (sn.trans si)) (.num (si _ _ A0b))
   have h1:¬l.1=1:=λz=>h1 (by rw [z]);have h2:l.1=2:=by have:=kn l (Z13 hl);lia
   rw [Z12 h2] at obv⊢
   have hlt:c2 (ly.take m)<gs.length:=by
    have:=D5i (ly:=ly) (m+1);rw [C1i hl,Z12 h2] at this
    lia
   obtain ⟨g,hg⟩:∃g,gs[c2 (ly.take m)]? =some g:=⟨_,Z0b hlt⟩;have eg:gs.drop (c2 (ly.take m))=g::gs.drop (c2 (ly.take m)+1):=A6b hg;obtain ⟨gx,hgx⟩:∃x,gv[c2 (ly.take m)]? =some x:=⟨_,Z0b (by lia)⟩;obtain ⟨g',hg',gq,rfl,hgq⟩:=B2s pg hgx;rw [hg] at hg';cases hg';have ecn:((c2 (ly.take m)+1:Nat):Int)-1=(c2 (ly.take m):Int):=by lia
   have hat:atI gv (((c2 (ly.take m)+1:Nat):Int)-1)=some (.ref gq):=by rw [ecn];exact A3d hgx
   refine ⟨_,rfl,_,_,rfl,rfl,?_⟩;refine ⟨_,rfl,_,rfl,gl,_,_,_,rfl,rfl,SqL.of (s2 _ _ hgl),hat,gq,_,rfl,SqT.of (s2 _ _ hgq),rfl,_,_,rfl,_,_,rfl,_,_,rfl,_,_,rfl,rfl,?_⟩;refine ⟨_,rfl,g.2.2.2,rfl,C6x (λb1=> ?_) (λb0=> ?_)⟩
   ·refine ⟨_,rfl,_,rfl,_,rfl,_,rfl,λy dy hy' hdy hny=>⟨y,_,dy,_,rfl,A0b,T.c6,T.bq,rfl,?_⟩⟩;have sn:=A1w (o:= .own y) (u:= .ins t.aj dy []) (v:= .ins t.aj dy [("number",.int 7)]) hy' hdy;refine λx dx hx hdx hne=>⟨x,dx,_,_,_,_,_,rfl,A0b,rfl,?_⟩;have si:=A1w (o:= .own x) (u:= .ins t.ae dx []) (v:= .ins t.ae dx [("axis",.str g.1),("low",.int g.2.1),("high",.int g.2.2.1),("inner",v),("outer",.ref y)]) hx hdx;refine go (s2.trans (sn.trans si)) ecn ?_;rw [eg];show Ob t _ _ (if l.1=3 then _ else _);rw [Z0t h3,Z0t h0,Z0t h1];show Ob t _ _ (if g.2.2.2=true then _ else _);rw [Z12 b1];exact .guard A0b (obv.imp (sn.trans si)) (.num (si _ _ A0b))
   ·refine ⟨_,rfl,_,rfl,_,rfl,_,rfl,λy dy hy' hdy hny=>⟨y,_,dy,_,rfl,A0b,T.c6,T.bq,rfl,?_⟩⟩;have sn:=A1w (o:= .own y) (u:= .ins t.aj dy []) (v:= .ins t.aj dy [("number",.int (-7))]) hy' hdy;refine ⟨_,rfl,λx dx hx hdx hne=>⟨x,dx,_,_,_,_,_,rfl,A0b,rfl,?_⟩⟩;have si:=A1w (o:= .own x) (u:= .ins t.ae dx []) (v:= .ins t.ae dx [("axis",.str g.1),("low",.int g.2.1),("high",.int g.2.2.1),("inner",.ref y),("outer",v)]) hx hdx;refine go (s2.trans (sn.trans si)) ecn ?_;rw [eg];show Ob t _ _ (if l.1=3 then _ else _);rw [Z0t h3,Z0t h0,Z0t h1];show Ob t _ _ (if g.2.2.2=true then _ else _);rw [Z0t (by rw [b0];exact Z0v)];exact .guard A0b (.num (si _ _ A0b)) (obv.imp (sn.trans si))
  ·rintro σ G ⟨o5,o6,o7,o8,o9,v,rfl,s2,obv⟩;rw [lxs,Nat.sub_self,List.drop_zero] at obv;exact ⟨_,rfl,k v G s2 obv⟩
theorem A9t {k:Key}:∀(more acc:List (Key×V)),(∀p∈more,¬p.1=k)->A4u (A1b acc more) k=A4u acc k
 | [],acc,_=>rfl
 | q::more,acc,h=>by
  show A4u (A1b (A8p acc q.1 q.2) more) k=_;rw [A9t more _ λp hp=>h p (.tail _ hp),A5z,Z0t (λz=>h q (.head _) z.symm)]
theorem C1s {k:Key}:∀(more acc acc':List (Key×V)),(∃p∈more,p.1=k)->A4u (A1b acc more) k=A4u (A1b acc' more) k
 | [],_,_,⟨p,hp,_⟩=>by cases hp
 | q::more,acc,acc',h=>by
  show A4u (A1b (A8p acc q.1 q.2) more) k=A4u (A1b (A8p acc' q.1 q.2) more) k;by_cases hm:∃p∈more,p.1=k
  ·exact C1s more _ _ hm
  ·have hn:∀p∈more,¬p.1=k:=λp hp e=>hm ⟨p,hp,e⟩;obtain ⟨p,hp,e⟩:=h;rcases Z0e.mp hp with rfl | hp
   ·rw [A9t more _ hn,A9t more _ hn,A5z,A5z,Z12 e.symm,Z12 e.symm]
   ·exact absurd e (hn p hp)
def atK (ys:List Str) (c:List Int):List (Key×V):=A1b [(Sum.inr "",V.int 0)] ((ys.map (Sum.inr:Str->Key)).zip (c.map V.int))
theorem D6f {ys:List Str} {c:List Int} (l:c.length=ys.length) {x:Str} (h:x∈ys):A4u (atK ys c) (Sum.inr x)=some (.int (ai (C1q ys c) x)):=by
 rw [<-C7p l h];refine C1s _ _ _ ?_;obtain ⟨j,hj⟩:=List.getElem?_of_mem h;have hl:=(Z03.mp hj).1;refine ⟨(Sum.inr x,V.int (c[j]'(by lia))),?_,rfl⟩;refine List.mem_iff_getElem?.mpr ⟨j,?_⟩;rw [List.getElem?_zip_eq_some];exact ⟨by rw [Z1z,hj];rfl,by rw [Z1z,Z0b (by lia)];rfl⟩
theorem D9s {ys:List Str} {c:List Int} (h:("":Str)∉ys):A4u (atK ys c) (Sum.inr "")=some (.int 0):=by
 unfold atK;rw [A9t _ _ λp hp e=> ?_]
 ·exact A3g rfl
 ·have:=(List.of_mem_zip hp).1;obtain ⟨y,hy,ey⟩:=Z2c.mp this;rw [<-ey] at e;injection e with e;exact h (e▸hy)
def C9c:Sp:=λvs H Q _=>∃(bl d gl il sl:Addr) (ys:List Str) (lk:List (Key×V)) (L:Str->Int) (gv:List V) (gs:List Gd) (xs:List V) (ix:List (Str×Int)) (szs:List Int),vs=[.ref bl,.ref d,.ref gl,.ref il,.ref sl]/\H bl=some (.lst (ys.map V.str))/\H d=some (.dK lk)/\A7g lk L ys/\C3r (ys.map L)/\("":Str)∉ys/\H gl=some (.lst gv)/\Paired (D5a H) gv gs/\(∀g∈gs,g.1∈ys)/\H il=some (.lst xs)/\Paired (C5p H) xs ix/\(∀e∈ix,¬e.1=""->e.1∈ys)/\ix.length<=3/\H sl=some (.lst (szs.map V.int))/\szs.length=ix.length/\∀(v:V) (H':Hp),A0n H H'->C4f H' v ((A5a L ys gs ix).find? (B1b szs))->Q v H'
theorem C3u (T:Txt K mg t):A2e P w K mg base CX0 3 t.sX t.t7 ["_law_names","_law_lengths","_law_guards","_law_indexes_here","_law_sizes"] C9c:=by
 have G_l_spots:= @C3g P w K mg base t T;refine T.uZ.ok A1z (by walk_at "ln") (λcdv A outer s H vs Q E hr h=> ?_)
 ·obtain ⟨bl,d,gl,il,sl,ys,lk,L,gv,gs,xs,ix,szs,rfl,hbl,hd,tl,g,nys,hgl,pg,gin,hil,px,xin,l3,hsl,lsz,k⟩:=h;have hu:=B0b hr;have gf:=g.few;rw [Z08] at gf
  refine ⟨_,(A0c (A1x PassesOwn.never rfl (A1k (A0l G_l_spots (hr.mono (by lia)) rfl T.wK T.uY.kp T.wT .nil A0z (A0a (pv 0) (A0a (pv 1) A0d)))) (A0m (i:=5) A1z.nd rfl (Or.inl rfl) (Or.inl rfl))
    (A0c (A0p (i:=6) A1z.nd rfl (Or.inr rfl) (D2j (C9n A3a A0j D4q) rfl rfl (by simp) (by decide)))
    (A0c (A1x PassesOwn.never rfl (D0c rfl T.v6 (A0a (pv 0) (A0a (pv 5) A0d))) (A4j (n:=2) rfl (A0u (A0m (i:=7) A1z.nd rfl (Or.inl rfl) (Or.inl rfl)) (A0u (A0m (i:=8) A1z.nd rfl (Or.inl rfl) (Or.inl rfl)) A2q)))
     (A0e (B1e hu (pv 6) (pv 7) (pv 8) rfl)))
    (A0c (A0p (i:=9) A1z.nd rfl (Or.inl rfl) B3d)
    (A0c (A1x PassesOwn.never rfl (A1k (pv 2)) (A4j (n:=4) rfl (A0u (A0m (i:=10) A1z.nd rfl (Or.inl rfl) (Or.inl rfl)) (A0u (A0m (i:=11) A1z.nd rfl (Or.inl rfl) (Or.inl rfl)) (A0u (A0m (i:=12) A1z.nd rfl (Or.inl rfl) (Or.inl rfl)) (A0u (A0m (i:=13) A1z.nd rfl (Or.inl rfl) (Or.inl rfl)) A2q)))))
     (A0e (A1s (A0x B7n (A9s (A5n C6t (pv 11) (A4c hu (pv 6) (pv 10) (λ_ _=>rfl)) (A1h _)) (B5s (A5n C3h (A4c hu (pv 6) (pv 10) (λ_ _=>rfl)) (pv 12) (A1h _)))) (pv 13) (A1h _))
      (A0e (A0p (i:=9) A1z.nd rfl (Or.inl rfl) B3d))
      A0v)))
    (A0c (C1c (i₀:=14) (N':=["_law_axis","_law_shift","_law_at"]) (ix:=(List.replicate 2 none++[some 6])) (g:=D4s K 2 (B0u (A8b 0) (B0u (A8b 1) D2k))) A1z.nd rfl (Or.inl rfl) rfl (A6v (x:="_law_at") rfl rfl rfl (by decide +kernel) (by decide +kernel)) (A5s (N0:=["_law_axis","_law_shift"]) rfl (Or.inl rfl) (by first | exact Or.inl rfl | exact Or.inr rfl | (simp [relabel];rfl) | (with_unfolding_all exact Or.inl rfl) | (with_unfolding_all exact Or.inr rfl) | (with_unfolding_all decide))) (A1k (pv 3)) (λ_ _ _ _=>(A4j (n:=2) rfl (A0u (A0m (i:=0) B5l rfl (Or.inl rfl) (Or.inr rfl)) (A0u (A0m (i:=1) B5l rfl (Or.inl rfl) (Or.inr rfl)) A2q)))) (λ_ _ _ _=>(A0t A4h (A4c hu (pv 2) (pv 0) (λ_ _=>rfl)) (pv 1))))
    (A0e (A1x PassesOwn.never rfl (C2x rfl T.v6 (A0a (pv 14) (A0a (pv 4) A0d))) (A4j (n:=2) rfl (A0u (A0m (i:=8) A1z.nd rfl (Or.inl rfl) (Or.inl rfl)) (A0u (A0m (i:=15) A1z.nd rfl (Or.inl rfl) (Or.inl rfl)) A2q)))
     (A0e (A1s (PW.pt (B2r (A2g (pv 9)) (B0y (PW.pt (B6k (A0x C3h (pv 8) A0j (A1h _)) (B5o (A0x E0d (pv 8) (pv 15) (A1h _))))))))
      (A0e (A0y (A3v (A0a (pv 5) (A0a (A3q A4d (by rfl) T.fo Z0m (A0a (pv 14) A0d)) A0d)))))
      A0v))))))))))
   (A0e (A0y B8c))),?_⟩
  refine ⟨_,rfl,_,rfl,bl,d,ys,lk,L,rfl,hbl,hd,tl,g,λq H1 hq s1 ct=> ?_⟩;obtain ⟨ps,hq1,tp⟩:=ct.ex;have lps:=tp.len;refine ⟨q,rfl,⟨_,SqL.of hq1⟩,?_⟩
  refine A1r (K:=K) (a:=q) (xs:=ps.map V.ref) (λi σ G=>∃(o5 o6 o7 o8 o9 o10 o11 o12 o13 o14 o15:Option V),σ=[some (.ref bl),some (.ref d),some (.ref gl),some (.ref il),some (.ref sl),o5,o6,o7,o8,o9,o10,o11,o12,o13,o14,o15]/\A0n H1 G/\(A5a L ys gs ix).find? (B1b szs)=(((A3m (ys.map L)).drop i).filterMap (B0i ys gs ix)).find? (B1b szs))
   ⟨none,none,none,none,none,none,none,none,none,none,none,rfl,A0n.refl _,rfl⟩ (λi σ G _ ⟨_,_,_,_,_,_,_,_,_,_,_,_,s2,_⟩=>SqL.of (s2 _ _ hq1)) ?_ ?_
  ·rintro i v σ G hv ⟨o5,o6,o7,o8,o9,o10,o11,o12,o13,o14,o15,rfl,s2,ef⟩;obtain ⟨pc,hpc,rfl⟩:=A2j hv;obtain ⟨ce,hce,hcp⟩:=tp.get hpc;have lce:ce.length=ys.length:=by rw [(A6c _ ce (Z13 hce)).1,Z08]
   have s12:=s1.trans s2;rw [A6b hce,List.filterMap_cons] at ef;refine λat_ hat=> ?_;refine ⟨A0b,[(Sum.inr "",V.int 0)],rfl,by show 1<=15;decide,?_⟩;have e0:A1b [] [((Sum.inr ("":Str):Key),V.int 0)]=([((Sum.inr ("":Str):Key),V.int 0)]:List (Key×V)):=rfl;rw [e0];have sa:A0n G (upd (upd G at_ (.dK [])) at_ (.dK [(Sum.inr "",V.int 0)])):=A0r (A0f hat) hat;have ha:upd (upd G at_ (.dK [])) at_ (.dK [(Sum.inr "",V.int 0)]) at_=some (.dK [(Sum.inr "",V.int 0)]):=A0b;generalize upd (upd G at_ (.dK [])) at_ (.dK [(Sum.inr "",V.int 0)])=G1 at sa ha;refine ⟨_,rfl,_,rfl,bl,pc,_,_,rfl,SqL.of (sa _ _ (s12 _ _ hbl)),SqT.of (sa _ _ (s2 _ _ hcp)),?_⟩
   refine D3j (K:=K) (a:=bl) (b:=pc) (xs:=ys.map V.str) (ys:=ce.map V.int) (λj σ G2=>∃(o7 o8:Option V),σ=[some (.ref bl),some (.ref d),some (.ref gl),some (.ref il),some (.ref sl),some (.ref pc),some (.ref at_),o7,o8,o9,o10,o11,o12,o13,o14,o15]/\A0n G G2/\G2 at_=some (.dK (A1b [(Sum.inr "",V.int 0)] (((ys.map (Sum.inr:Str->Key)).zip (ce.map V.int)).take j))))
    ⟨_,_,rfl,sa,ha⟩ (λj σ G2 ⟨_,_,_,s3,_⟩=>⟨SqL.of (s3 _ _ (s12 _ _ hbl)),SqT.of (s3 _ _ (s2 _ _ hcp))⟩) (by rw [Z08,Z08];lia) ?_ ?_
   ·rintro j x y σ G2 p hx hy ⟨o7,o8,rfl,s3,ha3⟩ hp;obtain ⟨nx,hnx,rfl⟩:=A2j hx;obtain ⟨ny,hny,rfl⟩:=A2j hy;have hj:=(Z03.mp hnx).1;have sp':A0n G2 (upd G2 p (.tup [.str nx,.int ny])):=A0f hp;have hpp:upd G2 p (.tup [.str nx,.int ny]) p=some (.tup [.str nx,.int ny]):=A0b;generalize upd G2 p (.tup [.str nx,.int ny])=G3 at sp' hpp;have lm:=A2t (((ys.map (Sum.inr:Str->Key)).zip (ce.map V.int)).take j) [((Sum.inr ("":Str):Key),V.int 0)];rw [Z0x] at lm;simp only [Z0y,List.length_nil] at lm;refine ⟨p,_,rfl,SqT.of hpp,rfl,_,_,rfl,_,_,rfl,rfl,?_⟩;refine ⟨_,rfl,_,rfl,_,rfl,at_,_,rfl,C8i.k (k:=Sum.inr nx) (sp' _ _ ha3) (A1j (by lia)),_,_,rfl,A0r (s3.trans sp') hat,?_⟩
    have hz:((ys.map (Sum.inr:Str->Key)).zip (ce.map V.int))[j]? =some (Sum.inr nx,.int ny):=by
     rw [List.getElem?_zip_eq_some];exact ⟨by rw [Z1z,hnx];rfl,by rw [Z1z,hny];rfl⟩
    rw [A0b,Z14,hz,Option.toList_some,B4e]
   rintro σ G2 ⟨o7',o8',rfl,s3,ha3⟩
   have ea:A1b [((Sum.inr ("":Str):Key),V.int 0)] (((ys.map (Sum.inr:Str->Key)).zip (ce.map V.int)).take (ys.map V.str).length)=atK ys ce:=by
    rw [List.take_of_length_le (by rw [List.length_zip,Z08,Z08,Z08];lia)];rfl
   rw [ea] at ha3;have S3:A0n H G2:=s12.trans s3
   have gk:∀{x:Str},x∈ys->B2l G2 at_ (.str x) (some (.int (ai (C1q ys ce) x))):=λ{x} hx=>by
    have:=B2l.k (H:=G2) (a:=at_) (k:=Sum.inr x) ha3;rw [D6f lce hx] at this;exact this
   have gm:∀{G':Hp} {e:Str×Int},A0n G2 G'->e∈ix->B2l G' at_ (.str e.1) (some (.int (if e.1=("":Str) then 0 else ai (C1q ys ce) e.1))):=λ{G' e} s' he=>by
    have z:=B2l.k (H:=G') (a:=at_) (k:=Sum.inr e.1) (s' _ _ ha3);by_cases h0:e.1=("":Str)
    ·rw [Z12 h0];rw [h0] at z⊢;rw [D9s nys] at z;exact z
    ·rw [Z0t h0];rw [D6f lce (xin e he h0)] at z;exact z
   generalize hF:ai (C1q ys ce)=F at gk gm;refine ⟨_,rfl,gl,rfl,⟨_,SqL.of (S3 _ _ hgl)⟩,?_⟩
   refine A1r (K:=K) (a:=gl) (xs:=gv) (λj σ G3=>G2=G3/\∃(o10 o11 o12 o13:Option V),σ=[some (.ref bl),some (.ref d),some (.ref gl),some (.ref il),some (.ref sl),some (.ref pc),some (.ref at_),o7',o8',some (.bl ((gs.take j).all (inG F))),o10,o11,o12,o13,o14,o15])
    ⟨rfl,_,_,_,_,rfl⟩ (λj σ G3 _ ⟨h,_⟩=>by rw [<-h];exact SqL.of (S3 _ _ hgl)) ?_ ?_
   ·rintro j x σ G3 hx ⟨rfl,p10,p11,p12,p13,rfl⟩;obtain ⟨gg,hgg,gq,rfl,hgq⟩:=B2s pg hx;have gz:=gk (gin gg (Z13 hgg));have et:(gs.take (j+1)).all (inG F)=((gs.take j).all (inG F)&&inG F gg):=by rw [Z14,hgg,Option.toList_some,List.all_append];simp
    refine ⟨gq,_,rfl,SqT.of (S3 _ _ hgq),rfl,_,_,rfl,_,_,rfl,_,_,rfl,_,_,rfl,rfl,?_⟩;have yes:∀b:Bool,b=decide (gg.2.1<=F gg.1/\F gg.1<gg.2.2.1)->V.bl b=V.bl gg.2.2.2->inG F gg=true:=λb hb e=>by unfold inG;rw [<-hb];exact Z20 (V.bl.inj e)
    have no:∀b:Bool,b=decide (gg.2.1<=F gg.1/\F gg.1<gg.2.2.1)->¬V.bl b=V.bl gg.2.2.2->inG F gg=false:=λb hb e=>by unfold inG;rw [<-hb];exact Z1j (λz=>e (by rw [z]))
    refine ⟨_,rfl,_,rfl,_,rfl,at_,_,rfl,gz,_,_,rfl,rfl,_,rfl,A8m (λh1=> ?_) (λh1=> ?_)⟩
    ·have h1:gg.2.1<=F gg.1:=h1;refine ⟨_,rfl,_,rfl,at_,_,rfl,gz,_,rfl,_,_,rfl,rfl,_,rfl,rfl,_,rfl,B1c (λhne=>⟨rfl,some (.str gg.1),some (.int gg.2.1),some (.int gg.2.2.1),some (.bl gg.2.2.2),?_⟩) (λhe=>⟨rfl,some (.str gg.1),some (.int gg.2.1),some (.int gg.2.2.1),some (.bl gg.2.2.2),?_⟩)⟩
     ·rw [et,no (decide (F gg.1<gg.2.2.1)) (by by_cases z:F gg.1<gg.2.2.1 <;> simp [z,h1]) hne,Bool.and_false];rfl
     ·rw [et,yes (decide (F gg.1<gg.2.2.1)) (by by_cases z:F gg.1<gg.2.2.1 <;> simp [z,h1]) he,Bool.and_true];rfl
    ·have h1:¬gg.2.1<=F gg.1:=h1;refine ⟨_,rfl,rfl,_,rfl,B1c (λhne=>⟨rfl,some (.str gg.1),some (.int gg.2.1),some (.int gg.2.2.1),some (.bl gg.2.2.2),?_⟩) (λhe=>⟨rfl,some (.str gg.1),some (.int gg.2.1),some (.int gg.2.2.1),some (.bl gg.2.2.2),?_⟩)⟩
     ·rw [et,no false (by simp [h1]) hne,Bool.and_false];rfl
     ·rw [et,yes false (by simp [h1]) he,Bool.and_true];rfl
   rintro σ G3 ⟨rfl,o10',o11',o12',o13',rfl⟩;rw [Paired.length pg,Z18];have el:B0i ys gs ix ce=if gs.all (inG F)=true then some (ce,A5c F ix) else none:=by unfold B0i;rw [hF]
   generalize hre:gs.all (inG F)=re at el;refine ⟨_,rfl,il,rfl,⟨_,SqL.of (S3 _ _ hil)⟩,λCH hCH=> ?_⟩;refine A2o (K:=K) (a:=il) (D:=CH) (xs:=xs) (λj zs G3=>A0n G2 G3/\G3 CH=some (.lst zs)/\zs=(A5c F (ix.take j)).map V.int) ⟨A0f hCH,A0b,rfl⟩ (λj zs G3 ⟨s4,_⟩=>SqL.of (s4 _ _ (S3 _ _ hil))) ?_ ?_
   ·rintro j x zs G3 hx ⟨s4,hC,rfl⟩;obtain ⟨e,he,eq,rfl,heq⟩:=B2s px hx;have hj:=(Z03.mp he).1;refine ⟨eq,_,rfl,SqT.of (s4 _ _ (S3 _ _ heq)),rfl,_,_,rfl,_,_,rfl,rfl,⟨rfl,True.intro⟩,_,rfl,_,rfl,at_,_,rfl,gm s4 (Z13 he),_,rfl,_,_,rfl,rfl,hC,A1j (by simp [A5c];lia),A0r s4 hCH,A0b,?_⟩;rw [Z14,he,Option.toList_some];unfold A5c;rw [Z0s,Z0s];by_cases h0:e.1=("":Str)
    ·simp [h0]
    ·simp [h0]
   rintro zs G3 ⟨s4,hC,rfl⟩;rw [Paired.length px,Z18] at hC;have S4:A0n H G3:=S3.trans s4;have lcl:(A5c F ix).length=ix.length:=by unfold A5c;rw [Z08]
   refine ⟨_,rfl,_,rfl,CH,sl,_,_,rfl,SqL.of hC,SqL.of (S4 _ _ hsl),?_⟩
   refine C2s (K:=K) (a:=CH) (b:=sl) (xs:=(A5c F ix).map V.int) (ys:=szs.map V.int) (λj σ G4=>∃(o8 o15:Option V),σ=[some (.ref bl),some (.ref d),some (.ref gl),some (.ref il),some (.ref sl),some (.ref pc),some (.ref at_),o7',o8,some (.bl re),o10',o11',o12',o13',some (.ref CH),o15]/\A0n G3 G4/\(re=true->(((A5c F ix).zip szs).take j).all (λe=>decide (0<=e.1/\e.1<e.2))=true))
    ⟨_,_,rfl,A0n.refl _,λ_=>rfl⟩ (λj σ G4 ⟨_,_,_,s5,_⟩=>⟨SqL.of (s5 _ _ hC),SqL.of (s5 _ _ (S4 _ _ hsl))⟩) (by rw [Z08,Z08];lia) ?_ ?_
   ·rintro j x y σ G4 p hx hy ⟨o8,o15,rfl,s5,hall⟩ hp;obtain ⟨n,hn,rfl⟩:=A2j hx;obtain ⟨sz,hsz,rfl⟩:=A2j hy;have sp':A0n G4 (upd G4 p (.tup [.int n,.int sz])):=A0f hp;have hpp:upd G4 p (.tup [.int n,.int sz]) p=some (.tup [.int n,.int sz]):=A0b;generalize upd G4 p (.tup [.int n,.int sz])=G5 at sp' hpp;have s6:=s5.trans sp';have hz:((A5c F ix).zip szs)[j]? =some (n,sz):=by rw [List.getElem?_zip_eq_some];exact ⟨hn,hsz⟩
    have bad:re=true->¬(0<=n/\n<sz)->(A5a L ys gs ix).find? (B1b szs)=some (ce,A5c F ix):=λr1 hb=>by
     rw [ef,el,Z12 r1]
     have hbad:B1b szs (ce,A5c F ix)=true:=by
      unfold B1b inR;rw [Bool.not_eq_true',List.all_eq_false];exact ⟨(n,sz),Z13 hz,by rw [Z1j hb];exact Z0v⟩
     exact List.find?_cons_of_pos hbad
    have ret:re=true->¬(0<=n/\n<sz)->∀p:Addr,G5 p=none->∀q:Addr,upd G5 p (.tup ((A5c F ix).map V.int)) q=none->Q (.ref q) (upd (upd G5 p (.tup ((A5c F ix).map V.int))) q (.tup [.ref pc,.ref p])):=λr1 hb p' hp' q' hq'=>by
     have u1:=A0f (o:= .tup ((A5c F ix).map V.int)) hp';have u2:=A0f (o:= .tup [V.ref pc,.ref p']) hq';refine k _ _ (S4.trans (s6.trans (u1.trans u2))) ?_;rw [bad r1 hb];exact ⟨q',pc,p',rfl,A0b,(u1.trans u2) _ _ (s6 _ _ (s4 _ _ (s3 _ _ (s2 _ _ hcp)))),u2 _ _ A0b⟩
    refine ⟨p,_,rfl,SqT.of hpp,rfl,_,_,rfl,_,_,rfl,rfl,?_⟩
    have nxt:(re=true->0<=n/\n<sz)->(re=true->(((A5c F ix).zip szs).take (j+1)).all (λe=>decide (0<=e.1/\e.1<e.2))=true):=λhok r1=>by
     rw [Z14,hz,Option.toList_some,List.all_append,hall r1];simp [hok r1]
    refine ⟨_,rfl,_,rfl,D5q (λr1=> ?_) (λr0=>A3o ⟨_,_,rfl,s6,nxt λz=>absurd z r0⟩)⟩;refine ⟨_,rfl,_,_,rfl,rfl,_,rfl,A8m (λhlt=>B4j ?_) (λhge=> ?_)⟩
    ·have hlt:n<0:=hlt;exact ⟨_,rfl,_,rfl,CH,_,rfl,.inl ⟨SqL.of (s6 _ _ hC),λp' hp'=>⟨A0g (by simp),ret r1 (by lia) p' hp'⟩⟩⟩
    ·have hge:¬n<0:=hge;refine ⟨_,rfl,_,rfl,_,_,rfl,rfl,_,rfl,A8m (λh=> ?_) (λh=>⟨_,_,rfl,s6,nxt λ_=> ?_⟩)⟩
     ·have h:sz<=n:=h;exact ⟨_,rfl,_,rfl,CH,_,rfl,.inl ⟨SqL.of (s6 _ _ hC),λp' hp'=>⟨A0g (by simp),ret r1 (by lia) p' hp'⟩⟩⟩
     ·have h:¬sz<=n:=h
      lia
   ·rintro σ G4 ⟨o8,o15,rfl,s5,hall⟩;refine ⟨_,_,_,_,_,_,_,_,_,_,_,rfl,s2.trans (s3.trans (s4.trans s5)),?_⟩;rw [ef,el]
    cases re with
    | false=>rfl
    | true =>
     have:=hall rfl;rw [List.take_of_length_le (by rw [List.length_zip,Z08];lia)] at this
     have hb:¬B1b szs (ce,A5c F ix)=true:=by
      unfold B1b inR;rw [this];exact Z0v
     exact List.find?_cons_of_neg hb
  ·rintro σ G ⟨o5,o6,o7,o8,o9,o10,o11,o12,o13,o14,o15,rfl,s2,ef⟩;rw [Z08,lps,List.drop_length] at ef;refine k _ _ (s1.trans s2) ?_;rw [ef];rfl
def C1r:List Ly->List Gd->Prop
 | [],gs=>gs=[]
 | l::r,gs=>if l.1=2 then∃g gs',gs=g::gs'/\g.1=l.2.1/\C1r r gs' else C1r r gs
theorem B1k {a:Str} {ix:List (Str×Int)}:∀(ly:List Ly) (gs:List Gd) (s:List Str) (g:List Gd),(∀l∈ly,l.1=0\/l.1=1\/l.1=2\/l.1=3)->C1r ly gs->∀q∈prT (A3h ly gs (.read a ix)) s g,(∀a' ix',q.1≠.read a' ix')\/q=(.read a ix,s++smL ly,g++gs)
 | [],gs,s,g,_,hg,q,hq=>by
  have hg:gs=[]:=hg;subst hg;have hq:q∈[((.read a ix:Tm),s,g)]:=hq;rw [Z0w.mp hq];exact .inr (by show _=((.read a ix:Tm),s++[],g++[]);rw [Z0u,Z0u])
 | l::r,gs,s,g,hk,hg,q,hq=>by
  have hk':=λl' h=>hk l' (.tail _ h);have hl:=hk l (.head _);have hq:q∈prT (if l.1=3 then _ else _) s g:=hq;have hg:if l.1=2 then _ else _:=hg
  by_cases h3:l.1=3
  ·rw [Z12 h3] at hq;rw [Z0t (by lia)] at hg;rcases Z0e.mp hq with rfl | hq
   ·exact .inl λ_ _ z=>by cases z
   ·rcases B1k r gs (s++[l.2.1]) g hk' hg q hq with h | h
    ·exact .inl h
    ·refine .inr ?_;rw [h,A4s h3,Z0z];rfl
  rw [Z0t h3] at hq;by_cases h0:l.1=0
  ·rw [Z12 h0] at hq;rw [Z0t (by lia)] at hg;rcases Z0e.mp hq with rfl | hq
   ·exact .inl λ_ _ z=>by cases z
   ·rcases Z07.mp hq with hq | hq
    ·rw [Z0w.mp hq];exact .inl λ_ _ z=>by cases z
    ·rw [A2w h3];exact B1k r gs s g hk' hg q hq
  rw [Z0t h0] at hq;by_cases h1:l.1=1
  ·rw [Z12 h1] at hq;rw [Z0t (by lia)] at hg;rcases Z0e.mp hq with rfl | hq
   ·exact .inl λ_ _ z=>by cases z
   ·rcases Z07.mp hq with hq | hq
    ·rw [A2w h3];exact B1k r gs s g hk' hg q hq
    ·rw [Z0w.mp hq];exact .inl λ_ _ z=>by cases z
  rw [Z0t h1] at hq;rw [Z12 (by lia)] at hg;obtain ⟨gd,gs',rfl,eg,hg⟩:=hg;have hq:q∈prT (if gd.2.2.2=true then _ else _) s g:=hq;by_cases hb:gd.2.2.2=true
  ·rw [Z12 hb] at hq;rcases Z0e.mp hq with rfl | hq
   ·exact .inl λ_ _ z=>by cases z
   ·rcases Z07.mp hq with hq | hq
    ·rcases B1k r gs' s (g++[(gd.1,gd.2.1,gd.2.2.1,true)]) hk' hg q hq with h | h
     ·exact .inl h
     ·refine .inr ?_;rw [h,A2w h3,Z0z];have:(gd.1,gd.2.1,gd.2.2.1,true)=gd:=by rw [<-hb]
      rw [this];rfl
    ·rw [Z0w.mp hq];exact .inl λ_ _ z=>by cases z
  ·rw [Z0t hb] at hq;rcases Z0e.mp hq with rfl | hq
   ·exact .inl λ_ _ z=>by cases z
   ·rcases Z07.mp hq with hq | hq
    ·rw [Z0w.mp hq];exact .inl λ_ _ z=>by cases z
    ·rcases B1k r gs' s (g++[(gd.1,gd.2.1,gd.2.2.1,false)]) hk' hg q hq with h | h
     ·exact .inl h
     ·refine .inr ?_;rw [h,A2w h3,Z0z];have:(gd.1,gd.2.1,gd.2.2.1,false)=gd:=by rw [<-Bool.eq_false_iff.mpr hb]
      rw [this];rfl
theorem B5k {L:Str->Int} {own:List Str} {u:Tm} (hu:∀s g,prT u s g=[(u,s,g)]):∀(ly:List Ly) (gs:List Gd) (s:List Str) (g:List Gd),(∀l∈ly,l.1=0\/l.1=1\/l.1=2\/l.1=3)->C1r ly gs->((prT (A3h ly gs u) s g).map λq=>prd L (own++q.2.1)).sum=wkY L ly (prd L (own++s))
 | [],gs,s,g,_,_=>by
  show ((prT u s g).map λq=>prd L (own++q.2.1)).sum=prd L (own++s);rw [hu];simp
 | l::r,gs,s,g,hk,hg=>by
  have hk':=λl' h=>hk l' (.tail _ h);have hl:=hk l (.head _);have hg:if l.1=2 then _ else _:=hg
  show ((prT (if l.1=3 then _ else _) s g).map λq=>prd L (own++q.2.1)).sum=if l.1=3 then _ else _
  by_cases h3:l.1=3
  ·rw [Z12 h3,Z12 h3];rw [Z0t (by lia)] at hg;have ih:=B5k (L:=L) (own:=own) hu r gs (s++[l.2.1]) g hk' hg;show (prd L (own++s)::(prT (A3h r gs u) (s++[l.2.1]) g).map λq=>prd L (own++q.2.1)).sum=_;rw [List.sum_cons,ih,<-Z0z,B2k]
  rw [Z0t h3,Z0t h3];by_cases h0:l.1=0
  ·rw [Z12 h0];rw [Z0t (by lia)] at hg;have ih:=B5k (L:=L) (own:=own) hu r gs s g hk' hg;show (prd L (own++s)::((prT (.num _) s g++prT (A3h r gs u) s g).map λq=>prd L (own++q.2.1))).sum=_;rw [List.sum_cons,Z0s,List.sum_append,ih];show prd L (own++s)+(([((.num _:Tm),s,g)].map λ(q:PT)=>prd L (own++q.2.1)).sum+_)=_;simp [Int.add_assoc]
  rw [Z0t h0];by_cases h1:l.1=1
  ·rw [Z12 h1];rw [Z0t (by lia)] at hg;have ih:=B5k (L:=L) (own:=own) hu r gs s g hk' hg;show (prd L (own++s)::((prT (A3h r gs u) s g++prT (.num _) s g).map λq=>prd L (own++q.2.1))).sum=_;rw [List.sum_cons,Z0s,List.sum_append,ih];show prd L (own++s)+(_+([((.num _:Tm),s,g)].map λ(q:PT)=>prd L (own++q.2.1)).sum)=_;simp
   lia
  rw [Z0t h1];rw [Z12 (by lia)] at hg;obtain ⟨gd,gs',rfl,eg,hg⟩:=hg;show ((prT (if gd.2.2.2=true then _ else _) s g).map λq=>prd L (own++q.2.1)).sum=_;by_cases hb:gd.2.2.2=true
  ·rw [Z12 hb];have ih:=B5k (L:=L) (own:=own) hu r gs' s (g++[(gd.1,gd.2.1,gd.2.2.1,true)]) hk' hg;show (prd L (own++s)::((prT (A3h r gs' u) s (g++[(gd.1,gd.2.1,gd.2.2.1,true)])++[((.num _:Tm),s,_)]).map λ(q:PT)=>prd L (own++q.2.1))).sum=_;rw [List.sum_cons,Z0s,List.sum_append,ih];simp
   lia
  ·rw [Z0t hb];have ih:=B5k (L:=L) (own:=own) hu r gs' s (g++[(gd.1,gd.2.1,gd.2.2.1,false)]) hk' hg;show (prd L (own++s)::(([((.num _:Tm),s,_)]++prT (A3h r gs' u) s (g++[(gd.1,gd.2.1,gd.2.2.1,false)])).map λ(q:PT)=>prd L (own++q.2.1))).sum=_;rw [List.sum_cons,Z0s,List.sum_append,ih];simp
   lia
theorem A4k {α β:Type} {f:α->Option β} {x:α} {l:List α} (h:f x=none):(x::l).findSome? f=l.findSome? f:=by rw [List.findSome?_cons,h]
theorem B5w {α β:Type} {f:α->Option β} {a b:List α} (h:a.findSome? f=none):(a++b).findSome? f=b.findSome? f:=by rw [List.findSome?_append,h];rfl
theorem B6l {α β:Type} {f:α->Option β} {a b:List α} (h:b.findSome? f=none):(a++b).findSome? f=a.findSome? f:=by rw [List.findSome?_append,h];cases a.findSome? f <;> rfl
theorem B4z {β:Type} {f:PT->Option β} {a:Str} {ix:List (Str×Int)} (hf:∀q:PT,(∀a' ix',q.1≠.read a' ix')->f q=none):∀(ly:List Ly) (gs:List Gd) (s:List Str) (g:List Gd),(∀l∈ly,l.1=0\/l.1=1\/l.1=2\/l.1=3)->C1r ly gs->(prT (A3h ly gs (.read a ix)) s g).findSome? f=f (.read a ix,s++smL ly,g++gs)
 | [],gs,s,g,_,hg=>by
  have hg:gs=[]:=hg;subst hg;show ([((.read a ix:Tm),s,g)]:List PT).findSome? f=f (.read a ix,s++[],g++[]);rw [Z0u,Z0u,List.findSome?_cons];cases f (.read a ix,s,g) <;> rfl
 | l::r,gs,s,g,hk,hg=>by
  have hk':=λl' h=>hk l' (.tail _ h);have hl:=hk l (.head _);have hg:if l.1=2 then _ else _:=hg
  have nn:∀(z:Int) (g':List Gd),([((.num z:Tm),s,g')]:List PT).findSome? f=none:=λz g'=>by rw [A4k (hf _ λ_ _ y=>by cases y)];rfl
  show (prT (if l.1=3 then _ else _) s g).findSome? f=_;by_cases h3:l.1=3
  ·rw [Z12 h3];rw [Z0t (by lia)] at hg;show (((.sum l.2.1 (A3h r gs (.read a ix)):Tm),s,g)::prT (A3h r gs (.read a ix)) (s++[l.2.1]) g).findSome? f=_;rw [A4k (hf _ λ_ _ y=>by cases y),B4z hf r gs (s++[l.2.1]) g hk' hg,A4s h3,Z0z];rfl
  rw [Z0t h3,A2w h3];by_cases h0:l.1=0
  ·rw [Z12 h0];rw [Z0t (by lia)] at hg;show (((.pair .plus (.num _) (A3h r gs (.read a ix)):Tm),s,g)::([((.num _:Tm),s,g)]++prT (A3h r gs (.read a ix)) s g)).findSome? f=_;rw [A4k (hf _ λ_ _ y=>by cases y),B5w (nn _ _),B4z hf r gs s g hk' hg]
  rw [Z0t h0];by_cases h1:l.1=1
  ·rw [Z12 h1];rw [Z0t (by lia)] at hg;show (((.pair .times (A3h r gs (.read a ix)) (.num _):Tm),s,g)::(prT (A3h r gs (.read a ix)) s g++[((.num _:Tm),s,g)])).findSome? f=_;rw [A4k (hf _ λ_ _ y=>by cases y),B6l (nn _ _),B4z hf r gs s g hk' hg]
  rw [Z0t h1];rw [Z12 (by lia)] at hg;obtain ⟨gd,gs',rfl,eg,hg⟩:=hg;show (prT (if gd.2.2.2=true then _ else _) s g).findSome? f=_;by_cases hb:gd.2.2.2=true
  ·rw [Z12 hb];show (((.guard gd.1 gd.2.1 gd.2.2.1 (A3h r gs' (.read a ix)) (.num 7):Tm),s,g)::(prT (A3h r gs' (.read a ix)) s (g++[(gd.1,gd.2.1,gd.2.2.1,true)])++[((.num 7:Tm),s,g++[(gd.1,gd.2.1,gd.2.2.1,false)])])).findSome? f=_;rw [A4k (hf _ λ_ _ y=>by cases y),B6l (nn _ _),B4z hf r gs' s _ hk' hg,Z0z];have:(gd.1,gd.2.1,gd.2.2.1,true)=gd:=by rw [<-hb]
   rw [this];rfl
  ·rw [Z0t hb];show (((.guard gd.1 gd.2.1 gd.2.2.1 (.num (-7)) (A3h r gs' (.read a ix)):Tm),s,g)::([((.num (-7):Tm),s,g++[(gd.1,gd.2.1,gd.2.2.1,true)])]++prT (A3h r gs' (.read a ix)) s (g++[(gd.1,gd.2.1,gd.2.2.1,false)]))).findSome? f=_;rw [A4k (hf _ λ_ _ y=>by cases y),B5w (nn _ _),B4z hf r gs' s _ hk' hg,Z0z];have:(gd.1,gd.2.1,gd.2.2.1,false)=gd:=by rw [<-Bool.eq_false_iff.mpr hb]
   rw [this];rfl
theorem A8s {nm:List Str}:∀{ly:List Ly} {bd:List Str},B9x nm bd ly->∀l∈ly,l.1=0\/l.1=1\/l.1=2\/l.1=3
 | [],_,_,l,h=>by cases h
 | a::r,bd,h,l,hl=>by
  rcases Z0e.mp hl with rfl | hl
  ·rcases h with h | h | h
   ·exact .inr (.inr (.inr h.1))
   ·exact .inr (.inr (.inl h.1))
   ·rcases h.1 with h | h
    ·exact .inl h
    ·exact .inr (.inl h)
  ·rcases h with h | h | h
   ·exact A8s h.2.2.2 l hl
   ·exact A8s h.2.2 l hl
   ·exact A8s h.2 l hl
theorem B0v {a on:Str} {ix:List (Str×Int)} {kn own:List Str} {es:List (Str×List Str)} {nt:Nat} (hne:¬a=on):∀(ly:List Ly) (gs:List Gd) (s:List Str) (g:List Gd),C1r ly gs->B9x kn (own++s) ly->C5k es (own++(s++smL ly)) a ix=none->(prT (A3h ly gs (.read a ix)) s g).findSome? (pOk kn es on own nt)=none
 | [],gs,s,g,_,_,hr=>by
  show ([((.read a ix:Tm),s,g)]:List PT).findSome? (pOk kn es on own nt)=none;have e:smL []=[]:=rfl;rw [e,Z0u] at hr;refine (A4k ?_).trans rfl;show (match C5k es (own++s) a ix with | some b=>some b | none=>if a=on/\nt<s.length then some false else none)=none
  rw [hr];exact Z0t λz=>hne z.1
 | l::r,gs,s,g,hg,lo,hr=>by
  have hg:if l.1=2 then _ else _:=hg
  have nn:∀(z:Int) (g':List Gd),([((.num z:Tm),s,g')]:List PT).findSome? (pOk kn es on own nt)=none:=λz g'=>(A4k rfl).trans rfl;show (prT (if l.1=3 then _ else _) s g).findSome? (pOk kn es on own nt)=none;rcases lo with ⟨h3,m,n,lo⟩ | ⟨h2,m,lo⟩ | ⟨h01,lo⟩
  ·rw [Z12 h3];rw [Z0t (by lia)] at hg;rw [A4s h3] at hr;show (((.sum l.2.1 (A3h r gs (.read a ix)):Tm),s,g)::prT (A3h r gs (.read a ix)) (s++[l.2.1]) g).findSome? (pOk kn es on own nt)=none;refine (A4k ?_).trans (B0v hne r gs (s++[l.2.1]) g hg (by rw [<-Z0z];exact lo) (by rw [Z0z];exact hr));show (if l.2.1∈kn then (if l.2.1∈own++s then some false else none) else some false)=none;rw [Z12 m,Z0t n]
  ·have h3:¬l.1=3:=by lia
   rw [Z0t h3,Z0t (by lia),Z0t (by lia)];rw [Z12 h2] at hg;rw [A2w h3] at hr;obtain ⟨gd,gs',rfl,eg,hg⟩:=hg
   have hgd:∀(x y:Tm),pOk kn es on own nt (.guard gd.1 gd.2.1 gd.2.2.1 x y,s,g)=none:=λx y=>by
    show (if gd.1∈own++s then none else some false)=none;rw [eg,Z12 m]
   show (prT (if gd.2.2.2=true then _ else _) s g).findSome? (pOk kn es on own nt)=none;by_cases hb:gd.2.2.2=true
   ·rw [Z12 hb];show (((.guard gd.1 gd.2.1 gd.2.2.1 (A3h r gs' (.read a ix)) (.num 7):Tm),s,g)::(prT (A3h r gs' (.read a ix)) s (g++[(gd.1,gd.2.1,gd.2.2.1,true)])++[((.num 7:Tm),s,g++[(gd.1,gd.2.1,gd.2.2.1,false)])])).findSome? _=none;rw [A4k (hgd _ _),B6l (nn _ _)];exact B0v hne r gs' s _ hg lo hr
   ·rw [Z0t hb];show (((.guard gd.1 gd.2.1 gd.2.2.1 (.num (-7)) (A3h r gs' (.read a ix)):Tm),s,g)::([((.num (-7):Tm),s,g++[(gd.1,gd.2.1,gd.2.2.1,true)])]++prT (A3h r gs' (.read a ix)) s (g++[(gd.1,gd.2.1,gd.2.2.1,false)]))).findSome? _=none;rw [A4k (hgd _ _),B5w (nn _ _)];exact B0v hne r gs' s _ hg lo hr
  ·have h3:¬l.1=3:=by lia
   rw [Z0t h3];rw [Z0t (by lia)] at hg;rw [A2w h3] at hr;by_cases h0:l.1=0
   ·rw [Z12 h0];show (((.pair .plus (.num _) (A3h r gs (.read a ix)):Tm),s,g)::([((.num _:Tm),s,g)]++prT (A3h r gs (.read a ix)) s g)).findSome? _=none;rw [A4k rfl,B5w (nn _ _)];exact B0v hne r gs s g hg lo hr
   ·rw [Z0t h0,Z12 (by lia)];show (((.pair .times (A3h r gs (.read a ix)) (.num _):Tm),s,g)::(prT (A3h r gs (.read a ix)) s g++[((.num _:Tm),s,g)])).findSome? _=none;rw [A4k rfl,B6l (nn _ _)];exact B0v hne r gs s g hg lo hr
theorem C1j {a:Str} {ix:List (Str×Int)}:∀(ly:List Ly) (gs:List Gd),dep (A3h ly gs (.read a ix))<=ly.length+1/\nod (A3h ly gs (.read a ix))<=2*ly.length+1
 | [],gs=>⟨Z09 _,Z09 _⟩
 | l::r,gs=>by
  show dep (if l.1=3 then _ else _)<=r.length+1+1/\nod (if l.1=3 then _ else _)<=2*(r.length+1)+1;obtain ⟨i1,i2⟩:=C1j (a:=a) (ix:=ix) r gs;by_cases h3:l.1=3
  ·rw [Z12 h3];exact ⟨by show dep _+1<=_;lia,by show nod _+1<=_;lia⟩
  rw [Z0t h3];by_cases h0:l.1=0
  ·rw [Z12 h0];exact ⟨by show max 1 (dep _)+1<=_;lia,by show 1+nod _+1<=_;lia⟩
  rw [Z0t h0];by_cases h1:l.1=1
  ·rw [Z12 h1];exact ⟨by show max (dep _) 1+1<=_;lia,by show nod _+1+1<=_;lia⟩
  rw [Z0t h1]
  cases gs with
  | nil=>exact ⟨by show dep (A3h r [] _)<=_;lia,by show nod (A3h r [] _)<=_;lia⟩
  | cons gd gs' =>
   obtain ⟨j1,j2⟩:=C1j (a:=a) (ix:=ix) r gs';show dep (if gd.2.2.2=true then _ else _)<=_/\nod (if gd.2.2.2=true then _ else _)<=_;by_cases hb:gd.2.2.2=true
   ·rw [Z12 hb];exact ⟨by show max (dep _) 1+1<=_;lia,by show nod _+1+1<=_;lia⟩
   ·rw [Z0t hb];exact ⟨by show max 1 (dep _)+1<=_;lia,by show 1+nod _+1<=_;lia⟩
theorem B7l {a:Str} {ix:List (Str×Int)} (hu:OkT (.read a ix)) {nm:List Str} (hn:OkN nm):∀(ly:List Ly) (gs:List Gd) (bd:List Str),OkN bd->C1r ly gs->B9x nm bd ly->OkT (A3h ly gs (.read a ix))
 | [],gs,_,_,_,_=>hu
 | l::r,gs,bd,ob,hg,lo=>by
  have hg:if l.1=2 then _ else _:=hg
  show OkT (if l.1=3 then _ else _);rcases lo with ⟨h3,m,n,lo⟩ | ⟨h2,m,lo⟩ | ⟨h01,lo⟩
  ·rw [Z12 h3];rw [Z0t (by lia)] at hg;refine ⟨hn _ m,B7l hu hn r gs (bd++[l.2.1]) (λx hx=> ?_) hg lo⟩;rcases Z07.mp hx with hx | hx
   ·exact ob x hx
   ·rw [Z0w.mp hx];exact hn _ m
  ·rw [Z0t (by lia),Z0t (by lia),Z0t (by lia)];rw [Z12 h2] at hg;obtain ⟨gd,gs',rfl,eg,hg⟩:=hg;have ih:=B7l hu hn r gs' bd ob hg lo;show OkT (if gd.2.2.2=true then _ else _);by_cases hb:gd.2.2.2=true
   ·rw [Z12 hb];exact ⟨by rw [eg];exact ob _ m,ih,True.intro⟩
   ·rw [Z0t hb];exact ⟨by rw [eg];exact ob _ m,True.intro,ih⟩
  ·rw [Z0t (by lia)];rw [Z0t (by lia)] at hg;have ih:=B7l hu hn r gs bd ob hg lo;by_cases h0:l.1=0
   ·rw [Z12 h0];exact ⟨True.intro,ih⟩
   ·rw [Z0t h0,Z12 (by lia)];exact ⟨ih,True.intro⟩
theorem B2y {a:Str} {ix:List (Str×Int)}:∀(ly:List Ly) (gs:List Gd) (s:List Str) (g:List Gd),∀q∈prT (A3h ly gs (.read a ix)) s g,∀x∈q.2.1,x∈s\/x∈smL ly
 | [],gs,s,g,q,hq,x,hx=>by
  have hq:q∈[((.read a ix:Tm),s,g)]:=hq;rw [Z0w.mp hq] at hx;exact .inl hx
 | l::r,gs,s,g,q,hq,x,hx=>by
  have hq:q∈prT (if l.1=3 then _ else _) s g:=hq;have one:∀{u:Tm} {g':List Gd},q∈[((u:Tm),s,g')]->x∈s\/x∈smL (l::r):=λh=>by rw [Z0w.mp h] at hx;exact .inl hx
  by_cases h3:l.1=3
  ·rw [Z12 h3] at hq;rcases Z0e.mp hq with rfl | hq
   ·exact .inl hx
   ·rw [A4s h3];rcases B2y r gs (s++[l.2.1]) g q hq x hx with h | h
    ·rcases Z07.mp h with h | h
     ·exact .inl h
     ·exact .inr (by rw [Z0w.mp h];exact .head _)
    ·exact .inr (.tail _ h)
  rw [Z0t h3] at hq;have up:(x∈s\/x∈smL r)->x∈s\/x∈smL (l::r):=λh=>by rw [A2w h3];exact h
  by_cases h0:l.1=0
  ·rw [Z12 h0] at hq;rcases Z0e.mp hq with rfl | hq
   ·exact .inl hx
   ·rcases Z07.mp hq with hq | hq
    ·exact one hq
    ·exact up (B2y r gs s g q hq x hx)
  rw [Z0t h0] at hq;by_cases h1:l.1=1
  ·rw [Z12 h1] at hq;rcases Z0e.mp hq with rfl | hq
   ·exact .inl hx
   ·rcases Z07.mp hq with hq | hq
    ·exact up (B2y r gs s g q hq x hx)
    ·exact one hq
  rw [Z0t h1] at hq
  cases gs with
  | nil=>exact up (B2y r [] s g q hq x hx)
  | cons gd gs' =>
   have hq:q∈prT (if gd.2.2.2=true then _ else _) s g:=hq;by_cases hb:gd.2.2.2=true
   ·rw [Z12 hb] at hq;rcases Z0e.mp hq with rfl | hq
    ·exact .inl hx
    ·rcases Z07.mp hq with hq | hq
     ·exact up (B2y r gs' s _ q hq x hx)
     ·exact one hq
   ·rw [Z0t hb] at hq;rcases Z0e.mp hq with rfl | hq
    ·exact .inl hx
    ·rcases Z07.mp hq with hq | hq
     ·exact one hq
     ·exact up (B2y r gs' s _ q hq x hx)
def tel (lk:List (Key×V)) (x:Str):Int:=match A4u lk (Sum.inr x) with | some (.int i)=>i | _=>0
theorem B9l {L:Str->Int}:∀(nm:List Str) (acc:List (Key×V)) (x:Str),(x∈nm\/A4u acc (Sum.inr x)=some (.int (L x)))->A4u (A1b acc (B6r (nm.map λy=>(y,L y)))) (Sum.inr x)=some (.int (L x))
 | [],acc,x,h=>by
  rcases h with h | h
  ·cases h
  ·exact h
 | y::nm,acc,x,h=>by
  show A4u (A1b (A8p acc (Sum.inr y) (.int (L y))) (B6r (nm.map λy=>(y,L y)))) (Sum.inr x)=some (.int (L x));refine B9l nm _ x ?_;by_cases hx:x∈nm
  ·exact .inl hx
  ·refine .inr ?_;rw [A5z];by_cases hxy:x=y
   ·subst hxy;rw [Z12 rfl]
   ·rw [Z0t (λz=>hxy (by injection z))];rcases h with h | h
    ·rcases Z0e.mp h with h | h
     ·exact absurd h hxy
     ·exact absurd h hx
    ·exact h
theorem D1t (L:Str->Int) (ys:List Str):prd L ys=A5b (ys.map L):=by unfold prd A5b;rw [List.foldl_map]
def Bnd (L:Str->Int) (ys:List Str):Prop:=∀y∈ys,1<=L y/\L y<=60
theorem A9p {L:Str->Int}:∀(n:Nat) {ys:List Str},ys.length=n->Bnd L ys->1<=prd L ys/\prd L ys<=60^n
 | 0,ys,hn,_=>by
  rw [List.length_eq_zero_iff.mp hn];exact ⟨by show (1:Int)<=1;decide,by show (1:Int)<=1;decide⟩
 | n+1,ys,hn,h=>by
  rcases List.eq_nil_or_concat ys with rfl | ⟨zs,y,rfl⟩
  ·cases hn
  ·rw [List.concat_eq_append] at hn h⊢;rw [Z06,Z0j] at hn;obtain ⟨i1,i2⟩:=A9p n (ys:=zs) (by lia) λz hz=>h z (Z05 _ hz);obtain ⟨j1,j2⟩:=h y (Z02 _ (.head _));rw [B2k];refine ⟨?_,?_⟩
   ·have:=Int.mul_le_mul i1 j1 (by lia) (by lia)
    lia
   ·rw [Int.pow_succ];exact Int.mul_le_mul i2 j2 (by lia) (by lia)
theorem C0i (L:Str->Int):∀(ys:List Str) (f:Int),ys.foldl (λc y=>c*L y) f=f*prd L ys
 | [],f=>by show f=f*1;rw [Int.mul_one]
 | y::ys,f=>by
  have e1:=C0i L ys (f*L y);have e2:=C0i L ys (1*L y);show ys.foldl (λc y=>c*L y) (f*L y)=f*ys.foldl (λc y=>c*L y) (1*L y);rw [e1,e2,Int.one_mul,Int.mul_assoc]
theorem C0n (L:Str->Int) (a b:List Str):prd L (a++b)=prd L a*prd L b:=by
 show (a++b).foldl (λc y=>c*L y) 1=_;rw [List.foldl_append,C0i L b];rfl
theorem D0q {L:Str->Int}:∀(ly:List Ly) (f:Int),0<=f->Bnd L (smL ly)->f*prd L (smL ly)<=wkY L ly f
 | [],f,_,_=>by
  show f*1<=f
  lia
 | l::r,f,hf,hb=>by
  show _<=if l.1=3 then _ else _
  by_cases h3:l.1=3
  ·rw [A4s h3] at hb⊢;rw [Z12 h3];have hx:=hb l.2.1 (.head _);have hm:0<=f*L l.2.1:=Int.mul_nonneg hf (by lia);have ih:=D0q r (f*L l.2.1) hm λy hy=>hb y (.tail _ hy)
   have e:prd L (l.2.1::smL r)=L l.2.1*prd L (smL r):=by
    have:=C0n L [l.2.1] (smL r);rw [List.singleton_append] at this;rw [this];show (1*L l.2.1)*_=_;rw [Int.one_mul]
   rw [e,<-Int.mul_assoc]
   lia
  ·rw [A2w h3] at hb⊢;rw [Z0t h3];have ih:=D0q r f hf hb
   lia
theorem D2f {L:Str->Int}:∀(n:Nat) (ly:List Ly) (f:Int) (B:Int),ly.length=n->0<=f->f<=B->(∀l∈ly,l.1=3->1<=L l.2.1/\L l.2.1<=60)->0<=wkY L ly f/\wkY L ly f<=B*100^n
 | 0,ly,f,B,hn,hf,hB,_=>by
  rw [List.length_eq_zero_iff.mp hn];show 0<=f/\f<=B*1
  lia
 | n+1,ly,f,B,hn,hf,hB,hb=>by
  cases ly with
  | nil=>cases hn
  | cons l r =>
   have hn:r.length=n:=by simpa using hn
   have hb':=λl' h=>hb l' (.tail _ h)
   have p:(1:Int)<=100^n:=by
    have:=Int.pow_pos (m:=n) (show (0:Int)<100 by decide)
    lia
   have e100:B*100^(n+1)=B*100^n*100:=by rw [Int.pow_succ,Int.mul_assoc]
   have hBp:B<=B*100^n:=by
    have:=Z29 p (show 0<=B by lia)
    lia
   show 0<=(if l.1=3 then _ else _)/\(if l.1=3 then _ else _)<=_;by_cases h3:l.1=3
   ·rw [Z12 h3];have hx:=hb l (.head _) h3;have m0:0<=f*L l.2.1:=Int.mul_nonneg hf (by lia);have m1:f*L l.2.1<=B*60:=Int.mul_le_mul hB hx.2 (by lia) (by lia);obtain ⟨i1,i2⟩:=D2f n r (f*L l.2.1) (B*60) hn m0 m1 hb';have e60:B*60*100^n=B*100^n*60:=by rw [Int.mul_assoc,Int.mul_comm 60,<-Int.mul_assoc]
    rw [e60] at i2;rw [e100]
    lia
   ·rw [Z0t h3];obtain ⟨i1,i2⟩:=D2f n r f B hn hf hB hb';rw [e100]
    lia
def nm5:List Str:=["i","jot","kk","l","mmmmmmmm"]
def arB (b:Bool):Str:=if b=true then "let" else "tab"
def tbB (b:Bool) (zs:List Str):List (Str×List Str):=if b=true then [] else [("tab",zs)]
def lsB (b:Bool) (zs own:List Str) (u:Tm):List Lt:=if b=true then [("let",zs,.num 3),("mine",own,u)] else [("mine",own,u)]
theorem C8e (b:Bool) (zs own:List Str) (u:Tm):arr (tbB b zs) (lsB b zs own u)=[(arB b,zs),("mine",own)]:=by cases b <;> rfl
theorem B9v (b:Bool) (zs own:List Str) (u:Tm):arN (tbB b zs) (lsB b zs own u)=[arB b,"mine"]:=by cases b <;> rfl
theorem B6b {p:Str->Prop} {ns:List Str} (nd:ns.Nodup) (h:∀x∈ns,p x):B5q p ns:=λi x e=>by
 refine ⟨h x (Z13 e),λhm=> ?_⟩;have hi:=(Z03.mp e).1;have ey:ns[i]=x:=(Z03.mp e).2;have e2:ns=ns.take i++x::ns.drop (i+1):=by rw [<-ey,List.getElem_cons_drop,Z2e]
 rw [e2] at nd;exact (Z0l.mp nd).2.2 x hm x (.head _) rfl
structure B3e (nm zs own:List Str) (ly:List Ly) (gs:List Gd) (ix:List (Str×Int)) (L:Str->Int):Prop where
 sub:∃k,nm=nm5.take k
 z:AxN nm zs
 o:AxN nm own
 yo:B9x nm own ly
 l3:(smL ly).length<=3
 l8:ly.length<=8
 gd:C1r ly gs
 lx:ix.length=zs.length
 xi:∀e∈ix,¬e.1=""->e.1∈own++smL ly
 bn:Bnd L nm
theorem B2h {nm:List Str}:∀{ly:List Ly} {bd:List Str},B9x nm bd ly->∀x∈smL ly,x∈nm
 | [],_,_,x,h=>by cases h
 | l::r,bd,h,x,hx=>by
  rcases h with ⟨h3,m,_,h⟩ | ⟨h2,_,h⟩ | ⟨h01,h⟩
  ·rw [A4s h3] at hx;rcases Z0e.mp hx with rfl | hx
   ·exact m
   ·exact B2h h x hx
  ·rw [A2w (by lia)] at hx;exact B2h h x hx
  ·rw [A2w (by lia)] at hx;exact B2h h x hx
theorem C5z {nm:List Str}:∀{ly:List Ly} {gs:List Gd} {bd:List Str},B9x nm bd ly->C1r ly gs->∀g∈gs,g.1∈bd++smL ly
 | [],gs,_,_,hg,g,h=>by
  have hg:gs=[]:=hg;subst hg;cases h
 | l::r,gs,bd,h,hg,g,hm=>by
  have hg:if l.1=2 then _ else _:=hg
  rcases h with ⟨h3,m,_,h⟩ | ⟨h2,m,h⟩ | ⟨h01,h⟩
  ·rw [Z0t (by lia)] at hg;have:=C5z h hg g hm;rw [A4s h3];rw [Z0z] at this;exact this
  ·rw [Z12 h2] at hg;obtain ⟨gd,gs',rfl,eg,hg⟩:=hg;rw [A2w (by lia)];rcases Z0e.mp hm with rfl | hm
   ·rw [eg];exact Z05 _ m
   ·exact C5z h hg g hm
  ·rw [Z0t (by lia)] at hg;rw [A2w (by lia)];exact C5z h hg g hm
section
variable {nm zs own:List Str} {ly:List Ly} {gs:List Gd} {ix:List (Str×Int)} {L:Str->Int}
theorem B3e.wk (h:B3e nm zs own ly gs ix L) (b:Bool):wrk L (tbB b zs) (lsB b zs own (A3h ly gs (.read (arB b) ix)))=prd L zs+wkY L ly (prd L own):=by
 have e:wkL L ("mine",own,A3h ly gs (.read (arB b) ix))=wkY L ly (prd L own):=by
  have:=B5k (L:=L) (own:=own) (u:= .read (arB b) ix) (λ_ _=>rfl) ly gs [] [] (A8s h.yo) h.gd;rw [Z0u] at this;exact this
 cases b with
 | false =>
  show (prd L zs+0)+(wkL L ("mine",own,A3h ly gs (.read (arB false) ix))+0)=_;rw [e]
  lia
 | true =>
  show 0+(wkL L ("let",zs,.num 3)+(wkL L ("mine",own,A3h ly gs (.read (arB true) ix))+0))=_;rw [e]
  have:wkL L ("let",zs,.num 3)=prd L zs:=by
   show (prd L (zs++[])+0:Int)=_;rw [Z0u,Int.add_zero]
  rw [this]
  lia
theorem B3e.el (h:B3e nm zs own ly gs ix L) (b:Bool):B6c nm (tbB b zs) (lsB b zs own (A3h ly gs (.read (arB b) ix)))=none:=by
 have hne:¬arB b="mine":=by cases b <;> decide +kernel
 have hm:D2a nm [(arB b,zs)] ("mine",own,A3h ly gs (.read (arB b) ix))=none:=by
  refine B0v hne ly gs [] [] h.gd (by rw [Z0u];exact h.yo) ?_;show (match shp ([(arB b,zs)]++[(("mine":Str),own)]) (arB b) with | none=>some true | some zs=>if ix.length≠zs.length then some false else if ixB (own++([]++smL ly)) ix=true then none else some false)=none
  have e:shp ([(arB b,zs)]++[(("mine":Str),own)]) (arB b)=some zs:=by unfold shp;rw [List.singleton_append,List.find?_cons,Z20 rfl];rfl
  rw [e];show (if ix.length≠zs.length then some false else if ixB (own++smL ly) ix=true then none else some false)=none
  have hb:ixB (own++smL ly) ix=true:=by
   unfold ixB;rw [List.all_eq_true];intro x hx;by_cases h0:x.1=""
   ·rw [Z20 h0];rfl
   ·rw [Z20 (h.xi x hx h0),Bool.or_true]
  rw [Z0t (by rw [h.lx];exact λz=>z rfl),Z12 hb]
 cases b with
 | false =>
  show (match D2a nm [(arB false,zs)] ("mine",own,A3h ly gs (.read (arB false) ix)) with | some b=>some b | none=>none)=none
  rw [hm]
 | true =>
  show (match D2a nm [] ("let",zs,.num 3) with | some b=>some b | none=>match D2a nm [(arB true,zs)] ("mine",own,A3h ly gs (.read (arB true) ix)) with | some b=>some b | none=>none)=none
  rw [hm];rfl
theorem B3e.rim (h:B3e nm zs own ly gs ix L) (b:Bool):D4w L (arr (tbB b zs) (lsB b zs own (A3h ly gs (.read (arB b) ix)))) (lsB b zs own (A3h ly gs (.read (arB b) ix)))=((A5a L (own++smL ly) gs ix).find? (B1b (zs.map L))).map λe=>(("mine":Str),(arB b,e)):=by
 rw [C8e]
 have hm:C8o L [(arB b,zs),("mine",own)] ("mine",own,A3h ly gs (.read (arB b) ix))=((A5a L (own++smL ly) gs ix).find? (B1b (zs.map L))).map λe=>(arB b,e):=by
  have:=B4z (f:=D4x L [(arB b,zs),("mine",own)] ("mine",own,A3h ly gs (.read (arB b) ix))) (a:=arB b) (ix:=ix) (λq hq=> ?_) ly gs [] [] (A8s h.yo) h.gd
  ·refine this.trans ?_;show ((A5a L (own++([]++smL ly)) ([]++gs) ix).find? (B1b (((shp [(arB b,zs),(("mine":Str),own)] (arB b)).getD []).map L))).map (λe=>(arB b,e))=_;have e:shp [(arB b,zs),(("mine":Str),own)] (arB b)=some zs:=by unfold shp;rw [List.find?_cons,Z20 rfl];rfl
   rw [e];rfl
  ·unfold D4x
   cases hu:q.1 with
   | read a' ix'=>exact absurd hu (hq a' ix')
   | _=>rfl
 have hn:C8o L [(arB b,zs),("mine",own)] ("let",zs,.num 3)=none:=rfl
 cases b with
 | false =>
  show ([(("mine":Str),own,A3h ly gs (.read (arB false) ix))]:List Lt).findSome? (λle=>(C8o L [(arB false,zs),("mine",own)] le).map λr=>(le.1,r))=_;rw [List.findSome?_cons];dsimp only;rw [hm];cases (A5a L (own++smL ly) gs ix).find? (B1b (zs.map L)) <;> rfl
 | true =>
  show ([(("let":Str),zs,(.num 3:Tm)),(("mine":Str),own,A3h ly gs (.read (arB true) ix))]:List Lt).findSome? (λle=>(C8o L [(arB true,zs),("mine",own)] le).map λr=>(le.1,r))=_;rw [List.findSome?_cons];dsimp only;rw [hn];dsimp only [Option.map];rw [List.findSome?_cons];dsimp only;rw [hm];cases (A5a L (own++smL ly) gs ix).find? (B1b (zs.map L)) <;> rfl
end
theorem B3j {x:Str} (h:(PyData.strOk x&&decide (x.length<=4000))=true):OkX x:=by
 rw [Z1x] at h;exact ⟨h.1,of_decide_eq_true h.2⟩
theorem C6j:∀x∈nm5,OkX x/\nmB x=true/\¬x="":=by
 intro x hx;unfold nm5 at hx;simp only [Z0e,Z1i,or_false] at hx;rcases hx with rfl | rfl | rfl | rfl | rfl <;> exact ⟨B3j (by decide +kernel),by decide +kernel,by decide +kernel⟩
theorem D3x (b:Bool):OkX (arB b)/\nmB (arB b)=true:=by cases b <;> exact ⟨B3j (by decide +kernel),by decide +kernel⟩
theorem B6i:OkX "mine"/\nmB "mine"=true:=⟨B3j (by decide +kernel),by decide +kernel⟩
theorem D5x (b:Bool):(nm5++[arB b,"mine"]).Nodup:=by cases b <;> decide +kernel
section
variable {nm zs own:List Str} {ly:List Ly} {gs:List Gd} {ix:List (Str×Int)} {L:Str->Int}
theorem B3e.mem (h:B3e nm zs own ly gs ix L) {x:Str} (hx:x∈nm):x∈nm5:=by
 obtain ⟨k,rfl⟩:=h.sub;exact List.mem_of_mem_take hx
theorem B3e.len (h:B3e nm zs own ly gs ix L):nm.length<=5:=by
 obtain ⟨k,rfl⟩:=h.sub;rw [Z0x];have:nm5.length=5:=rfl
 lia
theorem B3e.nd (h:B3e nm zs own ly gs ix L) (b:Bool):(nm++[arB b,"mine"]).Nodup:=by
 obtain ⟨k,rfl⟩:=h.sub;exact ((List.take_sublist k nm5).append (List.Sublist.refl _)).nodup (D5x b)
theorem B3e.tells (h:B3e nm zs own ly gs ix L) {ys:List Str} (hy:∀y∈ys,y∈nm):A7g (A1b [] (B6r (nm.map λy=>(y,L y)))) L ys:=λy hm=>by
 have:=h.bn y (hy y hm);exact ⟨B9l nm [] y (.inl (hy y hm)),by lia,by lia⟩
theorem D0i:axN (nm.map λy=>(y,L y))=nm:=by
 unfold axN;rw [List.map_map];exact List.map_id' nm
theorem B3e.bnd (h:B3e nm zs own ly gs ix L) {ys:List Str} (hy:∀y∈ys,y∈nm):Bnd L ys:=λy hm=>h.bn y (hy y hm)
theorem B3e.sm (h:B3e nm zs own ly gs ix L) (b:Bool):Sm (wrk L (tbB b zs) (lsB b zs own (A3h ly gs (.read (arB b) ix)))):=by
 rw [h.wk b];have z3:=h.z.few;have o3:=h.o.few;obtain ⟨p1,p2⟩:=A9p zs.length rfl (h.bnd h.z.sub);obtain ⟨q1,q2⟩:=A9p own.length rfl (h.bnd h.o.sub)
 have m:∀n:Nat,n<=3->(60:Int)^n<=216000:=λn hn=>by
  match n,hn with
  | 0,_=>decide
  | 1,_=>decide
  | 2,_=>decide
  | 3,_=>decide
 have e1:=m zs.length z3;have e2:=m own.length o3;obtain ⟨w1,w2⟩:=D2f ly.length ly (prd L own) 216000 rfl (by lia) (by lia) λl hl h3=>h.bn _ (B2h h.yo _ (C6p hl h3))
 have e3:(100:Int)^ly.length<=10^16:=by
  have l8:=h.l8;generalize ly.length=n at l8
  match n,l8 with
  | 0,_=>decide
  | 1,_=>decide
  | 2,_=>decide
  | 3,_=>decide
  | 4,_=>decide
  | 5,_=>decide
  | 6,_=>decide
  | 7,_=>decide
  | 8,_=>decide
 unfold Sm;have:(216000:Int)*100^ly.length<=216000*10^16:=Z29 e3 (by decide);have h32:(216000:Int)+216000*10^16<=((10^32:Nat):Int):=by decide
 generalize (10:Nat)^32=T at h32⊢
 lia
theorem B3e.lk (h:B3e nm zs own ly gs ix L) (b:Bool):D9a (nm.map λy=>(y,L y)) (tbB b zs) (lsB b zs own (A3h ly gs (.read (arB b) ix))) ["mine"] L:=by
 have l5:=h.len;have z3:=h.z.few;have o3:=h.o.few;have hok:OkN nm:=λx hx=>(C6j x (h.mem hx)).1;obtain ⟨d1,d2⟩:=C1j (a:=arB b) (ix:=ix) ly gs;have l8:=h.l8;have d9:dep (A3h ly gs (.read (arB b) ix))<=9:=by lia
 have n1000:nod (A3h ly gs (.read (arB b) ix))<=1000:=by lia
 have ltb:(tbB b zs).length<=1:=by
  cases b with
  | false=>show 1<=1;decide
  | true=>show 0<=1;decide
 have lls:(lsB b zs own (A3h ly gs (.read (arB b) ix))).length<=2:=by
  cases b with
  | false=>show 1<=2;decide
  | true=>show 2<=2;decide
 have hxi:∀e∈ix,OkX e.1:=λe he=>by
  by_cases h0:e.1=""
  ·rw [h0];exact B3j (by decide +kernel)
  ·rcases Z07.mp (h.xi e he h0) with hm | hm
   ·exact hok _ (h.o.sub _ hm)
   ·exact hok _ (B2h h.yo _ hm)
 have okt:OkT (A3h ly gs (.read (arB b) ix)):=B7l ⟨(D3x b).1,by rw [h.lx];lia,hxi⟩ hok ly gs own (λx hx=>hok x (h.o.sub x hx)) h.gd h.yo
 have lsm:∀e∈lsB b zs own (A3h ly gs (.read (arB b) ix)),e=(("mine":Str),own,A3h ly gs (.read (arB b) ix))\/e=(("let":Str),zs,(.num 3:Tm)):=λe he=>by
  cases b with
  | false=>exact .inl (Z0w.mp he)
  | true =>
   rcases Z0e.mp he with rfl | he
   ·exact .inr rfl
   ·exact .inl (Z0w.mp he)
 have ndn:=h.nd b;have nar:([arB b,"mine"]:List Str).Nodup:=(Z0l.mp ndn).2.1
 have smq:∀q∈prT (A3h ly gs (.read (arB b) ix)) [] [],∀x∈q.2.1,x∈nm:=λq hq x hx=>by
  rcases B2y ly gs [] [] q hq x hx with hm | hm
  ·cases hm
  ·exact B2h h.yo x hm
 refine ⟨⟨by rw [Z08];lia,by lia,by lia,by simp,?_,?_,?_⟩,⟨?_,by simp,?_⟩,?_,⟨by rw [Z08];lia,by lia,by lia,by rw [B9v];exact nar,?_⟩,by rw [D0i];exact h.el b,⟨by lia,by lia,?_,?_⟩,h.sm b,λh4=> ?_⟩
 ·rw [D0i,B9v];intro x hx;rcases Z07.mp hx with hx | hx
  ·exact hok x hx
  ·rcases Z0e.mp hx with rfl | hx
   ·exact (D3x b).1
   ·rw [Z0w.mp hx];exact B6i.1
 ·intro x hx;rw [Z0w.mp hx];exact B6i.1
 ·rw [C8e];intro e he;rcases Z0e.mp he with rfl | he
  ·exact ⟨by show zs.length<=20;lia,λx hx=>hok x (h.z.sub x hx)⟩
  ·rw [Z0w.mp he];exact ⟨by show own.length<=20;lia,λx hx=>hok x (h.o.sub x hx)⟩
 ·rw [D0i,B9v];refine B6b ndn λx hx=> ?_;rcases Z07.mp hx with hx | hx
  ·exact (C6j x (h.mem hx)).2.1
  ·rcases Z0e.mp hx with rfl | hx
   ·exact (D3x b).2
   ·rw [Z0w.mp hx];exact B6i.2
 ·rw [B9v];refine B6b (by simp) λx hx=> ?_;rw [Z0w.mp hx];exact .tail _ (.head _)
 ·intro e he;rw [C8e] at he;rw [D0i];rcases Z0e.mp he with rfl | he
  ·exact ⟨z3,B6b h.z.nd h.z.sub⟩
  ·rw [Z0w.mp he];exact ⟨o3,B6b h.o.nd h.o.sub⟩
 ·intro e he;rcases lsm e he with rfl | rfl
  ·exact ⟨by show own.length<=100;lia,B6i.1,okt,d9,n1000⟩
  ·exact ⟨by show zs.length<=100;lia,B3j (x:="let") (by decide +kernel),True.intro,by show 1<=9;decide,by show 1<=1000;decide⟩
 ·intro e he
  cases b with
  | false =>
   rw [Z0w.mp he];exact ⟨by show zs.length<=10;lia,h.tells h.z.sub⟩
  | true=>cases he
 ·intro e he;rcases lsm e he with rfl | rfl
  ·exact ⟨by show own.length<=10;lia,h.tells h.o.sub,d9,n1000,λq hq=>h.tells (smq q hq)⟩
  ·exact ⟨by show zs.length<=10;lia,h.tells h.z.sub,by show 1<=9;decide,by show 1<=1000;decide,λq hq=>by
    have hq:q∈[((.num 3:Tm),([]:List Str),([]:List Gd))]:=hq;rw [Z0w.mp hq]
    intro y hy;cases hy⟩
 ·rw [h.wk b] at h4
  have osub:∀y∈own++smL ly,y∈nm:=λy hy=>by
   rcases Z07.mp hy with hy | hy
   ·exact h.o.sub y hy
   ·exact B2h h.yo y hy
  obtain ⟨p1,_⟩:=A9p zs.length rfl (h.bnd h.z.sub);obtain ⟨q1,_⟩:=A9p own.length rfl (h.bnd h.o.sub);have ge:=D0q ly (prd L own) (by lia) (h.bnd λy hy=>B2h h.yo y hy);rw [<-C0n,D1t] at ge;refine ⟨by rw [B9v];exact nar,by lia,by lia,?_,λle hle=> ?_⟩
  ·rw [C8e];intro e he;rcases Z0e.mp he with rfl | he
   ·exact h.tells h.z.sub
   ·rw [Z0w.mp he];exact h.tells h.o.sub
  ·rcases lsm le hle with rfl | rfl
   ·refine ⟨d9,n1000,λq hq a' ix' e=> ?_⟩;rcases B1k ly gs [] [] (A8s h.yo) h.gd q hq with hn | rfl
    ·exact absurd e (hn a' ix')
    ·cases e
     refine ⟨⟨h.tells osub,⟨λn hn=> ?_,by rw [Z08];show (own++smL ly).length<=8;rw [Z06];have:=h.l3;lia,by show A5b ((own++smL ly).map L)<=4000;lia⟩,by rw [h.lx];lia,h.xi,λg hg=>C5z h.yo h.gd g hg⟩,⟨zs,?_,h.lx.symm⟩,by show¬arB b="mine";cases b <;> decide +kernel⟩
     ·obtain ⟨y,hy,rfl⟩:=Z2c.mp hn;exact h.bn y (osub y hy)
     ·rw [C8e];unfold shp;rw [List.find?_cons,Z20 rfl];rfl
   ·refine ⟨by show 1<=9;decide,by show 1<=1000;decide,λq hq a' ix' e=> ?_⟩;have hq:q∈[((.num 3:Tm),([]:List Str),([]:List Gd))]:=hq;rw [Z0w.mp hq] at e;cases e
end
theorem A9v {l:Ly}:∀{ly:List Ly} {gs:List Gd},C1r ly gs->(¬l.1=2->C1r (ly++[l]) gs)/\∀g:Gd,l.1=2->g.1=l.2.1->C1r (ly++[l]) (gs++[g])
 | [],gs,h=>by
  have h:gs=[]:=h;subst h;refine ⟨λh2=> ?_,λg h2 eg=> ?_⟩
  ·show if l.1=2 then _ else _
   rw [Z0t h2];rfl
  ·show if l.1=2 then _ else _
   rw [Z12 h2];exact ⟨g,[],rfl,eg,rfl⟩
 | a::r,gs,h=>by
  have h:if a.1=2 then _ else _:=h
  by_cases ha:a.1=2
  ·rw [Z12 ha] at h;obtain ⟨g0,gs',rfl,e0,h⟩:=h;obtain ⟨i1,i2⟩:=A9v (l:=l) h;refine ⟨λh2=> ?_,λg h2 eg=> ?_⟩
   ·show if a.1=2 then _ else _
    rw [Z12 ha];exact ⟨g0,gs',rfl,e0,i1 h2⟩
   ·show if a.1=2 then _ else _
    rw [Z12 ha];exact ⟨g0,gs'++[g],rfl,e0,i2 g h2 eg⟩
  ·rw [Z0t ha] at h;obtain ⟨i1,i2⟩:=A9v (l:=l) h;refine ⟨λh2=> ?_,λg h2 eg=> ?_⟩
   ·show if a.1=2 then _ else _
    rw [Z0t ha];exact i1 h2
   ·show if a.1=2 then _ else _
    rw [Z0t ha];exact i2 g h2 eg
theorem B6h:∀{ly:List Ly} {gs:List Gd},C1r ly gs->gs.length=c2 ly
 | [],gs,h=>by
  have h:gs=[]:=h;subst h;rfl
 | a::r,gs,h=>by
  have h:if a.1=2 then _ else _:=h
  unfold c2;rw [List.filter_cons];by_cases ha:a.1=2
  ·rw [Z12 ha] at h;obtain ⟨g0,gs',rfl,e0,h⟩:=h;rw [Z12 (Z20 ha),Z0y,Z0y,B6h h];rfl
  ·rw [Z0t ha] at h;rw [Z0t (by rw [Z1j ha];exact Z0v),B6h h];rfl
theorem C1u {ly:List Ly} {j:Nat} {l:Ly} (h:ly[j]? =some l):smL (ly.take (j+1))=smL (ly.take j)++(if l.1=3 then [l.2.1] else []):=by
 rw [Z14,h,Option.toList_some];by_cases h3:l.1=3
 ·rw [Z12 h3];unfold smL;rw [List.filter_append,Z0s,List.filter_cons,Z12 (Z20 h3)];rfl
 ·rw [Z0t h3,B7e h3,Z0u]
theorem B3e.noE {nm zs own:List Str} {ly:List Ly} {gs:List Gd} {ix:List (Str×Int)} {L:Str->Int} (h:B3e nm zs own ly gs ix L):("":Str)∉own++smL ly:=λhm=>by
 have:("":Str)∈nm:=by
  rcases Z07.mp hm with hm | hm
  ·exact h.o.sub _ hm
  ·exact B2h h.yo _ hm
 exact (C6j _ (h.mem this)).2.2 rfl
theorem D5e (w:Int):atI [V.str "tab",V.str "let"] (w%2)=some (.str (arB (decide (w%2=1)))):=by
 have h:w%2=0\/w%2=1:=by lia
 rcases h with h | h
 ·rw [h];rfl
 ·rw [h];rfl
def D0e (K:PySem.W.Frag):Sp:=λvs H Q _=>∃(a:Addr) (ns:List Int),vs=[.ref a]/\SqL K H a (ns.map V.int)/\ns.length<=63/\∀H',Q (.bl true) H'
theorem D2o {α:Type} (f:α->V) (nm:List α) (lo hi:Option Int):∃zs:List α,D1q (nm.map f) lo hi=zs.map f/\zs.length<=nm.length/\∀x∈zs,x∈nm:=by
 refine ⟨(nm.drop (HT.sIx nm.length 0 lo)).take (HT.sIx nm.length nm.length hi-HT.sIx nm.length 0 lo),?_,?_,λx hx=> ?_⟩
 ·unfold D1q;rw [Z08,<-List.map_drop,<-List.map_take]
 ·rw [Z0x,List.length_drop];lia
 ·exact List.mem_of_mem_drop (List.mem_of_mem_take hx)
theorem D2t (ly:List Ly):(smL ly).length<=ly.length:=by
 unfold smL;rw [Z08];exact List.length_filter_le _ _
theorem C6q:nm5.Nodup:=by decide +kernel
theorem D5y (T:Txt K mg t):A2e P w K mg base CX0 19 t.x6 t.w_ ["_law_script"] (D0e K):=by
 have G_Let_init:= @C0s P w K mg base t T;have G_Number_init:= @A8n P w K mg base t T;have G_Program_init:= @B3a P w K mg base t T;have G_Read_init:= @B9w P w K mg base t T;have G_l_axes:= @C5o P w K mg base t T;have G_l_cell:= @B4f P w K mg base t T;have G_l_first:= @C3u P w K mg base t T;have G_l_guard:= @C3w P w K mg base t T;have G_l_holds:= @C3v P w K mg base t T;have G_l_indexes:= @B8r P w K mg base t T;have G_l_layers:= @C0h P w K mg base t T;have G_l_many:= @B9h P w K mg base t T;have G_l_term:= @C7j P w K mg base t T;have G_l_under:= @C4d P w K mg base t T;have G_l_work:= @C6n P w K mg base t T;refine T.xD.ok A3c (by walk_at "ln") (λcdv A outer s H vs Q E hr h=> ?_)
 ·obtain ⟨a,ns,rfl,hS,hn,k⟩:=h;have hu:=B0b hr
  refine ⟨_,(A0c (C1c (i₀:=1) (N':=["_law_cell_here"]) (ix:=(List.replicate 1 none)) A3c.nd rfl (Or.inl rfl) rfl (A2m rfl (by decide +kernel) (by decide +kernel)) (A2n rfl) (D1j rfl T.ui (A0a (B0r B3s (pv 0) B2q (B3w A0j)) A0d)) (λ_ _ _ _=>(A0m (i:=0) C3m rfl (Or.inl rfl) (Or.inr rfl))) (λ_ _ _ _=>(pv 0)))
   (A0c (A0p (i:=2) A3c.nd rfl (Or.inl rfl) (A0l G_l_cell (hr.mono (by lia)) rfl T.d_ T.cy.kp T.em .nil A0z (A0a (pv 1) A0d)))
   (A0c (A0p (i:=3) A3c.nd rfl (Or.inl rfl) (B0r B3s (A2p (A0a A3a (A0a A3a (A0a A3a (A0a A3a (A0a A3a A0d)))))) B2q (B3w (A0t A4h A0j (A0t A2b (A0l G_l_cell (hr.mono (by lia)) rfl T.d_ T.cy.kp T.em .nil A0z (A0a (pv 1) A0d)) A0j)))))
   (A0c (A0p (i:=4) A3c.nd rfl (Or.inr rfl) C2p)
   (A0c (A1x PassesOwn.never rfl (A1k (pv 3)) (A0m (i:=5) A3c.nd rfl (Or.inl rfl) (Or.inl rfl))
    (A0e (B1e hu (pv 4) (pv 5) (A0t A4h A0j (A0t A2b (A0l G_l_cell (hr.mono (by lia)) rfl T.d_ T.cy.kp T.em .nil A0z (A0a (pv 1) A0d)) A0j)) rfl)))
   (A9a (A1s (A0x A5l (A0t A2b (pv 2) A0j) A0j (A1h _))
    (A0e (B1e hu (pv 4) (A3x A8g (pv 3) (A0t A2b (A0t A3b (pv 2) A0j) (A0q A1a (by rfl) T.cw Z0r (A0a (pv 3) A0d))) (λ_ _=>rfl)) (A0t A4h A0j (A0t A2b (A0t A3b (pv 2) A0j) A0j)) rfl))
    A0v)
   (A0c (A0p (i:=6) A3c.nd rfl (Or.inl rfl) (A3x A8g (A2p (A0a A3a (A0a A3a A0d))) (A0t A2b (A0t A3b (pv 2) A0j) A0j) (λ_ _=>rfl)))
   (A0c (A0p (i:=7) A3c.nd rfl (Or.inl rfl) (A0l G_l_axes (hr.mono (by lia)) rfl T.vU T.ug.kp T.wj .nil A0z (A0a (A0l G_l_cell (hr.mono (by lia)) rfl T.d_ T.cy.kp T.em .nil A0z (A0a (pv 1) A0d)) (A0a (pv 3) A0d))))
   (A0c (A0p (i:=8) A3c.nd rfl (Or.inl rfl) (A0l G_l_axes (hr.mono (by lia)) rfl T.vU T.ug.kp T.wj .nil A0z (A0a (A0l G_l_cell (hr.mono (by lia)) rfl T.d_ T.cy.kp T.em .nil A0z (A0a (pv 1) A0d)) (A0a (pv 3) A0d))))
   (A0c (A0p (i:=9) A3c.nd rfl (Or.inl rfl) (A0l G_l_layers (hr.mono (by lia)) rfl T.wz T.uw.kp T.wH .nil A0z (A0a (pv 1) (A0a (pv 8) (A0a (pv 3) (A0a (A0t A2b (A0l G_l_cell (hr.mono (by lia)) rfl T.d_ T.cy.kp T.em .nil A0z (A0a (pv 1) A0d)) A0j) A0d))))))
   (A0c (A0p (i:=10) A3c.nd rfl (Or.inl rfl) (A0t A8i (pv 8) (C5h (N':=["_law_layer"]) (ix:=(List.replicate 1 none)) (tc:=D3r (tOp rEq (tOp (D8u K) (D8c 0) (tC (.int 0))) (tC (.int 3)))) rfl (A2m rfl (by decide +kernel) (by decide +kernel)) (A2n rfl) (A1k (pv 9)) (λ_ _ _ _=>(A0m (i:=0) C3e rfl (Or.inl rfl) (Or.inr rfl))) (λ_ _ _ _=>(A0x A5l (A3x (B3l (K:=K) rfl) (pv 0) A0j (λ_ _=>rfl)) A0j (A1h _))) (λ_ _ _ _=>(A3x (B3l (K:=K) rfl) (pv 0) A0j (λ_ _=>rfl))))))
   (A0c (A0p (i:=11) A3c.nd rfl (Or.inr rfl) (A3l (N':=["_law_name","_law_lengths"]) (ix:=(List.replicate 1 none++[some 4])) rfl (A6v (x:="_law_lengths") rfl rfl rfl (by decide +kernel) (by decide +kernel)) (A5s (N0:=["_law_name"]) rfl (Or.inl rfl) (by first | exact Or.inl rfl | exact Or.inr rfl | (simp [relabel];rfl) | (with_unfolding_all exact Or.inl rfl) | (with_unfolding_all exact Or.inr rfl) | (with_unfolding_all decide))) (A1k (pv 7)) (λ_ _ _ _=>(A0m (i:=0) C4h rfl (Or.inl rfl) (Or.inr rfl))) (λ_ _ _ _=>(A4c hu (pv 1) (pv 0) (λ_ _=>rfl)))))
   (A0c (A0p (i:=12) A3c.nd rfl (Or.inr rfl) (A0l G_l_indexes (hr.mono (by lia)) rfl T.vH T.tO.kp T.vI .nil A0z (A0a (pv 1) (A0a (pv 11) (A0a (pv 10) (A0a (pv 4) A0d))))))
   (A0c (B8p (i₀:=13) (N':=["_law_layer","_law_indexes_here","_law_sizes"]) (ix:=(List.replicate 1 none++[some 12,some 11])) A3c.nd rfl (Or.inl rfl) rfl (B8x (cl:=[("_law_sizes",_),("_law_indexes_here",_)]) (xs:=["_law_sizes","_law_indexes_here"]) rfl ⟨rfl,rfl,trivial⟩ rfl rfl (by decide +kernel) (by decide +kernel)) (B9a (N0:=["_law_layer"]) (xs:=["_law_indexes_here","_law_sizes"]) (js:=[12,11]) ⟨⟨rfl,Or.inl rfl,(by first | exact Or.inl rfl | exact Or.inr rfl | (simp [relabel];rfl) | (with_unfolding_all exact Or.inl rfl) | (with_unfolding_all exact Or.inr rfl) | (with_unfolding_all decide))⟩,⟨rfl,Or.inl rfl,(by first | exact Or.inl rfl | exact Or.inr rfl | (simp [relabel];rfl) | (with_unfolding_all exact Or.inl rfl) | (with_unfolding_all exact Or.inr rfl) | (with_unfolding_all decide))⟩,trivial⟩) (A1k (pv 9)) (λ_ _ _ _=>(A0m (i:=0) C3t rfl (Or.inl rfl) (Or.inr rfl))) (λ_ _ _ _=>(A0x A5l (A3x (B3l (K:=K) rfl) (pv 0) A0j (λ_ _=>rfl)) A0j (A1h _))) (λ_ _ _ _=>(A0l G_l_guard (hr.mono (by lia)) rfl T.wP T.v8.kp T.wN .nil A0z (A0a (pv 0) (A0a (pv 1) (A0a (pv 2) A0d))))))
   (A0c (A0p (i:=14) A3c.nd rfl (Or.inl rfl) (A0t A4h (A0l G_l_many (hr.mono (by lia)) rfl T.vP T.uv.kp T.vW .nil A0z (A0a (pv 7) (A0a (pv 4) A0d))) (A0l G_l_work (hr.mono (by lia)) rfl T.xf T.wg.kp T.wZ .nil A0z (A0a (pv 9) (A0a (pv 8) (A0a (pv 4) A0d))))))
   (A0c (A0p (i:=15) A3c.nd rfl (Or.inl rfl) B8c)
   (A9a (A1s (A0x C6t (pv 14) A0j (A1h _))
    (A0e (A0p (i:=15) A3c.nd rfl (Or.inl rfl) (A0l G_l_first (hr.mono (by lia)) rfl T.wL T.uZ.kp T.wQ .nil A0z (A0a (pv 10) (A0a (pv 4) (A0a (pv 13) (A0a (pv 12) (A0a (pv 11) A0d))))))))
    A0v)
   (A0c (A0p (i:=16) A3c.nd rfl (Or.inl rfl) (A2p (A0a (A3v (A0a A3a (A0a (pv 7) A0d))) A0d)))
   (A0c (A0p (i:=17) A3c.nd rfl (Or.inl rfl) (A2p (A0a (A2l T.x0 G_Let_init (hr.mono (by lia)) rfl T.xr T.uo .nil A0z (A0a A3a (A0a (pv 8) (A0a (A0l G_l_term (hr.mono (by lia)) rfl T.x3 T.vY.kp T.wY .nil A0z (A0a (A2l T.xo G_Read_init (hr.mono (by lia)) rfl T.wF T.v_ .nil A0z (A0a (pv 6) (A0a (pv 12) A0d))) (A0a (pv 9) (A0a (pv 13) A0d)))) A0d)))) A0d)))
   (A9a (A1s (A0x A5l (pv 6) A3a (A1h _))
    (A0c (A0p (i:=16) A3c.nd rfl (Or.inl rfl) (A2p A0d))
    (A0e (A0p (i:=17) A3c.nd rfl (Or.inl rfl) (A0t A8i (A2p (A0a (A2l T.x0 G_Let_init (hr.mono (by lia)) rfl T.xr T.uo .nil A0z (A0a A3a (A0a (pv 7) (A0a (A2l T.im G_Number_init (hr.mono (by lia)) rfl T.kj T.ci .nil A0z (A0a A0j A0d)) A0d)))) A0d)) (pv 17)))))
    A0v)
   (A0c (C1c (i₀:=18) (N':=["_law_name","_law_lengths"]) (ix:=(List.replicate 1 none++[some 4])) A3c.nd rfl (Or.inl rfl) rfl (A6v (x:="_law_lengths") rfl rfl rfl (by decide +kernel) (by decide +kernel)) (A5s (N0:=["_law_name"]) rfl (Or.inl rfl) (by first | exact Or.inl rfl | exact Or.inr rfl | (simp [relabel];rfl) | (with_unfolding_all exact Or.inl rfl) | (with_unfolding_all exact Or.inr rfl) | (with_unfolding_all decide))) (A1k (pv 3)) (λ_ _ _ _=>(A0m (i:=0) C4b rfl (Or.inl rfl) (Or.inr rfl))) (λ_ _ _ _=>(A3v (A0a (pv 0) (A0a (A4c hu (pv 1) (pv 0) (λ_ _=>rfl)) A0d)))))
   (A0c (A0p (i:=19) A3c.nd rfl (Or.inl rfl) (A2l T.wu G_Program_init (hr.mono (by lia)) rfl T.wR T.um .nil A0z (A0a (A0t A4h A0j (A0t A2b (pv 2) (A0t B5b A0j A0j))) (A0a (pv 18) (A0a (pv 16) (A0a (pv 17) (A0a (A2p (A0a A3a A0d)) A0d)))))))
   (A0c (A1s (PW.pt (B6k (B2m (A2g (A0l G_l_holds (hr.mono (by lia)) rfl T.u_ T.tF.kp T.v7 .nil A0z (A0a (pv 19) (A0a (pv 6) (A0a (pv 15) (A0a (A5n B8n (pv 14) A0j (A1h _)) A0d))))))) (B5o (B2m (A2g (A0l G_l_under (hr.mono (by lia)) rfl T.wW T.v3.kp T.wO .nil A0z (A0a (pv 19) A0d)))))))
    (A0e (A0y B3d))
    A0v)
   (A0e (A0y (A0l G_l_holds (hr.mono (by lia)) rfl T.u_ T.tF.kp T.v7 .nil A0z (A0a (pv 19) (A0a (pv 6) (A0a (pv 15) (A0a (A5n B8n (pv 14) A0j (A1h _)) A0d)))))))))))))))))))))))))))))),?_⟩
  obtain ⟨zs0,ez,lz,_⟩:=D2o V.int ns none (some 40);refine ⟨_,rfl,_,rfl,a,_,rfl,hS,λp0 hp0=> ?_⟩;rw [ez];have sp0:=A0f (o:= .lst (zs0.map V.int)) hp0;refine ⟨p0,_,rfl,SqL.of A0b,λr hr0=> ?_⟩;have pD:p0≠r:=λz=>by subst z;rw [A0b] at hr0;cases hr0
  have rH:H r=none:=sp0.free hr0;refine B0k (D:=r) (zs0.map V.int).length (λi ys H2=>H2 p0=some (.lst (zs0.map V.int))/\H2 r=some (.lst ys)/\∃ms:List Int,ys=ms.map V.int/\ms.length=i) ⟨by rw [A0h pD];exact A0b,A0b,[],rfl,rfl⟩ (λi ys H2 hi ⟨h,_⟩=> ?_) (λys H2 _=>rfl) ?_ ?_
  ·exact ⟨_,(zs0.map V.int)[(zs0.map V.int).length-1-i],SqL.of h,rfl,hi,Z0b (by lia)⟩
  ·rintro i ys H2 hi ⟨h,hD2,ms,rfl,hms⟩ x H3 ⟨rfl,hx⟩;have hx:=hx _ (SqL.of h);rw [Z1z] at hx;obtain ⟨z,_,rfl⟩:=Z0i.mp hx;refine ⟨True.intro,_,rfl,hD2,A1j (by simp at hi⊢;lia),by rw [A0h pD];exact h,A0b,ms++[z],by simp,by simp [hms]⟩
  rintro ys H2 ⟨_,h2,ms,rfl,hms⟩;clear hms rH pD sp0 hr0 hp0 ez lz hS;refine ⟨_,rfl,r,ms,rfl,h2,λway ms1 H3 _ h3 _ _=> ?_⟩;refine ⟨A0g (by simp),λz0 hz0=> ?_⟩;have sz:A0n H3 (upd H3 z0 (.lst [V.str "i",.str "jot",.str "kk",.str "l",.str "mmmmmmmm"])):=A0f hz0;have hz1:upd H3 z0 (.lst [V.str "i",.str "jot",.str "kk",.str "l",.str "mmmmmmmm"]) z0=some (.lst (nm5.map V.str)):=A0b;have z0r:z0≠r:=(A0k h3 hz0).symm;generalize upd H3 z0 (.lst [V.str "i",.str "jot",.str "kk",.str "l",.str "mmmmmmmm"])=H4 at sz hz1⊢;have h4:=sz _ _ h3;refine ⟨_,rfl,r,ms1,rfl,h4,λi2 ms2 H5 _ h5 o5 e5=>⟨_,_,rfl,rfl,(by show (0:Int)<5;decide),_,_,rfl,rfl,?_⟩⟩;obtain ⟨kk,ekk,k1,k5⟩:∃m:Nat,1+i2%5=(m:Int)/\1<=m/\m<=5:=⟨(1+i2%5).toNat,by lia,by lia,by lia⟩;dsimp only;rw [ekk];refine ⟨_,rfl,z0,_,rfl,SqL.of ((o5 _ z0r).trans hz1),λN hN=> ?_⟩;rw [B2i (show kk<=nm5.length from k5)];have hsub:∃k,nm5.take kk=nm5.take k:=⟨kk,rfl⟩;have lnm:(nm5.take kk).length=kk:=by rw [Z0x];show min kk 5=kk;lia
  have ndn:(nm5.take kk).Nodup:=(List.take_sublist kk nm5).nodup C6q;generalize nm5.take kk=nm at hsub lnm ndn⊢;have s6:A0n H5 (upd H5 N (.lst (nm.map V.str))):=A0f hN;have n6:upd H5 N (.lst (nm.map V.str)) N=some (.lst (nm.map V.str)):=A0b;generalize upd H5 N (.lst (nm.map V.str))=H6 at s6 n6⊢;have r6:=s6 _ _ h5;have Nr:N≠r:=(A0k h5 hN).symm;refine λld hld=> ?_;have s7:A0n H6 (upd H6 ld (.dK [])):=A0f hld;have d7:upd H6 ld (.dK []) ld=some (.dK []):=A0b;generalize upd H6 ld (.dK [])=H7 at s7 d7⊢;have n7:=s7 _ _ n6;have r7:=s7 _ _ r6;refine ⟨_,rfl,N,rfl,⟨_,SqL.of n7⟩,?_⟩
  refine A1r (K:=K) (a:=N) (xs:=nm.map V.str) (λi σ G=>∃(o5:Option V) (lk:List (Key×V)) (ms:List Int),σ=[some (.ref a),some (.ref r),some (.int way),some (.ref N),some (.ref ld),o5,none,none,none,none,none,none,none,none,none,none,none,none,none,none]/\G N=some (.lst (nm.map V.str))/\G r=some (.lst (ms.map V.int))/\G ld=some (.dK lk)/\lk.length<=i/\i<=nm.length/\∀x∈nm.take i,∃v:Int,A4u lk (Sum.inr x)=some (.int v)/\1<=v/\v<=60)
   ⟨none,[],ms2,rfl,n7,r7,d7,Z09 _,Z1e _,by simp⟩ (λi σ G _ ⟨_,_,_,_,h,_⟩=>SqL.of h) ?_ ?_
  ·rintro i y σ G hy ⟨o5,lk,ms,rfl,nG,rG,lG,llk,lin,vk⟩;obtain ⟨x,hx,rfl⟩:=A2j hy;have hi:i<nm.length:=(Z03.mp hx).1;refine ⟨_,rfl,r,ms,rfl,rG,λc ms' G1 l1 g1 o1 e1=>⟨_,_,rfl,rfl,(by show (0:Int)<4;decide),_,_,rfl,rfl,?_⟩⟩;have ldr:ld≠r:=A3j lG rG (by intro z;cases z);have lG1:=(o1 _ ldr).trans lG;refine ⟨_,rfl,_,rfl,ld,_,rfl,C8i.k (k:=Sum.inr x) lG1 (A1j (by lia)),?_⟩;have lp:=A5o lk (Sum.inr x:Key) (V.int (1+c%4));refine ⟨some (.str x),_,ms',rfl,by rw [A0h (A3j nG lG (by intro z;cases z))];exact (o1 _ Nr).trans nG,by rw [A0h ldr.symm];exact g1,A0b,Z1n (A5o _ _ _) (by lia),by lia,λy hy=> ?_⟩;rw [A5z];by_cases hyx:y=x
   ·subst hyx;exact ⟨1+c%4,by rw [Z12 rfl],by lia,by lia⟩
   ·rw [Z0t (λz=>hyx (by injection z))];rw [Z14,hx,Option.toList_some] at hy;rcases Z07.mp hy with hy | hy
    ·exact vk y hy
    ·exact absurd (Z0w.mp hy) hyx
  rintro σ G ⟨o5,lk0,ms3,rfl,nG,rG,lG,llk,_,vk⟩;rw [Z08,Z18] at vk;clear s7 d7 n7 r7 s6 n6 r6 hN hld hz1 sz h4 h5 e5 hz0 h2 h3;refine ⟨λσ G1=>∃(lk:List (Key×V)),σ=[some (.ref a),some (.ref r),some (.int way),some (.ref N),some (.ref ld),o5,none,none,none,none,none,none,none,none,none,none,none,none,none,none]/\G1 N=some (.lst (nm.map V.str))/\G1 r=some (.lst (ms3.map V.int))/\G1 ld=some (.dK lk)/\∀x∈nm,∃v:Int,A4u lk (Sum.inr x)=some (.int v)/\1<=v/\v<=60,?_,?_⟩
  ·refine ⟨_,rfl,_,_,rfl,rfl,(by show (0:Int)<4;decide),rfl,_,rfl,A8m (λ_=> ?_) (λ_=>⟨lk0,rfl,nG,rG,lG,vk⟩)⟩;refine ⟨_,rfl,_,_,rfl,rfl,⟨by decide,by decide⟩,_,_,rfl,rfl,(by show (0:Int)<60;decide),_,_,rfl,rfl,?_⟩;have ln0:(0:Int)<((nm.map V.str).length:Int):=by rw [Z08];lia
   obtain ⟨x,xm,ex⟩:=B3x (f:=V.str) (xs:=nm) (i:=way/4%((nm.map V.str).length:Int)) (Z1v _ (by lia)) (by have:=Z1p (way/4) ln0;rw [Z08] at this⊢;exact this);refine ⟨_,rfl,_,rfl,_,rfl,_,_,rfl,rfl,⟨by decide,by decide⟩,_,rfl,N,_,rfl,.inl (SqL.of nG),_,_,rfl,rfl,ln0,N,_,_,_,rfl,rfl,SqL.of nG,ex,?_⟩;refine ⟨ld,_,rfl,C8i.k (k:=Sum.inr x) lG (A1j (by rw [Z08] at llk;lia)),?_⟩;refine ⟨_,rfl,(A0h (A3j nG lG (by intro z;cases z))).trans nG,(A0h (A3j rG lG (by intro z;cases z))).trans rG,A0b,λy hy=> ?_⟩;rw [A5z];by_cases hyx:y=x
   ·subst hyx;exact ⟨1+way/20%60,by rw [Z12 rfl],by lia,by lia⟩
   ·rw [Z0t (λz=>hyx (by injection z))];exact vk y hy
  rintro σ G1 ⟨lk,rfl,n1,r1,l1,vk⟩;clear nG rG lG llk
  have tl1:∀y∈nm,A4u lk (Sum.inr y)=some (.int (tel lk y))/\1<=tel lk y/\tel lk y<=60:=λy hy=>by
   obtain ⟨v,hv,v0,v60⟩:=vk y hy;have e:tel lk y=v:=by unfold tel;rw [hv]
   rw [e];exact ⟨hv,v0,v60⟩
  generalize tel lk=L at tl1
  have tls:∀ys:List Str,(∀y∈ys,y∈nm)->A7g lk L ys:=λys h y hy=>by
   obtain ⟨z1,z2,z3⟩:=tl1 y (h y hy);exact ⟨z1,by lia,z3⟩
  have bnd:Bnd L nm:=λy hy=>(tl1 y hy).2;refine ⟨A0g (by simp),λz1 hz1=> ?_⟩;have y1:A0n G1 (upd G1 z1 (.lst [V.str "tab",V.str "let"])):=A0f hz1;have hz:upd G1 z1 (.lst [V.str "tab",V.str "let"]) z1=some (.lst [V.str "tab",V.str "let"]):=A0b;generalize upd G1 z1 (.lst [V.str "tab",V.str "let"])=G2 at y1 hz⊢;refine ⟨_,rfl,_,_,rfl,rfl,⟨by decide,by decide⟩,_,_,rfl,rfl,(by show (0:Int)<2;decide),z1,_,_,_,rfl,rfl,SqL.of hz,D5e (way/2),?_⟩;generalize decide (way/2%2=1)=b;have r2:=y1 _ _ r1;have n2:=y1 _ _ n1;have d2:=y1 _ _ l1;clear r1 n1 l1 y1 hz hz1 vk;refine ⟨_,rfl,r,ms3,rfl,r2,λc1 ms4 G3 _ r3 o3 e3=>⟨_,rfl,c1,N,nm,rfl,(A6s r2 o3 e3).str n2,by lia,by lia,ndn,λzs Z G4 hZ s4 z4 azs=> ?_⟩⟩;have k4:KI G2 G4:=(A6s r2 o3 e3).trans (KI.of s4);have r4:=s4 _ _ r3;have n4:=k4.str n2;have d4:=k4.dk d2;clear r2 o3 e3 s4 k4 n2 d2 r3 hZ;refine ⟨_,rfl,r,ms4,rfl,r4,λc2' ms5 G5 _ r5 o5' e5=>⟨_,rfl,c2',N,nm,rfl,(A6s r4 o5' e5).str n4,by lia,by lia,ndn,λown O G6 hO s6 o6 aow=> ?_⟩⟩;have k6:KI G4 G6:=(A6s r4 o5' e5).trans (KI.of s6);have r6:=s6 _ _ r5;have n6:=k6.str n4;have d6:=k6.dk d4;have z6:=k6.str z4;clear r4 o5' e5 s6 k6 n4 d4 z4 r5 hO;refine ⟨_,rfl,_,rfl,_,rfl,_,rfl,r,ms5,rfl,r6,λc3 ms6 G7 _ r7 o7 e7=>⟨_,_,rfl,rfl,(by show (0:Int)<9;decide),r,O,N,c3%9,ms6,own,nm,rfl,by lia,by lia,r7,(A6s r6 o7 e7).str o6,(A6s r6 o7 e7).str n6,aow.few,by lia,λY ys ly ms7 G8 k8 r8 y8 ply yok l3 l8=> ?_⟩⟩;have k68:KI G6 G8:=(A6s r6 o7 e7).trans k8;have n8:=k68.str n6;have d8:=k68.dk d6;have z8:=k68.str z6;have o8:=k68.str o6;have lyl:=Paired.length ply
  have bdm:∀y∈own++smL ly,y∈nm:=λy hy=>by
   rcases Z07.mp hy with hy | hy
   ·exact aow.sub y hy
   ·exact B2h yok y hy
  have low:=aow.few;have lzs:=azs.few;clear r6 o7 e7 k68 n6 d6 z6 o6 k8 r7;refine ⟨_,rfl,_,rfl,Y,rfl,⟨_,SqL.of y8⟩,λD hD=> ?_⟩;refine A8x (K:=K) (a:=Y) (D:=D) (xs:=ys) (λj zs' G=>A0n G8 G/\G D=some (.lst zs')/\zs'=(smL (ly.take j)).map V.str) ⟨A0f hD,A0b,rfl⟩ (λj zs' G ⟨sG,_⟩=>SqL.of (sG _ _ y8)) ?_ ?_
  ·rintro j y zs' G hy ⟨sG,hG,rfl⟩;obtain ⟨l,hl,q,rfl,eq⟩:=B2s ply hy;have eqG:=sG _ _ eq;have a0:atI [V.int l.1,V.str l.2.1,V.int l.2.2] 0=some (.int l.1):=A3d (j:=0) rfl;have a1:atI [V.int l.1,V.str l.2.1,V.int l.2.2] 1=some (.str l.2.1):=A3d (j:=1) rfl;have lsm:=D2t (ly.take j);rw [Z0x] at lsm;refine ⟨True.intro,_,rfl,q,_,_,_,rfl,rfl,SqT.of eqG,a0,rfl,_,rfl,A8m (λh=> ?_) (λh=>⟨sG,hG,?_⟩)⟩
   ·have h3:l.1=3:=V.int.inj h;refine ⟨_,rfl,q,_,_,_,rfl,rfl,SqT.of eqG,a1,hG,A1j (by rw [Z08];lia),A0r sG hD,A0b,?_⟩;rw [C1u hl,Z12 h3,Z0s];rfl
   ·have h3:¬l.1=3:=λz=>h (by rw [z]);rw [C1u hl,Z0t h3,Z0u]
  rintro zs' G9 ⟨s9,h9,rfl⟩;rw [lyl,Z18] at h9;refine ⟨O,D,_,_,rfl,rfl,s9 _ _ o8,h9,A0g (by simp;lia),λB hB=> ?_⟩;have s10:A0n G9 (upd G9 B (.lst (own.map V.str++(smL ly).map V.str))):=A0f hB;have b10:upd G9 B (.lst (own.map V.str++(smL ly).map V.str)) B=some (.lst ((own++smL ly).map V.str)):=by rw [A0b,Z0s]
  generalize upd G9 B (.lst (own.map V.str++(smL ly).map V.str))=G10 at s10 b10⊢;have s810:=s9.trans s10;have n10:=s810 _ _ n8;have d10:=s810 _ _ d8;have z10:=s810 _ _ z8;have o10:=s810 _ _ o8;have r10:=s810 _ _ r8;have y10:=s810 _ _ y8;have ply10:Paired (C2b G10) ys ly:=Paired.mapP ply λ_ _ z=>z.kt λb' xs' e=>s810 _ _ e;clear s810 s10 s9 h9 hD hB n8 d8 z8 o8 r8 y8 ply;refine ⟨_,rfl,Z,rfl,⟨_,SqL.of z10⟩,λS hSS=> ?_⟩;refine A2o (K:=K) (a:=Z) (D:=S) (xs:=zs.map V.str) (λj ys' G=>A0n G10 G/\G S=some (.lst ys')/\ys'=((zs.take j).map L).map V.int) ⟨A0f hSS,A0b,rfl⟩ (λj ys' G ⟨sG,_⟩=>SqL.of (sG _ _ z10)) ?_ ?_
  ·rintro j y ys' G hy ⟨sG,hG,rfl⟩;obtain ⟨x,hx,rfl⟩:=A2j hy;have g:=B2l.k (H:=G) (a:=ld) (k:=Sum.inr x) (sG _ _ d10);rw [(tl1 x (azs.sub x (Z13 hx))).1] at g;refine ⟨⟨rfl,True.intro⟩,_,rfl,_,rfl,ld,_,rfl,g,hG,A1j (by rw [Z08,Z08,Z0x];lia),A0r sG hSS,A0b,?_⟩;rw [Z14,hx,Option.toList_some,Z0s,Z0s];rfl
  rintro ys' G11 ⟨s11,h11,rfl⟩;rw [Z08,Z18] at h11;have rS:r≠S:=A0k r10 hSS;refine ⟨_,rfl,_,rfl,_,rfl,_,rfl,r,S,B,ld,ms7,zs.map L,own++smL ly,lk,L,rfl,s11 _ _ r10,h11,rS,by rw [Z08];exact azs.few,?_,s11 _ _ b10,by rw [Z06];lia,s11 _ _ d10,tls _ bdm,λX xs ix ms8 G12 k12 S12 r12 x12 pix lix xin=> ?_⟩
  ·intro n hn;obtain ⟨y,hy,rfl⟩:=Z2c.mp hn;exact (tl1 y (azs.sub y hy)).2
  have k102:KI G10 G12:=(KI.of s11).trans k12;have n12:=k102.str n10;have d12:=k102.dk d10;have z12:=k102.str z10;have o12:=k102.str o10;have b12:=k102.str b10
  have y12:G12 Y=some (.lst ys):=k102 _ _ (by
   intro n xs' z
   cases ply10 with
   | nil=>cases z
   | cons r' _ =>
    obtain ⟨q,e,_⟩:=r';subst e
    cases z) y10
  have ply12:Paired (C2b G12) ys ly:=Paired.mapP ply10 λ_ _ z=>z.kt λb' xs' e=>k102 _ _ (by intro n xs z;cases z) e;clear k102 k12 s11 h11 hSS n10 d10 z10 o10 b10 y10 r10 ply10 r12 rS;refine ⟨_,rfl,Y,rfl,⟨_,SqL.of y12⟩,λD hD=> ?_⟩;refine A8x (K:=K) (a:=Y) (D:=D) (xs:=ys) (λj gv G=>A0n G12 G/\G D=some (.lst gv)/\∃gs,Paired (D5a G) gv gs/\C1r (ly.take j) gs) ⟨A0f hD,A0b,[],.nil,rfl⟩ (λj zs' G ⟨sG,_⟩=>SqL.of (sG _ _ y12)) ?_ ?_
  ·rintro j y gv G hy ⟨sG,hG,gs,pgs,gok⟩;obtain ⟨l,hl,q,rfl,eq⟩:=B2s ply12 hy;have eqG:=sG _ _ eq;have a0:atI [V.int l.1,V.str l.2.1,V.int l.2.2] 0=some (.int l.1):=A3d (j:=0) rfl;have lgs:=B6h gok;have lgv:=Paired.length pgs;have lc2:=D5i (ly:=ly) j;have lc3:c2 ly<=ly.length:=by unfold c2;exact List.length_filter_le _ _
   refine ⟨⟨rfl,rfl,True.intro⟩,_,rfl,q,_,_,_,rfl,rfl,SqT.of eqG,a0,rfl,_,rfl,A8m (λh=> ?_) (λh=>⟨sG,hG,gs,pgs,?_⟩)⟩
   ·have h2:l.1=2:=V.int.inj h;refine ⟨_,rfl,_,rfl,_,rfl,q,X,S,l,xs,ix,zs.map L,rfl,eqG,sG _ _ x12,Paired.mapP pix λ_ _ z=>z.kt λb' xs' e=>sG _ _ e,sG _ _ S12,lix,λp lo hi bb G' hp s' hpt=> ?_⟩;have pD:p≠D:=(A0k hG hp).symm;refine ⟨s' _ _ hG,A1j (by lia),A0r (sG.trans s') hD,A0b,gs++[(l.2.1,lo,hi,bb)],Paired.snoc ⟨p,rfl,(A0h pD).trans hpt⟩ (Paired.mapP pgs λ_ _ ⟨q',e1,e2⟩=>⟨q',e1,(A0h (A3j e2 hG (by intro z;cases z))).trans (s' _ _ e2)⟩),?_⟩;rw [Z14,hl,Option.toList_some];exact (A9v gok).2 _ h2 rfl
   ·have h2:¬l.1=2:=λz=>h (by rw [z]);rw [Z14,hl,Option.toList_some];exact (A9v gok).1 h2
  rintro gv G13 ⟨s13,h13,gs,pgs,gok⟩;rw [lyl,Z18] at gok;have n13:=s13 _ _ n12;have d13:=s13 _ _ d12;have z13:=s13 _ _ z12;have o13:=s13 _ _ o12;have b13:=s13 _ _ b12;have y13:=s13 _ _ y12;have x13:=s13 _ _ x12;have S13:=s13 _ _ S12;have ply13:Paired (C2b G13) ys ly:=Paired.mapP ply12 λ_ _ z=>z.kt λb' xs' e=>s13 _ _ e;have pix13:Paired (C5p G13) xs ix:=Paired.mapP pix λ_ _ z=>z.kt λb' xs' e=>s13 _ _ e;clear s13 hD n12 d12 z12 o12 b12 y12 x12 S12 ply12 pix;have pg:B3e nm zs own ly gs ix L:=⟨hsub,azs,aow,yok,l3,l8,gok,by rw [lix,Z08],xin,bnd⟩;refine ⟨_,rfl,_,rfl,Z,ld,zs,lk,L,rfl,z13,d13,tls _ azs.sub,by lia,λG14 s14=> ?_⟩;refine ⟨_,rfl,_,rfl,_,rfl,Y,O,ld,ys,ly,own,lk,L,rfl,s14 _ _ y13,Paired.mapP ply13 λ_ _ z=>z.kt λb' xs' e=>s14 _ _ e,s14 _ _ o13,by lia,s14 _ _ d13,tls _ aow.sub,tls _ (B2h yok),λG15 s15=>⟨_,_,rfl,rfl,?_⟩⟩;have s35:=s14.trans s15;have ew:=pg.wk b;dsimp only
  have wge:prd L (own++smL ly)<=wkY L ly (prd L own):=by
   rw [C0n];exact D0q ly _ (by have:=(A9p own.length rfl (pg.bnd aow.sub)).1;lia) (pg.bnd (B2h yok))
  have zge:=(A9p zs.length rfl (pg.bnd azs.sub)).1;generalize hW:prd L zs+wkY L ly (prd L own)=W at ew⊢;refine ⟨λσ G=>∃(v:V) (du:Option (List Int×List Int)),σ=[some (.ref a),some (.ref r),some (.int way),some (.ref N),some (.ref ld),o5,some (.str (arB b)),some (.ref Z),some (.ref O),some (.ref Y),some (.ref B),some (.ref S),some (.ref X),some (.ref D),some (.int W),some v,none,none,none,none]/\A0n G15 G/\C4f G v du/\(4000<W->du=none)/\(W<=4000->du=(A5a L (own++smL ly) gs ix).find? (B1b (zs.map L))),?_,?_⟩
  ·refine ⟨_,rfl,_,_,rfl,rfl,_,rfl,A8m (λh=> ?_) (λh=>⟨.non,none,rfl,A0n.refl _,rfl,λ_=>rfl,λz=>absurd z h⟩)⟩;have h:W<=4000:=h
   have gl:C3r ((own++smL ly).map L):=by
    refine ⟨λn hn=> ?_,by rw [Z08,Z06];lia,by rw [<-D1t];lia⟩;obtain ⟨y,hy,rfl⟩:=Z2c.mp hn;exact (tl1 y (bdm y hy)).2
   refine ⟨_,rfl,_,rfl,_,rfl,_,rfl,_,rfl,B,ld,D,X,S,own++smL ly,lk,L,gv,gs,xs,ix,zs.map L,rfl,s35 _ _ b13,s35 _ _ d13,tls _ bdm,gl,pg.noE,s35 _ _ h13,Paired.mapP pgs λ_ _ z=>z.same s35,C5z yok gok,s35 _ _ x13,Paired.mapP pix13 λ_ _ z=>z.kt λb' xs' e=>s35 _ _ e,xin,by rw [lix,Z08];exact azs.few,s35 _ _ S13,lix.symm,λv G16 s16 da=>⟨v,_,rfl,s16,da,λz=>absurd h (by lia),λ_=>rfl⟩⟩
  rintro σ G16 ⟨v,du,rfl,s16,da,du0,du1⟩;have s36:=s35.trans s16;refine ⟨_,rfl,A0g (by simp),λq1 hq1=>⟨A0g (by simp),λTL hTL=> ?_⟩⟩;have t1:A0n G16 (upd G16 q1 (.tup [.str "tab",.ref Z])):=A0f hq1;have hq2:upd G16 q1 (.tup [.str "tab",.ref Z]) q1=some (.tup [.str "tab",.ref Z]):=A0b;generalize upd G16 q1 (.tup [.str "tab",.ref Z])=G17 at t1 hq2 hTL⊢;have t2:A0n G17 (upd G17 TL (.lst [.ref q1])):=A0f hTL;have hTL2:upd G17 TL (.lst [.ref q1]) TL=some (.lst [.ref q1]):=A0b;generalize upd G17 TL (.lst [.ref q1])=G18 at t2 hTL2⊢;have t12:=t1.trans t2;have s38:=s36.trans t12;have RT:Rep G18 (.ref TL) (B2w [("tab",zs)]):= .lst hTL2 (.cons (D9p (e:=("tab",zs)) (t2 _ _ hq2) (s38 _ _ z13)) .nil);have da18:=da.same t12;have k38:∀{G':Hp},A0n G18 G'->A0n G13 G':=λz=>s38.trans z;clear t1 t2 hq2 hTL2 hTL hq1 da;refine ⟨_,rfl,_,rfl,_,rfl,λra rd hra hrd nrd=> ?_⟩;have sR0:A0n G18 (upd (upd G18 rd (.own ra)) ra (.ins t.ak rd [])):=(A0f hrd).trans (A0f (by rw [A0h nrd.symm];exact hra));have hra2:upd (upd G18 rd (.own ra)) ra (.ins t.ak rd []) ra=some (.ins t.ak rd []):=A0b;generalize upd (upd G18 rd (.own ra)) ra (.ins t.ak rd [])=G19 at sR0 hra2⊢;refine ⟨ra,rd,X,arB b,ix,rfl,hra2,.lst (k38 sR0 _ _ x13) (C1m (Paired.mapP pix13 λ_ _ z=>z.kt λb' xs' e=>k38 sR0 _ _ e)),by rw [lix,Z08];lia,λil G20 era ril kp=>⟨rfl,?_⟩⟩;have sR:A0n G18 G20:=λb' o e=>kp b' o (A0k e hra) (sR0 _ _ e);have obR:Ob t G20 (.ref ra) (.read (arB b) ix):= .read era (ril.same A1m);clear sR0 hra2 era ril kp hra hrd nrd;have k30:=k38 sR;refine ⟨_,rfl,_,rfl,.ref ra,Y,D,.read (arB b) ix,ys,gv,ly,gs,rfl,obR,k30 _ _ y13,Paired.mapP ply13 λ_ _ z=>z.kt λb' xs' e=>k30 _ _ e,A8s yok,k30 _ _ h13,Paired.mapP pgs λ_ _ z=>z.same k30,B6h gok,λtv G21 sT obT=> ?_⟩;generalize hu:A3h ly gs (.read (arB b) ix)=u at obT ew;have k31:=k30.trans sT;have s81:=sR.trans sT;refine λlt dl hlt hdl ndl=> ?_;have sL0:A0n G21 (upd (upd G21 dl (.own lt)) lt (.ins t.bu dl [])):=(A0f hdl).trans (A0f (by rw [A0h ndl.symm];exact hlt));have hlt2:upd (upd G21 dl (.own lt)) lt (.ins t.bu dl []) lt=some (.ins t.bu dl []):=A0b;generalize upd (upd G21 dl (.own lt)) lt (.ins t.bu dl [])=G22 at sL0 hlt2⊢;refine ⟨lt,dl,O,tv,"mine",own,rfl,hlt2,sL0 _ _ (k31 _ _ o13),by lia,λcc G23 hcc elt ecc kp=>⟨rfl,?_⟩⟩;have sL:A0n G21 G23:=λb' o e=>kp b' o (A0k e hlt) (sL0 _ _ e);have lmine:B1y t (λ_=>True) G23 (.ref lt) ("mine",own,u):=⟨lt,dl,cc,tv,(),rfl,elt,True.intro,ecc,obT.imp sL⟩;clear sL0 hlt2 hcc elt ecc kp hlt hdl ndl obT obR;refine ⟨A0g (by simp),λLL hLL=> ?_⟩;have sLL:A0n G23 (upd G23 LL (.lst [.ref lt])):=A0f hLL;have hLL2:upd G23 LL (.lst [.ref lt]) LL=some (.lst [.ref lt]):=A0b;generalize upd G23 LL (.lst [.ref lt])=G24 at sLL hLL2⊢;have lmine:=lmine.same sLL;have s84:=(s81.trans sL).trans sLL;have k34:=k38 s84;have RT:=RT.same s84;have da24:=da18.same s84;clear sLL hLL sL k31 s81 k30 da18 sT sR;refine ⟨λσ G=>∃(TL LL:Addr) (xs:List V),σ=[some (.ref a),some (.ref r),some (.int way),some (.ref N),some (.ref ld),o5,some (.str (arB b)),some (.ref Z),some (.ref O),some (.ref Y),some (.ref B),some (.ref S),some (.ref X),some (.ref D),some (.int W),some v,some (.ref TL),some (.ref LL),none,none]/\A0n G24 G/\Rep G (.ref TL) (B2w (tbB b zs))/\G LL=some (.lst xs)/\C7e t (λ_=>True) G xs (lsB b zs own u),?_,?_⟩
  ·refine ⟨_,rfl,rfl,_,rfl,A8m (λh=> ?_) (λh=> ?_)⟩
   ·have hb:b=true:=by
     cases b with
     | true=>rfl
     | false=>exact absurd (V.str.inj h) (by decide +kernel)
    subst hb;refine ⟨A0g (by simp),λT2 hT2=> ?_⟩;have w1:A0n G24 (upd G24 T2 (.lst [])):=A0f hT2;have hT3:upd G24 T2 (.lst []) T2=some (.lst []):=A0b;generalize upd G24 T2 (.lst [])=J1 at w1 hT3⊢;refine ⟨_,rfl,λna nd hna hnd nnd=>⟨na,_,nd,_,rfl,A0b,T.c6,T.bq,rfl,?_⟩⟩;have w2:=A1w (o:= .own na) (u:= .ins t.aj nd []) (v:= .ins t.aj nd [("number",.int 3)]) hna hnd;have obN:Ob t (upd (upd (upd J1 nd (.own na)) na (.ins t.aj nd [])) na (.ins t.aj nd [("number",.int 3)])) (.ref na) (.num 3):= .num A0b;generalize upd (upd (upd J1 nd (.own na)) na (.ins t.aj nd [])) na (.ins t.aj nd [("number",.int 3)])=J2 at w2 obN⊢;have w12:=w1.trans w2;refine λlt2 dl hlt hdl ndl=> ?_;have sL0:A0n J2 (upd (upd J2 dl (.own lt2)) lt2 (.ins t.bu dl [])):=(A0f hdl).trans (A0f (by rw [A0h ndl.symm];exact hlt));have hlt2:upd (upd J2 dl (.own lt2)) lt2 (.ins t.bu dl []) lt2=some (.ins t.bu dl []):=A0b;generalize upd (upd J2 dl (.own lt2)) lt2 (.ins t.bu dl [])=J3 at sL0 hlt2⊢;refine ⟨lt2,dl,Z,.ref na,"let",zs,rfl,hlt2,sL0 _ _ (w12 _ _ (k34 _ _ z13)),by lia,λcc J4 hcc elt ecc kp=>⟨rfl,?_⟩⟩;have sL:A0n J2 J4:=λb' o e=>kp b' o (A0k e hlt) (sL0 _ _ e);have llet:B1y t (λ_=>True) J4 (.ref lt2) ("let",zs,.num 3):=⟨lt2,dl,cc,.ref na,(),rfl,elt,True.intro,ecc,obN.imp sL⟩;refine ⟨A0g (by simp),λL2' hL2=> ?_⟩;have w5:A0n J4 (upd J4 L2' (.lst [.ref lt2])):=A0f hL2;have hL3:upd J4 L2' (.lst [.ref lt2]) L2'=some (.lst [.ref lt2]):=A0b;generalize upd J4 L2' (.lst [.ref lt2])=J5 at w5 hL3⊢;have w15:=(w12.trans sL).trans w5;refine ⟨_,rfl,L2',LL,_,_,rfl,rfl,hL3,w15 _ _ hLL2,A0g (by simp),λLC hLC=> ?_⟩;have w6:A0n J5 (upd J5 LC (.lst ([.ref lt2]++[.ref lt]))):=A0f hLC;have w16:=w15.trans w6;exact ⟨T2,LC,_,rfl,w16,.lst (((sL.trans w5).trans w6) _ _ (w2 _ _ hT3)) .nil,A0b,.cons (llet.same (w5.trans w6)) (.cons (lmine.same w16) .nil)⟩
   ·have hb:b=false:=by
     cases b with
     | false=>rfl
     | true=>exact absurd rfl h
    subst hb;exact ⟨TL,LL,_,rfl,A0n.refl _,RT,hLL2,.cons lmine .nil⟩
  rintro σ G25 ⟨TL2,LL2,lv,rfl,s25,RT2,hL25,LA⟩;have k35:=k34.trans s25;have n25:=k35 _ _ n13;have d25:=k35 _ _ d13;have da25:=da24.same s25;clear RT da24 lmine hLL2 s84 k38;have llv:=Paired.length LA;have llB:(lsB b zs own u).length<=2:=by cases b <;> simp [lsB]
  have ltB:(tbB b zs).length<=1:=by cases b <;> simp [tbB]
  refine ⟨_,rfl,N,rfl,⟨_,SqL.of n25⟩,λAX hAX=> ?_⟩
  refine A2o (K:=K) (a:=N) (D:=AX) (xs:=nm.map V.str) (λj ys G3=>A0n G25 G3/\G3 AX=some (.lst ys)/\Paired (C5p G3) ys ((nm.take j).map λy=>(y,L y)))
   ⟨A0f hAX,A0b,.nil⟩ (λj ys G3 ⟨s3,_⟩=>SqL.of (s3 _ _ n25)) ?_ ?_
  ·rintro j y ys G3 hy ⟨s3,h3,re⟩;obtain ⟨x,hx,rfl⟩:=A2j hy;have hj:j<nm.length:=(Z03.mp hx).1;have g:=B2l.k (H:=G3) (a:=ld) (k:=Sum.inr x) (s3 _ _ d25);rw [(tl1 x (Z13 hx)).1] at g;have lys:ys.length<=nm.length:=by rw [Paired.length re,Z08,Z0x];lia
   refine ⟨⟨rfl,True.intro⟩,_,rfl,_,rfl,_,rfl,ld,_,rfl,g,A0g (by simp),λq hq=> ?_⟩;have qD:q≠AX:=(A0k h3 hq).symm;refine ⟨by rw [A0h qD.symm];exact h3,A1j (by lia),A0r (s3.trans (A0f hq)) hAX,A0b,?_⟩;rw [Z14,hx,Option.toList_some,Z0s];exact Paired.snoc ⟨q,rfl,(A0h qD).trans A0b⟩ (Paired.mapP re λ_ _ ⟨q',e1,e2⟩=>⟨q',e1,(A0h (A3j e2 h3 (by intro z;cases z))).trans ((A0h (A0k e2 hq)).trans e2)⟩)
  rintro axv G26 ⟨s26,h26,pax⟩;rw [Z08,Z18] at pax;have w29:(0:Int)<10^(29:Int).toNat:=by decide +kernel
  refine ⟨_,rfl,_,_,rfl,rfl,⟨by decide,by decide,by decide⟩,_,_,rfl,rfl,w29,_,_,rfl,rfl,?_⟩;dsimp only;generalize 2+way%10^(29:Int).toNat=wh;refine ⟨_,rfl,_,rfl,_,rfl,A0g (by simp),λou hou=> ?_⟩;have s27:A0n G26 (upd G26 ou (.lst [V.str "mine"])):=A0f hou;have hou2:upd G26 ou (.lst [V.str "mine"]) ou=some (.lst ((["mine"]:List Str).map V.str)):=A0b;generalize upd G26 ou (.lst [V.str "mine"])=G27 at s27 hou2⊢;have s57:=s26.trans s27;refine λp dp hp hdp ndp=> ?_;have sP:A0n G27 (upd (upd G27 dp (.own p)) p (.ins t.af dp [])):=(A0f hdp).trans (A0f (by rw [A0h ndp.symm];exact hp));have hpP:upd (upd G27 dp (.own p)) p (.ins t.af dp []) p=some (.ins t.af dp []):=A0b;generalize upd (upd G27 dp (.own p)) p (.ins t.af dp [])=G28 at sP hpP⊢;have s58:=s57.trans sP;have LA8:C7e t (λ_=>True) G28 lv (lsB b zs own u):=Paired.mapP LA λ_ _ z=>z.same s58;refine ⟨p,dp,AX,TL2,LL2,ou,wh,nm.map λy=>(y,L y),tbB b zs,lv,["mine"],rfl,hpP,.lst (sP _ _ (s27 _ _ h26)) (C1m (Paired.mapP pax λ_ _ z=>z.kt λb' xs' e=>sP _ _ (s27 _ _ e))),by rw [Z08];lia,RT2.same s58,by lia,?_,s58 _ _ hL25,by lia,λx hx=> ?_,D2w (sP _ _ hou2),by simp,λa' t' l' o' G29 ep ra' rt' hl' el' ro kp=>⟨rfl,?_⟩⟩
  ·intro e he
   cases b with
   | true=>cases he
   | false =>
    rw [Z0w.mp he];show zs.length<=10
    lia
  ·obtain ⟨i,hi'⟩:=List.getElem?_of_mem hx;obtain ⟨le,_,b',db,c,n,dn,rfl,eb,_⟩:=B2s LA hi';have eb:=s57 _ _ eb;exact ⟨b',db,_,rfl,A0k eb hp,sP _ _ eb⟩
  have s29:A0n G27 G29:=λb' u' e=>kp b' u' (A0k e hp) (sP _ _ e);have s59:=s57.trans s29;have pr:B9n t G29 p wh (nm.map λy=>(y,L y)) (tbB b zs) (lsB b zs own u) ["mine"]:=⟨dp,a',t',l',o',ep,ra'.same A1m,rt'.same A1m,⟨lv,el',Paired.mapP LA λ_ _ z=>z.same s59⟩,ro.same A1m⟩;have da29:=da25.same s59;have lkk:=pg.lk b;have rim:=pg.rim b;rw [hu] at lkk rim;have hmu:decide ((4000:Int)<W)=decide (4000<wrk L (tbB b zs) (lsB b zs own u)):=by rw [ew]
  have hd0:4000<wrk L (tbB b zs) (lsB b zs own u)->du=none:=by rw [ew];exact du0
  have hd1:wrk L (tbB b zs) (lsB b zs own u)<=4000->D4w L (arr (tbB b zs) (lsB b zs own u)) (lsB b zs own u)=du.map λe=>(("mine":Str),(arB b,e)):=by
   rw [ew];intro z;rw [rim,du1 z]
  refine ⟨_,rfl,_,rfl,_,rfl,_,rfl,_,_,rfl,rfl,p,arB b,v,_,wh,_,_,_,_,L,du,rfl,pr,lkk,hmu,hd0,hd1,da29,λG30 s30=>⟨_,rfl,A3o ?_⟩⟩;refine ⟨_,rfl,p,wh,_,_,_,_,L,rfl,pr.same s30,lkk,λG31 s31=>⟨_,rfl,A3o ?_⟩⟩;have s91:=s30.trans s31;exact ⟨_,rfl,_,rfl,_,rfl,_,rfl,_,_,rfl,rfl,p,arB b,v,_,wh,_,_,_,_,L,du,rfl,pr.same s91,lkk,hmu,hd0,hd1,da29.same s91,λG32 _=>k G32⟩
end My
namespace PySem.W.Fast
def tw4124161583375935238:=()
def tw8558036608252582668:=()
def tw5356836551672971493:=()
def tw4355708092701385357:=()
def tw2713911214945337252:=()
def tw6363866972125453963:=()
def tw12118493221994988759:=()
def tw16129641684155276942:=()
def tw17334142567438416659:=()
def tw12533771749900836680:=()
def tw2680540636843811034:=()
def tw7760010332342686431:=()
def tw5739607977515342101:=()
def tw10835101082274480240:=()
def tw13109333063594226344:=()
def tw18237177180981671525:=()
def tw18222657023510097840:=()
def tw10163594399424107301:=()
def tw15186913291617159501:=()
def tw15387363911090513126:=()
def tw9922996017496744050:=()
def tw11995897090831310056:=()
def tw10441096836972783793:=()
def tw10043883603625797351:=()
def tw6180226695437284864:=()
def tw3579172980731970809:=()
def tw15014002745294023787:=()
def tw8075372677741961896:=()
def tw17248133502111188243:=()
def tw5102918135367919250:=()
def tw6958056283311091121:=()
def tw13132921410516516356:=()
def tw4567219334458159277:=()
def tw4646252185951200854:=()
def tw1426164517550640923:=()
def tw3714757950347331877:=()
def tw2161201570639779913:=()
def tw11311326895890156182:=()
def tw9364222354405512725:=()
def tw17110330229371857001:=()
def tw14526733733753569089:=()
def tw882298009713940585:=()
def tw6000637543579193108:=()
def tw5532508281366999629:=()
def tw8619185695271555059:=()
def tw9899794079022543752:=()
def tw7803561678496101342:=()
def tw12888333184280651542:=()
def tw10080561339809199367:=()
def tw6151725852602859583:=()
def tw129961096203030296:=()
def tw5331547016656771773:=()
def tw948086996494578621:=()
def tw3945303559928560894:=()
def tw12439688679146027571:=()
def tw11628373880058997571:=()
def tw17947234710943811678:=()
def tw4676152132989834747:=()
def tw11185606036597892672:=()
def tw7430908469759550375:=()
def tw14743699568834794274:=()
def tw11525874867869981641:=()
def tw12807097918047749385:=()
def tw15223498648186163790:=()
def tw11936292407423528928:=()
def tw18232224834143050222:=()
def tw634871560257530982:=()
def tw15703994066152466422:=()
def tw17220087829505671020:=()
def tw12404242831737622183:=()
def tw10502710370410633962:=()
def tw171380691947092866:=()
def tw17077077653103674615:=()
def tw10496156806078709483:=()
def tw9607502621815953758:=()
def tw6621002057275573572:=()
def tw2415705928323503682:=()
def tw13853029073947530245:=()
def tw680912423670564967:=()
def tw11687168287315802077:=()
def tw13095451145948204531:=()
def tw17675605703243610329:=()
def tw1690402144082179928:=()
def tw14423161583080883758:=()
def tw2747950793962843747:=()
def tw7517472353121538136:=()
def tw7203531685387504308:=()
def tw16144988956116788752:=()
def tw4130242596459242975:=()
def tw7724063342304747484:=()
def tw3602368433613962312:=()
def tw2696343198660725178:=()
def tw5519099594326057230:=()
def tw14155252476033460620:=()
def tw7529183824739359313:=()
def tw361249051063028836:=()
def tw2069474341778511488:=()
def tw5894187481855991798:=()
def tw5671551593881090792:=()
def tw5121908347043861861:=()
def tw5098330826208176725:=()
def tw4723908743443544598:=()
def tw9506884148789183544:=()
def tw15349988899688264815:=()
def tw12447588447612081471:=()
def tw8007110056325132711:=()
def tw8763630967623564682:=()
def tw769450607998402326:=()
def tw13630204979868178850:=()
def tw8905815644251716993:=()
def tw14189340607754854243:=()
def tw1858943687469182131:=()
def tw17436947306508367614:=()
def tw13730739749346450083:=()
def tw3802548111652595674:=()
def tw1146104486182183470:=()
def tw12793907191252217361:=()
def tw1228422647195977273:=()
def tw2348230995014702509:=()
def tw14312256016139509899:=()
def tw16518212584255840929:=()
def tw9407865186536550755:=()
def tw5820147461926876094:=()
def tw3627232895425566527:=()
def tw4982662760164858451:=()
def tw7246906153217659146:=()
def tw12611386019383798820:=()
def tw13243403797636794396:=()
def tw18147970841910692869:=()
def tw7531779578500345031:=()
def tw9469192419620416992:=()
def tw16631188288029376318:=()
def tw2835557225639874552:=()
def tw17128102587489297795:=()
def tw3964491256416471760:=()
def tw3116092171910390033:=()
def tw1198201478815576842:=()
def tw8664682132782166686:=()
def tw1066647199213600603:=()
def tw11047395342175310877:=()
def tw1023312367722854993:=()
def tw4949548310195159613:=()
def tw737295595742093169:=()
def tw13443890119003515727:=()
def tw362240630755930584:=()
def tw10136353238057909373:=()
def tw7971605969156313334:=()
def tw17672546330806710814:=()
def tw370196218080432044:=()
def tw7701335659258955020:=()
def tw10120900050009943123:=()
def tw12230881065097058575:=()
def tw13252458203566246529:=()
def tw9046914284663784077:=()
def tw9353911956202981935:=()
def tw9400655871827317905:=()
def tw881971021024120090:=()
def tw7209390747901388836:=()
def tw113108199912791228:=()
def tw18266528034133632504:=()
def tw17062464104333582434:=()
def tw11140487092418700239:=()
def tw5423430195172326043:=()
def tw13398999175316066136:=()
def tw2662603545068425898:=()
def tw2509414534197048653:=()
def tw11469702400664079895:=()
def tw17830492640539610845:=()
def tw18068924499660478805:=()
def tw17044612720036330605:=()
def tw5652344801358780716:=()
def tw8615723251260267175:=()
def tw15221361255820803873:=()
def tw12188437323306614948:=()
def tw8193529280949031033:=()
def tw937126120429897222:=()
def tw13264812673295868909:=()
def tw10388248835104506071:=()
def tw441882189197178075:=()
def tw14635568091556700354:=()
def tw8132437518909386543:=()
def tw3911049688448544200:=()
def tw14853704395316018203:=()
def tw4450143349822980969:=()
def tw2356963459301127547:=()
def tw2293324600579915691:=()
def tw634755978433692044:=()
def tw12331919725119859982:=()
def tw8267934554452883979:=()
def tw214379781300308129:=()
def tw5818131927706667019:=()
def tw8438397493239790646:=()
def tw4433963558347197961:=()
def tw10259930136613147039:=()
def tw13385754891192298344:=()
def tw3627961481337082207:=()
def tw16612129694751790454:=()
def tw10907354370779103656:=()
def tw9717973325439500558:=()
def tw5347878174954919983:=()
def tw16432654537538222308:=()
def tw13074615566522013918:=()
def tw7881861365542381900:=()
def tw16645376653012013357:=()
def tw4814980410511914738:=()
def tw17102812830105476409:=()
def tw8659600274631822981:=()
def tw14739913096503011937:=()
def tw13192681550752374724:=()
def tw15390152471211613315:=()
def tw712586494268162286:=()
def tw13002684557599740573:=()
def tw7900538077538472453:=()
def tw13292384079569288173:=()
def tw1811844244309160299:=()
def tw14502885812617021917:=()
def tw13924913263947758482:=()
def tw10510324014171317249:=()
def tw5278223472898952742:=()
def tw16516018801373410031:=()
def tw4373292430953672538:=()
def tw2666103439364872941:=()
def tw5732193229355740042:=()
def tw3579531980412355809:=()
def tw11036905640849764838:=()
def tw6922281413190658031:=()
def tw1676816991635161816:=()
def tw16616619100592381998:=()
def tw4878721044955771795:=()
def tw5151789711957591940:=()
def tw14818800832821366144:=()
def tw10997063246882750712:=()
def tw9695845956447221672:=()
def tw17335856572780982536:=()
def tw6725884880935861784:=()
def tw10409813599059879509:=()
def tw3305591313689489664:=()
def tw5064002072035157084:=()
def tw4088105331662412725:=()
def tw603911961928641997:=()
def tw13603689900463979256:=()
def tw11716577849927174359:=()
def tw13096706053681160209:=()
def tw7234092633421757536:=()
def tw17661602319685987542:=()
def tw14412682303183343123:=()
def tw12607771917172520703:=()
def tw7840498441168284689:=()
def tw6869095413646530426:=()
def tw15521955609271322062:=()
def tw10237114422890419655:=()
def tw17150944737132872088:=()
def tw18016131293316106157:=()
def tw13436015975928162847:=()
def tw4392608003954449714:=()
def tw9220543305447006824:=()
def tw15030794954657192074:=()
def tw14444613680428437755:=()
def tw9256424851486099900:=()
def tw16844744823194306263:=()
def tw8857020811080418501:=()
def tw6554449460679507175:=()
def tw12425254772332965494:=()
def tw11458275303275675118:=()
def tw7378018244357446830:=()
def tw529224526646074956:=()
def tw1352290325642211240:=()
def tw2116479087348689401:=()
def tw9490282109143354045:=()
def tw13296342746075628726:=()
def tw5175197323587891664:=()
def tw4396022214090493344:=()
def tw6865099104060252924:=()
def tw13436234815765279804:=()
def tw6797138451854495756:=()
def tw12240965186442713173:=()
def tw15292336393149347652:=()
def tw2829858793536982903:=()
def tw15266035864379036271:=()
def tw805155657480896573:=()
def tw17322938429804045581:=()
def tw14049491583290305124:=()
def tw6347545671343570454:=()
def tw1046790217212960398:=()
def tw10311636588926320192:=()
def tw12768054813131210280:=()
def tw11285477999879730092:=()
def tw3243994944539050598:=()
def tw18418013846728494256:=()
def tw10215708130801598761:=()
def tw2556676739688360997:=()
def tw1166427081194116829:=()
def tw10745377034917917310:=()
def tw4464797443380960705:=()
def tw1725064180263120696:=()
def tw8520113633068348129:=()
def tw1432196246221000295:=()
def tw912975691109171535:=()
def tw16875216229110166948:=()
def tw13763629165383038491:=()
def tw9272831156011779649:=()
def tw7757756659464456099:=()
def tw9233399888272219163:=()
def tw5249826988359075547:=()
def tw8161654525881420613:=()
def tw9929495550061366621:=()
def tw2518923562152516233:=()
def tw8822672275410833112:=()
def tw4402557669700840525:=()
def tw13732038009251496077:=()
def tw1378935681223299646:=()
def tw1313594314563790460:=()
def tw3346369496421976918:=()
def tw5062090520176706234:=()
def tw68812606021498567:=()
def tw9593545224309455552:=()
def tw10633985943059279962:=()
def tw12991154482649517046:=()
def tw17591250557555171138:=()
def tw6684432779627943271:=()
def tw15727953799350270273:=()
def tw7545135799163208973:=()
def tw4674125372410024765:=()
def tw14771234647264487860:=()
def tw4950705722097943030:=()
def tw12877592135184249602:=()
def tw6996181320465584144:=()
def tw5851577151571312912:=()
def tw5846701471179054602:=()
def tw7142459887704197953:=()
def tw5017872131791367508:=()
def tw9949314392026298351:=()
def tw5037794371362415123:=()
def tw3629178217610974495:=()
def tw17055129089929036504:=()
def tw10204068578944357884:=()
def tw2460221889100503553:=()
def tw8191987487125277311:=()
def tw10203384978979797040:=()
def tw9746439815144670579:=()
def tw2389218840193024752:=()
def tw16544766877040307609:=()
def tw9205352487741892468:=()
def tw14073567877615439155:=()
def tw12678517313373167108:=()
def tw931405330747409176:=()
def tw15957380519445713870:=()
def tw14388367296584629938:=()
def tw12562932293657055222:=()
def tw11712166414126423565:=()
def tw4901093561722743021:=()
def tw347235113465773515:=()
def tw14181935445796544490:=()
def tw7671606919613171531:=()
def tw14890760682004222547:=()
def tw12320545718723472422:=()
def tw17501741712465154998:=()
def tw3212837930656173903:=()
def tw15467170758213200705:=()
def tw675259967690387480:=()
def tw4333989315072329917:=()
def tw2793801472358378128:=()
def tw15612867045396392678:=()
def tw8372281457143064323:=()
def tw3701646732396970869:=()
def tw2484861739715961817:=()
def tw15237703825953602264:=()
def tw13318591454617531448:=()
def tw7339265374480480898:=()
def tw6328486999722127821:=()
end PySem.W.Fast
namespace My
open PySem L2
abbrev LkF (K:PySem.W.Frag) (x q:Str) (st:Stmt) (f:Addr):Prop:=∃(oc:Value) (od:Option Addr) (kV dc pm:Value) (an:Option Addr) (cd ct:Value) (sl:Array (Option Value)),K.lookup f=some ⟨oc,od,.func (PySem.W.fnOf x q (A8t st) (A6h st) (A0i st) .none kV dc pm an cd ct),sl⟩/\PySem.W.codeIn K cd q=true/\PySem.W.keepIn K (.ref f)=true
theorem D5w {K:PySem.W.Frag} {x q:Str} {st:Stmt} {f:Addr} {oc:Value} {od:Option Addr} {kV dc pm:Value} {an:Option Addr} {cd ct:Value} {sl:Array (Option Value)} (l:K.lookup f=some ⟨oc,od,.func (PySem.W.fnOf x q (A8t st) (A6h st) (A0i st) .none kV dc pm an cd ct),sl⟩) (c:PySem.W.codeIn K cd q=true) (k:PySem.W.keepIn K (.ref f)=true):LkF K x q st f:=⟨_,_,_,_,_,_,_,_,_,l,c,k⟩
theorem A1p {K:PySem.W.Frag} {x q:Str} {st:Stmt} {f:Addr} {ps:List Str} (l:LkF K x q st f) (h:∀(kV doc pm:Value) (an:Option Addr) (cdv ct:Value) (us:List Value),us.length=ps.length->bindArgs (PySem.W.fnOf x q (A8t st) (A6h st) (A0i st) .none kV doc pm an cdv ct) ⟨us,[]⟩=pure (ps.zip us)):∃d,Fun K x q st f d/\A1i K d ps []/\PySem.W.keepIn K (.ref f)=true:=by
 obtain ⟨_,_,_,_,_,_,_,_,_,l,c,k⟩:=l;have F:=D1m (st:=st) l c k;exact ⟨_,F,F.binds h,k⟩
theorem A3s {p:List Value->Prop} (h:p []):∀us:List Value,us.length=0->p us:=λus e=>by rw [List.length_eq_zero_iff.mp e];exact h
theorem A1l {n:Nat} {p:List Value->Prop} (h:∀(a:Value) (us:List Value),us.length=n->p (a::us)):∀us:List Value,us.length=n+1->p us
 | a::r,e=>h a r (Nat.succ.inj e)
theorem D7s {l:PySem.W.OpenLaw} {w:World} {K:PySem.W.Frag} {h:Heap} {mg:Str->Option Value} {fa:Addr} (X:K.In h) (G:h.Ns mainGlobals mg) (hfa:mg "law"=some (.ref fa))
  {bF jO iG aE aA cD mB aF aC aD bG aL aI aH aB bO bY aG:Addr}
  (eQ:PySem.W.nsIn K mainGlobals "LoomError"=some (some (.ref bF)))
  (hR:PySem.W.nsIn K mainGlobals "NoName"=some (some (.ref jO)))
  (gP:PySem.W.nsIn K mainGlobals "NoShape"=some (some (.ref iG)))
  (gQ:PySem.W.nsIn K mainGlobals "TooMuch"=some (some (.ref aE)))
  (eR:PySem.W.nsIn K mainGlobals "BeyondRim"=some (some (.ref aA)))
  (hT:PySem.W.nsIn K mainGlobals "NotYet"=some (some (.ref cD)))
  (lV:PySem.W.nsIn K mainGlobals "Term"=some (some (.ref mB)))
  (hU:PySem.W.nsIn K mainGlobals "Number"=some (some (.ref aF)))
  (iK:PySem.W.nsIn K mainGlobals "Place"=some (some (.ref aC)))
  (jP:PySem.W.nsIn K mainGlobals "Read"=some (some (.ref aD)))
  (jQ:PySem.W.nsIn K mainGlobals "Pair"=some (some (.ref bG)))
  (jR:PySem.W.nsIn K mainGlobals "Plus"=some (some (.ref aL)))
  (iL:PySem.W.nsIn K mainGlobals "Times"=some (some (.ref aI)))
  (kY:PySem.W.nsIn K mainGlobals "Sum"=some (some (.ref aH)))
  (iM:PySem.W.nsIn K mainGlobals "Guard"=some (some (.ref aB)))
  (jS:PySem.W.nsIn K mainGlobals "Part"=some (some (.ref bO)))
  (kZ:PySem.W.nsIn K mainGlobals "Let"=some (some (.ref bY)))
  (gR:PySem.W.nsIn K mainGlobals "Program"=some (some (.ref aG)))
  {f0:Addr}
  (a0:PySem.W.findIn K (.ref aA) "__init__"=some (some (.ref f0)))
  (l0:LkF K "__init__" "BeyondRim.__init__" A4z f0)
  (i0:PySem.W.isFn K (.ref f0)=true)
  {f1:Addr}
  (a1:PySem.W.nsIn K mainGlobals "copied"=some (some (.ref f1)))
  (l1:LkF K "copied" "copied" B7f f1)
  {f2:Addr}
  (a2:PySem.W.findIn K (.ref aF) "__init__"=some (some (.ref f2)))
  (l2:LkF K "__init__" "Number.__init__" A6w f2)
  (i2:PySem.W.isFn K (.ref f2)=true)
  {f3:Addr}
  (a3:PySem.W.findIn K (.ref aC) "__init__"=some (some (.ref f3)))
  (l3:LkF K "__init__" "Place.__init__" B1v f3)
  (i3:PySem.W.isFn K (.ref f3)=true)
  {f4:Addr}
  (a4:PySem.W.findIn K (.ref aD) "__init__"=some (some (.ref f4)))
  (l4:LkF K "__init__" "Read.__init__" A9j f4)
  (i4:PySem.W.isFn K (.ref f4)=true)
  {f5:Addr}
  (a5:PySem.W.findIn K (.ref aD) "cell_at"=some (some (.ref f5)))
  (l5:LkF K "cell_at" "Read.cell_at" A6f f5)
  (i5:PySem.W.isFn K (.ref f5)=true)
  {f6:Addr}
  (a6:PySem.W.nsIn K mainGlobals "index_at"=some (some (.ref f6)))
  (l6:LkF K "index_at" "index_at" B0x f6)
  {f7:Addr}
  (a7:PySem.W.findIn K (.ref bG) "__init__"=some (some (.ref f7)))
  (l7:LkF K "__init__" "Pair.__init__" A9n f7)
  (i7:PySem.W.isFn K (.ref f7)=true)
  {f8:Addr}
  (a8:PySem.W.findIn K (.ref aH) "__init__"=some (some (.ref f8)))
  (l8:LkF K "__init__" "Sum.__init__" B1o f8)
  (i8:PySem.W.isFn K (.ref f8)=true)
  {f9:Addr}
  (a9:PySem.W.findIn K (.ref aB) "__init__"=some (some (.ref f9)))
  (l9:LkF K "__init__" "Guard.__init__" A7h f9)
  (i9:PySem.W.isFn K (.ref f9)=true)
  {mD:Addr}
  (sH:PySem.W.findIn K (.ref aB) "lets_in"=some (some (.ref mD)))
  (mI:LkF K "lets_in" "Guard.lets_in" A5h mD)
  (mJ:PySem.W.isFn K (.ref mD)=true)
  {mE:Addr}
  (sI:PySem.W.findIn K (.ref bO) "__init__"=some (some (.ref mE)))
  (mK:LkF K "__init__" "Part.__init__" A9e mE)
  (mL:PySem.W.isFn K (.ref mE)=true)
  {qK:Addr}
  (mM:PySem.W.nsIn K mainGlobals "parts_of"=some (some (.ref qK)))
  (mN:LkF K "parts_of" "parts_of" B1q qK)
  {qL:Addr}
  (mO:PySem.W.nsIn K mainGlobals "parts_from"=some (some (.ref qL)))
  (mP:LkF K "parts_from" "parts_from" A8a qL)
  {qM:Addr}
  (mQ:PySem.W.nsIn K mainGlobals "parts_right_within"=some (some (.ref qM)))
  (mR:LkF K "parts_right_within" "parts_right_within" A3k qM)
  {qN:Addr}
  (mS:PySem.W.nsIn K mainGlobals "sums_at_top"=some (some (.ref qN)))
  (mT:LkF K "sums_at_top" "sums_at_top" A6u qN)
  {qO:Addr}
  (mU:PySem.W.nsIn K mainGlobals "cells_of"=some (some (.ref qO)))
  (mV:LkF K "cells_of" "cells_of" B1n qO)
  {qP:Addr}
  (mW:PySem.W.nsIn K mainGlobals "lengthened"=some (some (.ref qP)))
  (mX:LkF K "lengthened" "lengthened" A7x qP)
  {mF:Addr}
  (sJ:PySem.W.findIn K (.ref bY) "__init__"=some (some (.ref mF)))
  (mY:LkF K "__init__" "Let.__init__" B1h mF)
  (mZ:PySem.W.isFn K (.ref mF)=true)
  {mG:Addr}
  (sK:PySem.W.findIn K (.ref aG) "__init__"=some (some (.ref mG)))
  (nA:LkF K "__init__" "Program.__init__" A6i mG)
  (nB:PySem.W.isFn K (.ref mG)=true)
  {qQ:Addr}
  (nC:PySem.W.nsIn K mainGlobals "axis_names"=some (some (.ref qQ)))
  (nD:LkF K "axis_names" "axis_names" A7z qQ)
  {qR:Addr}
  (nE:PySem.W.nsIn K mainGlobals "table_names"=some (some (.ref qR)))
  (nF:LkF K "table_names" "table_names" A6r qR)
  {qS:Addr}
  (nG:PySem.W.nsIn K mainGlobals "array_names"=some (some (.ref qS)))
  (nH:LkF K "array_names" "array_names" A6x qS)
  {qT:Addr}
  (nI:PySem.W.nsIn K mainGlobals "lengths_of"=some (some (.ref qT)))
  (nJ:LkF K "lengths_of" "lengths_of" A8h qT)
  {qU:Addr}
  (nK:PySem.W.nsIn K mainGlobals "arrays_of"=some (some (.ref qU)))
  (nL:LkF K "arrays_of" "arrays_of" A8v qU)
  {qV:Addr}
  (nM:PySem.W.nsIn K mainGlobals "lengths_along"=some (some (.ref qV)))
  (nN:LkF K "lengths_along" "lengths_along" A5r qV)
  {qW:Addr}
  (nO:PySem.W.nsIn K mainGlobals "cells_along"=some (some (.ref qW)))
  (nP:LkF K "cells_along" "cells_along" A6z qW)
  {qX:Addr}
  (nQ:PySem.W.nsIn K mainGlobals "look_names"=some (some (.ref qX)))
  (nR:LkF K "look_names" "look_names" A7i qX)
  {qY:Addr}
  (nS:PySem.W.nsIn K mainGlobals "look_told_names"=some (some (.ref qY)))
  (nT:LkF K "look_told_names" "look_told_names" A4m qY)
  {qZ:Addr}
  (nU:PySem.W.nsIn K mainGlobals "is_name"=some (some (.ref qZ)))
  (nV:LkF K "is_name" "is_name" B4h qZ)
  {rA:Addr}
  (nW:PySem.W.nsIn K mainGlobals "is_of_letters"=some (some (.ref rA)))
  (nX:LkF K "is_of_letters" "is_of_letters" A5p rA)
  {rB:Addr}
  (nY:PySem.W.nsIn K mainGlobals "look_outs"=some (some (.ref rB)))
  (nZ:LkF K "look_outs" "look_outs" A9k rB)
  {rC:Addr}
  (oA:PySem.W.nsIn K mainGlobals "look_axes"=some (some (.ref rC)))
  (oB:LkF K "look_axes" "look_axes" A9l rC)
  {rD:Addr}
  (oC:PySem.W.nsIn K mainGlobals "look_terms"=some (some (.ref rD)))
  (oD:LkF K "look_terms" "look_terms" A7v rD)
  {rE:Addr}
  (oE:PySem.W.nsIn K mainGlobals "look_part"=some (some (.ref rE)))
  (oF:LkF K "look_part" "look_part" A9g rE)
  {rF:Addr}
  (oG:PySem.W.nsIn K mainGlobals "look_bound"=some (some (.ref rF)))
  (oH:LkF K "look_bound" "look_bound" A7l rF)
  {rG:Addr}
  (oI:PySem.W.nsIn K mainGlobals "look_sum"=some (some (.ref rG)))
  (oJ:LkF K "look_sum" "look_sum" B1l rG)
  {rH:Addr}
  (oK:PySem.W.nsIn K mainGlobals "look_read"=some (some (.ref rH)))
  (oL:LkF K "look_read" "look_read" A8w rH)
  {rI:Addr}
  (oM:PySem.W.nsIn K mainGlobals "look_own_read"=some (some (.ref rI)))
  (oN:LkF K "look_own_read" "look_own_read" A5i rI)
  {rJ:Addr}
  (oO:PySem.W.nsIn K mainGlobals "work_of"=some (some (.ref rJ)))
  (oP:LkF K "work_of" "work_of" B3p rJ)
  {rK:Addr}
  (oQ:PySem.W.nsIn K mainGlobals "cell_count"=some (some (.ref rK)))
  (oR:LkF K "cell_count" "cell_count" A8d rK)
  {rL:Addr}
  (oS:PySem.W.nsIn K mainGlobals "look"=some (some (.ref rL)))
  (oT:LkF K "look" "look" C6h rL)
  {rM:Addr}
  (oU:PySem.W.nsIn K mainGlobals "look_work"=some (some (.ref rM)))
  (oV:LkF K "look_work" "look_work" A9b rM)
  {rN:Addr}
  (oW:PySem.W.nsIn K mainGlobals "look_reads"=some (some (.ref rN)))
  (oX:LkF K "look_reads" "look_reads" A7m rN)
  {rO:Addr}
  (oY:PySem.W.nsIn K mainGlobals "look_spots"=some (some (.ref rO)))
  (oZ:LkF K "look_spots" "look_spots" A7w rO)
  {rP:Addr}
  (pA:PySem.W.nsIn K mainGlobals "leads_of"=some (some (.ref rP)))
  (pB:LkF K "leads_of" "leads_of" B1a rP)
  {rQ:Addr}
  (pC:PySem.W.nsIn K mainGlobals "is_reached"=some (some (.ref rQ)))
  (pD:LkF K "is_reached" "is_reached" A7n rQ)
  {rR:Addr}
  (pE:PySem.W.nsIn K mainGlobals "look_rims"=some (some (.ref rR)))
  (pF:LkF K "look_rims" "look_rims" A9q rR)
  {rS:Addr}
  (pG:PySem.W.nsIn K mainGlobals "is_within"=some (some (.ref rS)))
  (pH:LkF K "is_within" "is_within" A9i rS)
  {rT:Addr}
  (pI:PySem.W.nsIn K mainGlobals "_law_cell"=some (some (.ref rT)))
  (pJ:LkF K "_law_cell" "_law_cell" B6t rT)
  {rU:Addr}
  (pK:PySem.W.nsIn K mainGlobals "_law_axes"=some (some (.ref rU)))
  (pL:LkF K "_law_axes" "_law_axes" B6a rU)
  {rV:Addr}
  (pM:PySem.W.nsIn K mainGlobals "_law_layers"=some (some (.ref rV)))
  (pN:LkF K "_law_layers" "_law_layers" B1i rV)
  {rW:Addr}
  (pO:PySem.W.nsIn K mainGlobals "_law_indexes"=some (some (.ref rW)))
  (pP:LkF K "_law_indexes" "_law_indexes" A8y rW)
  {rX:Addr}
  (pQ:PySem.W.nsIn K mainGlobals "_law_guard"=some (some (.ref rX)))
  (pR:LkF K "_law_guard" "_law_guard" B3f rX)
  {rY:Addr}
  (pS:PySem.W.nsIn K mainGlobals "_law_term"=some (some (.ref rY)))
  (pT:LkF K "_law_term" "_law_term" B6w rY)
  {rZ:Addr}
  (pU:PySem.W.nsIn K mainGlobals "_law_many"=some (some (.ref rZ)))
  (pV:LkF K "_law_many" "_law_many" B6z rZ)
  {sA:Addr}
  (pW:PySem.W.nsIn K mainGlobals "_law_work"=some (some (.ref sA)))
  (pX:LkF K "_law_work" "_law_work" B6j sA)
  {sB:Addr}
  (pY:PySem.W.nsIn K mainGlobals "_law_spots"=some (some (.ref sB)))
  (pZ:LkF K "_law_spots" "_law_spots" B2z sB)
  {sC:Addr}
  (qA:PySem.W.nsIn K mainGlobals "_law_longer"=some (some (.ref sC)))
  (qB:LkF K "_law_longer" "_law_longer" B1r sC)
  {sD:Addr}
  (qC:PySem.W.nsIn K mainGlobals "_law_first"=some (some (.ref sD)))
  (qD:LkF K "_law_first" "_law_first" B4i sD)
  {sE:Addr}
  (qE:PySem.W.nsIn K mainGlobals "_law_wholes"=some (some (.ref sE)))
  (qF:LkF K "_law_wholes" "_law_wholes" B1d sE)
  {sF:Addr}
  (qG:PySem.W.nsIn K mainGlobals "_law_holds"=some (some (.ref sF)))
  (qH:LkF K "_law_holds" "_law_holds" B2v sF)
  {sG:Addr}
  (qI:PySem.W.nsIn K mainGlobals "_law_under"=some (some (.ref sG)))
  (qJ:LkF K "_law_under" "_law_under" B3b sG)
  {sL:Addr}
  (mH:PySem.W.nsIn K mainGlobals "law"=some (some (.ref sL)))
  (mC:LkF K "law" "law" C8m sL)
  {iJ:Tok}
  (cE:PySem.W.nsIn K mainGlobals "MOST_LETTERS"=some (some (.int (8) iJ)))
  {kW:Tok}
  (eS:PySem.W.nsIn K mainGlobals "MOST_AXES"=some (some (.int (3) kW)))
  {cC:Addr} {hO:Option Addr} {hP:Nat} {hQ:Array (Option Value)} {hM hN:Tok}
  (bP:PySem.W.nsIn K mainGlobals "WORDS_OF_TERMS"=some (some (.ref cC)))
  (bQ:K.lookup cC=some ⟨.type "tuple",hO,.seq #[.str "if" hM,.str "sum" hN] hP,hQ⟩)
  {kX:Tok}
  (eT:PySem.W.nsIn K mainGlobals "MOST_WORK"=some (some (.int (4000) kX)))
  (eU:PySem.W.excInI K aA f0 [.type "ValueError",.type "Exception",.type "BaseException",.type "object"] "ValueError.__new__"=true)
  (eV:PySem.W.keepIn K (.ref aA)=true)
  (bH:PySem.W.findIn K (.ref aA) "__setattr__"=some (some (.builtin "object.__setattr__")))
  (bI:PySem.W.excOver K aA=true)
  (aJ:(PySem.W.clsIn K aA).any (·.hasDict)=true)
  (aZ:PySem.W.findIn K (.ref aA) "name"=some none)
  (aP:PySem.W.findIn K (.ref aA) "array"=some none)
  (bA:PySem.W.findIn K (.ref aA) "spot"=some none)
  (bB:PySem.W.findIn K (.ref aA) "cell"=some none)
  (aO:PySem.W.mroIn K aA (.type "ValueError")=some true)
  (aY:PySem.W.mroIn K aE (.type "ValueError")=some true)
  (hV:PySem.W.excIn K jO [.type "ValueError",.type "Exception",.type "BaseException",.type "object"] "ValueError.__new__"=true)
  (gS:PySem.W.excIn K iG [.type "ValueError",.type "Exception",.type "BaseException",.type "object"] "ValueError.__new__"=true)
  (gT:PySem.W.excIn K aE [.type "ValueError",.type "Exception",.type "BaseException",.type "object"] "ValueError.__new__"=true)
  (gU:PySem.W.findIn K (.ref aE) "__getattribute__"=some (some (.builtin "BaseException.__getattribute__")))
  (gV:PySem.W.findIn K (.ref aE) "__getattr__"=some none)
  (gW:PySem.W.mroIn K aE (.type "BaseException")=some true)
  (gX:PySem.W.mroIn K aE (.type "object")=some true)
  (gY:PySem.W.findIn K (.ref aE) "__class__"=some (some (.builtin "object.__class__")))
  (gZ:PySem.W.specialIn K (.builtin "object.__class__") "__get__"=some (some (.builtin "getset_descriptor.__get__")))
  (hA:PySem.W.takesIn K (.builtin "object.__class__")=some true)
  (cO:PySem.W.isClsIn K aA=true)
  (cP:PySem.W.typeIn K (.ref aA)=some (.type "type"))
  (bC:PySem.W.mroIn K aE (.ref aA)=some false)
  (bD:(Value.ref aE == Value.ref aA)=false)
  (gN:PySem.W.isClsIn K cD=true)
  (gO:PySem.W.typeIn K (.ref cD)=some (.type "type"))
  (bR:PySem.W.mroIn K aE (.ref cD)=some false)
  (bS:(Value.ref aE == Value.ref cD)=false)
  (bJ:PySem.W.isClsIn K bF=true)
  (bK:PySem.W.typeIn K (.ref bF)=some (.type "type"))
  (aM:PySem.W.mroIn K aE (.ref bF)=some true)
  (aQ:PySem.W.findIn K (.ref aA) "__getattribute__"=some (some (.builtin "BaseException.__getattribute__")))
  (aR:PySem.W.findIn K (.ref aA) "__getattr__"=some none)
  (aS:PySem.W.mroIn K aA (.type "BaseException")=some true)
  (aT:PySem.W.mroIn K aA (.type "object")=some true)
  (aU:PySem.W.findIn K (.ref aA) "__class__"=some (some (.builtin "object.__class__")))
  (aV:PySem.W.specialIn K (.builtin "object.__class__") "__get__"=some (some (.builtin "getset_descriptor.__get__")))
  (aW:PySem.W.takesIn K (.builtin "object.__class__")=some true)
  (cV:PySem.W.isClsIn K aE=true)
  (cW:PySem.W.typeIn K (.ref aE)=some (.type "type"))
  (aN:PySem.W.mroIn K aA (.ref aE)=some false)
  (bE:(Value.ref aA == Value.ref aE)=false)
  (bL:PySem.W.mroIn K aA (.ref cD)=some false)
  (bM:(Value.ref aA == Value.ref cD)=false)
  (aK:PySem.W.mroIn K aA (.ref bF)=some true)
  (bN:PySem.W.mroIn K aE (.ref aE)=some true)
  (eW:PySem.W.mroIn K aE (.type "BaseException")=some true)
  (cQ:PySem.W.mroIn K bF (.type "BaseException")=some true)
  (aX:PySem.W.mroIn K aA (.ref aA)=some true)
  (eX:PySem.W.mroIn K aA (.type "BaseException")=some true)
  (iN:PySem.W.plainGet K aB Str.empty=true)
  (iO:PySem.W.hasDictIn K aB=true)
  (iP:PySem.W.plainOver K aB=true)
  (iQ:PySem.W.findIn K (.ref aB) "__setattr__"=some (some (.builtin "object.__setattr__")))
  (iR:PySem.W.makesIn K aB=true)
  (iS:PySem.W.keepIn K (.ref aB)=true)
  (iT:PySem.W.findIn K (.ref aB) "__init__"=some (some (.ref f9)))
  (dP:PySem.W.findIn K (.ref aB) "axis"=some none)
  (eY:PySem.W.findIn K (.ref aB) "low"=some none)
  (dQ:PySem.W.findIn K (.ref aB) "high"=some none)
  (cX:PySem.W.findIn K (.ref aB) "inner"=some none)
  (cY:PySem.W.findIn K (.ref aB) "outer"=some none)
  (bZ:PySem.W.findIn K (.ref aB) "lets_in"=some (some (.ref mD)))
  (iU:PySem.W.findIn K (.ref aB) "__class__"=some (some (.builtin "object.__class__")))
  (iH:PySem.W.specialIn K (.builtin "object.__class__") "__get__"=some (some (.builtin "getset_descriptor.__get__")))
  (iI:PySem.W.takesIn K (.builtin "object.__class__")=some true)
  (iV:PySem.W.mroIn K aB (.type "object")=some true)
  (bT:PySem.W.isClsIn K aB=true)
  (bU:PySem.W.typeIn K (.ref aB)=some (.type "type"))
  (cZ:PySem.W.mroIn K aB (.ref aB)=some true)
  (cR:PySem.W.isClsIn K bG=true)
  (cS:PySem.W.typeIn K (.ref bG)=some (.type "type"))
  (dR:PySem.W.mroIn K aB (.ref bG)=some false)
  (dS:(Value.ref aB == Value.ref bG)=false)
  (cT:PySem.W.isClsIn K aD=true)
  (cU:PySem.W.typeIn K (.ref aD)=some (.type "type"))
  (dT:PySem.W.mroIn K aB (.ref aD)=some false)
  (dU:(Value.ref aB == Value.ref aD)=false)
  (eZ:PySem.W.isClsIn K aH=true)
  (fA:PySem.W.typeIn K (.ref aH)=some (.type "type"))
  (fB:PySem.W.mroIn K aB (.ref aH)=some false)
  (fC:(Value.ref aB == Value.ref aH)=false)
  (bV:PySem.W.isClsIn K aC=true)
  (bW:PySem.W.typeIn K (.ref aC)=some (.type "type"))
  (dA:PySem.W.mroIn K aB (.ref aC)=some false)
  (dB:(Value.ref aB == Value.ref aC)=false)
  (lA:PySem.W.plainGet K bY Str.empty=true)
  (lB:PySem.W.hasDictIn K bY=true)
  (lC:PySem.W.plainOver K bY=true)
  (lD:PySem.W.findIn K (.ref bY) "__setattr__"=some (some (.builtin "object.__setattr__")))
  (lE:PySem.W.makesIn K bY=true)
  (lF:PySem.W.keepIn K (.ref bY)=true)
  (lG:PySem.W.findIn K (.ref bY) "__init__"=some (some (.ref mF)))
  (fX:PySem.W.findIn K (.ref bY) "name"=some none)
  (fY:PySem.W.findIn K (.ref bY) "axes"=some none)
  (fZ:PySem.W.findIn K (.ref bY) "term"=some none)
  (lH:PySem.W.findIn K (.ref bY) "__class__"=some (some (.builtin "object.__class__")))
  (lI:PySem.W.mroIn K bY (.type "object")=some true)
  (gA:PySem.W.mroIn K bY (.type "list")=some false)
  (fD:PySem.W.mroIn K bY (.type "tuple")=some false)
  (gB:PySem.W.mroIn K bY (.type "dict")=some false)
  (hW:PySem.W.plainGet K aF Str.empty=true)
  (hX:PySem.W.hasDictIn K aF=true)
  (hZ:PySem.W.plainOver K aF=true)
  (iA:PySem.W.findIn K (.ref aF) "__setattr__"=some (some (.builtin "object.__setattr__")))
  (iB:PySem.W.makesIn K aF=true)
  (iC:PySem.W.keepIn K (.ref aF)=true)
  (iD:PySem.W.findIn K (.ref aF) "__init__"=some (some (.ref f2)))
  (cA:PySem.W.findIn K (.ref aF) "number"=some none)
  (iE:PySem.W.findIn K (.ref aF) "__class__"=some (some (.builtin "object.__class__")))
  (iF:PySem.W.mroIn K aF (.type "object")=some true)
  (cF:PySem.W.mroIn K aF (.ref aB)=some false)
  (cG:(Value.ref aF == Value.ref aB)=false)
  (dC:PySem.W.mroIn K aF (.ref bG)=some false)
  (dD:(Value.ref aF == Value.ref bG)=false)
  (dE:PySem.W.mroIn K aF (.ref aD)=some false)
  (dF:(Value.ref aF == Value.ref aD)=false)
  (dV:PySem.W.mroIn K aF (.ref aH)=some false)
  (dW:(Value.ref aF == Value.ref aH)=false)
  (cH:PySem.W.mroIn K aF (.ref aC)=some false)
  (cI:(Value.ref aF == Value.ref aC)=false)
  (jT:PySem.W.plainGet K bO Str.empty=true)
  (jU:PySem.W.hasDictIn K bO=true)
  (jV:PySem.W.plainOver K bO=true)
  (jW:PySem.W.findIn K (.ref bO) "__setattr__"=some (some (.builtin "object.__setattr__")))
  (jX:PySem.W.makesIn K bO=true)
  (jY:PySem.W.keepIn K (.ref bO)=true)
  (jZ:PySem.W.findIn K (.ref bO) "__init__"=some (some (.ref mE)))
  (fE:PySem.W.findIn K (.ref bO) "term"=some none)
  (fF:PySem.W.findIn K (.ref bO) "sums"=some none)
  (dG:PySem.W.findIn K (.ref bO) "guards"=some none)
  (kA:PySem.W.findIn K (.ref bO) "__class__"=some (some (.builtin "object.__class__")))
  (kB:PySem.W.mroIn K bO (.type "object")=some true)
  (iW:PySem.W.plainGet K aC Str.empty=true)
  (iX:PySem.W.hasDictIn K aC=true)
  (iY:PySem.W.plainOver K aC=true)
  (iZ:PySem.W.findIn K (.ref aC) "__setattr__"=some (some (.builtin "object.__setattr__")))
  (jA:PySem.W.makesIn K aC=true)
  (jB:PySem.W.keepIn K (.ref aC)=true)
  (jC:PySem.W.findIn K (.ref aC) "__init__"=some (some (.ref f3)))
  (dX:PySem.W.findIn K (.ref aC) "axis"=some none)
  (jD:PySem.W.findIn K (.ref aC) "__class__"=some (some (.builtin "object.__class__")))
  (jE:PySem.W.mroIn K aC (.type "object")=some true)
  (dH:PySem.W.mroIn K aC (.ref aB)=some false)
  (dI:(Value.ref aC == Value.ref aB)=false)
  (dY:PySem.W.mroIn K aC (.ref bG)=some false)
  (dZ:(Value.ref aC == Value.ref bG)=false)
  (eA:PySem.W.mroIn K aC (.ref aD)=some false)
  (eB:(Value.ref aC == Value.ref aD)=false)
  (fG:PySem.W.mroIn K aC (.ref aH)=some false)
  (fH:(Value.ref aC == Value.ref aH)=false)
  (dJ:PySem.W.mroIn K aC (.ref aC)=some true)
  (kC:PySem.W.plainGet K aL Str.empty=true)
  (kD:PySem.W.hasDictIn K aL=true)
  (kE:PySem.W.plainOver K aL=true)
  (kF:PySem.W.findIn K (.ref aL) "__setattr__"=some (some (.builtin "object.__setattr__")))
  (kG:PySem.W.makesIn K aL=true)
  (kH:PySem.W.keepIn K (.ref aL)=true)
  (kI:PySem.W.findIn K (.ref aL) "__init__"=some (some (.ref f7)))
  (fI:PySem.W.findIn K (.ref aL) "left"=some none)
  (eC:PySem.W.findIn K (.ref aL) "right"=some none)
  (kJ:PySem.W.findIn K (.ref aL) "__class__"=some (some (.builtin "object.__class__")))
  (kK:PySem.W.mroIn K aL (.type "object")=some true)
  (eD:PySem.W.mroIn K aL (.ref aB)=some false)
  (eE:(Value.ref aL == Value.ref aB)=false)
  (fJ:PySem.W.mroIn K aL (.ref bG)=some true)
  (fK:PySem.W.mroIn K aL (.ref aD)=some false)
  (fL:(Value.ref aL == Value.ref aD)=false)
  (gC:PySem.W.mroIn K aL (.ref aH)=some false)
  (gD:(Value.ref aL == Value.ref aH)=false)
  (eF:PySem.W.mroIn K aL (.ref aC)=some false)
  (eG:(Value.ref aL == Value.ref aC)=false)
  (hB:PySem.W.plainGet K aG Str.empty=true)
  (hC:PySem.W.hasDictIn K aG=true)
  (hD:PySem.W.plainOver K aG=true)
  (hE:PySem.W.findIn K (.ref aG) "__setattr__"=some (some (.builtin "object.__setattr__")))
  (hF:PySem.W.makesIn K aG=true)
  (hG:PySem.W.keepIn K (.ref aG)=true)
  (hH:PySem.W.findIn K (.ref aG) "__init__"=some (some (.ref mG)))
  (cB:PySem.W.findIn K (.ref aG) "wheel"=some none)
  (cJ:PySem.W.findIn K (.ref aG) "axes"=some none)
  (bX:PySem.W.findIn K (.ref aG) "tables"=some none)
  (cK:PySem.W.findIn K (.ref aG) "lets"=some none)
  (cL:PySem.W.findIn K (.ref aG) "outs"=some none)
  (hI:PySem.W.findIn K (.ref aG) "__class__"=some (some (.builtin "object.__class__")))
  (hJ:PySem.W.mroIn K aG (.type "object")=some true)
  (kL:PySem.W.plainGet K aD Str.empty=true)
  (kM:PySem.W.hasDictIn K aD=true)
  (kN:PySem.W.plainOver K aD=true)
  (kO:PySem.W.findIn K (.ref aD) "__setattr__"=some (some (.builtin "object.__setattr__")))
  (kP:PySem.W.makesIn K aD=true)
  (kQ:PySem.W.keepIn K (.ref aD)=true)
  (kR:PySem.W.findIn K (.ref aD) "__init__"=some (some (.ref f4)))
  (eH:PySem.W.findIn K (.ref aD) "array"=some none)
  (cM:PySem.W.findIn K (.ref aD) "indexes"=some none)
  (cN:PySem.W.findIn K (.ref aD) "cell_at"=some (some (.ref f5)))
  (kS:PySem.W.findIn K (.ref aD) "__class__"=some (some (.builtin "object.__class__")))
  (kT:PySem.W.mroIn K aD (.type "object")=some true)
  (eI:PySem.W.mroIn K aD (.ref aB)=some false)
  (eJ:(Value.ref aD == Value.ref aB)=false)
  (fM:PySem.W.mroIn K aD (.ref bG)=some false)
  (fN:(Value.ref aD == Value.ref bG)=false)
  (fO:PySem.W.mroIn K aD (.ref aD)=some true)
  (gE:PySem.W.mroIn K aD (.ref aH)=some false)
  (gF:(Value.ref aD == Value.ref aH)=false)
  (eK:PySem.W.mroIn K aD (.ref aC)=some false)
  (eL:(Value.ref aD == Value.ref aC)=false)
  (lJ:PySem.W.plainGet K aH Str.empty=true)
  (lK:PySem.W.hasDictIn K aH=true)
  (lL:PySem.W.plainOver K aH=true)
  (lM:PySem.W.findIn K (.ref aH) "__setattr__"=some (some (.builtin "object.__setattr__")))
  (lN:PySem.W.makesIn K aH=true)
  (lO:PySem.W.keepIn K (.ref aH)=true)
  (lP:PySem.W.findIn K (.ref aH) "__init__"=some (some (.ref f8)))
  (gG:PySem.W.findIn K (.ref aH) "axis"=some none)
  (gH:PySem.W.findIn K (.ref aH) "body"=some none)
  (lQ:PySem.W.findIn K (.ref aH) "__class__"=some (some (.builtin "object.__class__")))
  (lR:PySem.W.mroIn K aH (.type "object")=some true)
  (fP:PySem.W.mroIn K aH (.ref aB)=some false)
  (fQ:(Value.ref aH == Value.ref aB)=false)
  (gI:PySem.W.mroIn K aH (.ref bG)=some false)
  (gJ:(Value.ref aH == Value.ref bG)=false)
  (gK:PySem.W.mroIn K aH (.ref aD)=some false)
  (gL:(Value.ref aH == Value.ref aD)=false)
  (hK:PySem.W.mroIn K aH (.ref aH)=some true)
  (fR:PySem.W.mroIn K aH (.ref aC)=some false)
  (fS:(Value.ref aH == Value.ref aC)=false)
  (jF:PySem.W.plainGet K aI Str.empty=true)
  (jG:PySem.W.hasDictIn K aI=true)
  (jH:PySem.W.plainOver K aI=true)
  (jI:PySem.W.findIn K (.ref aI) "__setattr__"=some (some (.builtin "object.__setattr__")))
  (jJ:PySem.W.makesIn K aI=true)
  (jK:PySem.W.keepIn K (.ref aI)=true)
  (jL:PySem.W.findIn K (.ref aI) "__init__"=some (some (.ref f7)))
  (eM:PySem.W.findIn K (.ref aI) "left"=some none)
  (dK:PySem.W.findIn K (.ref aI) "right"=some none)
  (jM:PySem.W.findIn K (.ref aI) "__class__"=some (some (.builtin "object.__class__")))
  (jN:PySem.W.mroIn K aI (.type "object")=some true)
  (dL:PySem.W.mroIn K aI (.ref aB)=some false)
  (dM:(Value.ref aI == Value.ref aB)=false)
  (eN:PySem.W.mroIn K aI (.ref bG)=some true)
  (eO:PySem.W.mroIn K aI (.ref aD)=some false)
  (eP:(Value.ref aI == Value.ref aD)=false)
  (fT:PySem.W.mroIn K aI (.ref aH)=some false)
  (fU:(Value.ref aI == Value.ref aH)=false)
  (dN:PySem.W.mroIn K aI (.ref aC)=some false)
  (dO:(Value.ref aI == Value.ref aC)=false)
  (fV:PySem.W.nsIn K mainGlobals "isinstance"=some none)
  (lS:PySem.W.nsIn K mainGlobals "list"=some none)
  (kU:PySem.W.nsIn K mainGlobals "tuple"=some none)
  (lT:PySem.W.nsIn K mainGlobals "dict"=some none)
  (kV:PySem.W.nsIn K mainGlobals "range"=some none)
  (gM:PySem.W.nsIn K mainGlobals "enumerate"=some none)
  (lW:PySem.W.nsIn K mainGlobals "len"=some none)
  (lX:PySem.W.nsIn K mainGlobals "all"=some none)
  (lY:PySem.W.nsIn K mainGlobals "zip"=some none)
  (lZ:PySem.W.nsIn K mainGlobals "min"=some none)
  (hL:PySem.W.nsIn K mainGlobals "reversed"=some none)
  (lU:PySem.W.nsIn K mainGlobals "bool"=some none)
  (mA:PySem.W.nsIn K mainGlobals "int"=some none)
  (fW:PySem.W.nsIn K mainGlobals "ValueError"=some none)
  :∃fd:FuncData,(∀(s:Shared) (v:Value),BindsTo s fd ⟨[v],[]⟩ [("_law_script",v)])/\∀base:Heap,K.In base->base.Ns mainGlobals mg->A2e l.prog w K mg base CX0 19 fa fd ["_law_script"] (D0e K):=by
 have e:=hfa.symm.trans (Z0f X G mH);cases e;obtain ⟨d0,F0,b0,k0⟩:=A1p (ps:=["self","name","array","spot","cell"]) l0 λ_ _ _ _ _ _=>A1l λ_=>A1l λ_=>A1l λ_=>A1l λ_=>A1l λ_=>A3s rfl;obtain ⟨d1,F1,b1,k1⟩:=A1p (ps:=["value"]) l1 λ_ _ _ _ _ _=>A1l λ_=>A3s rfl;obtain ⟨d2,F2,b2,k2⟩:=A1p (ps:=["self","number"]) l2 λ_ _ _ _ _ _=>A1l λ_=>A1l λ_=>A3s rfl;obtain ⟨d3,F3,b3,k3⟩:=A1p (ps:=["self","axis"]) l3 λ_ _ _ _ _ _=>A1l λ_=>A1l λ_=>A3s rfl;obtain ⟨d4,F4,b4,k4⟩:=A1p (ps:=["self","array","indexes"]) l4 λ_ _ _ _ _ _=>A1l λ_=>A1l λ_=>A1l λ_=>A3s rfl;obtain ⟨d5,F5,b5,k5⟩:=A1p (ps:=["self","at"]) l5 λ_ _ _ _ _ _=>A1l λ_=>A1l λ_=>A3s rfl;obtain ⟨d6,F6,b6,k6⟩:=A1p (ps:=["axis","shift","at"]) l6 λ_ _ _ _ _ _=>A1l λ_=>A1l λ_=>A1l λ_=>A3s rfl;obtain ⟨d7,F7,b7,k7⟩:=A1p (ps:=["self","left","right"]) l7 λ_ _ _ _ _ _=>A1l λ_=>A1l λ_=>A1l λ_=>A3s rfl;obtain ⟨d8,F8,b8,k8⟩:=A1p (ps:=["self","axis","body"]) l8 λ_ _ _ _ _ _=>A1l λ_=>A1l λ_=>A1l λ_=>A3s rfl;obtain ⟨d9,F9,b9,k9⟩:=A1p (ps:=["self","axis","low","high","inner","outer"]) l9 λ_ _ _ _ _ _=>A1l λ_=>A1l λ_=>A1l λ_=>A1l λ_=>A1l λ_=>A1l λ_=>A3s rfl;obtain ⟨d10,F10,b10,k10⟩:=A1p (ps:=["self","at"]) mI λ_ _ _ _ _ _=>A1l λ_=>A1l λ_=>A3s rfl;obtain ⟨d11,F11,b11,k11⟩:=A1p (ps:=["self","term","sums","guards"]) mK λ_ _ _ _ _ _=>A1l λ_=>A1l λ_=>A1l λ_=>A1l λ_=>A3s rfl;obtain ⟨d12,F12,b12,k12⟩:=A1p (ps:=["term"]) mN λ_ _ _ _ _ _=>A1l λ_=>A3s rfl;obtain ⟨d13,F13,b13,k13⟩:=A1p (ps:=["part"]) mP λ_ _ _ _ _ _=>A1l λ_=>A3s rfl;obtain ⟨d14,F14,b14,k14⟩:=A1p (ps:=["part"]) mR λ_ _ _ _ _ _=>A1l λ_=>A3s rfl;obtain ⟨d15,F15,b15,k15⟩:=A1p (ps:=["term"]) mT λ_ _ _ _ _ _=>A1l λ_=>A3s rfl;obtain ⟨d16,F16,b16,k16⟩:=A1p (ps:=["lengths"]) mV λ_ _ _ _ _ _=>A1l λ_=>A3s rfl;obtain ⟨d17,F17,b17,k17⟩:=A1p (ps:=["cells","length"]) mX λ_ _ _ _ _ _=>A1l λ_=>A1l λ_=>A3s rfl;obtain ⟨d18,F18,b18,k18⟩:=A1p (ps:=["self","name","axes","term"]) mY λ_ _ _ _ _ _=>A1l λ_=>A1l λ_=>A1l λ_=>A1l λ_=>A3s rfl;obtain ⟨d19,F19,b19,k19⟩:=A1p (ps:=["self","wheel","axes","tables","lets","outs"]) nA λ_ _ _ _ _ _=>A1l λ_=>A1l λ_=>A1l λ_=>A1l λ_=>A1l λ_=>A1l λ_=>A3s rfl;obtain ⟨d20,F20,b20,k20⟩:=A1p (ps:=["program"]) nD λ_ _ _ _ _ _=>A1l λ_=>A3s rfl;obtain ⟨d21,F21,b21,k21⟩:=A1p (ps:=["program"]) nF λ_ _ _ _ _ _=>A1l λ_=>A3s rfl;obtain ⟨d22,F22,b22,k22⟩:=A1p (ps:=["program"]) nH λ_ _ _ _ _ _=>A1l λ_=>A3s rfl;obtain ⟨d23,F23,b23,k23⟩:=A1p (ps:=["program"]) nJ λ_ _ _ _ _ _=>A1l λ_=>A3s rfl;obtain ⟨d24,F24,b24,k24⟩:=A1p (ps:=["program"]) nL λ_ _ _ _ _ _=>A1l λ_=>A3s rfl;obtain ⟨d25,F25,b25,k25⟩:=A1p (ps:=["axes","lengths"]) nN λ_ _ _ _ _ _=>A1l λ_=>A1l λ_=>A3s rfl;obtain ⟨d26,F26,b26,k26⟩:=A1p (ps:=["axes","lengths"]) nP λ_ _ _ _ _ _=>A1l λ_=>A1l λ_=>A3s rfl;obtain ⟨d27,F27,b27,k27⟩:=A1p (ps:=["program"]) nR λ_ _ _ _ _ _=>A1l λ_=>A3s rfl;obtain ⟨d28,F28,b28,k28⟩:=A1p (ps:=["names"]) nT λ_ _ _ _ _ _=>A1l λ_=>A3s rfl;obtain ⟨d29,F29,b29,k29⟩:=A1p (ps:=["text"]) nV λ_ _ _ _ _ _=>A1l λ_=>A3s rfl;obtain ⟨d30,F30,b30,k30⟩:=A1p (ps:=["text"]) nX λ_ _ _ _ _ _=>A1l λ_=>A3s rfl;obtain ⟨d31,F31,b31,k31⟩:=A1p (ps:=["outs","names"]) nZ λ_ _ _ _ _ _=>A1l λ_=>A1l λ_=>A3s rfl;obtain ⟨d32,F32,b32,k32⟩:=A1p (ps:=["axes","known"]) oB λ_ _ _ _ _ _=>A1l λ_=>A1l λ_=>A3s rfl;obtain ⟨d33,F33,b33,k33⟩:=A1p (ps:=["program"]) oD λ_ _ _ _ _ _=>A1l λ_=>A3s rfl;obtain ⟨d34,F34,b34,k34⟩:=A1p (ps:=["part","let","arrays","known"]) oF λ_ _ _ _ _ _=>A1l λ_=>A1l λ_=>A1l λ_=>A1l λ_=>A3s rfl;obtain ⟨d35,F35,b35,k35⟩:=A1p (ps:=["axis","bound"]) oH λ_ _ _ _ _ _=>A1l λ_=>A1l λ_=>A3s rfl;obtain ⟨d36,F36,b36,k36⟩:=A1p (ps:=["axis","bound","known"]) oJ λ_ _ _ _ _ _=>A1l λ_=>A1l λ_=>A1l λ_=>A3s rfl;obtain ⟨d37,F37,b37,k37⟩:=A1p (ps:=["read","bound","arrays"]) oL λ_ _ _ _ _ _=>A1l λ_=>A1l λ_=>A1l λ_=>A3s rfl;obtain ⟨d38,F38,b38,k38⟩:=A1p (ps:=["part","let"]) oN λ_ _ _ _ _ _=>A1l λ_=>A1l λ_=>A3s rfl;obtain ⟨d39,F39,b39,k39⟩:=A1p (ps:=["program"]) oP λ_ _ _ _ _ _=>A1l λ_=>A3s rfl;obtain ⟨d40,F40,b40,k40⟩:=A1p (ps:=["axes","lengths"]) oR λ_ _ _ _ _ _=>A1l λ_=>A1l λ_=>A3s rfl;obtain ⟨d41,F41,b41,k41⟩:=A1p (ps:=["program"]) oT λ_ _ _ _ _ _=>A1l λ_=>A3s rfl;obtain ⟨d42,F42,b42,k42⟩:=A1p (ps:=["program"]) oV λ_ _ _ _ _ _=>A1l λ_=>A3s rfl;obtain ⟨d43,F43,b43,k43⟩:=A1p (ps:=["program"]) oX λ_ _ _ _ _ _=>A1l λ_=>A3s rfl;obtain ⟨d44,F44,b44,k44⟩:=A1p (ps:=["let","part","lengths","axes"]) oZ λ_ _ _ _ _ _=>A1l λ_=>A1l λ_=>A1l λ_=>A1l λ_=>A3s rfl;obtain ⟨d45,F45,b45,k45⟩:=A1p (ps:=["let","part","lengths"]) pB λ_ _ _ _ _ _=>A1l λ_=>A1l λ_=>A1l λ_=>A3s rfl;obtain ⟨d46,F46,b46,k46⟩:=A1p (ps:=["guards","at"]) pD λ_ _ _ _ _ _=>A1l λ_=>A1l λ_=>A3s rfl;obtain ⟨d47,F47,b47,k47⟩:=A1p (ps:=["let","read","leads","lengths"]) pF λ_ _ _ _ _ _=>A1l λ_=>A1l λ_=>A1l λ_=>A1l λ_=>A3s rfl;obtain ⟨d48,F48,b48,k48⟩:=A1p (ps:=["cell","lengths"]) pH λ_ _ _ _ _ _=>A1l λ_=>A1l λ_=>A3s rfl;obtain ⟨d49,F49,b49,k49⟩:=A1p (ps:=["_law_rest"]) pJ λ_ _ _ _ _ _=>A1l λ_=>A3s rfl;obtain ⟨d50,F50,b50,k50⟩:=A1p (ps:=["_law_cell_here","_law_names"]) pL λ_ _ _ _ _ _=>A1l λ_=>A1l λ_=>A3s rfl;obtain ⟨d51,F51,b51,k51⟩:=A1p (ps:=["_law_rest","_law_own","_law_names","_law_many_here"]) pN λ_ _ _ _ _ _=>A1l λ_=>A1l λ_=>A1l λ_=>A1l λ_=>A3s rfl;obtain ⟨d52,F52,b52,k52⟩:=A1p (ps:=["_law_rest","_law_sizes","_law_bound","_law_lengths"]) pP λ_ _ _ _ _ _=>A1l λ_=>A1l λ_=>A1l λ_=>A1l λ_=>A3s rfl;obtain ⟨d53,F53,b53,k53⟩:=A1p (ps:=["_law_layer","_law_indexes_here","_law_sizes"]) pR λ_ _ _ _ _ _=>A1l λ_=>A1l λ_=>A1l λ_=>A3s rfl;obtain ⟨d54,F54,b54,k54⟩:=A1p (ps:=["_law_read","_law_layers_here","_law_guards"]) pT λ_ _ _ _ _ _=>A1l λ_=>A1l λ_=>A1l λ_=>A3s rfl;obtain ⟨d55,F55,b55,k55⟩:=A1p (ps:=["_law_axes_here","_law_lengths"]) pV λ_ _ _ _ _ _=>A1l λ_=>A1l λ_=>A3s rfl;obtain ⟨d56,F56,b56,k56⟩:=A1p (ps:=["_law_layers_here","_law_own","_law_lengths"]) pX λ_ _ _ _ _ _=>A1l λ_=>A1l λ_=>A1l λ_=>A3s rfl;obtain ⟨d57,F57,b57,k57⟩:=A1p (ps:=["_law_names","_law_lengths"]) pZ λ_ _ _ _ _ _=>A1l λ_=>A1l λ_=>A3s rfl;obtain ⟨d58,F58,b58,k58⟩:=A1p (ps:=["_law_spots_here","_law_length"]) qB λ_ _ _ _ _ _=>A1l λ_=>A1l λ_=>A3s rfl;obtain ⟨d59,F59,b59,k59⟩:=A1p (ps:=["_law_names","_law_lengths","_law_guards","_law_indexes_here","_law_sizes"]) qD λ_ _ _ _ _ _=>A1l λ_=>A1l λ_=>A1l λ_=>A1l λ_=>A1l λ_=>A3s rfl;obtain ⟨d60,F60,b60,k60⟩:=A1p (ps:=["_law_found","_law_due"]) qF λ_ _ _ _ _ _=>A1l λ_=>A1l λ_=>A3s rfl;obtain ⟨d61,F61,b61,k61⟩:=A1p (ps:=["_law_program","_law_array","_law_due","_law_much"]) qH λ_ _ _ _ _ _=>A1l λ_=>A1l λ_=>A1l λ_=>A1l λ_=>A3s rfl;obtain ⟨d62,F62,b62,k62⟩:=A1p (ps:=["_law_program"]) qJ λ_ _ _ _ _ _=>A1l λ_=>A3s rfl;obtain ⟨_,_,_,_,_,_,_,_,_,mC,c,k63⟩:=mC;have F63:=D1m (st:=C8m) mC c k63;have b63:=F63.binds (ps:=["_law_script"]) λ_ _ _ _ _ _=>A1l λ_=>A3s rfl;exact ⟨_,λs v=> .of_eq rfl,λbase _ _=>D5y (t:=⟨bF,jO,iG,aE,aA,cD,mB,aF,aC,aD,bG,aL,aI,aH,aB,bO,bY,aG,cC,f0,_,f1,_,f2,_,f3,_,f4,_,f5,_,f6,_,f7,_,f8,_,f9,_,mD,_,mE,_,qK,_,qL,_,qM,_,qN,_,qO,_,qP,_,mF,_,mG,_,qQ,_,qR,_,qS,_,qT,_,qU,_,qV,_,qW,_,qX,_,qY,_,qZ,_,rA,_,rB,_,rC,_,rD,_,rE,_,rF,_,rG,_,rH,_,rI,_,rJ,_,rK,_,rL,_,rM,_,rN,_,rO,_,rP,_,rQ,_,rR,_,rS,_,rT,_,rU,_,rV,_,rW,_,rX,_,rY,_,rZ,_,sA,_,sB,_,sC,_,sD,_,sE,_,sF,_,sG,_,fa,_⟩) ⟨F0,b0,F1,Z0f X G a1,b1,F2,b2,F3,b3,F4,b4,F5,b5,F6,Z0f X G a6,b6,F7,b7,F8,b8,F9,b9,F10,b10,F11,b11,F12,Z0f X G mM,b12,F13,Z0f X G mO,b13,F14,Z0f X G mQ,b14,F15,Z0f X G mS,b15,F16,Z0f X G mU,b16,F17,Z0f X G mW,b17,F18,b18,F19,b19,F20,Z0f X G nC,b20,F21,Z0f X G nE,b21,F22,Z0f X G nG,b22,F23,Z0f X G nI,b23,F24,Z0f X G nK,b24,F25,Z0f X G nM,b25,F26,Z0f X G nO,b26,F27,Z0f X G nQ,b27,F28,Z0f X G nS,b28,F29,Z0f X G nU,b29,F30,Z0f X G nW,b30,F31,Z0f X G nY,b31,F32,Z0f X G oA,b32,F33,Z0f X G oC,b33,F34,Z0f X G oE,b34,F35,Z0f X G oG,b35,F36,Z0f X G oI,b36,F37,Z0f X G oK,b37,F38,Z0f X G oM,b38,F39,Z0f X G oO,b39,F40,Z0f X G oQ,b40,F41,Z0f X G oS,b41,F42,Z0f X G oU,b42,F43,Z0f X G oW,b43,F44,Z0f X G oY,b44,F45,Z0f X G pA,b45,F46,Z0f X G pC,b46,F47,Z0f X G pE,b47,F48,Z0f X G pG,b48,F49,Z0f X G pI,b49,F50,Z0f X G pK,b50,F51,Z0f X G pM,b51,F52,Z0f X G pO,b52,F53,Z0f X G pQ,b53,F54,Z0f X G pS,b54,F55,Z0f X G pU,b55,F56,Z0f X G pW,b56,F57,Z0f X G pY,b57,F58,Z0f X G qA,b58,F59,Z0f X G qC,b59,F60,Z0f X G qE,b60,F61,Z0f X G qG,b61,F62,Z0f X G qI,b62,F63,Z0f X G mH,b63,⟨_,Z0f X G cE,⟨_,rfl⟩⟩,⟨_,Z0f X G eS,⟨_,rfl⟩⟩,⟨_,Z0f X G bP,rfl⟩,⟨_,_,_,bQ,rfl,rfl,(by show 2<=sizeLine;decide),.cons ⟨_,rfl⟩ (.cons ⟨_,rfl⟩ (.nil))⟩,⟨_,Z0f X G eT,⟨_,rfl⟩⟩,Z0f X G eR,Z0f X G eQ,Z0f X G hR,Z0f X G gP,Z0f X G hT,Z0f X G gQ,⟨eU,eV⟩,⟨bH,bI,aJ,aZ⟩,⟨bH,bI,aJ,aP⟩,⟨bH,bI,aJ,bA⟩,⟨bH,bI,aJ,bB⟩,⟨⟨aQ,aR,aS,aT,aU,aV,aW⟩,aJ,aZ⟩,⟨⟨aQ,aR,aS,aT,aU,aV,aW⟩,aJ,aP⟩,⟨⟨aQ,aR,aS,aT,aU,aV,aW⟩,aJ,bA⟩,⟨⟨aQ,aR,aS,aT,aU,aV,aW⟩,aJ,bB⟩,aO,aY,hV,gS,gT,⟨gU,gV,gW,gX,gY,gZ,hA⟩,A0w bD cO cP bC,A0w bS gN gO bR,A5x bJ bK aM,⟨aQ,aR,aS,aT,aU,aV,aW⟩,A0w bE cV cW aN,A0w bM gN gO bL,A5x bJ bK aK,B9t eW cV cW bN,B9t cQ bJ bK aM,B9t eW cV cW aN,B9t eX cO cP aX,B9t cQ bJ bK aK,Z0f X G hU,Z0f X G iK,Z0f X G jP,Z0f X G jQ,Z0f X G jR,Z0f X G iL,Z0f X G kY,Z0f X G iM,Z0f X G jS,Z0f X G kZ,Z0f X G gR,⟨iN,iO,iP,iQ⟩,⟨iR,iT,i9,iS⟩,dP,eY,dQ,cX,cY,⟨bZ,mJ,k10⟩,⟨iU,iH,iI,iV⟩,A5x bT bU cZ,A0w dS cR cS dR,A0w dU cT cU dT,A0w fC eZ fA fB,A0w dB bV bW dA,⟨lA,lB,lC,lD⟩,⟨lE,lG,mZ,lF⟩,fX,fY,fZ,⟨lH,iH,iI,lI⟩,gA,fD,gB,⟨hW,hX,hZ,iA⟩,⟨iB,iD,i2,iC⟩,cA,⟨iE,iH,iI,iF⟩,A0w cG bT bU cF,A0w dD cR cS dC,A0w dF cT cU dE,A0w dW eZ fA dV,A0w cI bV bW cH,⟨jT,jU,jV,jW⟩,⟨jX,jZ,mL,jY⟩,fE,fF,dG,⟨kA,iH,iI,kB⟩,⟨iW,iX,iY,iZ⟩,⟨jA,jC,i3,jB⟩,dX,⟨jD,iH,iI,jE⟩,A0w dI bT bU dH,A0w dZ cR cS dY,A0w eB cT cU eA,A0w fH eZ fA fG,A5x bV bW dJ,⟨kC,kD,kE,kF⟩,⟨kG,kI,i7,kH⟩,fI,eC,⟨kJ,iH,iI,kK⟩,A0w eE bT bU eD,A5x cR cS fJ,A0w fL cT cU fK,A0w gD eZ fA gC,A0w eG bV bW eF,⟨hB,hC,hD,hE⟩,⟨hF,hH,nB,hG⟩,cB,cJ,bX,cK,cL,⟨hI,iH,iI,hJ⟩,⟨kL,kM,kN,kO⟩,⟨kP,kR,i4,kQ⟩,eH,cM,⟨cN,i5,k5⟩,⟨kS,iH,iI,kT⟩,A0w eJ bT bU eI,A0w fN cR cS fM,A5x cT cU fO,A0w gF eZ fA gE,A0w eL bV bW eK,⟨lJ,lK,lL,lM⟩,⟨lN,lP,i8,lO⟩,gG,gH,⟨lQ,iH,iI,lR⟩,A0w fQ bT bU fP,A0w gJ cR cS gI,A0w gL cT cU gK,A5x eZ fA hK,A0w fS bV bW fR,⟨jF,jG,jH,jI⟩,⟨jJ,jL,i7,jK⟩,eM,dK,⟨jM,iH,iI,jN⟩,A0w dM bT bU dL,A5x cR cS eN,A0w eP cT cU eO,A0w fU eZ fA fT,A0w dO bV bW dN,Z1c X G fV,Z1c X G lS,Z1c X G kU,Z1c X G lT,Z1c X G kV,Z1c X G gM,Z1c X G lW,Z1c X G lX,Z1c X G lY,Z1c X G lZ,Z1c X G hL,Z1c X G lU,Z1c X G mA,Z1c X G fW⟩⟩
theorem walk {l:PySem.W.OpenLaw} {q:Program} {loose:List Str} {XP:(Str->Option Value)->Heap->Prop} {YP:World->Heap->Prop} {d:DefRec} {K:Params->PySem.W.Frag} (hn:l.most=some 63) (hdf:d.params.defaults=[])
  (hY:∀(w:World) (h:Heap),YP w h->(K w.params).In h)
  (F:∀(w:World) (mg:Str->Option Value) (fa:Addr) (h:Heap),(K w.params).In h->h.Ns mainGlobals mg->mg d.name=some (.ref fa)->
   ∃fd:FuncData,(∀(s:Shared) (u:Value),BindsTo s fd ⟨[u],[]⟩ [("_law_script",u)])/\∀base:Heap,(K w.params).In base->base.Ns mainGlobals mg->A2e l.prog w (K w.params) mg base CX0 19 fa fd ["_law_script"] (D0e (K w.params))) :
  PySem.W.WalkO q loose XP YP l.row.toRowW d [] (λf vs=>PySem.call f vs) :=
 L2.D4r (n:=63) (k:=19) (x:="_law_script") (CX:=λ_=>CX0) (sp:=λw=>D0e (K w.params)) hn (by decide) hdf ⟨rfl,by decide,by decide,rfl⟩ hY F (λ_ _ a ns hl _ hS=>⟨a,ns,rfl,hS,hl,λ_=>rfl⟩) λ_ _ _ _ _ z=>z
end My
local macro_rules | `(tactic| walk_at "kf") => `(tactic| (refine' My.D5w ?l ?c ?k; (case l => k_is); (case c => k_is); (case k => k_is)))
open PySem PySem.W PyProof.Rows
set_option maxRecDepth 100000 in
set_option maxHeartbeats 0 in
theorem PySem.Challenge.cw_arrayloom_k15_beyond_the_rim_holds : PySem.Challenge.rw_arrayloom_k15_beyond_the_rim.Holds := by
 w_on;o_law;k_head;(case hw=>w_witness2)
 k_fill
 refine My.walk (l:=PySem.Challenge.rw_arrayloom_k15_beyond_the_rim) rfl rfl (λw h Y=>PySem.W.kIn_of Y) ?F
 case F =>
  intro w mg fa h KX G hmg;refine' My.D7s KX G hmg ?eQ ?hR ?gP ?gQ ?eR ?hT ?lV ?hU ?iK ?jP ?jQ ?jR ?iL ?kY ?iM ?jS ?kZ ?gR ?a0 ?l0 ?i0 ?a1 ?l1 ?a2 ?l2 ?i2 ?a3 ?l3 ?i3 ?a4 ?l4 ?i4 ?a5 ?l5 ?i5 ?a6 ?l6 ?a7 ?l7 ?i7 ?a8 ?l8 ?i8 ?a9 ?l9 ?i9 ?sH ?mI ?mJ ?sI ?mK ?mL ?mM ?mN ?mO ?mP ?mQ ?mR ?mS ?mT ?mU ?mV ?mW ?mX ?sJ ?mY ?mZ ?sK ?nA ?nB ?nC ?nD ?nE ?nF ?nG ?nH ?nI ?nJ ?nK ?nL ?nM ?nN ?nO ?nP ?nQ ?nR ?nS ?nT ?nU ?nV ?nW ?nX ?nY ?nZ ?oA ?oB ?oC ?oD ?oE ?oF ?oG ?oH ?oI ?oJ ?oK ?oL ?oM ?oN ?oO ?oP ?oQ ?oR ?oS ?oT ?oU ?oV ?oW ?oX ?oY ?oZ ?pA ?pB ?pC ?pD ?pE ?pF ?pG ?pH ?pI ?pJ ?pK ?pL ?pM ?pN ?pO ?pP ?pQ ?pR ?pS ?pT ?pU ?pV ?pW ?pX ?pY ?pZ ?qA ?qB ?qC ?qD ?qE ?qF ?qG ?qH ?qI ?qJ ?mH ?mC ?cE ?eS ?bP ?bQ ?eT ?eU ?eV ?bH ?bI ?aJ ?aZ ?aP ?bA ?bB ?aO ?aY ?hV ?gS ?gT ?gU ?gV ?gW ?gX ?gY ?gZ ?hA ?cO ?cP ?bC ?bD ?gN ?gO ?bR ?bS ?bJ ?bK ?aM ?aQ ?aR ?aS ?aT ?aU ?aV ?aW ?cV ?cW ?aN ?bE ?bL ?bM ?aK ?bN ?eW ?cQ ?aX ?eX ?iN ?iO ?iP ?iQ ?iR ?iS ?iT ?dP ?eY ?dQ ?cX ?cY ?bZ ?iU ?iH ?iI ?iV ?bT ?bU ?cZ ?cR ?cS ?dR ?dS ?cT ?cU ?dT ?dU ?eZ ?fA ?fB ?fC ?bV ?bW ?dA ?dB ?lA ?lB ?lC ?lD ?lE ?lF ?lG ?fX ?fY ?fZ ?lH ?lI ?gA ?fD ?gB ?hW ?hX ?hZ ?iA ?iB ?iC ?iD ?cA ?iE ?iF ?cF ?cG ?dC ?dD ?dE ?dF ?dV ?dW ?cH ?cI ?jT ?jU ?jV ?jW ?jX ?jY ?jZ ?fE ?fF ?dG ?kA ?kB ?iW ?iX ?iY ?iZ ?jA ?jB ?jC ?dX ?jD ?jE ?dH ?dI ?dY ?dZ ?eA ?eB ?fG ?fH ?dJ ?kC ?kD ?kE ?kF ?kG ?kH ?kI ?fI ?eC ?kJ ?kK ?eD ?eE ?fJ ?fK ?fL ?gC ?gD ?eF ?eG ?hB ?hC ?hD ?hE ?hF ?hG ?hH ?cB ?cJ ?bX ?cK ?cL ?hI ?hJ ?kL ?kM ?kN ?kO ?kP ?kQ ?kR ?eH ?cM ?cN ?kS ?kT ?eI ?eJ ?fM ?fN ?fO ?gE ?gF ?eK ?eL ?lJ ?lK ?lL ?lM ?lN ?lO ?lP ?gG ?gH ?lQ ?lR ?fP ?fQ ?gI ?gJ ?gK ?gL ?hK ?fR ?fS ?jF ?jG ?jH ?jI ?jJ ?jK ?jL ?eM ?dK ?jM ?jN ?dL ?dM ?eN ?eO ?eP ?fT ?fU ?dN ?dO ?fV ?lS ?kU ?lT ?kV ?gM ?lW ?lX ?lY ?lZ ?hL ?lU ?mA ?fW
  (case eQ | hR | gP | gQ | eR | hT | lV | hU | iK | jP | jQ=>k_is)
  (case jR | iL | kY | iM | jS | kZ | gR=>k_is)
  (case a0=>k_is);(case l0=>walk_at "kf")
  (case i0=>k_is)
  (case a1=>k_is);(case l1=>walk_at "kf")
  (case a2=>k_is);(case l2=>walk_at "kf")
  (case i2=>k_is)
  (case a3=>k_is);(case l3=>walk_at "kf")
  (case i3=>k_is)
  (case a4=>k_is);(case l4=>walk_at "kf")
  (case i4=>k_is)
  (case a5=>k_is);(case l5=>walk_at "kf")
  (case i5=>k_is)
  (case a6=>k_is);(case l6=>walk_at "kf")
  (case a7=>k_is);(case l7=>walk_at "kf")
  (case i7=>k_is)
  (case a8=>k_is);(case l8=>walk_at "kf")
  (case i8=>k_is)
  (case a9=>k_is);(case l9=>walk_at "kf")
  (case i9=>k_is)
  (case sH=>k_is);(case mI=>walk_at "kf")
  (case mJ=>k_is)
  (case sI=>k_is);(case mK=>walk_at "kf")
  (case mL=>k_is)
  (case mM=>k_is);(case mN=>walk_at "kf")
  (case mO=>k_is);(case mP=>walk_at "kf")
  (case mQ=>k_is);(case mR=>walk_at "kf")
  (case mS=>k_is);(case mT=>walk_at "kf")
  (case mU=>k_is);(case mV=>walk_at "kf")
  (case mW=>k_is);(case mX=>walk_at "kf")
  (case sJ=>k_is);(case mY=>walk_at "kf")
  (case mZ=>k_is)
  (case sK=>k_is);(case nA=>walk_at "kf")
  (case nB=>k_is)
  (case nC=>k_is);(case nD=>walk_at "kf")
  (case nE=>k_is);(case nF=>walk_at "kf")
  (case nG=>k_is);(case nH=>walk_at "kf")
  (case nI=>k_is);(case nJ=>walk_at "kf")
  (case nK=>k_is);(case nL=>walk_at "kf")
  (case nM=>k_is);(case nN=>walk_at "kf")
  (case nO=>k_is);(case nP=>walk_at "kf")
  (case nQ=>k_is);(case nR=>walk_at "kf")
  (case nS=>k_is);(case nT=>walk_at "kf")
  (case nU=>k_is);(case nV=>walk_at "kf")
  (case nW=>k_is);(case nX=>walk_at "kf")
  (case nY=>k_is);(case nZ=>walk_at "kf")
  (case oA=>k_is);(case oB=>walk_at "kf")
  (case oC=>k_is);(case oD=>walk_at "kf")
  (case oE=>k_is);(case oF=>walk_at "kf")
  (case oG=>k_is);(case oH=>walk_at "kf")
  (case oI=>k_is);(case oJ=>walk_at "kf")
  (case oK=>k_is);(case oL=>walk_at "kf")
  (case oM=>k_is);(case oN=>walk_at "kf")
  (case oO=>k_is);(case oP=>walk_at "kf")
  (case oQ=>k_is);(case oR=>walk_at "kf")
  (case oS=>k_is);(case oT=>walk_at "kf")
  (case oU=>k_is);(case oV=>walk_at "kf")
  (case oW=>k_is);(case oX=>walk_at "kf")
  (case oY=>k_is);(case oZ=>walk_at "kf")
  (case pA=>k_is);(case pB=>walk_at "kf")
  (case pC=>k_is);(case pD=>walk_at "kf")
  (case pE=>k_is);(case pF=>walk_at "kf")
  (case pG=>k_is);(case pH=>walk_at "kf")
  (case pI=>k_is);(case pJ=>walk_at "kf")
  (case pK=>k_is);(case pL=>walk_at "kf")
  (case pM=>k_is);(case pN=>walk_at "kf")
  (case pO=>k_is);(case pP=>walk_at "kf")
  (case pQ=>k_is);(case pR=>walk_at "kf")
  (case pS=>k_is);(case pT=>walk_at "kf")
  (case pU=>k_is);(case pV=>walk_at "kf")
  (case pW=>k_is);(case pX=>walk_at "kf")
  (case pY=>k_is);(case pZ=>walk_at "kf")
  (case qA=>k_is);(case qB=>walk_at "kf")
  (case qC=>k_is);(case qD=>walk_at "kf")
  (case qE=>k_is);(case qF=>walk_at "kf")
  (case qG=>k_is);(case qH=>walk_at "kf")
  (case qI=>k_is);(case qJ=>walk_at "kf")
  (case mH=>k_is);(case mC=>walk_at "kf")
  (case cE | eS | bP | bQ | eT=>k_is)
  (case eU=>first | kernel_rfl | rfl | decide | k_is)
  (case eV | bH=>k_is)
  (case bI | aJ=>first | kernel_rfl | rfl | decide | k_is)
  (case aZ | aP | bA | bB | aO | aY=>k_is)
  (case hV | gS | gT=>k_exc)
  (case gU | gV | gW | gX | gY | gZ | hA | cO | cP | bC=>k_is)
  (case bD=>first | rfl | decide)
  (case gN | gO | bR=>k_is)
  (case bS=>first | rfl | decide)
  (case bJ | bK | aM | aQ | aR | aS | aT | aU | aV | aW | cV=>k_is)
  (case cW | aN=>k_is)
  (case bE=>first | rfl | decide)
  (case bL=>k_is)
  (case bM=>first | rfl | decide)
  (case aK | bN | eW | cQ | aX | eX | iN | iO | iP | iQ | iR=>k_is)
  (case iS | iT | dP | eY | dQ | cX | cY | bZ | iU | iH | iI=>k_is)
  (case iV | bT | bU | cZ | cR | cS | dR=>k_is)
  (case dS=>first | rfl | decide)
  (case cT | cU | dT=>k_is)
  (case dU=>first | rfl | decide)
  (case eZ | fA | fB=>k_is)
  (case fC=>first | rfl | decide)
  (case bV | bW | dA=>k_is)
  (case dB=>first | rfl | decide)
  (case lA | lB | lC | lD | lE | lF | lG | fX | fY | fZ | lH=>k_is)
  (case lI | gA | fD | gB | hW | hX | hZ | iA | iB | iC | iD=>k_is)
  (case cA | iE | iF | cF=>k_is)
  (case cG=>first | rfl | decide)
  (case dC=>k_is)
  (case dD=>first | rfl | decide)
  (case dE=>k_is)
  (case dF=>first | rfl | decide)
  (case dV=>k_is)
  (case dW=>first | rfl | decide)
  (case cH=>k_is)
  (case cI=>first | rfl | decide)
  (case jT | jU | jV | jW | jX | jY | jZ | fE | fF | dG | kA=>k_is)
  (case kB | iW | iX | iY | iZ | jA | jB | jC | dX | jD | jE=>k_is)
  (case dH=>k_is)
  (case dI=>first | rfl | decide)
  (case dY=>k_is)
  (case dZ=>first | rfl | decide)
  (case eA=>k_is)
  (case eB=>first | rfl | decide)
  (case fG=>k_is)
  (case fH=>first | rfl | decide)
  (case dJ | kC | kD | kE | kF | kG | kH | kI | fI | eC | kJ=>k_is)
  (case kK | eD=>k_is)
  (case eE=>first | rfl | decide)
  (case fJ | fK=>k_is)
  (case fL=>first | rfl | decide)
  (case gC=>k_is)
  (case gD=>first | rfl | decide)
  (case eF=>k_is)
  (case eG=>first | rfl | decide)
  (case hB | hC | hD | hE | hF | hG | hH | cB | cJ | bX | cK=>k_is)
  (case cL | hI | hJ | kL | kM | kN | kO | kP | kQ | kR | eH=>k_is)
  (case cM | cN | kS | kT | eI=>k_is)
  (case eJ=>first | rfl | decide)
  (case fM=>k_is)
  (case fN=>first | rfl | decide)
  (case fO | gE=>k_is)
  (case gF=>first | rfl | decide)
  (case eK=>k_is)
  (case eL=>first | rfl | decide)
  (case lJ | lK | lL | lM | lN | lO | lP | gG | gH | lQ | lR=>k_is)
  (case fP=>k_is)
  (case fQ=>first | rfl | decide)
  (case gI=>k_is)
  (case gJ=>first | rfl | decide)
  (case gK=>k_is)
  (case gL=>first | rfl | decide)
  (case hK | fR=>k_is)
  (case fS=>first | rfl | decide)
  (case jF | jG | jH | jI | jJ | jK | jL | eM | dK | jM | jN=>k_is)
  (case dL=>k_is)
  (case dM=>first | rfl | decide)
  (case eN | eO=>k_is)
  (case eP=>first | rfl | decide)
  (case fT=>k_is)
  (case fU=>first | rfl | decide)
  (case dN=>k_is)
  (case dO=>first | rfl | decide)
  (case fV | lS | kU | lT | kV | gM | lW | lX | lY | lZ | hL=>k_is)
  (case lU | mA | fW=>k_is)
