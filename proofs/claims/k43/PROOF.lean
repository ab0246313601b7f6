import PyProof.Rows.All
import Wide.All
import OpenK.AllK
import Wide.FinOn
import Lean
import PyProof.EqAt
import PyProof.EqKinds
import PyProof.TupleCall
import KE.KDictLaws
import KE.KDictList
import KE.KDictOf
import KE.KEqDict
import KE.KIntText
import KE.KSortTup
import KE.KTabLook
import KE.KTryMore
import KE.KUnpack
import PyProof.AttrMissHeap
import PyProof.AutoListH
import PyProof.CompUse
import PyProof.ConsumeWalk
import PyProof.Conv_int_bool
import PyProof.DictItems
import PyProof.DictValues
import PyProof.DictWalks
import PyProof.Draws
import PyProof.EnumFor
import PyProof.EnumMake
import PyProof.EnumStmt
import PyProof.ExcClass3
import PyProof.ExcInit
import PyProof.FString4
import PyProof.FString5
import PyProof.FactsAll.list_3
import PyProof.FactsAll.set
import PyProof.FactsAll.subtypes_5
import PyProof.FactsAll.zip
import PyProof.NeKinds
import PyProof.P3Eq
import PyProof.RangeIter
import PyProof.ReprHeads
import PyProof.ReprLen
import PyProof.Rows.SeqMore2
import PyProof.Rows.SetFrom
import PyProof.Rows.SortRuns
import PyProof.Rows.SortRunsK
import PyProof.Rows.StrInSeq3
import PyProof.Rows.StrNews
import PyProof.Rows.StrNews2
import PyProof.Rows.TupIter
import PyProof.SetRoads
import PyProof.StrLawsRepr
import PyProof.StrWalks
import PyProof.SumAny
import PyProof.TupleKey
import PyProof.WalkInts
import PyProof.Walks
import PySem.Challenge.RW_arrayloom_k43_the_order_of_a_nest
set_option compiler.extract_closed false
section
open PySem PySem.Spec PyProof.Rows PySem.Calls
abbrev Z00:=@wpAny_bind
abbrev Z01:=@Heap.get?_push_of_some
abbrev Z02:=@List.mem_append_right
abbrev Z03:=@List.getElem?_eq_some_iff
abbrev Z04:=@wpAny_pure
abbrev Z05:=@List.mem_append_left
abbrev Z06:=@List.length_append
abbrev Z07:=@List.mem_append
abbrev Z08:=@List.length_map
abbrev Z09:=@Nat.le_refl
abbrev Z0a:=@Heap.lt_size
abbrev Z0b:=@List.getElem?_eq_getElem
abbrev Z0c:=@Heap.get?_push_size
abbrev Z0d:=@PyProof.Rows.boot_isinstance
abbrev Z0e:=@List.mem_cons
abbrev Z0f:=@PySem.W.mg_of
abbrev Z0g:=@List.size_toArray
abbrev Z0h:=@Nat.ne_of_lt
abbrev Z0i:=@Option.map_eq_some_iff
abbrev Z0k:=@PySem.F.plainAttrs_list
abbrev Z0l:=@List.nodup_append
abbrev Z0m:=@PyProof.Rows.boot_tuple
abbrev Z0n:=@PySem.F.slot_list_append
abbrev Z0o:=@PySem.F.type_list_append
abbrev Z0p:=@List.map_cons
abbrev Z0q:=@Nat.lt_of_lt_of_le
abbrev Z0r:=@PySem.boot_len
abbrev Z0s:=@List.map_append
abbrev Z0t:=@if_neg
abbrev Z0u:=@List.append_nil
abbrev Z0v:=@Bool.false_ne_true
abbrev Z0w:=@List.mem_singleton
abbrev Z0x:=@List.length_take
abbrev Z0y:=@List.length_cons
abbrev Z0z:=@List.append_assoc
abbrev Z10:=@wpAny_mono
abbrev Z12:=@if_pos
abbrev Z13:=@List.mem_of_getElem?
abbrev Z14:=@List.take_add_one
abbrev Z15:=@List.nodup_cons
abbrev Z16:=@wpAny_newObj_type
abbrev Z17:=@List.cons_append
abbrev Z18:=@List.take_length
abbrev Z19:=@List.length_drop
abbrev Z1a:=@Option.some.inj
abbrev Z1c:=@PySem.W.mg_none_of
abbrev Z1e:=@Nat.zero_le
abbrev Z1f:=@List.mem_cons_of_mem
abbrev Z1j:=@decide_eq_false
abbrev Z1l:=@List.getElem?_append_right
abbrev Z1m:=@Array.getElem?_eq_some_iff
abbrev Z1n:=@Nat.le_trans
abbrev Z1p:=@Int.emod_lt_of_pos
abbrev Z1q:=@Nat.ne_of_gt
abbrev Z1v:=@Int.emod_nonneg
abbrev Z1w:=@wpAny_holding
abbrev Z1x:=@Bool.and_eq_true
abbrev Z1z:=@List.getElem?_map
abbrev Z20:=@decide_eq_true
abbrev Z23:=@List.getElem?_set_self
abbrev Z26:=@List.getElem?_append_left
abbrev Z27:=@List.mem_cons_self
abbrev Z28:=@List.lookup_cons
abbrev Z29:=@Int.mul_le_mul_of_nonneg_left
abbrev Z2a:=@List.getElem?_set_ne
abbrev Z2b:=@wpAny_execs_nil
abbrev Z2c:=@List.mem_map
abbrev Z2e:=@List.take_append_drop
abbrev Z2f:=@Option.toList_some
abbrev Z2g:=@List.length_nil
abbrev Z2h:=@List.find?_cons
abbrev Z2k:=@PyProof.Rows.slot_tuple_getitem
abbrev Z2l:=@List.take_of_length_le
abbrev Z2m:=@List.getElem?_zip_eq_some
abbrev Z2n:=@List.length_eq_zero_iff
abbrev Z2p:=@List.mem_of_mem_take
end
noncomputable section
open PySem.W (Frag findIn nsIn mroIn kitOne keepIn typeIn hideAll isFn plainGet isClsIn hasDictIn exmOne plainOver makesIn clsIn fnOf emptyDict instObj excIn kitAny takesIn specialIn subIn codeIn)
set_option Elab.async false
set_option bootstrap.genMatcherCode false
set_option linter.all false
set_option maxRecDepth 100000
set_option maxHeartbeats 4000000
namespace L2
open PySem PySem.Spec PyProof.Rows
abbrev Key:=Sum Int Str
def B1o:Key->Value->Bool
 | .inl k,v=>Value.isInt k v
 | .inr x,v=>Value.isStrOf x v
def keyH (w:World):Key->Int
 | .inl k=>hashInt k
 | .inr x=>hashStr w x
theorem A1c:∀{k:Key} {v:Value},B1o k v=true->(∃i t,k=Sum.inl i/\v=Value.int i t)\/(∃x t,k=Sum.inr x/\v=Value.str x t)
 | .inl i,v,h=>by
  obtain ⟨t,e⟩:=Value.isInt_shape (k:=i) (v:=v) h;exact .inl ⟨i,t,rfl,e⟩
 | .inr x,v,h=>by
  obtain ⟨t,e⟩:=Value.isStrOf_shape (x:=x) (v:=v) h;exact .inr ⟨x,t,rfl,e⟩
theorem B2j (i:Int) (t:Tok):B1o (.inl i) (.int i t)=true:=by simp [B1o,Value.isInt]
theorem B4j (x:Str) (t:Tok):B1o (.inr x) (.str x t)=true:=by simp [B1o,Value.isStrOf]
theorem B8u (a b:Int):decide ((Sum.inl a:Key)=Sum.inl b)=(a == b):=by
 by_cases e:a=b
 ·subst e;simp
 ·have h:¬(Sum.inl a:Key)=Sum.inl b:=λq=>e (Sum.inl.inj q);rw [Z1j h];exact (beq_eq_false_iff_ne.mpr e).symm
theorem B9e (a b:Str):decide ((Sum.inr a:Key)=Sum.inr b)=decide (a=b):=by
 by_cases e:a=b
 ·subst e;simp
 ·have h:¬(Sum.inr a:Key)=Sum.inr b:=λq=>e (Sum.inr.inj q);rw [Z1j h,Z1j e]
theorem B8p (a:Int) (b:Str):decide ((Sum.inl a:Key)=Sum.inr b)=false:=Z1j (λq=>nomatch q)
theorem B8j (a:Str) (b:Int):decide ((Sum.inr a:Key)=Sum.inl b)=false:=Z1j (λq=>nomatch q)
def A1y (prog:Program) (w:World):PySem.KeyKind prog w Key where
 is:=B1o
 hash:=keyH w
 inj:=λv a b ha hb=>by
  rcases A1c ha with ⟨i,t,rfl,rfl⟩ | ⟨x,t,rfl,rfl⟩
  ·rcases A1c hb with ⟨j,u,rfl,e⟩ | ⟨y,u,rfl,e⟩
   ·injection e with e1 _;rw [e1]
   ·exact nomatch e
  ·rcases A1c hb with ⟨j,u,rfl,e⟩ | ⟨y,u,rfl,e⟩
   ·exact nomatch e
   ·injection e with e1 _;rw [e1]
 byValue:=λk v h=>by
  rcases A1c h with ⟨i,t,rfl,rfl⟩ | ⟨x,t,rfl,rfl⟩ <;> rfl
 pyHash:=λhv h=>by
  rcases A1c hv with ⟨i,t,rfl,rfl⟩ | ⟨x,t,rfl,rfl⟩
  ·exact wpAny_pyHash_int h
  ·exact wpAny_pyHash_str h
 eqBool:=λhu hv h=>by
  rcases A1c hu with ⟨i,t,rfl,rfl⟩ | ⟨x,t,rfl,rfl⟩
  ·rcases A1c hv with ⟨j,u,rfl,rfl⟩ | ⟨y,u,rfl,rfl⟩
   ·rw [B8u] at h;exact wpAny_eqBool_int h
   ·rw [B8p] at h;exact SeqAt.EqAt.int_str i t y u _ _ _ _ h
  ·rcases A1c hv with ⟨j,u,rfl,rfl⟩ | ⟨y,u,rfl,rfl⟩
   ·rw [B8j] at h;exact SeqAt.EqAt.str_int x t j u _ _ _ _ h
   ·rw [B9e] at h;exact wpAny_eqBool_str h
 «strs»:=λk x t v h=>by
  rcases A1c h with ⟨i,u,rfl,e⟩ | ⟨y,u,rfl,e⟩
  ·exact nomatch e
  ·injection e with e1 _;subst e1;cases v <;> rfl
theorem A9t (prog:Program) (w:World) (i:Int) (t:Tok):(A1y prog w).is (.inl i) (.int i t)=true:=B2j i t
theorem A9n (prog:Program) (w:World) (x:Str) (t:Tok):(A1y prog w).is (.inr x) (.str x t)=true:=B4j x t
inductive V where
 | non | bl (b:Bool) | int (i:Int) | str (x:Str) | byt (b:Array UInt8) | flt (b:UInt64) | ref (a:Addr) | ty (n:String)
 deriving DecidableEq
def A2a:V->Value->Prop
 | .non,u=>u=Value.none
 | .bl b,u=>u=Value.bool b
 | .int i,u=>∃t,u=Value.int i t
 | .str x,u=>∃t,u=Value.str x t
 | .byt b,u=>∃t,u=Value.bytes b t
 | .flt b,u=>∃t,u=Value.float b t
 | .ref a,u=>u=Value.ref a
 | .ty n,u=>u=Value.type n
abbrev A1u:List V->List Value->Prop:=Paired A2a
theorem A1u.length {xs:List V} {us:List Value} (r:A1u xs us):xs.length=us.length:=Paired.length r
theorem A1u.get:∀{xs:List V} {us:List Value} {i:Nat} {x:V},A1u xs us->xs[i]? =some x->∃u,us[i]? =some u/\A2a x u
 | _,_,_,_,.nil,e=>by simp at e
 | _,_,0,_,.cons r _,e=>by simp at e;subst e;exact ⟨_,rfl,r⟩
 | _,_,i+1,x,.cons _ t,e=>by
  obtain ⟨u,h1,h2⟩:=A1u.get (i:=i) (x:=x) t (by simpa using e);exact ⟨u,by simpa using h1,h2⟩
theorem A1u.append:∀{xs ys:List V} {us ws:List Value},A1u xs us->A1u ys ws->A1u (xs++ys) (us++ws)
 | _,_,_,_,.nil,s=>s
 | _,_,_,_,.cons r t,s=> .cons r (A1u.append t s)
theorem A1u.take:∀{xs:List V} {us:List Value} (n:Nat),A1u xs us->A1u (xs.take n) (us.take n)
 | _,_,0,_=> .nil
 | _,_,_+1,.nil=> .nil
 | _,_,n+1,.cons r t=> .cons r (A1u.take n t)
theorem A1u.drop:∀{xs:List V} {us:List Value} (n:Nat),A1u xs us->A1u (xs.drop n) (us.drop n)
 | _,_,0,r=>r
 | _,_,_+1,.nil=> .nil
 | _,_,n+1,.cons _ t=>A1u.drop n t
def B2h:Option V->Option Value->Prop
 | some v,some u=>A2a v u
 | none,none=>True
 | _,_=>False
def KV {κ:Type}:List (κ×V)->List (κ×Value)->Prop:=Paired λ(p:κ×V) (q:κ×Value)=>p.1=q.1/\A2a p.2 q.2
def kV:Key->V
 | .inl i=> .int i
 | .inr x=> .str x
inductive HO where
 | lst (xs:List V)
 | tup (xs:List V)
 | dK (kvs:List (Key×V)) | dT (kvs:List (List Key×V))
 | set (S:Int->Bool) (n:Nat)
 | ins (C dx:Addr) (fs:List (Str×V))
 | own (x:Addr)
 | xd (fs:List (Str×V))
 | met (f x:Addr)
 | rng (lo hi:Int)
 | frz (o:Obj) (u:HO)
 | tbl (ps:Array Value)
 | ext (φ:Heap->Prop)
abbrev Hp:=Addr->Option HO
def upd (H:Hp) (a:Addr) (o:HO):Hp:=λb=>if b=a then some o else H b
theorem A0g {H:Hp} {a:Addr} {o:HO}:upd H a o a=some o:=by unfold upd;rw [Z12 rfl]
theorem A0l {H:Hp} {a b:Addr} {o:HO} (h:b≠a):upd H a o b=H b:=by unfold upd;rw [Z0t h]
theorem A9m {H:Hp} {a b:Addr} {o u:HO} (h:H a=some o) (h':H b=some u) (d:o≠u):a≠b:=by
 intro e;subst e;rw [h] at h';exact d (Z1a h')
theorem A0c {H:Hp} {a b:Addr} {o:HO} (h:H a=some o) (h':H b=none):a≠b:=by
 intro e;subst e;rw [h] at h';cases h'
section
variable (P:Program) (w:World)
def A1w (H:Hp) (h:Heap) (a:Addr):HO->Prop
 | .lst xs=>xs.length<=sizeLine/\∃(its:List Value) (n:Nat),A1u xs its/\h.get? a=some { cls:= .type "list",data:= .seq its.toArray n }
 | .tup xs=>xs.length<=sizeLine/\∃its:List Value,A1u xs its/\IsTup h a its.toArray
 | .dK kvs=>kvs.length<=sizeLine/\(a == sysModules)=false/\∃vs,KV kvs vs/\h.DictOf (A1y P w) a vs
 | .dT kvs=>kvs.length<=sizeLine/\(a == sysModules)=false/\∃xs:List (List Key×Addr×Value),
   Paired (λ(p:List Key×V) (q:List Key×Addr×Value)=>p.1=q.1/\H q.2.1=some (.tup (p.1.map kV))/\A2a p.2 q.2.2) kvs xs/\
   ∃o es ep,h.get? a=some o/\o.ExactDict/\o.data= .dict es ep/\es.toList=xs.map (entryOfKey (tupleKind (A1y P w)))/\(xs.map (·.1)).Nodup
 | .set S n=>h.SetOf (intKind P w) a S n
 | .ins C dx fs=>H dx=some (.own a)/\fs.length<=1000/\dx≠a/\h.get? a=some (instObj C dx)/\
   ∃mA,h.Ns1 dx mA/\(∀f,B2h (fs.lookup f) (mA f))/\PySem.Within mA (fs.map (·.1))
 | .own _=>∃o,h.get? a=some o
 | .xd fs=>∃mA,h.Ns1 a mA/\∀f,B2h (fs.lookup f) (mA f)
 | .rng lo hi=>∃t u v,h.get? a=some { cls:= .type "range",data:= .fields #[.int lo t,.int hi u,.int 1 v] }
 | .frz o u=>h.get? a=some o/\A1w H h a u
 | .tbl ps=>h.get? a=some { cls:= .none,data:= .fields ps }
 | .met f x=>h.get? a=some (PySem.W.methodObj (.ref f) (.ref x))
 | .ext φ=>φ h/\(∃o,h.get? a=some o)/\∀h1 h2:Heap,φ h1->(∀o,h1.get? a=some o->h2.get? a=some o)->φ h2
def HOk (H:Hp) (h:Heap):Prop:=∀a o,H a=some o->A1w P w H h a o
end
section
variable {P:Program} {w:World} {H H':Hp} {h h':Heap} {a:Addr} {o:HO}
theorem A1w.lt (x:A1w P w H h a o):a<h.objs.size:=by
 cases o with
 | lst xs=>obtain ⟨_,_,_,_,e⟩:=x;exact Z0a e
 | tup xs=>obtain ⟨_,_,_,p⟩:=x;exact p.lt
 | dK kvs=>obtain ⟨_,_,_,_,o,_,_,e,_⟩:=x;exact Z0a e
 | dT kvs=>obtain ⟨_,_,_,_,o,_,_,e,_⟩:=x;exact Z0a e
 | set S n=>obtain ⟨o,_,_,_,e,_⟩:=x;exact Z0a e
 | ins C dx fs=>obtain ⟨_,_,_,e,_⟩:=x;exact Z0a e
 | own y=>obtain ⟨_,e⟩:=x;exact Z0a e
 | xd fs=>obtain ⟨_,⟨_,_,_,e,_⟩,_⟩:=x;exact Z0a e
 | rng lo hi=>obtain ⟨_,_,_,e⟩:=x;exact Z0a e
 | frz ob u=>obtain ⟨e,_⟩:=x;exact Z0a e
 | tbl ps=>exact Z0a (show h.get? a=some _ from x)
 | met f y=>exact Z0a (show h.get? a=some _ from x)
 | ext φ=>obtain ⟨_,⟨_,e⟩,_⟩:=x;exact Z0a e
theorem Paired.mapP {α β:Type} {F G:α->β->Prop}:∀{l₁:List α} {l₂:List β},Paired F l₁ l₂->(∀a b,F a b->G a b)->Paired G l₁ l₂
 | _,_,.nil,_=> .nil
 | _,_,.cons r t,f=> .cons (f _ _ r) (Paired.mapP t f)
theorem A1w.stay (x:A1w P w H h a o) (k:∀b u,(b=a\/H b=some (.own a))->h.get? b=some u->h'.get? b=some u)
  (ho:∀b,H b=some (.own a)->H' b=some (.own a)) (ht:∀b xs,H b=some (.tup xs)->H' b=some (.tup xs)):A1w P w H' h' a o:=by
 induction o with
 | lst xs=>obtain ⟨z,its,n,r,e⟩:=x;exact ⟨z,its,n,r,k _ _ (.inl rfl) e⟩
 | tup xs=>obtain ⟨z,its,r,ob,e,c⟩:=x;exact ⟨z,its,r,ob,k _ _ (.inl rfl) e,c⟩
 | dK kvs=>obtain ⟨z,y,vs,r,ob,es,ep,e,c⟩:=x;exact ⟨z,y,vs,r,ob,es,ep,k _ _ (.inl rfl) e,c⟩
 | dT kvs =>
  obtain ⟨z,y,xs,r,ob,es,ep,e,c⟩:=x;exact ⟨z,y,xs,Paired.mapP r λp q z=>⟨z.1,ht _ _ z.2.1,z.2.2⟩,ob,es,ep,k _ _ (.inl rfl) e,c⟩
 | set S n=>obtain ⟨ob,es,ep,t,e,c⟩:=x;exact ⟨ob,es,ep,t,k _ _ (.inl rfl) e,c⟩
 | ins C dx fs =>
  obtain ⟨d,z,ne,e,mA,⟨od,es,ep,e2,c⟩,r⟩:=x;exact ⟨ho _ d,z,ne,k _ _ (.inl rfl) e,mA,⟨od,es,ep,k _ _ (.inr d) e2,c⟩,r⟩
 | own y=>obtain ⟨ob,e⟩:=x;exact ⟨ob,k _ _ (.inl rfl) e⟩
 | xd fs=>obtain ⟨mA,⟨od,es,ep,e,c⟩,r⟩:=x;exact ⟨mA,⟨od,es,ep,k _ _ (.inl rfl) e,c⟩,r⟩
 | rng lo hi=>obtain ⟨t,u,v,e⟩:=x;exact ⟨t,u,v,k _ _ (.inl rfl) e⟩
 | frz ob u ih=>obtain ⟨e,q⟩:=x;exact ⟨k _ _ (.inl rfl) e,ih q⟩
 | tbl ps =>
  have e:h.get? a=some { cls:= .none,data:= .fields ps }:=x;show h'.get? a=some { cls:= .none,data:= .fields ps };exact k a _ (.inl rfl) e
 | met f y =>
  have e:h.get? a=some (PySem.W.methodObj (.ref f) (.ref y)):=x;show h'.get? a=some (PySem.W.methodObj (.ref f) (.ref y));exact k a _ (.inl rfl) e
 | ext φ=>obtain ⟨p,⟨o,e⟩,st⟩:=x;exact ⟨st _ _ p λo q=>k _ _ (.inl rfl) q,⟨o,k _ _ (.inl rfl) e⟩,st⟩
theorem HOk.lt (x:HOk P w H h) (e:H a=some o):a<h.objs.size:=(x a o e).lt
theorem HOk.fresh (x:HOk P w H h) (e:h.objs.size<=a):H a=none:=by
 cases q:H a with
 | none=>rfl
 | some u=>exact absurd (Z0q (x.lt q) e) (Nat.lt_irrefl _)
theorem HOk.kept (x:HOk P w H h) (k:∀b u,h.get? b=some u->h'.get? b=some u):HOk P w H h':=λa o e =>
 (x a o e).stay (λb u _ q=>k b u q) (λ_ q=>q) λ_ _ q=>q
theorem HOk.laid (x:HOk P w H h) (k:∀b u,h.get? b=some u->h'.get? b=some u) (hp:h.objs.size<=a) (new:A1w P w (upd H a o) h' a o):HOk P w (upd H a o) h':=λb u e=>by
 have hn:=x.fresh hp;by_cases hb:b=a
 ·subst hb;rw [A0g] at e;cases e;exact new
 ·rw [A0l hb] at e;exact (x b u e).stay (λc v _ q=>k c v q) (λc q=>by rw [A0l (A0c q hn)];exact q) λc xs q=>by rw [A0l (A0c q hn)];exact q
end
def Rd (H:Hp) (a:Addr) (u:HO):Prop:=H a=some u\/∃o,H a=some (.frz o u)
theorem Rd.ok {P:Program} {w:World} {H:Hp} {h:Heap} {a:Addr} {u:HO} (r:Rd H a u) (x:HOk P w H h):A1w P w H h a u:=by
 rcases r with r | ⟨o,r⟩
 ·exact x a u r
 ·obtain ⟨_,q⟩:=x a _ r;exact q
def Mut:Option HO->Prop
 | some (.lst _)=>True
 | some (.dK _)=>True
 | some (.dT _)=>True
 | some (.set _ _)=>True
 | some (.ins _ _ _)=>True
 | some (.ext _)=>True
 | _=>False
section
variable {P:Program} {w:World} {H:Hp} {h h':Heap} {x e:Addr} {o':HO}
theorem HOk.write (ok:HOk P w H h) (mu:Mut (H x)) (he:e=x\/H e=some (.own x)) (k:∀b u,b≠e->h.get? b=some u->h'.get? b=some u) (heo:∃u,h'.get? e=some u)
  (new:A1w P w (upd H x o') h' x o'):HOk P w (upd H x o') h':=λb u q=>by
 have nown:∀c y,H c=some (.own y)->c≠x:=λc y r z=>by subst z;rw [r] at mu;exact mu
 have ntup:∀c xs,H c=some (.tup xs)->c≠x:=λc xs r z=>by subst z;rw [r] at mu;exact mu
 by_cases hb:b=x
 ·subst hb;rw [A0g] at q;cases q;exact new
 ·rw [A0l hb] at q;by_cases hbe:b=e
  ·have q':H b=some (.own x):=by
    rcases he with z | z
    ·exact absurd (hbe.trans z) hb
    ·rw [hbe];exact z
   rw [q] at q';cases q';obtain ⟨v,hv⟩:=heo;exact ⟨v,by rw [hbe];exact hv⟩
  ·refine (ok b u q).stay (λc v hc r=>k c v ?_ r) (λc r=>by rw [A0l (nown c b r)];exact r) λc xs r=>by rw [A0l (ntup c xs r)];exact r
   rcases hc with rfl | hc
   ·exact hbe
   ·rintro rfl;rcases he with z | z
    ·exact nown c b hc z
    ·rw [hc] at z;cases z;exact hb rfl
end
structure Un (fs ex:List Addr) (H H':Hp) (h h':Heap):Prop where
 keep:∀b o,h.get? b=some o->H b=none->b∉fs->b∉ex->h'.get? b=some o
 slot:∀b o,h.get? b=some o->H b=none->b∈fs->b∉ex->∃sl,h'.get? b=some { o with slots:=sl }
 free:∀b o,h.get? b=some o->H b=none->b∉ex->H' b=none
 there:∀b o,h.get? b=some o->b∉ex->∃o',h'.get? b=some o'
 tups:∀b xs,H b=some (.tup xs)->H' b=some (.tup xs)
 frzs:∀b o u,H b=some (.frz o u)->H' b=some (.frz o u)
 tbls:∀b ps,H b=some (.tbl ps)->∃more,H' b=some (.tbl (ps++more))
section
variable {fs fs' ex ex':List Addr} {H H1 H2:Hp} {h h1 h2 h':Heap} {a x e:Addr} {o:HO}
theorem Un.any (u:Un fs ex H H1 h h1) {b:Addr} {ob:Obj} (q:h.get? b=some ob) (n:H b=none) (hx:b∉ex):∃sl,h1.get? b=some { ob with slots:=sl }:=by
 by_cases hb:b∈fs
 ·exact u.slot b ob q n hb hx
 ·exact ⟨ob.slots,u.keep b ob q n hb hx⟩
theorem Un.kept (k:∀b u,h.get? b=some u->h'.get? b=some u):Un fs ex H H h h' :=
 ⟨λb ob q _ _ _=>k b ob q,λb ob q _ _ _=>⟨ob.slots,k b ob q⟩,λ_ _ _ n _=>n,λb ob q _=>⟨ob,k b ob q⟩,λ_ _ q=>q,λ_ _ _ q=>q,λ_ ps q=>⟨#[],by rw [q];simp⟩⟩
theorem Un.refl:Un fs ex H H h h:=Un.kept λ_ _ q=>q
theorem Un.laid (k:∀b u,h.get? b=some u->h'.get? b=some u) (hp:h.objs.size<=a) (hn:H a=none):Un fs ex H (upd H a o) h h' where
 keep:=λb u q _ _ _=>k b u q
 slot:=λb u q _ _ _=>⟨u.slots,k b u q⟩
 free:=λb u q n _=>by rw [A0l (Z0h (Z0q (Z0a q) hp))];exact n
 there:=λb u q _=>⟨u,k b u q⟩
 tups:=λb xs q=>by rw [A0l (A0c q hn)];exact q
 frzs:=λb u xs q=>by rw [A0l (A0c q hn)];exact q
 tbls:=λb ps q=>⟨#[],by rw [A0l (A0c q hn),q];simp⟩
theorem Un.write (mu:Mut (H x)) (he:e=x\/H e=some (.own x)) (k:∀b u,b≠e->h.get? b=some u->h'.get? b=some u) (heo:∃u,h'.get? e=some u):Un fs ex H (upd H x o) h h':=by
 have hx:∀b,H b=none->b≠x:=λb n z=>by subst z;rw [n] at mu;exact mu
 have hb:∀b,H b=none->b≠e:=λb n z=>by
  subst z;rcases he with r | r
  ·exact hx b n r
  ·rw [n] at r;cases r
 have hm:∀b u,H b=some u->¬Mut (some u)->b≠x:=λb u q nm z=>by subst z;rw [q] at mu;exact nm mu
 refine ⟨λb u q n _ _=>k b u (hb b n) q,λb u q n _ _=>⟨u.slots,k b u (hb b n) q⟩,λb u q n _=>by rw [A0l (hx b n)];exact n,λb u q _=> ?_,
  λb xs q=>by rw [A0l (hm b _ q λz=>z)];exact q,λb u xs q=>by rw [A0l (hm b _ q λz=>z)];exact q,λb ps q=>⟨#[],by rw [A0l (hm b _ q λz=>z),q];simp⟩⟩
 by_cases hbe:b=e
 ·subst hbe;exact heo
 ·exact ⟨u,k b u hbe q⟩
end
def trk (h:Heap) (H:Hp):List Addr:=(List.range h.objs.size).filter λa=>(H a).isSome
def B4u (h:Heap) (H:Hp):Heap:=hideAll h (trk h H)
theorem B3d (h:Heap) (H:Hp):(B4u h H).objs.size=h.objs.size:=PySem.W.hideAll_size _ _
theorem B5s {h:Heap} {H:Hp} {b:Addr} {o:Obj} (e:h.get? b=some o) (n:H b=none):(B4u h H).get? b=some o :=
 PySem.W.hideAll_get _ e λhm=>by
  have q:(H b).isSome=true:=(List.mem_filter.mp hm).2;rw [n] at q;simp at q
theorem B6s {h:Heap} {H:Hp} {b:Addr} {o:Obj} (e:(B4u h H).get? b=some o):h.get? b=some o/\H b=none:=by
 have e':h.get? b=some o:=PySem.W.of_hideAll (trk h H) e;refine ⟨e',?_⟩
 cases q:H b with
 | none=>rfl
 | some x =>
  have hm:b∈trk h H:=List.mem_filter.mpr ⟨List.mem_range.mpr (Z0a e'),by simp [q]⟩;have z:(B4u h H).get? b=none:=PySem.W.hideAll_none (trk h H) hm;rw [z] at e;cases e
structure Mod (K:Frag) (mg:Str->Option Value) (base:Heap):Prop where
 kin:K.In base
 glob:base.Ns mainGlobals mg
 blt:∃mb,base.Ns builtinsNs mb/\∀x:Str,x≠"__name__"->mb x=bootBuiltins x
 nolimit:base.NoLimit
structure Cx where
 prog:Program
 w:World
 K:Frag
 mg:Str->Option Value
 base:Heap
 A:Around
 N:List Str
 s₀:Shared
 H₀:Hp
 env:Env
 outer:List Env
 stack:List Env
 ex:List Addr
 fn:Str->Bool
 calm:Bool
 pn:List (Addr×Obj)
 xe:Value->Shared->Prop
def frs (l:List Env):List Addr:=l.filterMap (·.frame)
abbrev Cx.fs (X:Cx):List Addr:=frs X.outer
def Vis (sc:Scope) (x:Str):Prop:=sc.names.lookup x=some .local\/sc.names.lookup x=some .cell\/sc.names.lookup x=some .free
def Loc (sc:Scope) (x:Str):Prop:=sc.names.lookup x=some .local\/sc.names.lookup x=some .cell
def Look (env:Env) (h:Heap) (m:Str->Option Value) (x:Str) (u:Value):Prop :=
 (env.kindOf x=some .local/\m x=some u)\/((env.kindOf x=some .cell\/env.kindOf x=some .free)/\∃c,env.cells.lookup x=some c/\h.IsCell c (some u))
structure Cx.Ok (X:Cx):Prop where
 mod:Mod X.K X.mg X.base
 kind:X.env.scope.kind= .function
 glob:X.env.globals=mainGlobals
 blt:X.env.builtins=builtinsNs
 above:X.s₀.heap.objs.size<=X.env.locals
 inj:∀x y c,X.env.cells.lookup x=some c->X.env.cells.lookup y=some c->x=y
 has:∀x,(X.env.kindOf x=some .cell\/X.env.kindOf x=some .free)->∃c,X.env.cells.lookup x=some c
 cab:∀x c,X.fn x=true->X.env.cells.lookup x=some c->X.s₀.heap.objs.size<=c
 hd:X.calm=true->X.A.handled=none
 frames:X.A.frames=some X.stack
 stk:X.stack=X.outer\/(X.stack=X.env::X.outer/\X.env.frame=some X.env.locals)
 exf:∀b∈X.ex,b≠X.env.locals/\∀x c,X.env.cells.lookup x=some c->c≠b
 bs:∀b o,X.base.get? b=some o->X.s₀.heap.get? b=some o/\X.H₀ b=none
 bsz:X.base.objs.size<=X.s₀.heap.objs.size
 noex:∀b o,X.base.get? b=some o->b∉X.ex
 exfs:∀b∈X.ex,b∉X.fs
 funs:X.s₀.heap.FunFrames X.base X.outer
 frf:∀b∈X.fs,X.H₀ b=none
structure Inv (X:Cx) (pins:List (Addr×Obj)) (σ:List (Option V)) (H:Hp) (s:Shared):Prop where
 ok:X.Ok
 os:s.os=X.s₀.os
 bare:AllBare s.gens
 base:Un X.fs X.ex X.H₀ H X.s₀.heap s.heap
 loc:∃m,s.heap.Ns X.env.locals m/\∀(i:Nat) (x:Str) (v:V),X.N[i]? =some x->σ[i]? =some (some v)->Vis X.env.scope x->∃u,A2a v u/\Look X.env s.heap m x u
 cell:∀x c,X.env.cells.lookup x=some c->∃v,s.heap.IsCell c v
 free:H X.env.locals=none
 freeC:∀x c,X.env.cells.lookup x=some c->H c=none
 pin:∀p∈X.pn++pins,s.heap.get? p.1=some p.2/\H p.1=none/\p.1≠X.env.locals/\p.1∉X.fs/\∀v,p.2.data≠.cell v
 hok:HOk X.prog X.w H s.heap
 len:σ.length=X.N.length
section
variable {X:Cx} {pins:List (Addr×Obj)} {σ:List (Option V)} {H H':Hp} {s:Shared} {h':Heap}
theorem Cx.Ok.nofr (ok:X.Ok) {b:Addr} {o:Obj} (e:X.base.get? b=some o):b∉X.fs:=λhb=>by
 have:=(ok.funs.mem hb).1;rw [e] at this;cases this
theorem Inv.bs (I:Inv X pins σ H s):∀b o,X.base.get? b=some o->s.heap.get? b=some o/\H b=none:=λb o e =>
 ⟨I.base.keep b o (I.ok.bs b o e).1 (I.ok.bs b o e).2 (I.ok.nofr e) (I.ok.noex b o e),I.base.free b o (I.ok.bs b o e).1 (I.ok.bs b o e).2 (I.ok.noex b o e)⟩
theorem Inv.bk (I:Inv X pins σ H s):∀b o,X.base.get? b=some o->s.heap.get? b=some o:=λb o e=>(I.bs b o e).1
theorem Inv.mod (I:Inv X pins σ H s):Mod X.K X.mg X.base:=I.ok.mod
theorem Inv.kIn (I:Inv X pins σ H s):X.K.In s.heap:=I.ok.mod.kin.keeps I.bk
theorem Inv.lt (I:Inv X pins σ H s):X.env.locals<s.heap.objs.size:=let ⟨_,hn,_⟩:=I.loc;hn.lt
theorem Inv.sz (I:Inv X pins σ H s):X.s₀.heap.objs.size<=s.heap.objs.size:=Z1n I.ok.above (Nat.le_of_lt I.lt)
theorem Inv.nofs (I:Inv X pins σ H s) {a:Addr} (h:s.heap.objs.size<=a):a∉X.fs:=λhb=>by
 obtain ⟨_,o,ho,_⟩:=I.ok.funs.mem hb;exact absurd (Z0q (Z0a ho) (Z1n I.sz h)) (Nat.lt_irrefl _)
theorem Inv.cne (I:Inv X pins σ H s):∀x c,X.env.cells.lookup x=some c->c≠X.env.locals:=λx c e z=>by
 obtain ⟨v,o,ho,hd⟩:=I.cell x c e;obtain ⟨m,⟨o',es,ep,ho',hd',_⟩,_⟩:=I.loc;rw [z,ho'] at ho;cases ho;rw [hd'] at hd;cases hd
theorem Inv.funs (I:Inv X pins σ H s):s.heap.FunFrames X.base X.outer:=by
 have all:∀(l:List Env),(∀b∈frs l,b∈X.fs)->X.s₀.heap.FunFrames X.base l->s.heap.FunFrames X.base l:=by
  intro l
  induction l with
  | nil=>intro _ _;trivial
  | cons env r ih =>
   intro hs hl;obtain ⟨hk,⟨L,o,hf,hn,ho,hd⟩,hr⟩:=hl;have hL:L∈X.fs:=hs L (by unfold frs;rw [List.filterMap_cons,hf];exact Z27);obtain ⟨sl,e⟩:=I.base.slot L o ho (I.ok.frf L hL) hL λz=>I.ok.exfs L z hL;exact ⟨hk,⟨L,_,hf,hn,e,hd⟩,ih (λb hb=>hs b (by unfold frs;rw [List.filterMap_cons,hf];exact Z1f _ hb)) hr⟩
 exact all X.outer (λ_ hb=>hb) I.ok.funs
theorem Inv.stack (I:Inv X pins σ H s):s.heap.FunFrames X.base X.stack:=by
 rcases I.ok.stk with e | ⟨e,hf⟩
 ·rw [e];exact I.funs
 ·rw [e];obtain ⟨m,hn,_⟩:=I.loc;refine .cons (by rw [I.ok.kind];decide) hf hn ?_ I.funs;exact Heap.get?_none_of_le (Z1n I.ok.bsz I.ok.above)
theorem Inv.stkSub (I:Inv X pins σ H s):∀b∈frs X.stack,b∈X.env.locals::X.fs:=λb hb=>by
 rcases I.ok.stk with e | ⟨e,hf⟩
 ·rw [e] at hb;exact Z1f _ hb
 ·rw [e] at hb;unfold frs at hb;rw [List.filterMap_cons,hf] at hb;exact hb
theorem Inv.stkFree (I:Inv X pins σ H s):∀b∈frs X.stack,H b=none:=λb hb=>by
 rcases Z0e.mp (I.stkSub b hb) with e | hb
 ·rw [e];exact I.free
 ·obtain ⟨_,o,ho,_⟩:=I.ok.funs.mem hb;exact I.base.free b o ho (I.ok.frf b hb) λz=>I.ok.exfs b z hb
theorem Inv.step {g':Array GenState} {t':Nat} {d':Drawn} {ch:List Addr} (I:Inv X pins σ H s)
  (hch:∀b∈ch,(b∈X.ex\/X.s₀.heap.objs.size<=b)/\b≠X.env.locals/\(∀x c,X.env.cells.lookup x=some c->c≠b)/\∀p∈X.pn++pins,p.1≠b)
  (keep:∀b o,b≠X.env.locals->b∉X.fs->b∉ch->s.heap.get? b=some o->H b=none->h'.get? b=some o)
  (slot:∀b o,b≠X.env.locals->b∈X.fs->b∉ch->s.heap.get? b=some o->H b=none->∃sl,h'.get? b=some { o with slots:=sl }) (free:∀b o,b∉ch->s.heap.get? b=some o->H b=none->H' b=none)
  (there:∀b o,b∉ch->s.heap.get? b=some o->∃o',h'.get? b=some o')
  (tups:∀b xs,H b=some (.tup xs)->H' b=some (.tup xs)) (frzs:∀b o u,H b=some (.frz o u)->H' b=some (.frz o u)) (tbls:∀b ps,H b=some (.tbl ps)->∃more,H' b=some (.tbl (ps++more)))
  (ns:∀m,s.heap.Ns X.env.locals m->h'.Ns X.env.locals m) (hok:HOk X.prog X.w H' h') (hg:AllBare g') :
  Inv X pins σ H' { s with heap:=h',gens:=g',drawn:=d',toks:=t' }:=by
 have neL:∀b o,X.s₀.heap.get? b=some o->b≠X.env.locals:=λb o e=>Z0h (Z0q (Z0a e) I.ok.above)
 have neC:∀b o,X.s₀.heap.get? b=some o->b∉X.ex->b∉ch:=λb o e hx hb=>by
  rcases (hch b hb).1 with z | z
  ·exact hx z
  ·exact absurd (Z0q (Z0a e) z) (Nat.lt_irrefl _)
 have cellK:∀x c,X.env.cells.lookup x=some c->∀v,s.heap.IsCell c v->h'.IsCell c v:=λx c e v ⟨o,ho,hd⟩=>by
  have nch:c∉ch:=λz=>(hch c z).2.2.1 x c e rfl;by_cases hc:c∈X.fs
  ·obtain ⟨sl,q⟩:=slot c o (I.cne x c e) hc nch ho (I.freeC x c e);exact ⟨_,q,hd⟩
  ·exact ⟨o,keep c o (I.cne x c e) hc nch ho (I.freeC x c e),hd⟩
 refine ⟨I.ok,I.os,hg,⟨λb o e n hb hx=> ?_,λb o e n hb hx=> ?_,λb o e n hx=> ?_,λb o e hx=> ?_,λb xs e=>tups b xs (I.base.tups b xs e),λb o xs e=>frzs b o xs (I.base.frzs b o xs e),λb ps e=> ?_⟩,?_,λx c e=> ?_,?_,λx c e=> ?_,λp hp=> ?_,hok,I.len⟩
 ·exact keep b o (neL b o e) hb (neC b o e hx) (I.base.keep b o e n hb hx) (I.base.free b o e n hx)
 ·obtain ⟨sl,e1⟩:=I.base.slot b o e n hb hx;obtain ⟨sl',e2⟩:=slot b _ (neL b o e) hb (neC b o e hx) e1 (I.base.free b o e n hx);exact ⟨sl',e2⟩
 ·obtain ⟨o',e1⟩:=I.base.there b o e hx;exact free b o' (neC b o e hx) e1 (I.base.free b o e n hx)
 ·obtain ⟨o',e1⟩:=I.base.there b o e hx;exact there b o' (neC b o e hx) e1
 ·obtain ⟨m1,e1⟩:=I.base.tbls b ps e;obtain ⟨m2,e2⟩:=tbls b _ e1;exact ⟨m1++m2,by rw [e2,Array.append_assoc]⟩
 ·obtain ⟨m,hn,hl⟩:=I.loc;refine ⟨m,ns m hn,λi x v e1 e2 e3=> ?_⟩;obtain ⟨u,r,l⟩:=hl i x v e1 e2 e3;refine ⟨u,r,?_⟩;rcases l with l | ⟨k,c,e,z⟩
  ·exact .inl l
  ·exact .inr ⟨k,c,e,cellK x c e _ z⟩
 ·obtain ⟨v,z⟩:=I.cell x c e;exact ⟨v,cellK x c e v z⟩
 ·obtain ⟨m,⟨o,_,_,ho,_⟩,_⟩:=I.loc;exact free _ o (λz=>(hch _ z).2.1 rfl) ho I.free
 ·obtain ⟨v,o,ho,hd⟩:=I.cell x c e;exact free c o (λz=>(hch c z).2.2.1 x c e rfl) ho (I.freeC x c e)
 ·obtain ⟨e,n,ne,nf,d⟩:=I.pin p hp;have nch:p.1∉ch:=λz=>(hch p.1 z).2.2.2 p hp rfl;exact ⟨keep p.1 p.2 ne nf nch e n,free p.1 p.2 nch e n,ne,nf,d⟩
theorem Inv.un {t':Nat} (I:Inv X pins σ H s) (u:Un X.fs [] H H' s.heap h') (hok:HOk X.prog X.w H' h'):Inv X pins σ H' { s with heap:=h',toks:=t' }:=by
 obtain ⟨m,⟨o,es,ep,ho,r⟩,_⟩:=id I.loc;obtain ⟨sl,hL⟩:=u.any ho I.free (by simp)
 exact I.step (g':=s.gens) (d':=s.drawn) (ch:=[]) (λ_ z=>nomatch z) (λb o _ hb _ e n=>u.keep b o e n hb (by simp)) (λb o _ hb _ e n=>u.slot b o e n hb (by simp)) (λb o _ e n=>u.free b o e n (by simp)) (λb o _ e=>u.there b o e (by simp)) u.tups u.frzs u.tbls (λm' hm=>by
  obtain ⟨o',es',ep',ho',r'⟩:=hm;rw [ho] at ho';cases ho'
  exact ⟨_,es',ep',hL,r'⟩) hok I.bare
theorem Inv.call {g':Array GenState} {t':Nat} {d':Drawn} {ch:List Addr} (I:Inv X pins σ H s) (u:Un (frs X.stack) ch H H' s.heap h') (hok:HOk X.prog X.w H' h') (hg:AllBare g')
  (hch:∀b∈ch,(b∈X.ex\/X.s₀.heap.objs.size<=b)/\b≠X.env.locals/\(∀x c,X.env.cells.lookup x=some c->c≠b)/\∀p∈X.pn++pins,p.1≠b) :
  Inv X pins σ H' { s with heap:=h',gens:=g',drawn:=d',toks:=t' }:=by
 obtain ⟨m,⟨o,es,ep,ho,r⟩,_⟩:=id I.loc;obtain ⟨sl,hL⟩:=u.any ho I.free λz=>(hch _ z).2.1 rfl
 exact I.step (ch:=ch) hch (λb o hL hb hc e n=>u.keep b o e n (λz=>(Z0e.mp (I.stkSub b z)).elim hL hb) hc) (λb o _ _ hc e n=>u.any e n hc) (λb o hc e n=>u.free b o e n hc) (λb o hc e=>u.there b o e hc) u.tups u.frzs u.tbls (λm' hm=>by
  obtain ⟨o',es',ep',ho',r'⟩:=hm;rw [ho] at ho';cases ho'
  exact ⟨_,es',ep',hL,r'⟩) hok hg
theorem Inv.turned {t':Nat} {it:Addr} (I:Inv X pins σ H s) (k:∀b o,b≠it->s.heap.get? b=some o->h'.get? b=some o) (hn:H it=none) (hL:it≠X.env.locals)
  (h1:it∈X.ex\/X.s₀.heap.objs.size<=it) (h2:∀x c,X.env.cells.lookup x=some c->c≠it) (h3:∀p∈X.pn++pins,p.1≠it):Inv X pins σ H { s with heap:=h',toks:=t' }:=by
 have nit:∀b u,H b=some u->b≠it:=λb u e z=>by rw [z,hn] at e;cases e
 refine I.step (g':=s.gens) (d':=s.drawn) (ch:=[it]) (λb hb=> ?_) (λb o _ _ hc e _=>k b o (λz=>hc (by simp [z])) e) (λb o _ _ hc e _=>⟨o.slots,k b o (λz=>hc (by simp [z])) e⟩) (λ_ _ _ _ n=>n)
  (λb o hc e=>⟨o,k b o (λz=>hc (by simp [z])) e⟩) (λ_ _ e=>e) (λ_ _ _ e=>e) (λb ps e=>⟨#[],by rw [e];simp⟩) (λm hm=> ?_) (λb u e=> ?_) I.bare
 ·have e:b=it:=by simpa using hb
  subst e;exact ⟨h1,hL,h2,h3⟩
 ·obtain ⟨o,es,ep,ho,r⟩:=hm;exact ⟨o,es,ep,k _ o (Ne.symm hL) ho,r⟩
 ·refine (I.hok b u e).stay (λc v hc q=>k c v ?_ q) (λ_ q=>q) λ_ _ q=>q;rcases hc with z | z
  ·rw [z];exact nit b u e
  ·exact nit c _ z
theorem Inv.tok (I:Inv X pins σ H s) (t:Nat):Inv X pins σ H { s with toks:=t }:=I.un (h':=s.heap) (t':=t) Un.refl I.hok
theorem Inv.kept {t':Nat} (I:Inv X pins σ H s) (k:∀b u,s.heap.get? b=some u->h'.get? b=some u):Inv X pins σ H { s with heap:=h',toks:=t' }:=I.un (Un.kept k) (I.hok.kept k)
theorem Inv.laid {a:Addr} {o:HO} {t':Nat} (I:Inv X pins σ H s) (k:∀b u,s.heap.get? b=some u->h'.get? b=some u) (hp:s.heap.objs.size<=a) (new:A1w X.prog X.w (upd H a o) h' a o) :
  Inv X pins σ (upd H a o) { s with heap:=h',toks:=t' }:=I.un (Un.laid k hp (I.hok.fresh hp)) (I.hok.laid k hp new)
theorem Inv.write {x e:Addr} {o:HO} {t':Nat} (I:Inv X pins σ H s) (mu:Mut (H x)) (he:e=x\/H e=some (.own x)) (k:∀b u,b≠e->s.heap.get? b=some u->h'.get? b=some u) (heo:∃u,h'.get? e=some u)
  (new:A1w X.prog X.w (upd H x o) h' x o):Inv X pins σ (upd H x o) { s with heap:=h',toks:=t' }:=I.un (Un.write mu he k heo) (I.hok.write mu he k heo new)
theorem Inv.weak {σ':List (Option V)} (I:Inv X pins σ H s) (hl:σ'.length=σ.length) (w:∀(i:Nat) v,σ'[i]? =some (some v)->σ[i]? =some (some v)):Inv X pins σ' H s :=
 ⟨I.ok,I.os,I.bare,I.base,let ⟨m,hn,hl'⟩:=I.loc;⟨m,hn,λi x v e1 e2 e3=>hl' i x v e1 (w i v e2) e3⟩,I.cell,I.free,I.freeC,I.pin,I.hok,hl.trans I.len⟩
theorem Inv.pins_of {pins':List (Addr×Obj)} (I:Inv X pins σ H s) (h:∀p∈pins',s.heap.get? p.1=some p.2/\H p.1=none/\p.1≠X.env.locals/\p.1∉X.fs/\∀v,p.2.data≠.cell v):Inv X pins' σ H s :=
 ⟨I.ok,I.os,I.bare,I.base,I.loc,I.cell,I.free,I.freeC,λp hp=>(Z07.mp hp).elim (λz=>I.pin p (Z05 _ z)) (h p),I.hok,I.len⟩
theorem B0v {N:List Str} (hN:N.Nodup) {i j:Nat} {x:Str} (a:N[i]? =some x) (b:N[j]? =some x):i=j:=by
 obtain ⟨h1,e1⟩:=Z03.mp a;obtain ⟨h2,e2⟩:=Z03.mp b;exact (List.getElem_inj hN).mp (e1.trans e2.symm)
theorem B2t {M:Model} {A:Around} {E:Value->Shared->Prop} {i:Nat} {x:Str} {v:V} {u:Value} {Q:Unit->Shared->Prop} (I:Inv X pins σ H s) (hN:X.N.Nodup) (hi:X.N[i]? =some x) (hx:Loc X.env.scope x) (r:A2a v u)
  (h:∀s',Inv X pins (σ.set i (some v)) H s'->(∃a,Heap.SameBut a s.heap s'.heap/\(a=X.env.locals\/X.env.cells.lookup x=some a))->Q () s') (hf:X.fn x=true\/X.env.scope.names.lookup x=some .local:=by first | exact .inl rfl | exact .inr rfl | assumption):wpAny M A (storeName X.env x u) Q E s:=by
 obtain ⟨m,hn,hl⟩:=id I.loc;have hcls:(X.env.scope.kind == .class||(X.env.scope.kind == .module&&X.env.locals != X.env.globals))=false:=by rw [I.ok.kind];rfl
 have hiσ:i<σ.length:=by rw [I.len];exact (Z03.mp hi).1
 have cne:=I.cne
 have tracked:∀{a:Addr} {h':Heap},(∃o,s.heap.get? a=some o/\H a=none)->Heap.SameBut a s.heap h'->HOk X.prog X.w H h':=λ{a h'} ha hs b ob e=>by
  obtain ⟨_,_,hfree⟩:=ha;refine (I.hok b ob e).stay (λc w' hc q=>(hs.2 c ?_).trans q) (λ_ q=>q) λ_ _ q=>q;rintro rfl;rcases hc with rfl | hc
  ·rw [hfree] at e;cases e
  ·rw [hfree] at hc;cases hc
 rcases hx with hk | hk
 ·refine wpAny_storeName_local hk hn (λh' hn' hs=> ?_) hcls;obtain ⟨oL,_,_,hoL,_⟩:=id hn;refine h _ ⟨I.ok,I.os,I.bare,⟨λb o e n hb hx=> ?_,λb o e n hb hx=> ?_,I.base.free,λb o e hx=> ?_,I.base.tups,I.base.frzs,I.base.tbls⟩,⟨_,hn',λj y v' e1 e2 e3=> ?_⟩,λy c e=> ?_,I.free,I.freeC,λp hp=> ?_,tracked ⟨oL,hoL,I.free⟩ hs,by simpa using I.len⟩ ⟨_,hs,.inl rfl⟩
  ·exact (hs.2 b (Z0h (Z0q (Z0a e) I.ok.above))).trans (I.base.keep b o e n hb hx)
  ·obtain ⟨sl,e1⟩:=I.base.slot b o e n hb hx;exact ⟨sl,(hs.2 b (Z0h (Z0q (Z0a e) I.ok.above))).trans e1⟩
  ·obtain ⟨o',e1⟩:=I.base.there b o e hx;exact ⟨o',(hs.2 b (Z0h (Z0q (Z0a e) I.ok.above))).trans e1⟩
  ·by_cases hj:j=i
   ·subst hj;rw [hi] at e1;cases e1;rw [Z23 hiσ] at e2;cases e2;exact ⟨u,r,.inl ⟨hk,by simp⟩⟩
   ·rw [Z2a (Ne.symm hj)] at e2;obtain ⟨u',r',q⟩:=hl j y v' e1 e2 e3;refine ⟨u',r',?_⟩;rcases q with ⟨k,e⟩ | ⟨k,c,e,z⟩
    ·refine .inl ⟨k,?_⟩;have:y≠x:=λe=>hj (B0v hN e1 (e▸hi));simp [this,e]
    ·exact .inr ⟨k,c,e,z.sameBut hs (cne y c e)⟩
  ·obtain ⟨w',z⟩:=I.cell y c e;exact ⟨w',z.sameBut hs (cne y c e)⟩
  ·obtain ⟨e,n,ne,nf,d⟩:=I.pin p hp;exact ⟨(hs.2 p.1 ne).trans e,n,ne,nf,d⟩
 ·have hfn:X.fn x=true:=by
   rcases hf with z | z
   ·exact z
   ·rw [z] at hk;cases hk
  obtain ⟨c,hc⟩:=I.ok.has x (.inl hk);obtain ⟨w',z⟩:=I.cell x c hc;refine wpAny_storeName_cell I.ok.kind hk hc z (λh' hc' hs=> ?_);obtain ⟨oc,hoc,hocd⟩:=id z;refine h { s with heap:=h' } ⟨I.ok,I.os,I.bare,⟨λb o e n hb hx=> ?_,λb o e n hb hx=> ?_,I.base.free,λb o e hx=> ?_,I.base.tups,I.base.frzs,I.base.tbls⟩,⟨m,hn.sameBut hs (Ne.symm (cne x c hc)),λj y v' e1 e2 e3=> ?_⟩,λy c' e=> ?_,I.free,I.freeC,λp hp=> ?_,tracked ⟨oc,hoc,I.freeC x c hc⟩ hs,by simpa using I.len⟩ ⟨c,hs,.inr hc⟩
  ·exact (hs.2 b (Z0h (Z0q (Z0a e) (I.ok.cab x c hfn hc)))).trans (I.base.keep b o e n hb hx)
  ·obtain ⟨sl,e1⟩:=I.base.slot b o e n hb hx;exact ⟨sl,(hs.2 b (Z0h (Z0q (Z0a e) (I.ok.cab x c hfn hc)))).trans e1⟩
  ·obtain ⟨o',e1⟩:=I.base.there b o e hx;exact ⟨o',(hs.2 b (Z0h (Z0q (Z0a e) (I.ok.cab x c hfn hc)))).trans e1⟩
  ·by_cases hj:j=i
   ·subst hj;rw [hi] at e1;cases e1;rw [Z23 hiσ] at e2;cases e2;exact ⟨u,r,.inr ⟨.inl hk,c,hc,hc'⟩⟩
   ·rw [Z2a (Ne.symm hj)] at e2;obtain ⟨u',r',q⟩:=hl j y v' e1 e2 e3;refine ⟨u',r',?_⟩;rcases q with q | ⟨k,c',e,z'⟩
    ·exact .inl q
    ·refine .inr ⟨k,c',e,z'.sameBut hs ?_⟩;rintro rfl;exact hj (B0v hN e1 (I.ok.inj _ _ _ e hc▸hi))
  ·by_cases hcc:c'=c
   ·subst hcc;exact ⟨_,hc'⟩
   ·obtain ⟨w2,z2⟩:=I.cell y c' e;exact ⟨w2,z2.sameBut hs hcc⟩
  ·obtain ⟨e,n,ne,nf,d⟩:=I.pin p hp;refine ⟨(hs.2 p.1 ?_).trans e,n,ne,nf,d⟩;intro q;rw [q,hoc] at e;have q':oc=p.2:=Z1a e;exact d w' (by rw [<-q'];exact hocd)
theorem B0a {M:Model} {A:Around} {E:Value->Shared->Prop} {i:Nat} {x:Str} {v:V} {u:Value} {Q:Unit->Shared->Prop} (I:Inv X pins σ H s) (hN:X.N.Nodup) (hi:X.N[i]? =some x) (hx:Loc X.env.scope x) (r:A2a v u)
  (h:∀s',Inv X pins (σ.set i (some v)) H s'->Q () s') (hf:X.fn x=true\/X.env.scope.names.lookup x=some .local:=by first | exact .inl rfl | exact .inr rfl | assumption):wpAny M A (storeName X.env x u) Q E s :=
 B2t I hN hi hx r (λs' I' _=>h s' I') hf
theorem Inv.call' {s':Shared} {ch:List Addr} (I:Inv X pins σ H s) (ho:s'.os=s.os) (u:Un (frs X.stack) ch H H' s.heap s'.heap) (hok:HOk X.prog X.w H' s'.heap) (hg:AllBare s'.gens)
  (hch:∀b∈ch,(b∈X.ex\/X.s₀.heap.objs.size<=b)/\b≠X.env.locals/\(∀x c,X.env.cells.lookup x=some c->c≠b)/\∀p∈X.pn++pins,p.1≠b):Inv X pins σ H' s':=by
 obtain ⟨h',g',d',t',o'⟩:=s';have e:o'=s.os:=ho;subst e;exact I.call (g':=g') (t':=t') (d':=d') u hok hg hch
end
abbrev XK:=Value->Option Addr->Hp->Prop
abbrev St:=List (Option V)
abbrev VK:=V->Hp->Prop
abbrev TE:=St->Hp->VK->Prop
abbrev TT:=St->Hp->(Bool->Hp->Prop)->Prop
abbrev TA:=St->Hp->(List V->Hp->Prop)->Prop
structure B5y where
 nx:St->Hp->Prop
 rt:VK
 bk:St->Hp->Prop:=λ_ _=>False
 ct:St->Hp->Prop:=λ_ _=>False
abbrev TS:=B5y->St->Hp->Prop
def EP (X:Cx) (pins:List (Addr×Obj)) (σ:St) (Q:VK) (u:Value) (s':Shared):Prop:=∃v H',Inv X pins σ H' s'/\A2a v u/\Q v H'
def TP (X:Cx) (pins:List (Addr×Obj)) (σ:St) (Q:Bool->Hp->Prop) (b:Bool) (s':Shared):Prop:=∃H',Inv X pins σ H' s'/\Q b H'
def AP (X:Cx) (pins:List (Addr×Obj)) (σ:St) (Q:List V->Hp->Prop) (us:List Value) (s':Shared):Prop:=∃vs H',Inv X pins σ H' s'/\A1u vs us/\Q vs H'
def SP (X:Cx) (pins:List (Addr×Obj)) (D:B5y) (f:Flow) (s':Shared):Prop :=
 match f with
 | .next=>∃σ' H',Inv X pins σ' H' s'/\D.nx σ' H'
 | .brk=>∃σ' H',Inv X pins σ' H' s'/\D.bk σ' H'
 | .cont=>∃σ' H',Inv X pins σ' H' s'/\D.ct σ' H'
 | .ret u=>∃v σ' H',Inv X pins σ' H' s'/\A2a v u/\D.rt v H'
def PE (X:Cx) (e:Expr) (t:TE):Prop :=
 ∀(pins:List (Addr×Obj)) (s:Shared) (σ:St) (H:Hp) (Q:VK),Inv X pins σ H s->t σ H Q->wpAny (model X.prog X.w) X.A (eval e X.env) (EP X pins σ Q) X.xe s
def PT (X:Cx) (e:Expr) (t:TT):Prop :=
 ∀(pins:List (Addr×Obj)) (s:Shared) (σ:St) (H:Hp) (Q:Bool->Hp->Prop),Inv X pins σ H s->t σ H Q->wpAny (model X.prog X.w) X.A (isTrue e X.env (eval e X.env)) (TP X pins σ Q) X.xe s
def PW (X:Cx) (e:Expr) (t:TT):Prop :=
 ∀(whole:Sem Value) (pins:List (Addr×Obj)) (s:Shared) (σ:St) (H:Hp) (Q:Bool->Hp->Prop),Inv X pins σ H s->t σ H Q->wpAny (model X.prog X.w) X.A (isTrue e X.env whole) (TP X pins σ Q) X.xe s
theorem PW.pt {X:Cx} {e:Expr} {t:TT} (h:PW X e t):PT X e t:=h _
def PA (X:Cx) (es:List Expr) (t:TA):Prop :=
 ∀(pos:Pos) (pins:List (Addr×Obj)) (s:Shared) (σ:St) (H:Hp) (Q:List V->Hp->Prop),Inv X pins σ H s->t σ H Q->wpAny (model X.prog X.w) X.A (spliced (backTo pos (starEach es X.env))) (AP X pins σ Q) X.xe s
def PS (X:Cx) (st:Stmt) (t:TS):Prop :=
 ∀(pins:List (Addr×Obj)) (s:Shared) (σ:St) (H:Hp) (D:B5y),Inv X pins σ H s->t D σ H->wpAny (model X.prog X.w) X.A (exec st X.env) (SP X pins D) X.xe s
def PSs (X:Cx) (st:List Stmt) (t:TS):Prop :=
 ∀(pins:List (Addr×Obj)) (s:Shared) (σ:St) (H:Hp) (D:B5y),Inv X pins σ H s->t D σ H->wpAny (model X.prog X.w) X.A (execs st X.env) (SP X pins D) X.xe s
theorem thn {α:Type} {t:Sem α} {Q Q':α->Shared->Prop} {M:Model} {A:Around} {E:Value->Shared->Prop} {s:Shared} (h:wpAny M A t Q E s) (hQ:∀a s,Q a s->Q' a s):wpAny M A t Q' E s:=Z10 h hQ λ_ _ x=>x
section
variable {X:Cx}
def C1s (i:Nat):TE:=λσ H Q=>∃v,σ[i]? =some (some v)/\Q v H
def tC (v:V):TE:=λ_ H Q=>Q v H
theorem B9l {i:Nat} {x:Str} {pos:Pos} (hN:X.N[i]? =some x) (hv:Vis X.env.scope x) (hd:(x == ("__debug__":Str))=false:=by decide) (hcd:(x == ("__classdict__":Str))=false:=by decide):PE X (.Name x pos) (C1s i):=by
 intro pins s σ H Q I h;obtain ⟨v,e,h⟩:=h;obtain ⟨m,hn,hl⟩:=I.loc;obtain ⟨u,r,l⟩:=hl i x v hN e hv;have fin:EP X pins σ Q u s:=⟨v,H,I,r,h⟩;rcases l with ⟨hk,hm⟩ | ⟨hk,c,hc,hcell⟩
 ·exact wpAny_Name (wpAny_loadName_local I.ok.kind hk hn hm fin) hd
 ·rcases hk with hk | hk
  ·exact wpAny_Name (wpAny_loadName_cell I.ok.kind hk hc hcell fin) hd
  ·exact wpAny_Name (wpAny_loadName_free I.ok.kind hk hc hcell fin hcd) hd
theorem A0d {i j pos}:PE X (.Constant (.int i) j pos) (tC (.int i)):=λ_ _ _ H _ I h=>wpAny_Constant_int ⟨.int i,H,I.tok _,⟨_,rfl⟩,h⟩
theorem A6v {b j pos}:PE X (.Constant (.bool b) j pos) (tC (.bl b)):=λ_ _ _ H _ I h=>Constant_bool ⟨.bl b,H,I,rfl,h⟩
theorem A2k {x j pos}:PE X (.Constant (.str x) j pos) (tC (.str x)):=λ_ _ _ H _ I h=>Calls.Constant_str ⟨.str x,H,I.tok _,⟨_,rfl⟩,h⟩
def Gl (X:Cx) (x:Str):Prop:=X.env.kindOf x=some .globalImplicit
theorem A8v {E:Value->Shared->Prop} {pins:List (Addr×Obj)} {s:Shared} {σ:St} {H:Hp} {x:Str} {u:Value} {pos:Pos} {Q:Value->Shared->Prop} (I:Inv X pins σ H s) (hg:Gl X x) (hm:X.mg x=some u) (h:Q u s)
  (hd:(x == ("__debug__":Str))=false:=by decide):wpAny (model X.prog X.w) X.A (eval (.Name x pos) X.env) Q E s :=
 Calls.Name_function_global I.ok.kind hg (Calls.loadGlobal_global (by rw [I.ok.glob];exact I.mod.glob.keeps I.bk) hm h) hd
theorem A3h {E:Value->Shared->Prop} {pins:List (Addr×Obj)} {s:Shared} {σ:St} {H:Hp} {x:Str} {u:Value} {pos:Pos} {Q:Value->Shared->Prop} (I:Inv X pins σ H s) (hg:Gl X x) (hm:X.mg x=none) (hv:bootBuiltins x=some u) (h:Q u s)
  (hn:x≠"__name__":=by decide) (hd:(x == ("__debug__":Str))=false:=by decide):wpAny (model X.prog X.w) X.A (eval (.Name x pos) X.env) Q E s:=by
 obtain ⟨mb,h1,h2⟩:=I.mod.blt;exact Calls.Name_function_global I.ok.kind hg (Calls.loadGlobal_builtin (by rw [I.ok.glob];exact I.mod.glob.keeps I.bk) hm (by rw [I.ok.blt];exact h1.keeps I.bk) ((h2 x hn).trans hv) h) hd
theorem A3y {x:Str} {v:V} {u:Value} {pos:Pos} (hg:Gl X x) (hm:X.mg x=none) (hv:bootBuiltins x=some u) (r:A2a v u) (hn:x≠"__name__":=by decide) (hd:(x == ("__debug__":Str))=false:=by decide):PE X (.Name x pos) (tC v) :=
 λ_ _ _ H _ I h=>A3h I hg hm hv ⟨v,H,I,r,h⟩ hn hd
variable {a b:Expr} {ta tb:TE} {pos:Pos}
def tB (t:TE):TT:=λσ H Q=>t σ H λx H1=>∃c,x= .bl c/\Q c H1
theorem A3g {e:Expr} {t:TE} (h:PE X e t) (he:∀whole,isTrue e X.env whole=(do let v<-whole;standAt e.pos;holding [v] (truthy v)):=by intro _;rfl):PT X e (tB t):=by
 intro pins s σ H Q I hw;refine isTrue_plain (thn (h pins s σ H _ I hw) ?_) (he _);rintro v s1 ⟨x,H1,I1,r1,q1⟩;obtain ⟨d,rfl,q⟩:=q1;cases r1;exact wpAny_truthy_bool ⟨H1,I1,q⟩
variable {tA tB':TT} {rest:List Expr}
def tAnd (t u:TT):TT:=λσ H Q=>t σ H λc H1=>if c=true then u σ H1 Q else Q false H1
def tOr (t u:TT):TT:=λσ H Q=>t σ H λc H1=>if c=true then Q true H1 else u σ H1 Q
def tNot (t:TT):TT:=λσ H Q=>t σ H λc H1=>Q (!c) H1
theorem A6p (ha:PT X a tA):PW X (.BoolOp .And [a] pos) tA:=by
 intro wh pins s σ H Q I h;refine isTrue_and (thn (ha pins s σ H Q I h) λc s1 e=> ?_)
 cases c with
 | true=>exact isTrue_and_nil e
 | false=>exact e
theorem A6i (ha:PT X a tA):PW X (.BoolOp .Or [a] pos) tA:=by
 intro wh pins s σ H Q I h;refine isTrue_or (thn (ha pins s σ H Q I h) λc s1 e=> ?_)
 cases c with
 | false=>exact isTrue_or_nil e
 | true=>exact e
theorem B0o (ha:PT X a tA) (hb:PW X (.BoolOp .And (b::rest) pos) tB'):PW X (.BoolOp .And (a::b::rest) pos) (tAnd tA tB'):=by
 intro wh pins s σ H Q I h;refine isTrue_and (thn (ha pins s σ H _ I h) ?_);rintro c s1 ⟨H1,I1,q1⟩
 cases c with
 | true=>exact hb wh pins s1 σ H1 Q I1 q1
 | false=>exact ⟨H1,I1,q1⟩
theorem A8x (ha:PT X a tA) (hb:PW X (.BoolOp .Or (b::rest) pos) tB'):PW X (.BoolOp .Or (a::b::rest) pos) (tOr tA tB'):=by
 intro wh pins s σ H Q I h;refine isTrue_or (thn (ha pins s σ H _ I h) ?_);rintro c s1 ⟨H1,I1,q1⟩
 cases c with
 | true=>exact ⟨H1,I1,q1⟩
 | false=>exact hb wh pins s1 σ H1 Q I1 q1
theorem A3s (ha:PT X a tA):PT X (.UnaryOp .Not a pos) (tNot tA):=by
 intro pins s σ H Q I h;exact isTrue_not (ha pins s σ H (λc H1=>Q (!c) H1) I h)
def C0w (ta tb:TE):TE:=λσ H Q=>ta σ H λx H1=>∃c,x= .bl c/\if c=true then tb σ H1 Q else Q (.bl false) H1
def B9z (ta:TE):TE:=λσ H Q=>ta σ H λx H1=>∃c,x= .bl c/\Q (.bl (!c)) H1
theorem B8l {op} {t:TE} (h:PE X a t):PE X (.BoolOp op [a] pos) t:=λpins s σ H Q I hw=>BoolOp_one (h pins s σ H Q I hw)
theorem B8n (ha:PE X a ta) (hb:PE X (.BoolOp .And (b::rest) pos) tb):PE X (.BoolOp .And (a::b::rest) pos) (C0w ta tb):=by
 intro pins s σ H Q I h;refine BoolOp_and (thn (ha pins s σ H _ I h) ?_);rintro v s1 ⟨x,H1,I1,r1,q1⟩;obtain ⟨c,rfl,q1⟩:=q1;cases r1;refine wpAny_truthy_bool ?_
 cases c with
 | true=>exact hb pins s1 σ H1 Q I1 q1
 | false=>exact ⟨.bl false,H1,I1,rfl,q1⟩
theorem B9o (ha:PE X a ta):PE X (.UnaryOp .Not a pos) (B9z ta):=by
 intro pins s σ H Q I h;refine UnaryOp_ (thn (ha pins s σ H _ I h) ?_);rintro v s1 ⟨x,H1,I1,r1,q1⟩;obtain ⟨c,rfl,q1⟩:=q1;cases r1;exact not_of (wpAny_truthy_bool ⟨.bl (!c),H1,I1,rfl,q1⟩)
end
def SqL (K:Frag) (H:Hp) (a:Addr) (xs:List V):Prop :=
 Rd H a (.lst xs)\/
  ∃(o:Obj) (its:Array Value) (n:Nat),K.lookup a=some o/\o.cls= .type "list"/\o.dict=none/\o.data= .seq its n/\its.size<=sizeLine/\A1u xs its.toList
def SqT (K:Frag) (H:Hp) (a:Addr) (xs:List V):Prop :=
 Rd H a (.tup xs)\/
  ∃(o:Obj) (its:Array Value) (n:Nat),K.lookup a=some o/\o.cls= .type "tuple"/\o.data= .seq its n/\its.size<=sizeLine/\A1u xs its.toList
noncomputable def absV:Value->Option V
 | .none=>some .non
 | .bool b=>some (.bl b)
 | .int i _=>some (.int i)
 | .str x _=>some (.str x)
 | .bytes b _=>some (.byt b)
 | .float b _=>some (.flt b)
 | .ref a=>some (.ref a)
 | .type n=>some (.ty n)
 | _=>none
theorem A2a.abs {x:V} {u:Value} (r:A2a x u):absV u=some x:=by
 cases x with
 | non=>cases r;rfl
 | bl _=>cases r;rfl
 | int _=>obtain ⟨t,rfl⟩:=r;rfl
 | str _=>obtain ⟨t,rfl⟩:=r;rfl
 | byt _=>obtain ⟨t,rfl⟩:=r;rfl
 | flt _=>obtain ⟨t,rfl⟩:=r;rfl
 | ref _=>cases r;rfl
 | ty _=>cases r;rfl
theorem A2a.inj {x y:V} {u:Value} (r:A2a x u) (q:A2a y u):x=y:=Z1a (r.abs.symm.trans q.abs)
theorem A1u.inj:∀{xs ys:List V} {us:List Value},A1u xs us->A1u ys us->xs=ys
 | _,_,_,.nil,.nil=>rfl
 | _,_,_,.cons r t,.cons r' t'=>by rw [r.inj r',A1u.inj t t']
section
variable {X:Cx} {pins:List (Addr×Obj)} {σ:St} {H:Hp} {s:Shared} {a:Addr} {xs ys:List V}
theorem SqL.of {K:Frag} (h:H a=some (.lst xs)):SqL K H a xs:= .inl (.inl h)
theorem SqT.of {K:Frag} (h:H a=some (.tup xs)):SqT K H a xs:= .inl (.inl h)
theorem Inv.list (I:Inv X pins σ H s) (h:SqL X.K H a xs):∃its:List Value,A1u xs its/\PlainL s.heap a its.toArray/\xs.length<=sizeLine:=by
 rcases h with h | ⟨o,its,n,hk,hc,hd,hs,hz,r⟩
 ·obtain ⟨z,its,n,r,e⟩:=h.ok I.hok;exact ⟨its,r,⟨_,n,e,rfl,rfl,rfl⟩,z⟩
 ·refine ⟨its.toList,r,⟨o,n,I.kIn a o hk,hc,hd,by simpa using hs⟩,?_⟩;have e:=r.length;simp only [Array.length_toList] at e
  lia
theorem Inv.tuple (I:Inv X pins σ H s) (h:SqT X.K H a xs):∃its:List Value,A1u xs its/\IsTup s.heap a its.toArray/\xs.length<=sizeLine:=by
 rcases h with h | ⟨o,its,n,hk,hc,hs,hz,r⟩
 ·obtain ⟨z,its,r,p⟩:=h.ok I.hok;exact ⟨its,r,p,z⟩
 ·refine ⟨its.toList,r,⟨o,I.kIn a o hk,hc,n,by simpa using hs⟩,?_⟩;have e:=r.length;simp only [Array.length_toList] at e
  lia
theorem Inv.list_inj (I:Inv X pins σ H s) (h:SqL X.K H a xs) (h':SqL X.K H a ys):xs=ys:=by
 obtain ⟨its,r,⟨o,n,e,_,_,d⟩,_⟩:=I.list h;obtain ⟨its',r',⟨o',n',e',_,_,d'⟩,_⟩:=I.list h';rw [e] at e';cases e';rw [d] at d';injection d' with d1 _;have:its=its':=by simpa using congrArg Array.toList d1
 subst this;exact r.inj r'
theorem Inv.tuple_inj (I:Inv X pins σ H s) (h:SqT X.K H a xs) (h':SqT X.K H a ys):xs=ys:=by
 obtain ⟨its,r,⟨o,e,_,n,d⟩,_⟩:=I.tuple h;obtain ⟨its',r',⟨o',e',_,n',d'⟩,_⟩:=I.tuple h';rw [e] at e';cases e';rw [d] at d';injection d' with d1 _;have:its=its':=by simpa using congrArg Array.toList d1
 subst this;exact r.inj r'
end
abbrev Cx.wish (X:Cx) (E:Value->Shared->Prop):Cx:={ X with xe:=E }
abbrev Cx.nox (X:Cx):Cx:=X.wish λ_ _=>False
theorem Cx.Ok.wish {X:Cx} (ok:X.Ok) (E:Value->Shared->Prop):(X.wish E).Ok :=
 ⟨ok.mod,ok.kind,ok.glob,ok.blt,ok.above,ok.inj,ok.has,ok.cab,ok.hd,ok.frames,ok.stk,ok.exf,ok.bs,ok.bsz,ok.noex,ok.exfs,ok.funs,ok.frf⟩
theorem Cx.Ok.unwish {X:Cx} {E:Value->Shared->Prop} (ok:(X.wish E).Ok):X.Ok :=
 ⟨ok.mod,ok.kind,ok.glob,ok.blt,ok.above,ok.inj,ok.has,ok.cab,ok.hd,ok.frames,ok.stk,ok.exf,ok.bs,ok.bsz,ok.noex,ok.exfs,ok.funs,ok.frf⟩
section
variable {X:Cx} {pins:List (Addr×Obj)} {σ:St} {H:Hp} {s:Shared} {E:Value->Shared->Prop}
theorem Inv.wish (I:Inv X pins σ H s) (E:Value->Shared->Prop):Inv (X.wish E) pins σ H s:=⟨I.ok.wish E,I.os,I.bare,I.base,I.loc,I.cell,I.free,I.freeC,I.pin,I.hok,I.len⟩
theorem Inv.unwish (I:Inv (X.wish E) pins σ H s):Inv X pins σ H s:=⟨I.ok.unwish,I.os,I.bare,I.base,I.loc,I.cell,I.free,I.freeC,I.pin,I.hok,I.len⟩
theorem SP.unwish {D:B5y} {f:Flow} {s':Shared} (h:SP (X.wish E) pins D f s'):SP X pins D f s':=by
 cases f with
 | next=>obtain ⟨σ',H',I,q⟩:=h;exact ⟨σ',H',I.unwish,q⟩
 | brk=>obtain ⟨σ',H',I,q⟩:=h;exact ⟨σ',H',I.unwish,q⟩
 | cont=>obtain ⟨σ',H',I,q⟩:=h;exact ⟨σ',H',I.unwish,q⟩
 | ret u=>obtain ⟨v,σ',H',I,r,q⟩:=h;exact ⟨v,σ',H',I.unwish,r,q⟩
theorem PSs.nox {st:List Stmt} {t:TS} (h:PSs X.nox st t):PSs X st t:=λpins s σ H D I hw =>
 Z10 (h pins s σ H D (I.wish _) hw) (λ_ _ q=>q.unwish) λ_ _ z=>False.elim z
end
section
variable {X:Cx} {st:Stmt} {rest:List Stmt} {t u:TS} {e:Expr} {te:TE} {pos:Pos}
def C0o:TS:=λD σ H=>D.nx σ H
def tSeq (t u:TS):TS:=λD σ H=>t { D with nx:=u D } σ H
theorem A1h:PSs X [] C0o:=λ_ _ σ H _ I h=>Z2b ⟨σ,H,I,h⟩
theorem A0e (h1:PS X st t) (h2:PSs X rest u):PSs X (st::rest) (tSeq t u):=by
 intro pins s σ H D I h;refine wpAny_execs_cons (thn (h1 pins s σ H { D with nx:=u D } I h) λf s1 q=> ?_)
 cases f with
 | next =>
  obtain ⟨σ',H',I',q⟩:=q;exact h2 pins s1 σ' H' D I' q
 | ret v=>exact q
 | brk=>exact q
 | cont=>exact q
theorem A0f (h1:PS X st t):PSs X [st] t:=by
 intro pins s σ H D I h;refine wpAny_execs_cons (thn (h1 pins s σ H D I h) λf s1 q=> ?_)
 cases f with
 | next=>exact Z2b q
 | ret v=>exact q
 | brk=>exact q
 | cont=>exact q
theorem Inv.quiet {pins:List (Addr×Obj)} {σ:St} {H:Hp} {s:Shared} (I:Inv X pins σ H s):interactive X.env=false:=by simp [interactive,I.ok.kind]
def C0b (te:TE):TS:=λD σ H=>te σ H λ_ H1=>D.nx σ H1
theorem A1g (he:PE X e te) (hs:swapsWith e none pos.line X.env=pure false:=by rfl):PS X (.Expr e pos) (C0b te):=by
 intro pins s σ H D I h;exact wpAny_Expr_any (thn (he pins s σ H _ I h) (by rintro v s1 ⟨x,H1,I1,r1,q1⟩;exact ⟨σ,H1,I1,q1⟩)) I.quiet hs
def tRet (te:TE):TS:=λD σ H=>te σ H D.rt
theorem A0x (he:PE X e te):PS X (.Return (some e) pos) (tRet te):=by
 intro pins s σ H D I h;exact wpAny_Return_some (thn (he pins s σ H _ I h) (by rintro v s1 ⟨x,H1,I1,r1,q1⟩;exact ⟨x,σ,H1,I1,r1,q1⟩))
def tIfS (c:TT) (t u:TS):TS:=λD σ H=>c σ H λb H1=>if b=true then t D σ H1 else u D σ H1
theorem A2o {c:Expr} {a b:List Stmt} {tc:TT} (hc:PT X c tc) (ha:PSs X a t) (hb:PSs X b u):PS X (.If c a b pos) (tIfS tc t u):=by
 intro pins s σ H D I h;refine wpAny_If (thn (hc pins s σ H _ I h) ?_);rintro d s1 ⟨H1,I1,q1⟩
 cases d with
 | true=>exact ha pins s1 σ H1 D I1 q1
 | false=>exact hb pins s1 σ H1 D I1 q1
end
abbrev TG:=V->St->Hp->(St->Hp->Prop)->Prop
abbrev TGs:=List V->St->Hp->(St->Hp->Prop)->Prop
def PG (X:Cx) (target:Expr) (t:TG):Prop :=
 ∀(pins:List (Addr×Obj)) (s:Shared) (σ:St) (H:Hp) (v:V) (u:Value) (Q:St->Hp->Prop),Inv X pins σ H s->A2a v u->t v σ H Q->
  wpAny (model X.prog X.w) X.A (assign target X.env u) (λ_ s'=>∃σ' H',Inv X pins σ' H' s'/\Q σ' H') X.xe s
def PGs (X:Cx) (ts:List Expr) (t:TGs):Prop :=
 ∀(pins:List (Addr×Obj)) (s:Shared) (σ:St) (H:Hp) (vs:List V) (us:List Value) (Q:St->Hp->Prop),Inv X pins σ H s->A1u vs us->t vs σ H Q->
  wpAny (model X.prog X.w) X.A (assignInOrder ((assignEach ts X.env).map (·.2)) us) (λ_ s'=>∃σ' H',Inv X pins σ' H' s'/\Q σ' H') X.xe s
section
variable {X:Cx} {pos:Pos}
def B8w (i:Nat):TG:=λv σ H Q=>Q (σ.set i (some v)) H
theorem A0o {i:Nat} {x:Str} (hN:X.N.Nodup) (hi:X.N[i]? =some x) (hx:Loc X.env.scope x) (hf:X.fn x=true\/X.env.scope.names.lookup x=some .local:=by first | exact .inl rfl | exact .inr rfl | assumption):PG X (.Name x pos) (B8w i):=by
 intro pins s σ H v u Q I r h;exact wpAny_assign_Name (B0a I hN hi hx r (λs' I'=>⟨_,H,I',h⟩) hf)
def gNil:TGs:=λvs σ H Q=>vs=[]/\Q σ H
def C1d (t:TG) (u:TGs):TGs:=λvs σ H Q=>∃v r,vs=v::r/\t v σ H λσ' H'=>u r σ' H' Q
theorem A5v:PGs X [] gNil:=by
 intro pins s σ H vs us Q I r h;obtain ⟨e,h⟩:=h;subst e;cases r;exact assignInOrder_nil ⟨σ,H,I,h⟩
theorem A0z {e:Expr} {es:List Expr} {t:TG} {u:TGs} (h1:PG X e t) (h2:PGs X es u)
  (hs:(assignEach (e::es) X.env).map (·.2)=assign e X.env::(assignEach es X.env).map (·.2):=by rfl):PGs X (e::es) (C1d t u):=by
 intro pins s σ H vs us Q I r h;obtain ⟨v,vr,e1,h⟩:=h;subst e1
 cases r with
 | cons r rr =>
  rw [hs];refine assignInOrder_cons (thn (h1 pins s σ H _ _ _ I r h) ?_);rintro _ s1 ⟨σ1,H1,I1,q1⟩;exact h2 pins s1 σ1 H1 _ _ Q I1 rr q1
def gTup (K:Frag) (n:Nat) (t:TGs):TG:=λv σ H Q=>∃a xs,v= .ref a/\SqT K H a xs/\xs.length=n/\t xs σ H Q
theorem A7s {es:List Expr} {k:Nat} {t:TGs} {n:Nat} (hc:X.calm=true) (h:PGs X es t)
  (hn:(assignEach es X.env).length=n:=by rfl) (hst:(assignEach es X.env).findIdx? (·.1)=none:=by rfl):PG X (.Tuple es k pos) (gTup X.K n t):=by
 intro pins s σ H v u Q I r hw;obtain ⟨a,xs,e1,hq,hl,hw⟩:=hw;subst e1;cases r;obtain ⟨its,rv,ht,hz⟩:=I.tuple hq;refine assign_Tuple_tuple (I.ok.hd hc) ht (by simp [hn,<-hl,rv.length]) hst λh' hx=> ?_;have I1:Inv X pins σ H { s with heap:=h' }:=I.kept (t':=s.toks) λb o e=>hx b o (Z0h (Z0a e)) e
 exact h pins _ σ H xs _ Q I1 (by simpa using rv) hw
def C1q (te:TE) (g:TG):TS:=λD σ H=>te σ H λx H1=>g x σ H1 D.nx
theorem B4c {tg e:Expr} {te:TE} {g:TG} (he:PE X e te) (hg:PG X tg g) (hs:swapsWithSole [tg] e pos.line X.env=pure false:=by rfl) (hw:swappedStores [tg] e X.env=pure none:=by rfl)
  (h1:(assignEach [tg] X.env).map (·.2)=[assign tg X.env]:=by rfl):PS X (.Assign [tg] e pos) (C1q te g):=by
 intro pins s σ H D I h;refine wpAny_Assign_stores (thn (he pins s σ H _ I h) ?_) hs hw;rintro v s1 ⟨x,H1,I1,r1,q1⟩;rw [h1];exact thn (hg pins s1 σ H1 x v _ I1 r1 q1) λ_ s2 q=>q
theorem A0w {i:Nat} {x:Str} {e:Expr} {te:TE} {pos':Pos} (hN:X.N.Nodup) (hi:X.N[i]? =some x) (hx:Loc X.env.scope x) (he:PE X e te) (hs:swapsWith e (some (.Name x pos')) pos.line X.env=pure false:=by rfl) (hf:X.fn x=true\/X.env.scope.names.lookup x=some .local:=by first | exact .inl rfl | exact .inr rfl | assumption) :
  PS X (.Assign [.Name x pos'] e pos) (C1q te (B8w i)):=by
 intro pins s σ H D I h;refine wpAny_Assign_Name (thn (he pins s σ H _ I h) ?_) hs;rintro v s1 ⟨y,H1,I1,r1,q1⟩;exact B0a I1 hN hi hx r1 (λs2 I2=>⟨_,H1,I2,q1⟩) hf
def B9d (c:TT) (tb:TS):TS:=λD σ H=>∃W:Nat->St->Hp->Prop,(∃m,W m σ H)/\∀m σ H,W m σ H->
 c σ H λb H1=>if b=true then∃N:St->Hp->Prop,(∀σ' H',N σ' H'->∃m',m'<m/\W m' σ' H')/\tb { D with nx:=N,ct:=N,bk:=D.nx } σ H1 else D.nx σ H1
theorem B4r {c:Expr} {body:List Stmt} {tc:TT} {tb:TS} (hp:PassesOwn (model X.prog X.w) X.A X.env X.xe) (hc:PT X c tc) (hb:PSs X body tb):PS X (.While c body [] pos) (B9d tc tb):=by
 intro pins s σ H D I h;obtain ⟨W,⟨m0,w0⟩,turn⟩:=h;refine wpAny_While (codeAny_whileLoop (λn s'=>∃σ' H',Inv X pins σ' H' s'/\W n σ' H') ?_ m0 ⟨σ,H,I,w0⟩);rintro n s1 ⟨σ1,H1,I1,w1⟩;refine wpAny_passesOwn hp (thn (hc pins s1 σ1 H1 _ I1 (turn n σ1 H1 w1)) ?_);rintro b s2 ⟨H2,I2,q2⟩
 cases b with
 | true =>
  obtain ⟨N,hN,q2⟩:=q2;rw [Z12 rfl];refine wpAny_passesOwn hp (thn (hb pins s2 σ1 H2 _ I2 q2) λf s3 q3=> ?_)
  cases f with
  | next =>
   obtain ⟨σ3,H3,I3,n3⟩:=q3;obtain ⟨m',hm,w3⟩:=hN σ3 H3 n3;exact ⟨m',hm,σ3,H3,I3,w3⟩
  | cont =>
   obtain ⟨σ3,H3,I3,n3⟩:=q3;obtain ⟨m',hm,w3⟩:=hN σ3 H3 n3;exact ⟨m',hm,σ3,H3,I3,w3⟩
  | brk=>exact q3
  | ret v=>exact q3
 | false =>
  rw [Z0t Z0v];exact Z2b ⟨σ1,H2,I2,q2⟩
end
structure It where
 go:Nat->Hp->Prop
 yld:Nat->Hp->V->Hp->Prop
 stop:Nat->Hp->Prop
def A8l (X:Cx) (pins:List (Addr×Obj)) (H:Hp) (b:Addr):Prop :=
 H b=none/\b≠X.env.locals/\b∉X.fs/\(b∈X.ex\/X.s₀.heap.objs.size<=b)/\(∀x c,X.env.cells.lookup x=some c->c≠b)/\∀p∈X.pn++pins,p.1≠b
theorem Inv.fpOk {X:Cx} {pins:List (Addr×Obj)} {σ:St} {H H':Hp} {s:Shared} {b:Addr} (I:Inv X pins σ H s) (hb:s.heap.objs.size<=b) (hn:H' b=none):A8l X pins H' b:=by
 refine ⟨hn,Z1q (Z0q I.lt hb),I.nofs hb,.inr (Z1n I.sz hb),λx c e z=> ?_,λp hp z=> ?_⟩
 ·obtain ⟨v,q⟩:=I.cell x c e;exact absurd (Z0q q.lt (by rw [z];exact hb)) (Nat.lt_irrefl _)
 ·exact absurd (Z0q (Z0a (I.pin p hp).1) (by rw [z];exact hb)) (Nat.lt_irrefl _)
structure B9w (P:Program) (w:World) (K:Frag) (tg:Expr) (J:It) (fp:List Addr) (it:Addr) (tn:Nat->Heap->Prop):Prop where
 mem:it∈fp
 obj:∀i h,tn i h->∀b∈fp,∃o,h.get? b=some o/\∀v,o.data≠.cell v
 keep:∀i h h',tn i h->(∀b∈fp,∀o,h.get? b=some o->h'.get? b=some o)->tn i h'
 item:∀(X:Cx),X.prog=P->X.w=w->X.K=K->X.calm=true->∀(i:Nat) (pins:List (Addr×Obj)) (s:Shared) (σ:St) (H:Hp) (E:Value->Shared->Prop),Inv X pins σ H s->(∀b∈fp,A8l X pins H b)->tn i s.heap->J.go i H->
  wpAny (model P w) X.A (pyNext (.ref it)) (λr s1=>∃u,r=some u/\
   wpAny (model P w) X.A (letOwnedTupleGo tg (.ref it) u) (λ_ s2=>∃x H',Inv X pins σ H' s2/\A2a x u/\J.yld i H x H'/\tn (i+1) s2.heap/\∀b∈fp,H' b=none) E s1) E s
 done:∀(X:Cx),X.prog=P->X.w=w->X.K=K->X.calm=true->∀(i:Nat) (pins:List (Addr×Obj)) (s:Shared) (σ:St) (H:Hp) (E:Value->Shared->Prop),Inv X pins σ H s->(∀b∈fp,A8l X pins H b)->tn i s.heap->J.stop i H->
  wpAny (model P w) X.A (pyNext (.ref it)) (λr s1=>r=none/\Inv X pins σ H s1) E s
 self:∀(A:Around) (i:Nat) (s:Shared) (Q:Value->Shared->Prop) (E:Value->Shared->Prop),tn i s.heap->Q (.ref it) s->wpAny (model P w) A (pyIter (.ref it)) Q E s
abbrev TI:=St->Hp->(It->Hp->Prop)->Prop
def PIE (X:Cx) (pins:List (Addr×Obj)) (σ:St) (tg:Expr) (R:It->Hp->Prop) (itv:Value) (s2:Shared):Prop :=
 ∃(it:Addr) (fp:List Addr) (tn:Nat->Heap->Prop) (J:It) (H':Hp),itv= .ref it/\Inv X pins σ H' s2/\B9w X.prog X.w X.K tg J fp it tn/\tn 0 s2.heap/\(∀b∈fp,A8l X pins H' b)/\R J H'
def PI (X:Cx) (tg iter:Expr) (wi:TI):Prop :=
 ∀(pins:List (Addr×Obj)) (s:Shared) (σ:St) (H:Hp) (R:It->Hp->Prop),Inv X pins σ H s->wi σ H R->
  wpAny (model X.prog X.w) X.A (eval iter X.env) (λv s1=>wpAny (model X.prog X.w) X.A (pyIter v) (PIE X pins σ tg R) X.xe s1) X.xe s
theorem B7t {M:Model} {A:Around} {E:Value->Shared->Prop} {s:Shared} {tg:Expr} {it:Addr} {u:Value} {o:Obj} {n:String} {vs:Array Value} {Q:Unit->Shared->Prop} (ho:s.heap.get? it=some o) (hc:o.cls= .type n) (hd:o.data= .fields vs)
  (hn:["enumerate","zip","dict_itemiterator","dict_reverseitemiterator","odict_iterator","itertools.zip_longest","itertools.pairwise"].contains n=false) (hQ:Q () s):wpAny M A (letOwnedTupleGo tg (.ref it) u) Q E s:=by
 unfold letOwnedTupleGo
 cases tg <;> first
  | exact Z04 hQ
  | (cases u <;> first
    | exact Z04 hQ
    | (refine Z00 (wpAny_load ho ?_);rw [hc,hd];show wpAny M A (if (["enumerate","zip","dict_itemiterator","dict_reverseitemiterator","odict_iterator","itertools.zip_longest","itertools.pairwise"].contains n&&vs[0]? == some (rawInt _))=true then _ else _) Q E s;rw [Z0t (by intro h;rw [hn,Bool.false_and] at h;cases h)];exact Z04 hQ))
def Itl (K:Frag) (a:Addr):It :=
 ⟨λi H=>∃xs x,SqL K H a xs/\xs[i]? =some x,λi H x H'=>H'=H/\∀xs,SqL K H a xs->xs[i]? =some x,λi H=>∃xs,SqL K H a xs/\xs.length<=i⟩
def Itt (K:Frag) (a:Addr):It :=
 ⟨λi H=>∃xs x,SqT K H a xs/\xs[i]? =some x,λi H x H'=>H'=H/\∀xs,SqT K H a xs->xs[i]? =some x,λi H=>∃xs,SqT K H a xs/\xs.length<=i⟩
def Itr (lo:Int) (n:Nat):It:=⟨λi _=>i<n,λi H x H'=>H'=H/\x= .int (lo+i),λi _=>n<=i⟩
theorem B1z {P:Program} {w:World} {K:Frag} {tg:Expr} (a it:Addr):B9w P w K tg (Itl K a) [it] it (λi h=>h.IsListIter it a i) where
 mem:=by simp
 obj:=λi h st b hb=>by
  have e:b=it:=by simpa using hb
  subst e;obtain ⟨o,e,c,d⟩:=st;exact ⟨o,e,λv z=>by rw [d] at z;cases z⟩
 keep:=λi h h' st k=>st.at λo e=>k it (by simp) o e
 item:=by
  intro X hP hw hK hc i pins s σ H E I hf st hg;subst hP hw hK;obtain ⟨xs,x,hq,hx⟩:=hg;obtain ⟨its,rv,p,hz⟩:=I.list hq;obtain ⟨u,hu,ru⟩:=rv.get hx;obtain ⟨f0,f1,f2,f3,f4,f5⟩:=hf it (by simp);refine wpAny_pyNext_list_item st p.isList (x:=u) (by simpa using hu) λh' st' sb=> ?_;have I1:Inv X pins σ H { s with heap:=h' }:=I.turned (t':=s.toks) (λb o hb e=>(sb.2 b hb).trans e) f0 f1 f3 f4 f5
  obtain ⟨o,e,c,d⟩:=id st';exact ⟨u,rfl,B7t (s:={ s with heap:=h' }) e c d (by decide) ⟨x,H,I1,ru,⟨rfl,λys hy=>by rw [I.list_inj hy hq];exact hx⟩,st',λb hb=>(hf b hb).1⟩⟩
 done:=by
  intro X hP hw hK hc i pins s σ H E I hf st hg;subst hP hw hK;obtain ⟨xs,hq,hx⟩:=hg;obtain ⟨its,rv,p,hz⟩:=I.list hq;obtain ⟨f0,f1,f2,f3,f4,f5⟩:=hf it (by simp);have hl:=rv.length;exact wpAny_pyNext_list_end (I.ok.hd hc) st p.isList (by simp;lia) λh' eb=>⟨rfl,I.turned (t':=s.toks) (λb o hb e=>eb b o hb e) f0 f1 f3 f4 f5⟩
 self:=λ_ _ _ _ _ st h=>wpAny_pyIter_listiter st h
theorem B1i {P:Program} {w:World} {K:Frag} {tg:Expr} (a it:Addr):B9w P w K tg (Itt K a) [it] it (λi h=>h.IsTupleIter it a i) where
 mem:=by simp
 obj:=λi h st b hb=>by
  have e:b=it:=by simpa using hb
  subst e;obtain ⟨o,e,c,d⟩:=st;exact ⟨o,e,λv z=>by rw [d] at z;cases z⟩
 keep:=λi h h' st k=>st.at λo e=>k it (by simp) o e
 item:=by
  intro X hP hw hK hc i pins s σ H E I hf st hg;subst hP hw hK;obtain ⟨xs,x,hq,hx⟩:=hg;obtain ⟨its,rv,p,hz⟩:=I.tuple hq;obtain ⟨u,hu,ru⟩:=rv.get hx;obtain ⟨f0,f1,f2,f3,f4,f5⟩:=hf it (by simp);refine wpAny_pyNext_tuple_item st (show s.heap.IsTuple a its.toArray from p) (x:=u) (by simpa using hu) λh' st' sb=> ?_;have I1:Inv X pins σ H { s with heap:=h' }:=I.turned (t':=s.toks) (λb o hb e=>(sb.2 b hb).trans e) f0 f1 f3 f4 f5
  obtain ⟨o,e,c,d⟩:=id st';exact ⟨u,rfl,B7t (s:={ s with heap:=h' }) e c d (by decide) ⟨x,H,I1,ru,⟨rfl,λys hy=>by rw [I.tuple_inj hy hq];exact hx⟩,st',λb hb=>(hf b hb).1⟩⟩
 done:=by
  intro X hP hw hK hc i pins s σ H E I hf st hg;subst hP hw hK;obtain ⟨xs,hq,hx⟩:=hg;obtain ⟨its,rv,p,hz⟩:=I.tuple hq;obtain ⟨f0,f1,f2,f3,f4,f5⟩:=hf it (by simp);have hl:=rv.length;exact wpAny_pyNext_tuple_end (I.ok.hd hc) st (show s.heap.IsTuple a its.toArray from p) (by simp;lia) λh' eb=>⟨rfl,I.turned (t':=s.toks) (λb o hb e=>eb b o hb e) f0 f1 f3 f4 f5⟩
 self:=λ_ _ _ _ _ st h=>wpAny_pyIter_tupleiter st h
theorem B1g {P:Program} {w:World} {K:Frag} {tg:Expr} (it:Addr) (lo:Int) (n:Nat):B9w P w K tg (Itr lo n) [it] it (λi h=>IsRangeIter h it (lo+(i:Nat)*1) ((n:Int)-(i:Nat)) 1) where
 mem:=by simp
 obj:=λi h st b hb=>by
  have e:b=it:=by simpa using hb
  subst e
  exact ⟨_,st,λv z=>by
   have z':Data.fields _=Data.cell v:=z
   cases z'⟩
 keep:=λi h h' st k=>k it (by simp) _ st
 item:=by
  intro X hP hw hK hc i pins s σ H E I hf st hg;subst hP hw hK;obtain ⟨f0,f1,f2,f3,f4,f5⟩:=hf it (by simp);have W:=Walks.range (prog:=X.prog) (w:=X.w) (I.ok.hd hc) it lo 1 n;refine W.item i s _ _ hg st λv h' tk hv st' kk=> ?_;obtain ⟨t,rfl⟩:=hv;have I1:Inv X pins σ H { s with heap:=h',toks:=tk }:=I.turned (λb o hb e=>kk b o (by simpa using hb) e) f0 f1 f3 f4 f5
  refine ⟨_,rfl,B7t (s:={ s with heap:=h',toks:=tk }) (n:="range_iterator") st' rfl rfl (by decide) ⟨.int (lo+i),H,I1,⟨t,?_⟩,⟨rfl,rfl⟩,st',λb hb=>(hf b hb).1⟩⟩
  rw [Int.mul_one]
 done:=by
  intro X hP hw hK hc i pins s σ H E I hf st hg;subst hP hw hK;obtain ⟨f0,f1,f2,f3,f4,f5⟩:=hf it (by simp);exact wpAny_pyNext_range_end (I.ok.hd hc) st (by have:n<=i:=hg;lia) λh' eb=>⟨rfl,I.turned (t':=s.toks) (λb o hb e=>eb b o hb e) f0 f1 f3 f4 f5⟩
 self:=λ_ _ _ _ _ st h=>wpAny_pyIter_rangeiter st h
section
variable {X:Cx} {tg:Expr}
def C0x (K:Frag) (tl:TE):TI:=λσ H R=>tl σ H λx H1=>∃a,x= .ref a/\(∃xs,SqL K H1 a xs)/\R (Itl K a) H1
def iTup (K:Frag) (tl:TE):TI:=λσ H R=>tl σ H λx H1=>∃a,x= .ref a/\(∃xs,SqT K H1 a xs)/\R (Itt K a) H1
theorem A5f {l:Expr} {tl:TE} (hl:PE X l tl):PI X tg l (C0x X.K tl):=by
 intro pins s σ H R I h;refine thn (hl pins s σ H _ I h) ?_;rintro v s1 ⟨x,H1,I1,r1,q1⟩;obtain ⟨a,e,⟨xs,hq⟩,q⟩:=q1;subst e;cases r1;obtain ⟨its,rv,p,hz⟩:=I1.list hq;refine wpAny_pyIter_list p.isList ?_;refine ⟨s1.heap.objs.size,[s1.heap.objs.size],_,_,H1,rfl,I1.kept (t':=s1.toks) λb o e=>Z01 _ e,B1z a _,⟨_,Z0c _ rfl,rfl,rfl⟩,λb hb=> ?_,q⟩;have e:b=s1.heap.objs.size:=by simpa using hb
 subst e;exact I1.fpOk (Z09 _) (I1.hok.fresh (Z09 _))
theorem B0x {l:Expr} {tl:TE} (hl:PE X l tl):PI X tg l (iTup X.K tl):=by
 intro pins s σ H R I h;refine thn (hl pins s σ H _ I h) ?_;rintro v s1 ⟨x,H1,I1,r1,q1⟩;obtain ⟨a,e,⟨xs,hq⟩,q⟩:=q1;subst e;cases r1;obtain ⟨its,rv,p,hz⟩:=I1.tuple hq;refine wpAny_pyIter_tuple (show s1.heap.IsTuple a its.toArray from p) ?_;refine ⟨s1.heap.objs.size,[s1.heap.objs.size],_,_,H1,rfl,I1.kept (t':=s1.toks) λb o e=>Z01 _ e,B1i a _,⟨_,Z0c _ rfl,rfl,rfl⟩,λb hb=> ?_,q⟩;have e:b=s1.heap.objs.size:=by simpa using hb
 subst e;exact I1.fpOk (Z09 _) (I1.hok.fresh (Z09 _))
theorem B0c {pins:List (Addr×Obj)} {σ:St} {H:Hp} {s:Shared} {R:It->Hp->Prop} {E:Value->Shared->Prop} {lo hi:Int} {t u v:Tok} {tk:Nat} (I:Inv X pins σ H s) (h1: -(2^62)<=lo) (h2:lo<2^62) (h3: -(2^62)<=hi) (h4:hi<2^62)
  (q:R (Itr lo (hi-lo).toNat) H):wpAny (model X.prog X.w) X.A (pyIter (.ref s.heap.objs.size)) (PIE X pins σ tg R) E { s with heap:=s.heap.push { cls:= .type "range",data:= .fields #[.int lo t,.int hi u,.int 1 v] },toks:=tk }:=by
 refine wpAny_pyIter_range (IsRange.new ..) (small_one h1 h2 h3 h4) ?_;have I1:Inv X pins σ H { s with heap:=s.heap.push { cls:= .type "range",data:= .fields #[.int lo t,.int hi u,.int 1 v] },toks:=tk }:=I.kept λb o e=>Z01 _ e
 refine ⟨(s.heap.push { cls:= .type "range",data:= .fields #[.int lo t,.int hi u,.int 1 v] }).objs.size,[(s.heap.push { cls:= .type "range",data:= .fields #[.int lo t,.int hi u,.int 1 v] }).objs.size],_,_,H,rfl,
  I1.kept (t':=tk) λb o e=>Z01 _ e,B1g _ lo (hi-lo).toNat,?_,λb hb=> ?_,q⟩
 ·have e1:lo+((0:Nat):Int)*1=lo:=by simp
  have e2:(((hi-lo).toNat:Nat):Int)-((0:Nat):Int)=Builtin.Range.rangeSize lo hi 1:=by rw [rangeSize_one];split <;> lia
  show IsRangeIter _ _ (lo+((0:Nat):Int)*1) ((((hi-lo).toNat:Nat):Int)-((0:Nat):Int)) 1;rw [e1,e2];exact Z0c _ rfl
 ·have e:b=(s.heap.push { cls:= .type "range",data:= .fields #[.int lo t,.int hi u,.int 1 v] }).objs.size:=by simpa using hb
  subst e;exact I1.fpOk (Z09 _) (I1.hok.fresh (Z09 _))
def C0r (ta:TA):TI:=λσ H R=>ta σ H λvs H1=>∃j:Int,vs=[.int j]/\-(2^62)<=j/\j<2^62/\R (Itr 0 j.toNat) H1
def C0z (ta:TA):TI:=λσ H R=>ta σ H λvs H1=>∃i j:Int,vs=[.int i,.int j]/\(-(2^62)<=i/\i<2^62/\-(2^62)<=j/\j<2^62)/\R (Itr i (j-i).toNat) H1
theorem A5w {a:Expr} {ta:TA} {p pos:Pos} (hg:Gl X "range") (hm:X.mg "range"=none) (ha:PA X [a] ta) (hs:starEach [a] X.env=[(false,eval a X.env)]:=by rfl):PI X tg (.Call (.Name "range" p) [a] [] pos) (C0r ta):=by
 intro pins s σ H R I h;refine Call_ (A3h I hg hm boot_range (PyProof.Rows.callWith_type1 (thn (ha pos pins s σ H _ I h) ?_) hs rfl));rintro us s1 ⟨vs,H1,I1,r1,q1⟩;obtain ⟨j,e,q1,q2,q⟩:=q1;subst e
 cases r1 with
 | cons r rr =>
  cases rr
  obtain ⟨t,rfl⟩:=r;exact call_range_1 (B0c I1 (by lia) (by lia) q1 q2 (by simpa using q))
theorem A7i {a b:Expr} {ta:TA} {p pos:Pos} (hg:Gl X "range") (hm:X.mg "range"=none) (ha:PA X [a,b] ta) (hs:starEach [a,b] X.env=[(false,eval a X.env),(false,eval b X.env)]:=by rfl) (hs2:starEach [b] X.env=[(false,eval b X.env)]:=by rfl) :
  PI X tg (.Call (.Name "range" p) [a,b] [] pos) (C0z ta):=by
 intro pins s σ H R I h;refine Call_ (A3h I hg hm boot_range (PyProof.Rows.callWith_type1 (thn (ha pos pins s σ H _ I h) ?_) (by rw [hs,hs2]) (by rw [hs2];rfl)));rintro us s1 ⟨vs,H1,I1,r1,q1⟩;obtain ⟨i,j,e,⟨q1,q2,q3,q4⟩,q⟩:=q1;subst e
 cases r1 with
 | cons r rr =>
  cases rr with
  | cons r' rr =>
   cases rr
   obtain ⟨t,rfl⟩:=r;obtain ⟨t',rfl⟩:=r';exact call_range_2 (B0c I1 q1 q2 q3 q4 q)
def tFor (wi:TI) (g:TG) (tb:TS):TS:=λD σ H=>wi σ H λJ H1=>∃W:Nat->Nat->St->Hp->Prop,(∃m,W 0 m σ H1)/\∀i m σ H,W i m σ H->
 (J.stop i H/\D.nx σ H)\/(J.go i H/\∃N:St->Hp->Prop,(∀σ' H',N σ' H'->∃m',m'<m/\W (i+1) m' σ' H')/\∀x H',J.yld i H x H'->g x σ H' λσ2 H2=>tb { D with nx:=N,ct:=N,bk:=D.nx } σ2 H2)
def A8j (fp:List Addr) (h:Heap):List (Addr×Obj):=fp.filterMap λb=>(h.get? b).map λo=>(b,o)
theorem A2h {fp:List Addr} {h:Heap} {b:Addr} {o:Obj} (hb:b∈fp) (e:h.get? b=some o):(b,o)∈A8j fp h:=List.mem_filterMap.mpr ⟨b,hb,by rw [e];rfl⟩
theorem B2o {fp:List Addr} {h:Heap} {p:Addr×Obj} (hp:p∈A8j fp h):p.1∈fp/\h.get? p.1=some p.2:=by
 obtain ⟨b,hb,e⟩:=List.mem_filterMap.mp hp
 cases q:h.get? b with
 | none=>rw [q] at e;cases e
 | some o =>
  rw [q] at e;have e':(b,o)=p:=Z1a e;subst e';exact ⟨hb,q⟩
theorem Inv.pinned {pins:List (Addr×Obj)} {σ:St} {H:Hp} {s:Shared} {fp:List Addr} (I:Inv X pins σ H s) (hf:∀b∈fp,A8l X pins H b) (ho:∀b∈fp,∃o,s.heap.get? b=some o/\∀v,o.data≠.cell v):Inv X (pins++A8j fp s.heap) σ H s :=
 I.pins_of λp hp=>(Z07.mp hp).elim (λz=>I.pin p (Z02 _ z)) λz=>by
  obtain ⟨hb,e⟩:=B2o z;obtain ⟨f0,f1,f2,_⟩:=hf p.1 hb;obtain ⟨o,e',d⟩:=ho p.1 hb;rw [e] at e';cases e';exact ⟨e,f0,f1,f2,d⟩
theorem Inv.unpinned {pins pl:List (Addr×Obj)} {σ:St} {H:Hp} {s:Shared} (I:Inv X (pins++pl) σ H s):Inv X pins σ H s:=I.pins_of λp hp=>I.pin p (Z02 _ (Z05 _ hp))
theorem A3t {iter:Expr} {body:List Stmt} {wi:TI} {g:TG} {tb:TS} {pos:Pos} (hp:PassesOwn (model X.prog X.w) X.A X.env X.xe) (hc:X.calm=true) (hi:PI X tg iter wi) (hg:PG X tg g) (hb:PSs X body tb)
  (hs:∀x,foldedSetIterable iter X.env x=pure x:=by intro _;rfl):PS X (.For tg iter body [] pos) (tFor wi g tb):=by
 intro pins s σ H D I h;refine wpAny_For (thn (hi pins s σ H _ I h) λv s1 h1=>thn h1 λitv s2 h2=> ?_) hs;obtain ⟨it,fp,tn,J,H2,e,I2,T,st2,f2,W,⟨m0,w0⟩,turn⟩:=h2;subst e;have stat:∀{H':Hp},(∀b∈fp,H' b=none)->∀b∈fp,A8l X pins H' b:=λhn b hb=>⟨hn b hb,(f2 b hb).2⟩;refine codeAny_forLoop_any (λn s'=>∃i σ' H',Inv X pins σ' H' s'/\tn i s'.heap/\(∀b∈fp,H' b=none)/\W i n σ' H') ?_ m0 ⟨0,σ,H2,I2,st2,λb hb=>(f2 b hb).1,w0⟩;rintro n s3 ⟨i,σ3,H3,I3,st3,fr3,w3⟩;rcases turn i n σ3 H3 w3 with ⟨stop,qn⟩ | ⟨go,N,hN,step⟩
 ·refine wpAny_passesOwn hp (thn (T.done X rfl rfl rfl hc i pins s3 σ3 H3 X.xe I3 (stat fr3) st3 stop) ?_);rintro r s4 ⟨hr,I4⟩;subst hr;exact Z2b ⟨σ3,H3,I4,qn⟩
 ·refine wpAny_passesOwn hp (thn (T.item X rfl rfl rfl hc i pins s3 σ3 H3 X.xe I3 (stat fr3) st3 go) ?_);rintro r s4 ⟨u,hr,h4⟩;subst hr;refine wpAny_passesOwn hp (thn h4 ?_);rintro _ s5 ⟨x,H5,I5,r5,y5,st5,fr5⟩;have I5':=I5.pinned (stat fr5) (T.obj _ _ st5);refine wpAny_passesOwn hp (thn (hg _ s5 σ3 H5 x u _ I5' r5 (step x H5 y5)) ?_);rintro _ s6 ⟨σ6,H6,I6,q6⟩;refine wpAny_passesOwn hp (thn (hb _ s6 σ6 H6 _ I6 q6) λf s7 q7=> ?_)
  have again:∀{σ7:St} {H7:Hp},Inv X (pins++A8j fp s5.heap) σ7 H7 s7->N σ7 H7->∃m,m<n/\∃i σ' H',Inv X pins σ' H' s7/\tn i s7.heap/\(∀b∈fp,H' b=none)/\W i m σ' H':=λ{σ7 H7} I7 n7=>by
   obtain ⟨m',hm,w7⟩:=hN σ7 H7 n7;refine ⟨m',hm,i+1,σ7,H7,I7.unpinned,T.keep _ _ _ st5 λb hb o e=>(I7.pin (b,o) (Z02 _ (Z02 _ (A2h hb e)))).1,λb hb=> ?_,w7⟩;obtain ⟨o,e,d⟩:=T.obj _ _ st5 b hb;exact (I7.pin (b,o) (Z02 _ (Z02 _ (A2h hb e)))).2.1
  cases f with
  | next=>obtain ⟨σ7,H7,I7,n7⟩:=q7;exact again I7 n7
  | cont=>obtain ⟨σ7,H7,I7,n7⟩:=q7;exact again I7 n7
  | brk=>obtain ⟨σ7,H7,I7,q7⟩:=q7;exact ⟨σ7,H7,I7.unpinned,q7⟩
  | ret v=>obtain ⟨x7,σ7,H7,I7,r7,q7⟩:=q7;exact ⟨x7,σ7,H7,I7.unpinned,r7,q7⟩
end
theorem A4r {K:Frag} {a:Addr} {xs:List V} {g:TG} {tb:TS} {D:B5y} {σ:St} {H:Hp} (Pv:Nat->St->Hp->Prop) (h0:Pv 0 σ H) (hl:∀i σ H,i<=xs.length->Pv i σ H->SqL K H a xs)
  (hs:∀i x σ H,xs[i]? =some x->Pv i σ H->g x σ H λσ2 H2=>tb { D with nx:=Pv (i+1),ct:=Pv (i+1),bk:=D.nx } σ2 H2) (hd:∀σ H,Pv xs.length σ H->D.nx σ H) :
  ∃W:Nat->Nat->St->Hp->Prop,(∃m,W 0 m σ H)/\∀i m σ H,W i m σ H->
   ((Itl K a).stop i H/\D.nx σ H)\/((Itl K a).go i H/\∃N:St->Hp->Prop,(∀σ' H',N σ' H'->∃m',m'<m/\W (i+1) m' σ' H')/\∀x H',(Itl K a).yld i H x H'->g x σ H' λσ2 H2=>tb { D with nx:=N,ct:=N,bk:=D.nx } σ2 H2):=by
 refine ⟨λi m σ H=>m=xs.length-i/\i<=xs.length/\Pv i σ H,⟨xs.length,by simp,Z1e _,h0⟩,?_⟩;rintro i m σ H ⟨rfl,hi,p⟩;have q:=hl i σ H hi p;by_cases hlt:i<xs.length
 ·refine .inr ⟨⟨xs,xs[i],q,by simp [hlt]⟩,Pv (i+1),λσ' H' p'=>⟨xs.length-(i+1),by lia,rfl,hlt,p'⟩,λx H' y=> ?_⟩;obtain ⟨e,y⟩:=y;subst e;exact hs i x σ _ (y xs q) p
 ·have e:i=xs.length:=by lia
  subst e;exact .inl ⟨⟨xs,q,Z09 _⟩,hd σ H p⟩
theorem B7m {K:Frag} {a:Addr} {xs:List V} {g:TG} {tb:TS} {D:B5y} {σ:St} {H:Hp} (Pv:Nat->St->Hp->Prop) (h0:Pv 0 σ H) (hl:∀i σ H,i<=xs.length->Pv i σ H->SqT K H a xs)
  (hs:∀i x σ H,xs[i]? =some x->Pv i σ H->g x σ H λσ2 H2=>tb { D with nx:=Pv (i+1),ct:=Pv (i+1),bk:=D.nx } σ2 H2) (hd:∀σ H,Pv xs.length σ H->D.nx σ H) :
  ∃W:Nat->Nat->St->Hp->Prop,(∃m,W 0 m σ H)/\∀i m σ H,W i m σ H->
   ((Itt K a).stop i H/\D.nx σ H)\/((Itt K a).go i H/\∃N:St->Hp->Prop,(∀σ' H',N σ' H'->∃m',m'<m/\W (i+1) m' σ' H')/\∀x H',(Itt K a).yld i H x H'->g x σ H' λσ2 H2=>tb { D with nx:=N,ct:=N,bk:=D.nx } σ2 H2):=by
 refine ⟨λi m σ H=>m=xs.length-i/\i<=xs.length/\Pv i σ H,⟨xs.length,by simp,Z1e _,h0⟩,?_⟩;rintro i m σ H ⟨rfl,hi,p⟩;have q:=hl i σ H hi p;by_cases hlt:i<xs.length
 ·refine .inr ⟨⟨xs,xs[i],q,by simp [hlt]⟩,Pv (i+1),λσ' H' p'=>⟨xs.length-(i+1),by lia,rfl,hlt,p'⟩,λx H' y=> ?_⟩;obtain ⟨e,y⟩:=y;subst e;exact hs i x σ _ (y xs q) p
 ·have e:i=xs.length:=by lia
  subst e;exact .inl ⟨⟨xs,q,Z09 _⟩,hd σ H p⟩
theorem A3v {lo:Int} {n:Nat} {g:TG} {tb:TS} {D:B5y} {σ:St} {H:Hp} (Pv:Nat->St->Hp->Prop) (h0:Pv 0 σ H)
  (hs:∀i σ H,i<n->Pv i σ H->g (.int (lo+i)) σ H λσ2 H2=>tb { D with nx:=Pv (i+1),ct:=Pv (i+1),bk:=D.nx } σ2 H2) (hd:∀σ H,Pv n σ H->D.nx σ H) :
  ∃W:Nat->Nat->St->Hp->Prop,(∃m,W 0 m σ H)/\∀i m σ H,W i m σ H->
   ((Itr lo n).stop i H/\D.nx σ H)\/((Itr lo n).go i H/\∃N:St->Hp->Prop,(∀σ' H',N σ' H'->∃m',m'<m/\W (i+1) m' σ' H')/\∀x H',(Itr lo n).yld i H x H'->g x σ H' λσ2 H2=>tb { D with nx:=N,ct:=N,bk:=D.nx } σ2 H2):=by
 refine ⟨λi m σ H=>m=n-i/\i<=n/\Pv i σ H,⟨n,by simp,Z1e _,h0⟩,?_⟩;rintro i m σ H ⟨rfl,hi,p⟩;by_cases hlt:i<n
 ·refine .inr ⟨hlt,Pv (i+1),λσ' H' p'=>⟨n-(i+1),by lia,rfl,hlt,p'⟩,λx H' y=> ?_⟩;obtain ⟨e,y⟩:=y;subst e y;exact hs i σ _ hlt p
 ·have e:i=n:=by lia
  subst e;exact .inl ⟨Z09 _,hd σ H p⟩
abbrev R2:=V->V->Hp->VK->Prop
def OpR (X:Cx) (f:Value->Value->Sem Value) (r:R2):Prop :=
 ∀(pins:List (Addr×Obj)) (s:Shared) (σ:St) (H:Hp) (x y:V) (v u:Value) (Q:VK),Inv X pins σ H s->A2a x v->A2a y u->r x y H Q->
  wpAny (model X.prog X.w) X.A (f v u) (EP X pins σ Q) X.xe s
def UnR (X:Cx) (f:Value->Sem Value) (r:V->Hp->VK->Prop):Prop :=
 ∀(pins:List (Addr×Obj)) (s:Shared) (σ:St) (H:Hp) (x:V) (v:Value) (Q:VK),Inv X pins σ H s->A2a x v->r x H Q->
  wpAny (model X.prog X.w) X.A (f v) (EP X pins σ Q) X.xe s
def A7r (X:Cx) (f:Value) (r:List V->Hp->VK->Prop):Prop :=
 ∀(pins:List (Addr×Obj)) (s:Shared) (σ:St) (H:Hp) (xs:List V) (us:List Value) (Q:VK),Inv X pins σ H s->A1u xs us->r xs H Q->
  wpAny (model X.prog X.w) X.A (call f us) (EP X pins σ Q) X.xe s
def tOp (r:R2) (ta tb:TE):TE:=λσ H Q=>ta σ H λx H1=>tb σ H1 λy H2=>r x y H2 Q
def tUn (r:V->Hp->VK->Prop) (ta:TE):TE:=λσ H Q=>ta σ H λx H1=>r x H1 Q
def rI (C:Int->Int->Prop) (g:Int->Int->V):R2:=λx y H Q=>∃i j,x= .int i/\y= .int j/\C i j/\Q (g i j) H
def rI0 (g:Int->Int->V):R2:=λx y H Q=>∃i j,x= .int i/\y= .int j/\Q (g i j) H
def rU (g:Int->V):V->Hp->VK->Prop:=λx H Q=>∃i,x= .int i/\Q (g i) H
section
variable {X:Cx} {a b c:Expr} {ta tb tc:TE} {pos:Pos}
theorem C0f (ha:PE X a ta) (hb:PE X b tb) {pins:List (Addr×Obj)} {s:Shared} {σ:St} {H:Hp} {R:V->V->Hp->Prop} (I:Inv X pins σ H s)
  (h:ta σ H λx H1=>tb σ H1 λy H2=>R x y H2) {Q:Value->Shared->Prop} {f:Value->Value->Sem Value}
  (hf:∀v u s2 x y H2,Inv X pins σ H2 s2->A2a x v->A2a y u->R x y H2->wpAny (model X.prog X.w) X.A (f v u) Q X.xe s2) :
  wpAny (model X.prog X.w) X.A (eval a X.env) (λv s₁=>wpAny (model X.prog X.w) X.A (eval b X.env) (λu s₂=>wpAny (model X.prog X.w) X.A (f v u) Q X.xe s₂) X.xe s₁) X.xe s:=by
 refine thn (ha pins s σ H _ I h) ?_;rintro v s1 ⟨x,H1,I1,r1,q1⟩;refine thn (hb pins s1 σ H1 _ I1 q1) ?_;rintro u s2 ⟨y,H2,I2,r2,q2⟩;exact hf v u s2 x y H2 I2 r1 r2 q2
theorem A0n {op:Operator} {r:R2} (ho:OpR X (binaryOp op) r) (ha:PE X a ta) (hb:PE X b tb):PE X (.BinOp a op b pos) (tOp r ta tb):=by
 intro pins s σ H Q I h;exact wpAny_BinOp (C0f ha hb I h λv u s2 x y H2 I2 rx ry q=>ho pins s2 σ H2 x y v u Q I2 rx ry q)
theorem A4d {op:UnaryOp} {r:V->Hp->VK->Prop} (ho:UnR X (unaryOp op) r) (ha:PE X a ta):PE X (.UnaryOp op a pos) (tUn r ta):=by
 intro pins s σ H Q I h;exact UnaryOp_ (thn (ha pins s σ H _ I h) (by rintro v s1 ⟨x,H1,I1,r1,q1⟩;exact ho pins s1 σ H1 x v Q I1 r1 q1))
theorem opI {f:Value->Value->Sem Value} {C:Int->Int->Prop} {g:Int->Int->Int}
  (rule:∀(i j:Int) (t u:Tok) (s:Shared) (Q:Value->Shared->Prop) (E:Value->Shared->Prop),C i j->Q (.int (g i j) s.toks) { s with toks:=s.toks+1 }->wpAny (model X.prog X.w) X.A (f (.int i t) (.int j u)) Q E s) :
  OpR X f (rI C λi j=> .int (g i j)):=by
 intro pins s σ H x y v u Q I rx ry h;obtain ⟨i,j,rfl,rfl,hc,q⟩:=h;obtain ⟨t,rfl⟩:=rx;obtain ⟨t',rfl⟩:=ry;exact rule i j t t' s _ _ hc ⟨.int (g i j),H,I.tok _,⟨_,rfl⟩,q⟩
theorem C1v {f:Value->Value->Sem Value} {g:Int->Int->Int}
  (rule:∀(i j:Int) (t u:Tok) (s:Shared) (Q:Value->Shared->Prop) (E:Value->Shared->Prop),Q (.int (g i j) s.toks) { s with toks:=s.toks+1 }->wpAny (model X.prog X.w) X.A (f (.int i t) (.int j u)) Q E s) :
  OpR X f (rI0 λi j=> .int (g i j)):=by
 intro pins s σ H x y v u Q I rx ry h;obtain ⟨i,j,rfl,rfl,q⟩:=h;obtain ⟨t,rfl⟩:=rx;obtain ⟨t',rfl⟩:=ry;exact rule i j t t' s _ _ ⟨.int (g i j),H,I.tok _,⟨_,rfl⟩,q⟩
theorem C1i {f:Value->Value->Sem Value} {g:Int->Int->Bool}
  (rule:∀(i j:Int) (t u:Tok) (s:Shared) (Q:Value->Shared->Prop) (E:Value->Shared->Prop),Q (.bool (g i j)) s->wpAny (model X.prog X.w) X.A (f (.int i t) (.int j u)) Q E s) :
  OpR X f (rI0 λi j=> .bl (g i j)):=by
 intro pins s σ H x y v u Q I rx ry h;obtain ⟨i,j,rfl,rfl,q⟩:=h;obtain ⟨t,rfl⟩:=rx;obtain ⟨t',rfl⟩:=ry;exact rule i j t t' s _ _ ⟨.bl (g i j),H,I,rfl,q⟩
def CDiv (i j:Int):Prop:=0<j/\j<1073741824
def CPow (i j:Int):Prop:=0<=j/\j<=1000000/\i.natAbs<2^64
def B9v (i j:Int):Prop:=(-(2^64)<i/\i<2^64)\/(-(2^64)<j/\j<2^64)
theorem B9v.ok {i j:Int} (h:B9v i j):IntMulOk i j:=by
 rcases h with ⟨h1,h2⟩ | ⟨h1,h2⟩
 ·exact .of_left (intBits_le_64 h1 h2)
 ·exact .of_right (intBits_le_64 h1 h2)
theorem A2m:OpR X (binaryOp .Add) (rI0 λi j=> .int (i+j)):=C1v λ_ _ _ _ _ _ _ q=>add_int q
theorem B6j:OpR X (binaryOp .Sub) (rI0 λi j=> .int (i-j)):=C1v λ_ _ _ _ _ _ _ q=>sub_int q
theorem A3r:OpR X (binaryOp .Mult) (rI B9v λi j=> .int (i*j)):=opI λ_ _ _ _ _ _ _ hc q=>mul_int q hc.ok
theorem A1m:OpR X (binaryOp .FloorDiv) (rI CDiv λi j=> .int (i/j)):=opI λi j _ _ _ _ _ hc q=>by
 have h1:(0:Int)<j:=hc.1;have h2:j<1073741824:=hc.2;exact floordiv_int (by lia) (by rw [Int.fdiv_eq_ediv_of_nonneg i (by lia)];exact q) (.inl (PyProof.noPylong_small (by lia)))
theorem A1o:OpR X (binaryOp .Mod) (rI (λ_ j=>0<j) λi j=> .int (i%j)):=opI λi j _ _ _ _ _ hc q=>by
 have h1:(0:Int)<j:=hc;exact mod_int' (by lia) (by rw [Int.fmod_eq_emod_of_nonneg i (by lia)];exact q)
theorem A9y:OpR X (binaryOp .Pow) (rI CPow λi j=> .int (i^j.toNat)):=opI λ_ _ _ _ _ _ _ hc q=>pow_int_small hc.1 hc.2.1 hc.2.2 q
theorem unI {f:Value->Sem Value} {g:Int->Int}
  (rule:∀(i:Int) (t:Tok) (s:Shared) (Q:Value->Shared->Prop) (E:Value->Shared->Prop),Q (.int (g i) s.toks) { s with toks:=s.toks+1 }->wpAny (model X.prog X.w) X.A (f (.int i t)) Q E s) :
  UnR X f (rU λi=> .int (g i)):=by
 intro pins s σ H x v Q I rx h;obtain ⟨i,rfl,q⟩:=h;obtain ⟨t,rfl⟩:=rx;exact rule i t s _ _ ⟨.int (g i),H,I.tok _,⟨_,rfl⟩,q⟩
theorem A2t:UnR X (unaryOp .USub) (rU λi=> .int (-i)):=unI λ_ _ _ _ _ q=>neg_int q
end
def C1t:V->V->Bool
 | .non,.non=>true | .non,.int _=>true | .int _,.non=>true | .non,.bl _=>true | .bl _,.non=>true | .non,.str _=>true | .str _,.non=>true
 | .int _,.int _=>true | .bl _,.bl _=>true | .str _,.str _=>true | .byt _,.byt _=>true
 | .int _,.str _=>true | .str _,.int _=>true | .bl _,.str _=>true | .str _,.bl _=>true
 | _,_=>false
def rEq:R2:=λx y H Q=>C1t x y=true/\Q (.bl (decide (x=y))) H
def rNe:R2:=λx y H Q=>C1t x y=true/\Q (.bl (!decide (x=y))) H
theorem B3b {i j:Int}:decide (V.int i=V.int j)=(i == j):=by
 rw [Bool.eq_iff_iff];simp
theorem B6i {i j:Bool}:decide (V.bl i=V.bl j)=(i == j):=by
 rw [Bool.eq_iff_iff];simp
theorem B3l {i j:Str}:decide (V.str i=V.str j)=(i == j):=by
 rw [Bool.eq_iff_iff];simp
theorem B4a {i j:Array UInt8}:decide (V.byt i=V.byt j)=(i.toList == j.toList):=by
 rw [Bool.eq_iff_iff];cases i;cases j;simp
section
variable {X:Cx} {a b c:Expr} {ta tb tc:TE} {pos:Pos}
theorem A1a {pins:List (Addr×Obj)} {σ:St} {H:Hp} {s:Shared} {Q:VK} {k k':Bool} (I:Inv X pins σ H s) (q:Q (.bl k) H) (e:k=k'):EP X pins σ Q (.bool k') s:=by
 subst e;exact ⟨.bl k,H,I,rfl,q⟩
theorem A6d:OpR X (compareOp .Eq) rEq:=by
 intro pins s σ H x y v u Q I rx ry h;obtain ⟨hs,q⟩:=h
 cases x with
 | non =>
  cases rx
  cases y with
  | non=>cases ry;exact PySem.EqNone.eq_none_none (A1a I q (by simp))
  | bl j=>cases ry;exact PySem.EqNone.eq_none_bool (A1a I q (by simp))
  | int j=>obtain ⟨t',rfl⟩:=ry;exact PySem.EqNone.eq_none_int (A1a I q (by simp))
  | str j=>obtain ⟨t',rfl⟩:=ry;exact PySem.EqNone.eq_none_str (A1a I q (by simp))
  | _=>exact absurd (show false=true from hs) Z0v
 | bl i =>
  cases rx
  cases y with
  | non=>cases ry;exact PySem.EqNone.eq_bool_none (A1a I q (by simp))
  | bl j=>cases ry;exact eq_bool (A1a I q B6i)
  | str j=>obtain ⟨t',rfl⟩:=ry;exact PySem.EqMixed.eq_bool_str (A1a I q (by simp))
  | _=>exact absurd (show false=true from hs) Z0v
 | int i =>
  obtain ⟨t,rfl⟩:=rx
  cases y with
  | non=>cases ry;exact PySem.EqNone.eq_int_none (A1a I q (by simp))
  | int j=>obtain ⟨t',rfl⟩:=ry;exact eq_int (A1a I q B3b)
  | str j=>obtain ⟨t',rfl⟩:=ry;exact PySem.EqMixed.eq_int_str (A1a I q (by simp))
  | _=>exact absurd (show false=true from hs) Z0v
 | str i =>
  obtain ⟨t,rfl⟩:=rx
  cases y with
  | non=>cases ry;exact PySem.EqNone.eq_str_none (A1a I q (by simp))
  | bl j=>cases ry;exact PySem.EqMixed.eq_str_bool (A1a I q (by simp))
  | int j=>obtain ⟨t',rfl⟩:=ry;exact PySem.EqMixed.eq_str_int (A1a I q (by simp))
  | str j=>obtain ⟨t',rfl⟩:=ry;exact eq_str (A1a I q B3l)
  | _=>exact absurd (show false=true from hs) Z0v
 | byt i =>
  obtain ⟨t,rfl⟩:=rx
  cases y with
  | byt j=>obtain ⟨t',rfl⟩:=ry;exact PySem.W.eq_bytes (A1a I q B4a)
  | _=>exact absurd (show false=true from hs) Z0v
 | _=>cases y <;> exact absurd (show false=true from hs) Z0v
theorem B2k:OpR X (compareOp .NotEq) rNe:=by
 intro pins s σ H x y v u Q I rx ry h;obtain ⟨hs,q⟩:=h
 cases x with
 | non =>
  cases rx
  cases y with
  | non=>cases ry;exact PySem.EqNone.ne_none_none (A1a I q (by simp))
  | bl j=>cases ry;exact PySem.EqNone.ne_none_bool (A1a I q (by simp))
  | int j=>obtain ⟨t',rfl⟩:=ry;exact PySem.EqNone.ne_none_int (A1a I q (by simp))
  | str j=>obtain ⟨t',rfl⟩:=ry;exact PySem.EqNone.ne_none_str (A1a I q (by simp))
  | _=>exact absurd (show false=true from hs) Z0v
 | bl i =>
  cases rx
  cases y with
  | non=>cases ry;exact PySem.EqNone.ne_bool_none (A1a I q (by simp))
  | bl j=>cases ry;exact ne_bool (A1a I q (congrArg not B6i))
  | str j=>obtain ⟨t',rfl⟩:=ry;exact PySem.EqMixed.ne_bool_str (A1a I q (by simp))
  | _=>exact absurd (show false=true from hs) Z0v
 | int i =>
  obtain ⟨t,rfl⟩:=rx
  cases y with
  | non=>cases ry;exact PySem.EqNone.ne_int_none (A1a I q (by simp))
  | int j=>obtain ⟨t',rfl⟩:=ry;exact ne_int (A1a I q (congrArg not B3b))
  | str j=>obtain ⟨t',rfl⟩:=ry;exact PySem.EqMixed.ne_int_str (A1a I q (by simp))
  | _=>exact absurd (show false=true from hs) Z0v
 | str i =>
  obtain ⟨t,rfl⟩:=rx
  cases y with
  | non=>cases ry;exact PySem.EqNone.ne_str_none (A1a I q (by simp))
  | bl j=>cases ry;exact PySem.EqMixed.ne_str_bool (A1a I q (by simp))
  | int j=>obtain ⟨t',rfl⟩:=ry;exact PySem.EqMixed.ne_str_int (A1a I q (by simp))
  | str j=>obtain ⟨t',rfl⟩:=ry;exact ne_str (A1a I q (congrArg not B3l))
  | _=>exact absurd (show false=true from hs) Z0v
 | byt i =>
  obtain ⟨t,rfl⟩:=rx
  cases y with
  | byt j=>obtain ⟨t',rfl⟩:=ry;exact PySem.W.ne_bytes (A1a I q (congrArg not B4a))
  | _=>exact absurd (show false=true from hs) Z0v
 | _=>cases y <;> exact absurd (show false=true from hs) Z0v
theorem B7b:OpR X (compareOp .Lt) (rI0 λi j=> .bl (decide (i<j))):=C1i λ_ _ _ _ _ _ _ q=>lt_int q
theorem C0n:OpR X (compareOp .LtE) (rI0 λi j=> .bl (decide (i<=j))):=C1i λ_ _ _ _ _ _ _ q=>le_int q
theorem C0d:OpR X (compareOp .Gt) (rI0 λi j=> .bl (decide (j<i))):=C1i λ_ _ _ _ _ _ _ q=>gt_int q
theorem A1e (b:Expr) {op:CmpOp} (h:op≠.In:=by decide) (h2:op≠.NotIn:=by decide):behindInMarks op b=false:=by
 have e1:(op == CmpOp.In)=false:=by cases op <;> first | rfl | exact absurd rfl h
 have e2:(op == CmpOp.NotIn)=false:=by cases op <;> first | rfl | exact absurd rfl h2
 cases b <;> simp [behindInMarks,e1,e2]
theorem B6u {op:CmpOp} {r:R2} (ho:OpR X (compareOp op) r) (ha:PE X a ta) (hb:PE X b tb) (hm:behindInMarks op b=false):PE X (.Compare a [op] [b] pos) (tOp r ta tb):=by
 intro pins s σ H Q I h;exact wpAny_Compare1 (C0f ha hb I h λv u s2 x y H2 I2 rx ry q=>ho pins s2 σ H2 x y v u Q I2 rx ry q) hm
def C0u (t:TE):TT:=λσ H Q=>t σ H λx H'=>∃k,x= .bl k/\Q k H'
theorem A0y {op:CmpOp} {r:R2} (ho:OpR X (compareOp op) r) (ha:PE X a ta) (hb:PE X b tb) (hm:behindInMarks op b=false):PT X (.Compare a [op] [b] pos) (C0u (tOp r ta tb)):=by
 intro pins s σ H Q I h
 refine wpAny_isTrue_Compare1 (thn (ha pins s σ H _ I h) λv s1 ⟨x,H1,I1,r1,q1⟩=>thn (hb pins s1 σ H1 _ I1 q1) λu s2 ⟨y,H2,I2,r2,q2⟩ =>
  thn (ho pins s2 σ H2 x y v u _ I2 r1 r2 q2) λc s3 ⟨z,H3,I3,r3,k,e,q3⟩=> ?_) hm
 subst e;cases r3;exact wpAny_truthy_bool ⟨H3,I3,q3⟩
theorem B0z:(sizeLine:Nat)<2^63:=by rw [sizeLine_eq];decide
theorem B5b {x:V} {us:List Value} (r:A1u [x] us):∃u,us=[u]/\A2a x u:=by
 cases r with
 | cons r1 r2=>cases r2;exact ⟨_,rfl,r1⟩
theorem B9a {x y:V} {us:List Value} (r:A1u [x,y] us):∃u w',us=[u,w']/\A2a x u/\A2a y w':=by
 cases r with
 | cons r1 r2 =>
  cases r2 with
  | cons r3 r4=>cases r4;exact ⟨_,_,rfl,r1,r3⟩
theorem A2u (hc:X.calm=true):A7r X (.builtin "min") (λxs H Q=>∃i j,xs=[.int i,.int j]/\Q (.int (if j<i then j else i)) H):=by
 intro pins s σ H xs us Q I r h;obtain ⟨i,j,rfl,q⟩:=h;obtain ⟨u,w',rfl,⟨t,rfl⟩,⟨t',rfl⟩⟩:=B9a r;refine min_two_ints (I.ok.hd hc) λh' tk k=>⟨_,H,I.kept k,?_,q⟩;by_cases hj:j<i
 ·rw [Z12 hj,Z12 hj];exact ⟨_,rfl⟩
 ·rw [Z0t hj,Z0t hj];exact ⟨_,rfl⟩
end
structure C1f (h:Heap) (x dx C:Addr) (mA:Str->Option Value):Prop where
 obj:h.get? x=some (instObj C dx)
 ns:h.Ns1 dx mA
 ne:dx≠x
theorem B3j {h:Heap} {dx:Addr} {mA:Str->Option Value} (n:h.Ns1 dx mA):∃od,h.get? dx=some od/\∀name,PySem.W.lookIn name od=some (mA name):=by
 obtain ⟨o,es,ep,ho,hd,hk,_,hm⟩:=n;refine ⟨o,ho,λname=> ?_⟩;have e:=hm name;unfold nsFind findBy at e;rw [<-Array.find?_toList] at e;unfold PySem.W.lookIn;rw [hd];dsimp only;split
 ·rename_i y q;rw [q] at e;exact congrArg some e
 ·rename_i q;rw [q] at e
  have a:es.toList.any (·.refKey)=false:=by
   rw [List.any_eq_false];intro y hy;obtain ⟨z,t,hkey⟩:=hk y (Array.mem_toList_iff.mp hy);simp [DictEntry.refKey,hkey]
  have a':¬es.toList.any (·.refKey)=true:=by rw [a];exact Z0v
  rw [Z0t a'];exact congrArg some e
theorem C1f.look {h:Heap} {x dx C:Addr} {mA:Str->Option Value} (I:C1f h x dx C mA):∃od,PySem.W.InstAt h x (instObj C dx) C (some od)/\∀name,PySem.W.lookIn name od=some (mA name) :=
 let ⟨od,ho,hl⟩:=B3j I.ns
 ⟨od,⟨I.obj,rfl,rfl,ho⟩,hl⟩
section
variable {prog:Program} {w:World} {A:Around} {E:Value->Shared->Prop} {s:Shared} {K:Frag} {x dx C f:Addr} {mA:Str->Option Value} {name:Str} {v:Value}
end
theorem B2h.some_of {v:V} {o:Option Value} (r:B2h (some v) o):∃u,o=some u/\A2a v u:=by
 cases o with
 | none=>exact (show False from r).elim
 | some u=>exact ⟨u,rfl,r⟩
section
variable {P:Program} {w:World} {H H':Hp} {h h':Heap} {a C dx:Addr} {fs fs':List (Str×V)}
theorem B6v (hok:HOk P w H h) (e:H a=some (.ins C dx fs)):∃mA,C1f h a dx C mA/\(∀f,B2h (fs.lookup f) (mA f))/\PySem.Within mA (fs.map (·.1))/\fs.length<=1000/\H dx=some (.own a):=by
 obtain ⟨d,z,ne,ob,mA,n,r,q⟩:=(show A1w P w H h a (.ins C dx fs) from hok a _ e);exact ⟨mA,⟨ob,n,ne⟩,r,q,z,d⟩
end
structure Cls (K:Frag) (C:Addr):Prop where
 pg:plainGet K C Str.empty=true
 hd:hasDictIn K C=true
 po:plainOver K C=true
 sa:findIn K (.ref C) "__setattr__"=some (some (.builtin "object.__setattr__"))
theorem Cls.get {K:Frag} {C:Addr} (c:Cls K C) (f:Str):plainGet K C f=true:=c.pg
section
variable {X:Cx} {pins:List (Addr×Obj)} {σ:St} {H:Hp} {s:Shared} {a C dx:Addr} {fs:List (Str×V)} {f:Str} {v:V} {A:Around} {E:Value->Shared->Prop}
end
section
variable {X:Cx} {o e value:Expr} {f:Str} {pos pos' tpos:Pos} {ta tv:TE}
end
section
variable {X:Cx} {pins:List (Addr×Obj)} {σ:St} {H:Hp} {s:Shared} {A:Around} {E:Value->Shared->Prop} {Q:Value->Shared->Prop} {c:Value} {b:Bool}
inductive A9a (K:Frag) (H:Hp):V->Value->Prop where
 | non:A9a K H .non (.type "NoneType")
 | bl (x:Bool):A9a K H (.bl x) (.type "bool")
 | int (i:Int):A9a K H (.int i) (.type "int")
 | str (x:Str):A9a K H (.str x) (.type "str")
 | flt (x:UInt64):A9a K H (.flt x) (.type "float")
 | lst {a:Addr} {xs:List V} (e:H a=some (.lst xs)):A9a K H (.ref a) (.type "list")
 | frz {a:Addr} {o:Obj} {xs:List V} (e:H a=some (.frz o (.lst xs))):A9a K H (.ref a) (.type "list")
 | tup {a:Addr} {xs:List V} (e:H a=some (.tup xs)):A9a K H (.ref a) (.type "tuple")
 | dK {a:Addr} {kvs:List (Key×V)} (e:H a=some (.dK kvs)):A9a K H (.ref a) (.type "dict")
 | dT {a:Addr} {kvs:List (List Key×V)} (e:H a=some (.dT kvs)):A9a K H (.ref a) (.type "dict")
 | ins {a C dx:Addr} {fs:List (Str×V)} (e:H a=some (.ins C dx fs)) (cl:Cls K C) (ha:findIn K (.ref C) "__class__"=some (some (.builtin "object.__class__")))
   (hn:specialIn K (.builtin "object.__class__") "__get__"=some (some (.builtin "getset_descriptor.__get__"))) (htk:takesIn K (.builtin "object.__class__")=some true)
   (hm:mroIn K C (.type "object")=some true):A9a K H (.ref a) (.ref C)
theorem B2g {x:V} {u t:Value} (I:Inv X pins σ H s) (rx:A2a x u) (ty:A9a X.K H x t) (e:kitOne X.K t c=some b) (h:∀tk,Q (.bool b) { s with toks:=tk }) :
  wpAny (model X.prog X.w) A (call (.builtin "isinstance") [u,c]) Q E s:=by
 cases ty with
 | non=>cases (show u=Value.none from rx);exact PySem.W.kia_one PySem.W.kitx_none I.kIn True.intro e (λz=>nomatch z) h
 | bl y=>cases (show u=Value.bool y from rx);exact PySem.W.kia_one PySem.W.kitx_bool I.kIn True.intro e (λz=>nomatch z) h
 | int i=>obtain ⟨t,q⟩:=(show∃t,u=Value.int i t from rx);cases q;exact PySem.W.kia_one PySem.W.kitx_int I.kIn True.intro e (λz=>nomatch z) h
 | str y=>obtain ⟨t,q⟩:=(show∃t,u=Value.str y t from rx);cases q;exact PySem.W.kia_one PySem.W.kitx_str I.kIn True.intro e (λz=>nomatch z) h
 | flt y=>obtain ⟨t,q⟩:=(show∃t,u=Value.float y t from rx);cases q;exact PySem.W.kia_one PySem.W.kitx_float I.kIn True.intro e (λz=>nomatch z) h
 | @lst a xs ea =>
  cases (show u=Value.ref a from rx)
  obtain ⟨_,_,n,_,h1⟩:=(show A1w X.prog X.w H s.heap a (.lst xs) from I.hok a _ ea);exact PySem.W.kia_one PySem.W.kitx_list I.kIn ⟨_,h1,rfl⟩ e (λz=>nomatch z) h
 | @frz a ob xs ea =>
  cases (show u=Value.ref a from rx)
  obtain ⟨_,_,_,n,_,h1⟩:=(show A1w X.prog X.w H s.heap a (.frz ob (.lst xs)) from I.hok a _ ea);exact PySem.W.kia_one PySem.W.kitx_list I.kIn ⟨_,h1,rfl⟩ e (λz=>nomatch z) h
 | @tup a xs ea =>
  cases (show u=Value.ref a from rx)
  obtain ⟨_,_,_,p⟩:=(show A1w X.prog X.w H s.heap a (.tup xs) from I.hok a _ ea);obtain ⟨o,h1,h2,_⟩:=p;exact PySem.W.kia_one PySem.W.kitx_tuple I.kIn ⟨o,h1,h2⟩ e (λz=>nomatch z) h
 | @dK a kvs ea =>
  cases (show u=Value.ref a from rx)
  obtain ⟨_,_,vs,_,p⟩:=(show A1w X.prog X.w H s.heap a (.dK kvs) from I.hok a _ ea);obtain ⟨o,es,ep,h1,h2,_⟩:=p;exact PySem.W.kia_one PySem.W.kitx_dict I.kIn ⟨o,h1,h2.1⟩ e (λz=>nomatch z) h
 | @dT a kvs ea =>
  cases (show u=Value.ref a from rx)
  obtain ⟨_,_,xs,_,o,es,ep,h1,h2,_⟩:=(show A1w X.prog X.w H s.heap a (.dT kvs) from I.hok a _ ea);exact PySem.W.kia_one PySem.W.kitx_dict I.kIn ⟨o,h1,h2.1⟩ e (λz=>nomatch z) h
 | @ins a C dx fs ea cl ha hn htk hm =>
  cases (show u=Value.ref a from rx)
  obtain ⟨mA,O,_⟩:=B6v I.hok ea;obtain ⟨od,J,_⟩:=O.look;exact PySem.W.kia_one (PySem.W.kitx_own (cl.get _) cl.hd ha hn htk hm) I.kIn J e (λz=>nomatch z) h
end
structure A4f (k:Nat) (A:Around):Prop where
 hd:A.handled=none
 dp:A.depth+3*k+5<recursionLimit
 un:A.units+16*k+200<cLine
 gd:A.guards=some []
theorem A4f.mono {j k:Nat} {A:Around} (r:A4f k A) (h:j<=k):A4f j A:=⟨r.hd,by have:=r.dp;lia,by have:=r.un;lia,r.gd⟩
theorem A4f.deeper {k:Nat} {A:Around} (r:A4f (k+1) A) (env:Env):A4f k (A.deeper env) :=
 ⟨r.hd,by have:=r.dp;show A.depth+1+3*k+5<_;lia,by have:=r.un;show A.units+3+16*k+200<_;lia,r.gd⟩
theorem A4f.in1 {k:Nat} {A:Around} (r:A4f (k+1) A):A4f k A.in1 :=
 ⟨r.hd,by have:=r.dp;show A.depth+3*k+5<_;lia,by have:=r.un;show A.units+1+16*k+200<_;lia,r.gd⟩
theorem A4f.depth {k:Nat} {A:Around} (r:A4f k A):A.depth<recursionLimit:=by have:=r.dp;lia
theorem A4f.units {k:Nat} {A:Around} (r:A4f k A):A.units+64<cLine:=by have:=r.un;lia
def tNil:TA:=λ_ H Q=>Q [] H
def C0l (ta:TE) (tr:TA):TA:=λσ H Q=>ta σ H λx H1=>tr σ H1 λxs H2=>Q (x::xs) H2
section
variable {X:Cx} {e:Expr} {es:List Expr} {te:TE} {t:TA} {pos:Pos}
theorem A0b:PA X [] tNil:=λ_ _ _ _ H Q I h=>Calls.spliced_nil ⟨[],H,I,.nil,h⟩
theorem A0a (ha:PE X e te) (hr:PA X es t) (hs:starEach (e::es) X.env=(false,eval e X.env)::starEach es X.env:=by rfl):PA X (e::es) (C0l te t):=by
 intro pos pins s σ H Q I h;rw [hs];show wpAny _ _ (spliced ((false,eval e X.env)::backTo pos (starEach es X.env))) _ _ s;refine Calls.spliced_cons (thn (ha pins s σ H _ I h) ?_);rintro u s1 ⟨x,H1,I1,r1,q1⟩;exact thn (hr pos pins s1 σ H1 _ I1 q1) (by rintro us s2 ⟨xs,H2,I2,r2,q2⟩;exact ⟨x::xs,H2,I2,.cons r1 r2,q2⟩)
def tTup (t:TA):TE:=λσ H Q=>t σ H λxs H1=>xs.length<=sizeLine/\∀p,H1 p=none->Q (.ref p) (upd H1 p (.tup xs))
def tLst (t:TA):TE:=λσ H Q=>t σ H λxs H1=>xs.length<=sizeLine/\∀p,H1 p=none->Q (.ref p) (upd H1 p (.lst xs))
theorem A1s {x1} (h:PA X es t):PE X (.Tuple es x1 pos) (tTup t):=by
 intro pins s σ H Q I hq;refine wpAny_Tuple_spliced (thn (h pos pins s σ H _ I hq) λus s1 ⟨xs,H1,I1,r,z,q⟩=>⟨by rw [<-r.length];exact z,?_⟩);have hf:H1 s1.heap.objs.size=none:=I1.hok.fresh (Z09 _);refine ⟨.ref s1.heap.objs.size,upd H1 s1.heap.objs.size (.tup xs),I1.laid (t':=s1.toks) (λb u e=>Z01 _ e) (Z09 _) ?_,rfl,q _ hf⟩;exact ⟨z,us,r,⟨_,Z0c _ rfl,rfl,_,rfl⟩⟩
theorem A2j (h:PA X es t):PE X (.List es pos) (tLst t):=by
 intro pins s σ H Q I hq;refine wpAny_List_spliced (thn (h pos pins s σ H _ I hq) λus s1 ⟨xs,H1,I1,r,z,q⟩=>⟨by rw [<-r.length];exact z,?_⟩);have hf:H1 s1.heap.objs.size=none:=I1.hok.fresh (Z09 _);refine ⟨.ref s1.heap.objs.size,upd H1 s1.heap.objs.size (.lst xs),I1.laid (t':=s1.toks) (λb u e=>Z01 _ e) (Z09 _) ?_,rfl,q _ hf⟩;exact ⟨z,us,0,r,Z0c _ rfl⟩
end
abbrev Sp:=List V->Hp->VK->XK->Prop
abbrev CXT:=List Env->Hp->Shared->XK->Value->Shared->Prop
structure B5z (P:Program) (w:World) (K:Frag) (mg:Str->Option Value) (base:Heap) (A:Around) (outer:List Env) (s:Shared) (H:Hp):Prop where
 frames:A.frames=some outer
 mod:Mod K mg base
 bs:∀b o,base.get? b=some o->s.heap.get? b=some o/\H b=none
 bsz:base.objs.size<=s.heap.objs.size
 funs:s.heap.FunFrames base outer
 frf:∀b∈frs outer,H b=none
 hok:HOk P w H s.heap
 bare:AllBare s.gens
def CE (outer:List Env) (P:Program) (w:World) (H:Hp) (s:Shared) (Q:VK) (u:Value) (s':Shared):Prop :=
 ∃v H',s'.os=s.os/\AllBare s'.gens/\Un (frs outer) [] H H' s.heap s'.heap/\HOk P w H' s'.heap/\A2a v u/\Q v H'
def CR (CX:CXT) (outer:List Env) (P:Program) (w:World) (H:Hp) (s:Shared) (Q:VK) (E:XK) (r:Result) (s':Shared):Prop :=
 match r with
 | .ok (.ret u)=>CE outer P w H s Q u s'
 | .ok _=>False
 | .error e=>CX outer H s E e s'
structure A5r (P:Program) (w:World) (K:Frag) (mg:Str->Option Value) (base:Heap) (CX:CXT) (k:Nat) (f:Addr) (fd:FuncData) (ps:List Str) (sp:Sp):Prop where
 len:∀vs H Q E,sp vs H Q E->vs.length=ps.length
 run:∀(A:Around) (outer:List Env) (s:Shared) (H:Hp) (args:Args) (us:List Value) (vs:List V) (Q:VK) (E:XK),A4f k A->B5z P w K mg base A outer s H->BindsTo s fd args (ps.zip us)->A1u vs us->sp vs H Q E->
  codeAny (model P w) A (.call (.ref f) args) (CR CX outer P w H s Q E) s
theorem B5z.in1 {P:Program} {w:World} {K:Frag} {mg:Str->Option Value} {base:Heap} {A:Around} {outer:List Env} {s:Shared} {H:Hp} (e:B5z P w K mg base A outer s H) :
  B5z P w K mg base A.in1 outer s H:=⟨e.frames,e.mod,e.bs,e.bsz,e.funs,e.frf,e.hok,e.bare⟩
section
variable {X:Cx} {pins:List (Addr×Obj)} {σ:St} {H:Hp} {s s':Shared}
theorem Inv.env0 (I:Inv X pins σ H s):B5z X.prog X.w X.K X.mg X.base X.A X.stack s H :=
 ⟨I.ok.frames,I.ok.mod,I.bs,Z1n I.ok.bsz I.sz,I.stack,I.stkFree,I.hok,I.bare⟩
theorem Inv.after {Q:VK} {u:Value} (I:Inv X pins σ H s) (h:CE X.stack X.prog X.w H s Q u s'):EP X pins σ Q u s':=by
 obtain ⟨v,H',os,bare,un,hok,r,q⟩:=h;obtain ⟨hh,g,d,t,os'⟩:=s';obtain rfl:os'=s.os:=os;exact ⟨v,H',I.call (h':=hh) (g':=g) (d':=d) (t':=t) (ch:=[]) un hok bare (λb z=>absurd z (by simp)),r,q⟩
end
def B8r (sp:Sp) (dvs:List V) (E:XK) (t:TA):TE:=λσ H Q=>t σ H λvs H1=>sp (vs++dvs) H1 Q E
def A4o (K:Frag) (fd:FuncData) (ps:List Str) (ds:List Value):Prop :=
 ∀(s:Shared) (us:List Value),K.In s.heap->(us++ds).length=ps.length->BindsTo s fd ⟨us,[]⟩ (ps.zip (us++ds))
theorem A4o.all {K:Frag} {fd:FuncData} {ps:List Str} (h:∀us:List Value,us.length=ps.length->bindArgs fd ⟨us,[]⟩=pure (ps.zip us)):A4o K fd ps []:=λs us _ hl=>by
 rw [Z0u] at hl⊢;exact .of_eq (h us hl)
def B3p (CX:CXT) (X:Cx) (E:XK):Prop:=∀(pins:List (Addr×Obj)) (σ:St) (H:Hp) (s:Shared) (e:Value) (s':Shared),Inv X pins σ H s->CX X.stack H s E e s'->X.xe e s'
section
variable {X:Cx} {CX:CXT} {k:Nat} {f C:Addr} {fd:FuncData} {ps:List Str} {sp:Sp} {dvs:List V} {ds:List Value} {E:XK} {x m:Str} {p pos apos:Pos} {e o:Expr} {es:List Expr} {ta:TE} {t:TA}
theorem B8z {pins:List (Addr×Obj)} {σ:St} {H:Hp} {s:Shared} {Q:VK} {us:List Value} {vs:List V} (F:A5r X.prog X.w X.K X.mg X.base CX k f fd ps sp) (hr:A4f k X.A) (hb:A4o X.K fd ps ds) (hd:A1u dvs ds) (hx:B3p CX X E)
  (I:Inv X pins σ H s) (r:A1u vs us) (h:sp (vs++dvs) H Q E):wpAny (model X.prog X.w) X.A (call (.ref f) us) (EP X pins σ Q) X.xe s:=by
 have r2:A1u (vs++dvs) (us++ds):=r.append hd;have hl:(us++ds).length=ps.length:=by rw [<-r2.length];exact F.len _ _ _ _ h
 refine wpAny_call (codeAny_mono (F.run X.A X.stack s H ⟨us,[]⟩ (us++ds) (vs++dvs) Q E hr I.env0 (hb s us I.kIn hl) r2 h) λr s' hq=> ?_)
 cases r with
 | error e=>exact hx pins σ H s e s' I hq
 | ok fl =>
  cases fl with
  | ret u=>exact I.after hq
  | next=>exact False.elim hq
  | brk=>exact False.elim hq
  | cont=>exact False.elim hq
theorem B6t (F:A5r X.prog X.w X.K X.mg X.base CX k f fd ps sp) (hr:A4f k X.A) (hg:Gl X x) (hm:X.mg x=some (.ref f)) (hk:keepIn X.K (.ref f)=true) (hb:A4o X.K fd ps ds) (hd:A1u dvs ds) (hx:B3p CX X E)
  (ha:PA X (e::es) t) (hdb:(x == ("__debug__":Str))=false:=by decide) (he:starEach (e::es) X.env=(false,eval e X.env)::starEach es X.env:=by rfl) (hpl:(backTo pos (starEach es X.env)).any (·.1)=false:=by rfl) :
  PE X (.Call (.Name x p) (e::es) [] pos) (B8r sp dvs E t):=by
 intro pins s σ H Q I h;refine wpAny_Call_Name_kw (A8v I hg hm ?_ hdb);refine PySem.W.callWith_K (h₀:=X.base) I.ok.mod.kin hk (thn (ha pos pins s σ H _ I h) λus s1 ⟨vs,H1,I1,r,q⟩=>⟨I1.kIn,?_⟩) he hpl;exact B8z F hr hb hd hx I1 r q
end
section
variable {X:Cx} {CX:CXT} {k:Nat} {f C:Addr} {fd:FuncData} {ps ks:List Str} {sp:Sp} {E:XK} {x m:Str} {p pos apos kpos:Pos} {e o:Expr} {es:List Expr} {kws:List Keyword} {te ta:TE} {t tk:TA} {nm:Option Str}
variable {g:List Value->List Value->List Value} {gV:List V->List V->List V}
end
structure A0v (N P:List Str) (sc:Scope):Prop where
 kind:sc.kind= .function
 co:sc.isCoroutine=false
 gen:sc.isGenerator=false
 nd:N.Nodup
 pre:N.take P.length=P
 par:∀x∈P,sc.names.lookup x=some .local\/sc.names.lookup x=some .cell
 nofree:∀y∈sc.names,y.2≠.free
theorem A7o {kindOf:Str->Option NameKind} {x:Str}:∀{binds:List (Str×Value)} {m:Str->Option Value},(∀v,(x,v)∉binds)->bindL kindOf binds m x=m x
 | [],_,_=>rfl
 | (n,v)::r,m,h=>by
  unfold bindL;rw [A7o λw hw=>h w (Z1f _ hw)];split
  ·have:x≠n:=by rintro rfl;exact h v Z27
   simp [this]
  ·rfl
theorem A8c {kindOf:Str->Option NameKind} {x:Str}:∀{binds:List (Str×Value)} {m:Str->Option Value},(∀v,(x,v)∉binds)->bindC kindOf binds m x=m x
 | [],_,_=>rfl
 | (n,v)::r,m,h=>by
  unfold bindC;rw [A8c λw hw=>h w (Z1f _ hw)];split
  ·rfl
  ·have:x≠n:=by rintro rfl;exact h v Z27
   simp [this]
theorem A7y {kindOf:Str->Option NameKind} {x:Str} {v:Value}:∀{P:List Str} {vs:List Value} {i:Nat} {m:Str->Option Value},P.Nodup->P[i]? =some x->vs[i]? =some v->kindOf x=some .local->
  bindL kindOf (P.zip vs) m x=some v
 | [],_,_,_,_,h,_,_=>by simp at h
 | _::_,[],_,_,_,_,h,_=>by simp at h
 | p::P,w::vs,0,m,nd,h1,h2,hk=>by
  simp at h1 h2;subst h1;subst h2;show bindL kindOf ((p,w)::P.zip vs) m p=_;unfold bindL;rw [A7o λv hv=>(Z15.mp nd).1 (List.of_mem_zip hv).1,Z12 hk];simp
 | p::P,w::vs,i+1,m,nd,h1,h2,hk=>by
  show bindL kindOf ((p,w)::P.zip vs) m x=_;unfold bindL;exact A7y (i:=i) (Z15.mp nd).2 (by simpa using h1) (by simpa using h2) hk
theorem A7q {kindOf:Str->Option NameKind} {x:Str} {v:Value}:∀{P:List Str} {vs:List Value} {i:Nat} {m:Str->Option Value},P.Nodup->P[i]? =some x->vs[i]? =some v->kindOf x≠some .local->
  bindC kindOf (P.zip vs) m x=some v
 | [],_,_,_,_,h,_,_=>by simp at h
 | _::_,[],_,_,_,_,h,_=>by simp at h
 | p::P,w::vs,0,m,nd,h1,h2,hk=>by
  simp at h1 h2;subst h1;subst h2;show bindC kindOf ((p,w)::P.zip vs) m p=_;unfold bindC;rw [A8c λv hv=>(Z15.mp nd).1 (List.of_mem_zip hv).1,Z0t hk];simp
 | p::P,w::vs,i+1,m,nd,h1,h2,hk=>by
  show bindC kindOf ((p,w)::P.zip vs) m x=_;unfold bindC;exact A7q (i:=i) (Z15.mp nd).2 (by simpa using h1) (by simpa using h2) hk
def A8h (N:List Str) (vs:List V):St:=vs.map some++List.replicate (N.length-vs.length) none
def B7z (CX:CXT) (P:Program) (w:World) (K:Frag) (mg:Str->Option Value) (base:Heap) (N:List Str) (qual:Str) (scope:Scope) (f:Addr) (cd:Value) (A:Around) (outer:List Env) (s:Shared) (H:Hp) (E:XK):Cx where
 prog:=P
 w:=w
 K:=K
 mg:=mg
 base:=base
 A:=A.deeper (envOfC qual scope s.heap.objs.size f cd)
 N:=N
 s₀:=s
 H₀:=H
 env:=envOfC qual scope s.heap.objs.size f cd
 outer:=outer
 stack:=envOfC qual scope s.heap.objs.size f cd::outer
 ex:=[]
 calm:=true
 fn:=λ_=>true
 pn:=[]
 xe:=λe s'=>wpAny (model P w) (A.deeper (envOfC qual scope s.heap.objs.size f cd)) (leaving (envOfC qual scope s.heap.objs.size f cd) e) (λ_ s''=>CX outer H s E e s'') (λe' s''=>CX outer H s E e' s'') s'
theorem B0q {sc:Scope} {n:Nat} {x:Str} (h:sc.names.lookup x=some .cell):∃c,(cellsFrom n sc.names []).lookup x=some c:=by
 have q:=PySem.W.cellsFrom_some sc.names n [] (.inl h);exact Option.isSome_iff_exists.mp q
theorem B4k {CX:CXT} {P:Program} {w:World} {K:Frag} {mg:Str->Option Value} {base:Heap} {N ps:List Str} {qual:Str} {scope:Scope} {f:Addr} {cd:Value} {A:Around} {outer:List Env} {s s1:Shared} {H:Hp} {E:XK} {us:List Value} {vs:List V}
  (S:A0v N ps scope) (hd:A.handled=none) (e0:B5z P w K mg base A outer s H) (hl:vs.length=ps.length) (r:A1u vs us)
  (x:InCallC s s.heap.objs.size (bindL (envOfC qual scope s.heap.objs.size f cd).kindOf (ps.zip us) λ_=>none) (cellsFrom (s.heap.objs.size+1) scope.names []) (bindC (envOfC qual scope s.heap.objs.size f cd).kindOf (ps.zip us) λ_=>none) s1) :
  Inv (B7z CX P w K mg base N qual scope f cd A outer s H E) [] (A8h N vs) H s1:=by
 have hpl:ps.length<=N.length:=by have:=congrArg List.length S.pre;rw [Z0x] at this;lia
 obtain ⟨h1,tk,rfl,hk⟩:=x.done;have noA:∀b:Addr,b∉(B7z CX P w K mg base N qual scope f cd A outer s H E).ex:=λb z=>absurd (show b∈([]:List Addr) from z) (by simp)
 refine ⟨⟨e0.mod,S.kind,rfl,rfl,Z09 _,λy z c h1 h2=> ?_,λy hy=> ?_,λy c _ h=> ?_,λ_=>hd,Around.frames_deeper e0.frames,.inr ⟨rfl,rfl⟩,λb z=>absurd z (noA b),e0.bs,e0.bsz,λb _ _=>noA b,λb z=>absurd z (noA b),e0.funs,e0.frf⟩,
  rfl,e0.bare,Un.kept hk,⟨_,x.toInCall.ns,λi y v h1 h2 h3=> ?_⟩,λy c h=>⟨_,x.cell y c h⟩,e0.hok.fresh (Z09 _),λy c h=> ?_,λp hp=>absurd (show p∈([]:List (Addr×Obj)) from hp) (by simp),e0.hok.kept hk,?_⟩
 ·exact name_of_addr x.apart (PySem.mem_of_lookup h1) (PySem.mem_of_lookup h2)
 ·have hy:scope.names.lookup y=some .cell\/scope.names.lookup y=some .free:=hy;rcases hy with hy | hy
  ·exact B0q hy
  ·exact absurd rfl (S.nofree _ (PySem.mem_of_lookup hy))
 ·exact Nat.le_of_lt (x.above y c (PySem.mem_of_lookup h))
 ·have hi:i<vs.length:=by
   unfold A8h at h2;by_cases hi:i<vs.length
   ·exact hi
   ·rw [Z1l (by simpa using hi)] at h2;rw [List.getElem?_replicate] at h2;split at h2 <;> cases h2
  have ha:vs[i]? =some v:=by
   unfold A8h at h2;rw [Z26 (by simpa using hi),Z1z] at h2
   cases e:vs[i]? with
   | none=>rw [e] at h2;cases h2
   | some a=>rw [e] at h2;cases h2;rfl
  obtain ⟨u,hu,rv⟩:=r.get ha
  have hp:ps[i]? =some y:=by
   rw [<-S.pre,List.getElem?_take_of_lt (by lia)];exact h1
  have ndP:ps.Nodup:=by rw [<-S.pre];exact S.nd.sublist (List.take_sublist _ _)
  refine ⟨u,rv,?_⟩;rcases S.par y (Z13 hp) with k | k
  ·exact .inl ⟨k,A7y ndP hp hu k⟩
  ·obtain ⟨c,e⟩:=B0q (n:=s.heap.objs.size+1) k;refine .inr ⟨.inl k,c,e,?_⟩;have q:=x.cell y c e;rw [A7q ndP hp hu (by show scope.names.lookup y≠_;rw [k];decide)] at q;exact q
 ·exact e0.hok.fresh (Nat.le_of_lt (x.above y c (PySem.mem_of_lookup h)))
 ·unfold A8h;show _=N.length;rw [Z06,Z08,List.length_replicate]
  lia
theorem C1e {CX:CXT} {P:Program} {w:World} {K:Frag} {mg:Str->Option Value} {base:Heap} {k:Nat} {f:Addr} {name qual:Str} {params:Arguments} {body:List Stmt} {scope:Scope} {dV kV doc pm cdv ct oc:Value} {an od:Option Addr}
  {osl:Array (Option Value)} {N ps:List Str} {sp:Sp} (lk:K.lookup f=some ⟨oc,od,.func (fnOf name qual params body scope dV kV doc pm an cdv ct),osl⟩) (hcd:codeIn K cdv qual=true) (S:A0v N ps scope)
  (len:∀vs H Q E,sp vs H Q E->vs.length=ps.length)
  (hbody:∀(A:Around) (outer:List Env) (s:Shared) (H:Hp) (vs:List V) (Q:VK) (E:XK),A4f k (A.deeper (envOfC qual scope s.heap.objs.size f cdv))->sp vs H Q E->
   ∃t,PSs (B7z CX P w K mg base N qual scope f cdv A outer s H E) body t/\t { nx:=λ_ H'=>Q .non H',rt:=Q } (A8h N vs) H) :
  A5r P w K mg base CX (k+1) f (fnOf name qual params body scope dV kV doc pm an cdv ct) ps sp:=by
 refine ⟨len,λA outer s H args us vs Q E hr e0 hb r hsp=> ?_⟩;have hl:=len _ _ _ _ hsp;have KX:K.In s.heap:=e0.mod.kin.keeps λb o e=>(e0.bs b o e).1;have lim:s.heap.NoLimit:=e0.mod.nolimit.keeps λb o e=>(e0.bs b o e).1
 have hkind:∀y∈ps.zip us,scope.names.lookup y.1=some .local\/(scope.names.lookup y.1=some .cell/\((cellsFrom (s.heap.objs.size+1) scope.names []).lookup y.1).isSome=true):=λ⟨n,v⟩ hy=>by
  rcases S.par n (List.of_mem_zip hy).1 with q | q
  ·exact .inl q
  ·exact .inr ⟨q,PySem.W.cellsFrom_some _ _ _ (.inl q)⟩
 refine codeAny_call_function hr.depth (KX _ _ lk) rfl S.co S.gen rfl (PySem.W.codeRec_of KX hcd) (hb _ _ _ _ ?_);refine wpAny_newFunctionEnv_cells S.kind hkind λenv he s1 x=> ?_;subst he;refine ⟨lim.keeps x.toInCall.keep,codeAny_func ?_⟩;obtain ⟨t,ht,hq⟩:=hbody A outer s H vs Q E (hr.deeper _) hsp;have I:Inv (B7z CX P w K mg base N qual scope f cdv A outer s H E) [] (A8h N vs) H s1:=B4k S hr.hd e0 hl r x;refine Z10 (ht [] s1 (A8h N vs) H _ I hq) (λfl s' hs=> ?_) λe s' hs=>hs
 have fin:∀{σ':St} {H':Hp} {v:V} {u:Value},Inv (B7z CX P w K mg base N qual scope f cdv A outer s H E) [] σ' H' s'->A2a v u->Q v H'->CE outer P w H s Q u s' :=
  λ{σ' H' v u} J rv q=>⟨v,H',J.os,J.bare,J.base,J.hok,rv,q⟩
 cases fl with
 | ret u =>
  obtain ⟨v,σ',H',J,rv,q⟩:=hs;exact fin J rv q
 | next =>
  obtain ⟨σ',H',J,q⟩:=hs;exact fin (v:=V.non) (u:=Value.none) J rfl q
 | brk =>
  obtain ⟨_,_,_,q⟩:=hs;exact False.elim q
 | cont =>
  obtain ⟨_,_,_,q⟩:=hs;exact False.elim q
section
variable {X:Cx} {x:Str} {p pos:Pos} {e:Expr} {es:List Expr} {t:TA} {id T:String} {r:List V->Hp->VK->Prop}
def tCB (r:List V->Hp->VK->Prop) (t:TA):TE:=λσ H Q=>t σ H λvs H1=>r vs H1 Q
theorem A0k (hc:A7r X (.builtin id) r) (hg:Gl X x) (hm:X.mg x=none) (hv:bootBuiltins x=some (.builtin id)) (ha:PA X (e::es) t) (hn:x≠"__name__":=by decide) (hdb:(x == ("__debug__":Str))=false:=by decide)
  (he:starEach (e::es) X.env=(false,eval e X.env)::starEach es X.env:=by rfl) (hpl:(backTo pos (starEach es X.env)).any (·.1)=false:=by rfl):PE X (.Call (.Name x p) (e::es) [] pos) (tCB r t):=by
 intro pins s σ H Q I h;refine wpAny_Call_Name_kw (A3h I hg hm hv ?_ hn hdb);exact PyProof.Rows.callWith_builtin1 (thn (ha pos pins s σ H _ I h) (by rintro us s1 ⟨vs,H1,I1,r1,q1⟩;exact hc pins s1 σ H1 vs us Q I1 r1 q1)) he hpl
theorem A2l (hc:A7r X (.type T) r) (hg:Gl X x) (hm:X.mg x=none) (hv:bootBuiltins x=some (.type T)) (ha:PA X (e::es) t) (hn:x≠"__name__":=by decide) (hdb:(x == ("__debug__":Str))=false:=by decide)
  (he:starEach (e::es) X.env=(false,eval e X.env)::starEach es X.env:=by rfl) (hpl:(backTo pos (starEach es X.env)).any (·.1)=false:=by rfl):PE X (.Call (.Name x p) (e::es) [] pos) (tCB r t):=by
 intro pins s σ H Q I h;refine wpAny_Call_Name_kw (A3h I hg hm hv ?_ hn hdb);exact PyProof.Rows.callWith_type1 (thn (ha pos pins s σ H _ I h) (by rintro us s1 ⟨vs,H1,I1,r1,q1⟩;exact hc pins s1 σ H1 vs us Q I1 r1 q1)) he hpl
end
end L2
namespace HT
open PySem PyProof.Rows
section
open PySem.SeqAt
open PySem.AutoSeq1 (wpAny_loadPart')
open PySem.MeetsSeq PySem.MeetsSeq2 PySem.MeetsSeq3
end
section
variable {prog:Program} {w:World} {A:Around} {E:Value->Shared->Prop} {s:Shared}
theorem cat_tup {t b:Addr} {vs ws:List Value} {Q:Value->Shared->Prop} (ht:IsTup s.heap t vs.toArray) (hb:IsTup s.heap b ws.toArray) (hv:vs≠[])
  (h1:ws=[]->Q (.ref t) s) (h2:ws≠[]->Q (.ref s.heap.objs.size) { s with heap:=s.heap.push { cls:= .type "tuple",data:= .seq (vs++ws).toArray } })
  (hsz:vs.length+ws.length<=sizeLine):wpAny (model prog w) A (binaryOp .Add (.ref t) (.ref b)) Q E s:=by
 obtain ⟨⟨cls,dd,data,sl⟩,ho,hc,n,hd⟩:=id ht;obtain ⟨⟨cls2,dd2,data2,sl2⟩,ho2,hc2,n2,hd2⟩:=id hb;simp only at hc hd hc2 hd2;subst hc hd hc2 hd2;have e:vs.toArray++ws.toArray=(vs++ws).toArray:=by simp
 by_cases hw:ws=[]
 ·exact concat_meets ⟨_,ho,rfl⟩ ⟨_,ho2,rfl⟩ noFill_tuple_add seq_tuple_add PySem.F.slot_tuple_add PySem.F.entry_tuple_add (PySem.F.args_tuple_add_2 _ _)
   (tuple_addW1 t b vs.toArray ws.toArray n n2 dd dd2 sl sl2 (by simpa using hv) (by simp [hw])) ⟨ho,ho2,h1 hw⟩
 ·refine concat_meets ⟨_,ho,rfl⟩ ⟨_,ho2,rfl⟩ noFill_tuple_add seq_tuple_add PySem.F.slot_tuple_add PySem.F.entry_tuple_add (PySem.F.args_tuple_add_2 _ _)
   (tuple_addW2 t b vs.toArray ws.toArray n n2 dd dd2 sl sl2 (by simpa using hv) (by simpa using hw) (by rw [Z0g,Z0g];exact hsz)) ⟨ho,ho2,?_⟩
  rw [e];exact h2 hw
def sIx (n d:Nat):Option Int->Nat
 | none=>d
 | some v=>if v<0 then (v+(n:Int)).toNat else min v.toNat n
theorem B9n (n d:Nat) (hd:d<=n) (o:Option Int):sIx n d o<=n:=by
 cases o with
 | none=>exact hd
 | some v =>
  show (if v<0 then (v+(n:Int)).toNat else min v.toNat n)<=n;by_cases hv:v<0
  ·rw [Z12 hv];lia
  ·rw [Z0t hv];exact Nat.min_le_right _ _
theorem B2d (v:Int) (n d:Nat):(if v<0 then max (v+(n:Int)) 0 else min v (n:Int))=((sIx n d (some v):Nat):Int):=by
 show (if v<0 then max (v+(n:Int)) 0 else min v (n:Int))=(((if v<0 then (v+(n:Int)).toNat else min v.toNat n):Nat):Int);by_cases hv:v<0
 ·simp only [Z12 hv];lia
 ·simp only [Z0t hv];lia
theorem B1f (lo hi:Option Int) (n:Nat):Builtin.Slice.sliceAdjust lo hi 1 (n:Int)=(((sIx n 0 lo:Nat):Int),((sIx n n hi:Nat):Int)):=by
 have h1:¬((1:Int)<0):=by lia
 unfold Builtin.Slice.sliceAdjust;simp only [h1,if_false];refine Prod.ext ?_ ?_
 ·cases lo with
  | none=>rfl
  | some v=>exact B2d v n 0
 ·cases hi with
  | none=>rfl
  | some v=>exact B2d v n n
theorem B1k (i j:Nat):Builtin.Slice.slicePlaces (i:Int) (j:Int) 1=j-i:=by
 unfold Builtin.Slice.slicePlaces;have h1:(1:Int)>0:=by lia
 simp only [h1,if_true,Int.ediv_one];split <;> lia
theorem A6f {v:Value} {o:Option Int} {Q:Option Int->Shared->Prop} (p:IsPart v o) (h:Q o s):wpAny (model prog w) A (Builtin.Slice.slicePartIndex v) Q E s:=by
 cases p with
 | none=>exact slicePart_none h
 | int i t=>exact slicePart_int h
theorem A4m {sl:Addr} {vl vu:Value} {lo hi:Option Int} {n:Nat} {Q:Int×Int×Nat->Shared->Prop} (hs:s.heap.IsSliceOf sl vl vu .none) (pl:IsPart vl lo) (pu:IsPart vu hi)
  (h:Q (((sIx n 0 lo:Nat):Int),1,sIx n n hi-sIx n 0 lo) s):wpAny (model prog w) A (Builtin.Slice.sliceApplied (.ref sl) (pure (n:Int))) Q E s:=by
 obtain ⟨os,hos,hcs,hds⟩:=id hs;unfold Builtin.Slice.sliceApplied Builtin.Slice.sliceFields;refine Z00 (Z00 (wpAny_field hos hds (x:=vl) rfl (Z00 (wpAny_field hos hds (x:=vu) rfl (Z00 (wpAny_field hos hds (x:= .none) rfl (Z04 ?_)))))));refine Z00 (slicePart_none ?_);show wpAny _ _ (if ((1:Int) == 0)=true then _ else _) _ _ s;rw [Z0t (by decide)];refine Z00 (A6f pl (Z00 (A6f pu (Z00 (Z04 ?_)))));show wpAny _ _ (match Builtin.Slice.sliceAdjust lo hi 1 (n:Int) with | (lo,hi)=>pure (lo,(1:Int),Builtin.Slice.slicePlaces lo hi 1)) _ _ s
 rw [B1f lo hi n];show wpAny _ _ (pure (((sIx n 0 lo:Nat):Int),(1:Int),Builtin.Slice.slicePlaces ((sIx n 0 lo:Nat):Int) ((sIx n n hi:Nat):Int) 1)) _ _ s;rw [B1k];exact Z04 h
theorem B4x (xs:Array Value) (i k:Nat):((List.range k).filterMap λ(m:Nat)=>xs[((i:Int)+(m:Int)*1).toNat]?).toArray=((xs.toList.drop i).take k).toArray:=by
 have e:(λ(m:Nat)=>xs[((i:Int)+(m:Int)*1).toNat]?)=λm=>xs[i+m]? :=by
  funext m;have:((i:Int)+(m:Int)*1).toNat=i+m:=by lia
  rw [this]
 rw [e];have:=pick_run xs i k;rw [List.filterMap_map] at this;have e2:((λx=>xs[x]?)∘λx=>i+x)=λm=>xs[i+m]? :=rfl;rw [e2] at this;rw [this]
theorem getItem_tuple_cut {t sl:Addr} {items:Array Value} {vl vu:Value} {lo hi:Option Int} {Q:Value->Shared->Prop} (ht:IsTup s.heap t items) (hs:s.heap.IsSliceOf sl vl vu .none) (pl:IsPart vl lo) (pu:IsPart vu hi)
  (hw:¬(sIx items.size 0 lo=0/\sIx items.size items.size hi=items.size))
  (h:Q (.ref s.heap.objs.size) { s with heap:=s.heap.push { cls:= .type "tuple",data:= .seq ((items.toList.drop (sIx items.size 0 lo)).take (sIx items.size items.size hi-sIx items.size 0 lo)).toArray } })
  (hsz:items.size<=sizeLine):wpAny (model prog w) A (getItem (.ref t) (.ref sl)) Q E s:=by
 have htake:sizeOk (.seq ((items.toList.drop (sIx items.size 0 lo)).take (sIx items.size items.size hi-sIx items.size 0 lo)).toArray):=by
  show ((items.toList.drop (sIx items.size 0 lo)).take (sIx items.size items.size hi-sIx items.size 0 lo)).toArray.size<=sizeLine;rw [Z0g,Z0x,Z19,Array.length_toList]
  lia
 have hj:sIx items.size items.size hi<=items.size:=B9n _ _ (Z09 _) hi;obtain ⟨os,hos,hcs,hds⟩:=id hs;have hTs:s.TypeIs (.ref sl) "slice":=⟨os,hos,hcs⟩;unfold getItem
 try with_reducible refine Z1w ?_
 first | refine Z00 (Z04 ?_) | skip
 refine Z00 (wpAny_sequenceKey ht.typeIs (by decide) ?_)
 refine Z00 (wpAny_callSpecial?_slot (name:=Str.ofString "__getitem__") ht.typeIs Z2k
  (wpAny_call_entry Z2k ht.typeIs entry_tuple_getitem ?_ (args_tuple_getitem _ _)))
 show wpAny _ _ (Builtin.Tuple.tupleItemsOf (.ref t) >>= _) _ _ s;refine Z00 (tupleItemsOf_ ht ?_);refine Z00 (wpAny_typeOf hTs ?_);rw [Z12 (by decide)];refine Z00 (A4m hs pl pu ?_)
 have hno:¬((((sIx items.size 0 lo:Nat):Int) == 0&&(1:Int) == 1&&(sIx items.size items.size hi-sIx items.size 0 lo) == items.size)=true):=by
  intro q;rw [Z1x,Z1x] at q;have q1:((sIx items.size 0 lo:Nat):Int)=0:=eq_of_beq q.1.1;have q2:sIx items.size items.size hi-sIx items.size 0 lo=items.size:=eq_of_beq q.2;exact hw ⟨by lia,by lia⟩
 show wpAny _ _ (if (((sIx items.size 0 lo:Nat):Int) == 0&&(1:Int) == 1&&(sIx items.size items.size hi-sIx items.size 0 lo) == items.size)=true then _ else _) _ _ s;rw [Z0t hno,B4x]
 first
  | exact Z00 (m:=Builtin.Tuple.tupleExact _) (Z16 (Z04 ⟨_,rfl,Z04 h⟩) htake)
  | exact Z00 (m:=Builtin.Tuple.tupleExact _) (Z16 (Z00 (Z04 (Z04 ⟨_,rfl,Z04 h⟩))) htake)
  | exact Z00 (Z00 (m:=Builtin.Tuple.tupleExact _) (Z16 (Z04 (Z04 ⟨_,rfl,Z04 h⟩)) htake))
  | exact Z00 (Z00 (m:=Builtin.Tuple.tupleExact _) (Z16 (Z04 ⟨_,rfl,Z04 h⟩) htake))
end
end HT
namespace L2
open PySem PySem.Spec PyProof.Rows
abbrev TO:=St->Hp->(Option Int->Hp->Prop)->Prop
def PO (X:Cx) (e:Option Expr) (t:TO):Prop :=
 ∀(pins:List (Addr×Obj)) (s:Shared) (σ:St) (H:Hp) (Q:Option Int->Hp->Prop),Inv X pins σ H s->t σ H Q->
  wpAny (model X.prog X.w) X.A (evalPart e X.env) (λu s'=>∃o H',Inv X pins σ H' s'/\IsPart u o/\Q o H') X.xe s
def B6r:TO:=λ_ H Q=>Q none H
def C0i (t:TE):TO:=λσ H Q=>t σ H λx H1=>∃i,x= .int i/\Q (some i) H1
section
variable {X:Cx} {e:Expr} {te:TE} {lo hi:Option Expr} {tl th:TO} {pos p2:Pos}
theorem B4d:PO X none B6r:=by
 intro pins s σ H Q I h;rw [evalPart_none];exact Z04 ⟨none,H,I,.none,h⟩
theorem B2l (h:PE X e te):PO X (some e) (C0i te):=by
 intro pins s σ H Q I hw;rw [evalPart_some];refine thn (h pins s σ H _ I hw) ?_;rintro u s1 ⟨x,H1,I1,r1,q1⟩;obtain ⟨i,rfl,q⟩:=q1;obtain ⟨t,rfl⟩:=r1;exact ⟨some i,H1,I1,.int i t,q⟩
def SlR (X:Cx) (r:V->Option Int->Option Int->Hp->VK->Prop):Prop :=
 ∀(pins:List (Addr×Obj)) (s:Shared) (σ:St) (H:Hp) (x:V) (v vl vu:Value) (lo hi:Option Int) (sl:Addr) (Q:VK),Inv X pins σ H s->A2a x v->s.heap.IsSliceOf sl vl vu .none->IsPart vl lo->IsPart vu hi->r x lo hi H Q->
  ∃T id,typeLookup (.type T) "__getitem__"=pure (some (.builtin id))/\s.TypeIs v T/\wpAny (model X.prog X.w) X.A (getItem v (.ref sl)) (EP X pins σ Q) X.xe s
def tSl (r:V->Option Int->Option Int->Hp->VK->Prop) (te:TE) (tl th:TO):TE:=λσ H Q=>te σ H λx H1=>tl σ H1 λl H2=>th σ H2 λu H3=>r x l u H3 Q
theorem B0t {r:V->Option Int->Option Int->Hp->VK->Prop} (hr:SlR X r) (he:PE X e te) (hl:PO X lo tl) (hu:PO X hi th):PE X (.Subscript e (.Slice lo hi none p2) pos) (tSl r te tl th):=by
 intro pins s σ H Q I h;refine Subscript_ (thn (he pins s σ H _ I h) ?_);rintro v s1 ⟨x,H1,I1,r1,q1⟩;refine wpAny_Slice (thn (hl pins s1 σ H1 _ I1 q1) ?_);rintro vl s2 ⟨l,H2,I2,pl,q2⟩;refine thn (hu pins s2 σ H2 _ I2 q2) ?_;rintro vu s3 ⟨u,H3,I3,pu,q3⟩;rw [evalPart_none];refine Z04 ?_;have I4:Inv X pins σ H3 { s3 with heap:=s3.heap.push { cls:= .type "slice",data:= .fields #[vl,vu,.none] } }:=I3.kept (t':=s3.toks) λb ob q=>Z01 _ q
 obtain ⟨T,id,hT,ht,hg⟩:=hr pins { s3 with heap:=s3.heap.push { cls:= .type "slice",data:= .fields #[vl,vu,.none] } } σ H3 x v vl vu l u s3.heap.objs.size Q I4 r1 (Heap.IsSliceOf.new ..) pl pu q3;show wpAny (model X.prog X.w) X.A (subscriptTail e (.Slice lo hi none p2) v (.ref s3.heap.objs.size)) (EP X pins σ Q) X.xe { s3 with heap:=s3.heap.push { cls:= .type "slice",data:= .fields #[vl,vu,.none] } };exact tail_any (ops:=[.ref s3.heap.objs.size,v]) ht hT hg (by with_unfolding_all rfl)
def B8d (xs:List V) (lo hi:Option Int):List V:=(xs.drop (HT.sIx xs.length 0 lo)).take (HT.sIx xs.length xs.length hi-HT.sIx xs.length 0 lo)
theorem A9j (xs:List V) (lo hi:Option Int):(B8d xs lo hi).length<=xs.length:=by
 unfold B8d;rw [Z0x,Z19]
 lia
def rSlT (K:Frag):V->Option Int->Option Int->Hp->VK->Prop:=λx lo hi H Q=>∃a xs,x= .ref a/\SqT K H a xs/\
 ¬(HT.sIx xs.length 0 lo=0/\HT.sIx xs.length xs.length hi=xs.length)/\∀p,H p=none->Q (.ref p) (upd H p (.tup (B8d xs lo hi)))
theorem B6m:SlR X (rSlT X.K):=by
 intro pins s σ H x v vl vu lo hi sl Q I rx hs pl pu h;obtain ⟨a,xs,rfl,hx,hw,q⟩:=h;cases rx;obtain ⟨its,r,ht,hz⟩:=I.tuple hx;have hlen:its.toArray.size=xs.length:=by rw [Z0g];exact r.length.symm
 refine ⟨"tuple",_,Z2k.lookup,ht.typeIs,?_⟩;refine HT.getItem_tuple_cut ht hs pl pu (by rw [hlen];exact hw) ?_ (by rw [hlen];exact hz);rw [hlen];refine ⟨.ref s.heap.objs.size,_,I.laid (t':=s.toks) (o:= .tup (B8d xs lo hi)) (λb ob q=>Z01 _ q) (Z09 _) ?_,rfl,q _ (I.hok.fresh (Z09 _))⟩;exact ⟨Z1n (A9j xs lo hi) hz,_,(r.drop (HT.sIx xs.length 0 lo)).take (HT.sIx xs.length xs.length hi-HT.sIx xs.length 0 lo),IsTup.new _ _⟩
def C1h (K:Frag):R2:=λx y H Q=>∃a b xs ys,x= .ref a/\y= .ref b/\SqT K H a xs/\SqT K H b ys/\xs≠[]/\xs.length+ys.length<=sizeLine/\
 (ys=[]->Q (.ref a) H)/\(ys≠[]->∀p,H p=none->Q (.ref p) (upd H p (.tup (xs++ys))))
theorem A1u.nil_iff {xs:List V} {us:List Value} (r:A1u xs us):us=[]↔xs=[]:=by
 cases r with
 | nil=>simp
 | cons _ _=>simp
theorem B7o:OpR X (binaryOp .Add) (C1h X.K):=by
 intro pins s σ H x y v u Q I rx ry h;obtain ⟨a,b,xs,ys,rfl,rfl,ha,hb,hx,hz,q1,q2⟩:=h;cases rx;cases ry;obtain ⟨its,r1,p1,_⟩:=I.tuple ha;obtain ⟨its2,r2,p2,_⟩:=I.tuple hb;refine HT.cat_tup p1 p2 (λz=>hx (r1.nil_iff.mp z)) (λz=>⟨.ref a,H,I,rfl,q1 (r2.nil_iff.mp z)⟩) (λz=> ?_) (by rw [<-r1.length,<-r2.length];exact hz);refine ⟨.ref s.heap.objs.size,_,I.laid (t':=s.toks) (o:= .tup (xs++ys)) (λb ob q=>Z01 _ q) (Z09 _) ?_,rfl,q2 (λw=>z (r2.nil_iff.mpr w)) _ (I.hok.fresh (Z09 _))⟩;exact ⟨by rw [Z06];exact hz,_,r1.append r2,IsTup.new _ _⟩
end
def ixN (n:Nat) (i:Int):Option Nat:=if 0<=i then (if i<n then some i.toNat else none) else if -(n:Int)<=i then some (i+n).toNat else none
def atI {α:Type} (xs:List α) (i:Int):Option α:=(ixN xs.length i).bind λj=>xs[j]?
theorem B6q {n:Nat} {i:Int} {j:Nat} (h:ixN n i=some j):seqIndex? i n=some j/\j<n/\-(n:Int)<=i/\i<n:=by
 unfold ixN at h;by_cases h0:0<=i
 ·rw [Z12 h0] at h;by_cases h1:i<n
  ·rw [Z12 h1] at h;have e:i.toNat=j:=Z1a h;exact ⟨by rw [seqIndex_of h0 h1,e],by lia,by lia,h1⟩
  ·rw [Z0t h1] at h;cases h
 ·rw [Z0t h0] at h;by_cases h1: -(n:Int)<=i
  ·rw [Z12 h1] at h;have e:(i+n).toNat=j:=Z1a h;exact ⟨by rw [seqIndex_neg (by lia) h1,e],by lia,h1,by lia⟩
  ·rw [Z0t h1] at h;cases h
theorem A9l {α:Type} {xs:List α} {i:Int} {v:α} (h:atI xs i=some v):∃j,seqIndex? i xs.length=some j/\xs[j]? =some v/\j<xs.length/\-(xs.length:Int)<=i/\i<xs.length:=by
 unfold atI at h
 cases e:ixN xs.length i with
 | none=>rw [e] at h;cases h
 | some j =>
  rw [e] at h;obtain ⟨h1,h2,h3,h4⟩:=B6q e;exact ⟨j,h1,h,h2,h3,h4⟩
theorem A0q {α:Type} {xs:List α} {j:Nat} {v:α} (h:xs[j]? =some v):atI xs (j:Int)=some v:=by
 have hj:j<xs.length:=(Z03.mp h).1
 have e:ixN xs.length (j:Int)=some j:=by
  unfold ixN;rw [Z12 (by lia),Z12 (by lia)];simp
 unfold atI;rw [e];exact h
theorem A2w {α:Type} (xs:List α) (v:α):atI (xs++[v]) (-1)=some v:=by
 have hl:(xs++[v]).length=xs.length+1:=by simp
 have e:ixN (xs++[v]).length (-1)=some xs.length:=by
  unfold ixN;rw [hl,Z0t (by decide),Z12 (by lia)];congr 1
  lia
 unfold atI;rw [e];show (xs++[v])[xs.length]? =some v;simp
def B7q (b:Expr):Prop:=∀o i,subscripted b false o i=operate [o,i] (getItem o i)
def IxR (X:Cx) (r:R2):Prop :=
 ∀(value slice:Expr) (pins:List (Addr×Obj)) (s:Shared) (σ:St) (H:Hp) (x y:V) (v u:Value) (Q:VK),Inv X pins σ H s->A2a x v->A2a y u->r x y H Q->
  subscripted slice false v u=operate [v,u] (getItem v u)->wpAny (model X.prog X.w) X.A (subscriptTail value slice v u) (EP X pins σ Q) X.xe s
def MtR (X:Cx) (id:String) (r:V->List V->Hp->VK->Prop):Prop :=
 ∀(pins:List (Addr×Obj)) (s:Shared) (σ:St) (H:Hp) (x:V) (xs:List V) (v:Value) (us:List Value) (Q:VK),Inv X pins σ H s->A2a x v->A1u xs us->r x xs H Q->
  wpAny (model X.prog X.w) X.A (call (.builtin id) (v::us)) (EP X pins σ Q) X.xe s
section
variable {X:Cx} {a b:Expr} {ta tb:TE} {pos:Pos}
theorem IxR.or {r r':R2} (h:IxR X r) (h':IxR X r'):IxR X (λx y H Q=>r x y H Q\/r' x y H Q):=by
 intro value slice pins s σ H x y v u Q I rx ry q hs;rcases q with q | q
 ·exact h value slice pins s σ H x y v u Q I rx ry q hs
 ·exact h' value slice pins s σ H x y v u Q I rx ry q hs
theorem A0t {r:R2} (hr:IxR X r) (ha:PE X a ta) (hb:PE X b tb) (hs:B7q b):PE X (.Subscript a b pos) (tOp r ta tb):=by
 intro pins s σ H Q I h;exact Subscript_ (C0f ha hb I h λv u s2 x y H2 I2 rx ry q=>hr a b pins s2 σ H2 x y v u Q I2 rx ry q (hs _ _))
def C0y (K:Frag):R2:=λx y H Q=>∃p xs i v,x= .ref p/\y= .int i/\SqL K H p xs/\atI xs i=some v/\Q v H
def C0m (K:Frag):R2:=λx y H Q=>∃p xs i v,x= .ref p/\y= .int i/\SqT K H p xs/\atI xs i=some v/\Q v H
def C1k:R2:=λx y H Q=>∃z i c,x= .str z/\y= .int i/\z.length<=sizeLine/\atI z.cps.toList i=some c/\Q (.str ⟨#[c]⟩) H
theorem A1d:IxR X (C0y X.K):=by
 intro value slice pins s σ H x y v u Q I rx ry h hs;obtain ⟨p,xs,i,z,rfl,rfl,hq,he,q⟩:=h;cases rx;obtain ⟨t,rfl⟩:=ry;obtain ⟨its,r,pl,hz⟩:=I.list hq;obtain ⟨j,h1,h2,h3,h4,h5⟩:=A9l he;obtain ⟨w,ew,rw'⟩:=r.get h2;have hl:=r.length;have hn:=B0z;have fin:EP X pins σ Q w s:=⟨z,H,I,rw',q⟩;by_cases h0:0<=i
 ·have hj:i.toNat=j:=by
   rw [seqIndex_of h0 h5] at h1;exact Z1a h1
  exact item_listR pl.isList h0 (by lia) (by rw [hj];simpa using ew) fin hs
 ·have hj:(i+(its.toArray.size:Int)).toNat=j:=by
   rw [seqIndex_neg (by lia) h4] at h1;rw [Z0g,<-hl];exact Z1a h1
  exact subscriptTail_builtinR (x:=w) pl.isList.typeIs slot_list_getitem.lookup
   (wpAny_getItem_list_neg (Q:=λr s'=>r=w/\EP X pins σ Q r s') pl.isList (by lia) (by rw [Z0g] <;> lia) (by lia) (by rw [hj];simpa using ew) ⟨rfl,fin⟩) hs
theorem A1b:IxR X (C0m X.K):=by
 intro value slice pins s σ H x y v u Q I rx ry h hs;obtain ⟨p,xs,i,z,rfl,rfl,hq,he,q⟩:=h;cases rx;obtain ⟨t,rfl⟩:=ry;obtain ⟨its,r,pl,hz⟩:=I.tuple hq;obtain ⟨j,h1,h2,h3,h4,h5⟩:=A9l he;obtain ⟨w,ew,rw'⟩:=r.get h2;have hl:=r.length;have hn:=B0z;have fin:EP X pins σ Q w s:=⟨z,H,I,rw',q⟩
 exact subscriptTail_builtinR (x:=w) pl.typeIs slot_tuple_getitem.lookup
  (getItem_tuple (j:=j) (Q:=λr s'=>r=w/\EP X pins σ Q r s') pl (by lia) (by lia) (by rw [Z0g,<-hl];exact h1) (by simpa using ew) ⟨rfl,fin⟩) hs
theorem B8s:IxR X C1k:=by
 intro value slice pins s σ H x y v u Q I rx ry h hs;obtain ⟨z,i,c,rfl,rfl,hz,he,q⟩:=h;obtain ⟨t,rfl⟩:=rx;obtain ⟨t',rfl⟩:=ry;obtain ⟨j,h1,h2,h3,h4,h5⟩:=A9l he;have hl:z.cps.toList.length=z.length:=by simp [Str.length]
 rw [hl] at h1 h4 h5;have hn:=B0z
 exact tail_any (typeIs_str s z t) slot_str_getitem.lookup (getItem_str (c:=c) (by
  have e1:decide (i< -(2^63:Int))=false:=Z1j (by lia);have e2:decide (i≥2^63)=false:=Z1j (by lia)
  rw [e1,e2,Bool.or_false]) (by rw [h1];simpa using h2) ⟨.str ⟨#[c]⟩,H,I.tok _,⟨_,rfl⟩,q⟩) hs
def rIx (K:Frag):R2:=λx y H Q=>C0y K x y H Q\/C0m K x y H Q\/C1k x y H Q
theorem A5b:IxR X (rIx X.K):=A1d.or (A1b.or B8s)
theorem A0i:A7r X (.builtin "len") (λxs H Q=>∃p ys,xs=[.ref p]/\(SqL X.K H p ys\/SqT X.K H p ys)/\Q (.int ys.length) H):=by
 intro pins s σ H xs us Q I r h;obtain ⟨p,ys,rfl,hq,q⟩:=h;obtain ⟨u,rfl,rx⟩:=B5b r;cases rx;have hn:=B0z;rcases hq with hq | hq
 ·obtain ⟨its,r',pl,hz⟩:=I.list hq;have hlen:=r'.length;exact Calls.call_len_list pl.isList (by simp only [Z0g] <;> lia) ⟨.int ys.length,H,I.tok _,⟨s.toks+1,by rw [Z0g,hlen]⟩,q⟩
 ·obtain ⟨its,r',pl,hz⟩:=I.tuple hq;have hlen:=r'.length;exact len_tuple pl (by simp only [Z0g] <;> lia) ⟨.int ys.length,H,I.tok _,⟨s.toks+1,by rw [Z0g,hlen]⟩,q⟩
theorem A1j:A7r X (.type "tuple") (λxs H Q=>∃p ys,xs=[.ref p]/\((SqL X.K H p ys/\∀l,H l=none->Q (.ref l) (upd H l (.tup ys)))\/(SqT X.K H p ys/\Q (.ref p) H))):=by
 intro pins s σ H xs us Q I r h;obtain ⟨p,ys,rfl,h⟩:=h;obtain ⟨u,rfl,rx⟩:=B5b r;cases rx;rcases h with ⟨hq,q⟩ | ⟨hq,q⟩
 ·obtain ⟨its,r',pl,hz⟩:=I.list hq;have hlen:=r'.length;refine call_tuple_list pl.isList (λh' kp=> ?_) (by simp only [Z0g] <;> lia);have I1:Inv X pins σ H { s with heap:=h' }:=I.kept (t':=s.toks) kp
  have I2:Inv X pins σ (upd H h'.objs.size (.tup ys)) { s with heap:=h'.push { cls:= .type "tuple",data:= .seq its.toArray } } :=
   I1.laid (t':=s.toks) (λb o e=>Z01 _ e) (Z09 _) (show A1w X.prog X.w _ _ _ (.tup ys) from ⟨hz,its,r',IsTup.new _ _⟩)
  exact ⟨.ref h'.objs.size,_,I2,rfl,q _ (I1.hok.fresh (Z09 _))⟩
 ·obtain ⟨its,r',pl,hz⟩:=I.tuple hq;exact call_tuple_same pl ⟨.ref p,H,I,rfl,q⟩
def tyV (K:Frag) (T:String) (x:V) (H:Hp):Prop:=match x with
 | .str _=>T="str"
 | .int _=>T="int"
 | .ref p=>(T="list"/\∃xs,SqL K H p xs)\/(T="tuple"/\∃o,K.lookup p=some o/\o.cls= .type "tuple"/\o.dict=none)\/
   (T="dict"/\((∃kvs,H p=some (.dK kvs))\/∃kvs,H p=some (.dT kvs)))\/(T="set"/\∃S n,H p=some (.set S n))
 | _=>False
theorem B6c {pins:List (Addr×Obj)} {σ:St} {H:Hp} {s:Shared} {T:String} {x:V} {v:Value} (I:Inv X pins σ H s) (r:A2a x v) (ty:tyV X.K T x H) :
  s.TypeIs v T/\∀a,v= .ref a->∃ob,s.heap.get? a=some ob/\ob.dict=none:=by
 cases x with
 | str z =>
  obtain ⟨t,rfl⟩:=r;cases (show T="str" from ty);exact ⟨typeIs_str s z t,λ_ e=>nomatch e⟩
 | int i =>
  obtain ⟨t,rfl⟩:=r;cases (show T="int" from ty);exact ⟨typeIs_int s i t,λ_ e=>nomatch e⟩
 | ref p =>
  cases r
  rcases ty with ⟨rfl,xs,hq⟩ | ⟨rfl,o,hk,hc,hd⟩ | ⟨rfl,hk⟩ | ⟨rfl,S,n,hk⟩
  ·obtain ⟨its,_,pl,_⟩:=I.list hq;refine ⟨pl.isList.typeIs,λa e=> ?_⟩;cases e;obtain ⟨o,n,e,c,hd,_⟩:=pl;exact ⟨o,e,hd⟩
  ·refine ⟨⟨o,I.kIn p o hk,hc⟩,λa e=> ?_⟩;cases e;exact ⟨o,I.kIn _ o hk,hd⟩
  ·have z:∃o,s.heap.get? p=some o/\o.ExactDict:=by
    rcases hk with ⟨kvs,hk⟩ | ⟨kvs,hk⟩
    ·obtain ⟨_,_,_,_,o,_,_,e,ex,_⟩:=I.hok p _ hk;exact ⟨o,e,ex⟩
    ·obtain ⟨_,_,_,_,o,_,_,e,ex,_⟩:=I.hok p _ hk;exact ⟨o,e,ex⟩
   obtain ⟨o,e,ex⟩:=z;refine ⟨⟨o,e,ex.1⟩,λa e2=> ?_⟩;cases e2;exact ⟨o,e,ex.2.1⟩
  ·obtain ⟨o,_,_,_,e,ex,_⟩:=I.hok p _ hk;refine ⟨⟨o,e,ex.1⟩,λa e2=> ?_⟩;cases e2;exact ⟨o,e,ex.2.1⟩
 | _=>exact False.elim ty
def tBM0 (K:Frag) (T:String) (r:V->List V->Hp->VK->Prop) (to:TE):TE:=λσ H Q=>to σ H λx H1=>tyV K T x H1/\r x [] H1 Q
def tBM (K:Frag) (T:String) (r:V->List V->Hp->VK->Prop) (to:TE) (t:TA):TE:=λσ H Q=>to σ H λx H1=>tyV K T x H1/\t σ H1 λxs H2=>r x xs H2 Q
variable {o e:Expr} {es:List Expr} {to:TE} {t:TA} {name:Str} {apos cpos:Pos} {T id:String} {r:V->List V->Hp->VK->Prop}
theorem B2v (pa:PlainAttrs T) (slot:Slot T name id) (hty:typeOf (.builtin id)=pure (.type "method_descriptor")) (hm:MtR X id r) (ho:PE X o to)
  (hbase:attributeBase o name X.env (eval o X.env)=eval o X.env:=by rfl) (hline:(apos.endLine == cpos.line)=true:=by rfl):PE X (.Call (.Attribute o name apos) [] [] cpos) (tBM0 X.K T r to):=by
 intro pins s σ H Q I h;refine wpAny_Call_method0_late hbase hline (thn (ho pins s σ H _ I h) ?_);rintro v s1 ⟨x,H1,I1,r1,ty,q1⟩;obtain ⟨h1,h2⟩:=B6c I1 r1 ty;exact ⟨T,id,pa,slot,hty,h1,h2,Calls.callWith_builtin rfl (PySem.evalArgs_none (hm pins s1 σ H1 x [] v [] Q I1 r1 .nil q1))⟩
theorem A6c (pa:PlainAttrs T) (slot:Slot T name id) (hty:typeOf (.builtin id)=pure (.type "method_descriptor")) (hm:MtR X id r) (ho:PE X o to) (ha:PA X (e::es) t)
  (hbase:attributeBase o name X.env (eval o X.env)=eval o X.env:=by rfl)
  (hfew:((backTo cpos (starEach (e::es) X.env)).all (λx=> !x.1)&&(backToKw cpos (keywordEach [] X.env)).all (λx=>x.1.isSome)
   && decide ((e::es).length+([]:List Keyword).length+(if ([]:List Keyword).isEmpty then 0 else 1)<30))=true:=by rfl)
  (hline:(apos.endLine == cpos.line)=true:=by rfl) (hs:starEach (e::es) X.env=(false,eval e X.env)::starEach es X.env:=by rfl) (hplain:(backTo cpos (starEach es X.env)).any (·.1)=false:=by rfl) :
  PE X (.Call (.Attribute o name apos) (e::es) [] cpos) (tBM X.K T r to t):=by
 intro pins s σ H Q I h;refine wpAny_Call_method_late hbase hfew hline rfl (thn (ho pins s σ H _ I h) ?_);rintro v s1 ⟨x,H1,I1,r1,ty,q1⟩;obtain ⟨h1,h2⟩:=B6c I1 r1 ty;refine ⟨T,id,pa,slot,hty,h1,h2,?_⟩;have hA:=ha cpos pins s1 σ H1 _ I1 q1;rw [hs] at hA⊢;refine Calls.callWith_builtin (by show (false||(backTo cpos (starEach es X.env)).any (·.1))=false;rw [hplain] <;> rfl) (Calls.evalArgs_plain ?_);exact thn hA (by rintro us s2 ⟨vs,H2,I2,r2,q2⟩;exact hm pins s2 σ H2 x vs v us Q I2 r1 r2 q2)
end
def MtM (X:Cx) (id:String) (r:V->List V->Hp->VK->Prop):Prop :=
 ∀(pins:List (Addr×Obj)) (s:Shared) (σ:St) (H:Hp) (x:V) (xs:List V) (v:Value) (us:List Value) (Q:VK),Inv X pins σ H s->A2a x v->A1u xs us->r x xs H Q->
  wpAny (model X.prog X.w) X.A (call (.builtin id) (v::us)) (EP X pins σ Q) X.xe s
theorem A1u.one:∀{x:V} {us:List Value},A1u [x] us->∃u,us=[u]/\A2a x u
 | _,_,.cons r .nil=>⟨_,rfl,r⟩
theorem A1u.zero:∀{us:List Value},A1u [] us->us=[]
 | _,.nil=>rfl
theorem A1u.dropLast {xs:List V} {us:List Value} (h:A1u xs us):A1u xs.dropLast us.dropLast:=by
 induction h with
 | nil=>exact .nil
 | cons r t ih =>
  cases t with
  | nil=>exact .nil
  | cons q t'=>exact .cons r ih
theorem B1s {α:Type} (l:List α):l.eraseIdx (l.length-1)=l.dropLast:=by
 induction l with
 | nil=>rfl
 | cons a r ih =>
  cases r with
  | nil=>rfl
  | cons b r =>
   have e:(a::b::r).length-1=((b::r).length-1)+1:=by
    have h1:(a::b::r).length=r.length+2:=rfl;have h2:(b::r).length=r.length+1:=rfl
    lia
   rw [e,List.eraseIdx_cons_succ,ih]
   all_goals rfl
section
variable {X:Cx} {pins:List (Addr×Obj)} {σ:St} {H:Hp} {s:Shared} {l b:Addr} {xs ys zs:List V}
theorem Inv.lset {its its':List Value} {n:Nat} {f:Array Value->Array Value} {t':Nat} (I:Inv X pins σ H s) (hH:H l=some (.lst xs))
  (e:s.heap.get? l=some { cls:= .type "list",data:= .seq its.toArray n }) (hf:f its.toArray=its'.toArray) (hv:A1u ys its') (hz:ys.length<=sizeLine) :
  Inv X pins σ (upd H l (.lst ys)) { s with heap:=s.heap.update l (Obj.mapSeq f),toks:=t' }:=by
 have q:=PySem.IsL.update e f;rw [hf] at q;refine I.write (x:=l) (e:=l) (by rw [hH];exact trivial) (.inl rfl) (λb' u hb hu=>(Heap.get?_update_other s.heap (Obj.mapSeq f) (Ne.symm hb)).trans hu) ⟨_,q⟩ ?_;exact ⟨hz,its',_,hv,q⟩
theorem Inv.lnew {its:List Value} {t':Nat} (I:Inv X pins σ H s) (hv:A1u ys its) (hz:ys.length<=sizeLine) :
  Inv X pins σ (upd H s.heap.objs.size (.lst ys)) { s with heap:=s.heap.push { cls:= .type "list",data:= .seq its.toArray },toks:=t' } :=
 I.laid (λ_ _ q=>Z01 _ q) (Z09 _) ⟨hz,its,0,hv,Z0c _ rfl⟩
theorem Inv.lstM (I:Inv X pins σ H s) (hH:H l=some (.lst xs)):xs.length<=sizeLine/\∃(its:List Value) (n:Nat),A1u xs its/\xs.length=its.length/\s.heap.get? l=some { cls:= .type "list",data:= .seq its.toArray n }:=by
 obtain ⟨z,its,n,r,e⟩:=I.hok l _ hH;exact ⟨z,its,n,r,r.length,e⟩
theorem B4v {n:Nat} (h:n<=sizeLine):Builtin.List.listTooLong n=false:=by
 unfold Builtin.List.listTooLong;exact Z1j (by lia)
end
section
variable {X:Cx}
def B7v:V->List V->Hp->VK->Prop:=λx vs H Q=>∃l xs y,x= .ref l/\vs=[y]/\H l=some (.lst xs)/\xs.length<sizeLine/\Q .non (upd H l (.lst (xs++[y])))
theorem A1n:MtM X "list.append" B7v:=by
 intro pins s σ H x vs v us Q I rx rv h;obtain ⟨l,xs,y,rfl,rfl,hH,hz,q⟩:=h;cases rx;obtain ⟨u,rfl,ru⟩:=rv.one;obtain ⟨z,its,n,r,hl,e⟩:=I.lstM hH;refine call_meets F.slot_list_append ⟨_,e,rfl⟩ F.entry_list_append (F.args_list_append_2 _ _) (PySem.list_append l its.toArray n u (by rw [Z0g];lia)) ⟨e,?_⟩;refine ⟨.non,_,I.lset (its':=its++[u]) hH e (by simp) (r.append (.cons ru .nil)) ?_,rfl,q⟩;rw [Z06,List.length_singleton]
 lia
def B6y:V->List V->Hp->VK->Prop:=λx vs H Q=>∃l b xs zs,x= .ref l/\vs=[.ref b]/\H l=some (.lst xs)/\H b=some (.lst zs)/\xs.length+zs.length<=sizeLine/\Q .non (upd H l (.lst (xs++zs)))
theorem B4b:MtM X "list.extend" B6y:=by
 intro pins s σ H x vs v us Q I rx rv h;obtain ⟨l,b,xs,zs,rfl,rfl,hH,hB,hz,q⟩:=h;cases rx;obtain ⟨u,rfl,ru⟩:=rv.one;cases ru;obtain ⟨z,its,n,r,hl,e⟩:=I.lstM hH;obtain ⟨z2,its2,n2,r2,hl2,e2⟩:=I.lstM hB;have hsz:its.toArray.size+its2.toArray.size<=sizeLine:=by rw [Z0g,Z0g];lia
 have hlong:¬(!its.toArray.isEmpty&&Builtin.List.listTooLong (its.toArray.size+its2.toArray.size))=true:=by
  rw [B4v hsz,Bool.and_false];exact Z0v
 refine call_meets F.slot_list_extend ⟨_,e,rfl⟩ F.entry_list_extend (F.args_list_extend_2 _ _)
  (AutoSeq1.list_extend_list_list_0 l its.toArray n b its2.toArray n2 hlong (by rw [Z0g];lia) (by lia)) ⟨e,e2,?_⟩
 refine ⟨.non,_,I.lset (its':=its++its2) hH e (by simp) (r.append r2) ?_,rfl,q⟩;rw [Z06]
 lia
def rPop:V->List V->Hp->VK->Prop:=λx vs H Q=>∃l xs y,x= .ref l/\vs=[]/\H l=some (.lst xs)/\xs[xs.length-1]? =some y/\Q y (upd H l (.lst xs.dropLast))
theorem B3c:MtM X "list.pop" rPop:=by
 intro pins s σ H x vs v us Q I rx rv h;obtain ⟨l,xs,y,rfl,rfl,hH,hy,q⟩:=h;cases rx;have hus:=rv.zero;subst hus;obtain ⟨z,its,n,r,hl,e⟩:=I.lstM hH;obtain ⟨u,hu,ru⟩:=r.get hy
 have hy':its.toArray[its.toArray.size-1]? =some u:=by
  show its.toArray[its.length-1]? =some u;rw [<-Array.getElem?_toList,<-hl];exact hu
 refine call_meets F.slot_list_pop ⟨_,e,rfl⟩ F.entry_list_pop (F.args_list_pop_1 _) (MeetsSeq.list_pop_last l its.toArray n u hy' (by rw [Z0g];lia)) ⟨e,?_⟩;refine ⟨y,_,I.lset (its':=its.dropLast) hH e ?_ r.dropLast ?_,ru,q⟩
 ·show its.toArray.eraseIdxIfInBounds (its.toArray.size-1)=its.dropLast.toArray;rw [Z0g,List.eraseIdxIfInBounds_toArray,B1s]
 ·rw [List.length_dropLast]
  lia
end
section
variable {prog:Program} {w:World} {A:Around} {E:Value->Shared->Prop} {s:Shared}
set_option maxRecDepth 100000 in
end
section
variable {X:Cx}
end
section
variable {κ:Type} [DecidableEq κ]
def A3u (kvs:List (κ×V)) (k:κ):Option V:=(kvs.find? λkv=>decide (kv.1=k)).map (·.2)
def A3f (kvs:List (κ×V)) (k:κ) (v:V):List (κ×V) :=
 if (kvs.any λkv=>decide (kv.1=k))=true then kvs.map (λkv=>if kv.1=k then (kv.1,v) else kv) else kvs++[(k,v)]
theorem A1v {p:κ×V} {r:List (κ×V)} {k:κ} (e:p.1=k):A3u (p::r) k=some p.2:=by simp [A3u,Z2h,e]
theorem A1x {p:κ×V} {r:List (κ×V)} {k:κ} (e:¬p.1=k):A3u (p::r) k=A3u r k:=by simp [A3u,Z2h,e]
theorem A4q (k:κ):∀kvs:List (κ×V),(kvs.any λkv=>decide (kv.1=k))=(A3u kvs k).isSome
 | []=>rfl
 | p::r=>by
  rw [List.any_cons];by_cases e:p.1=k
  ·simp only [A1v e,Z20 e,Bool.true_or,Option.isSome_some]
  ·rw [A1x e,Z1j e,Bool.false_or];exact A4q k r
theorem B0i (k j:κ) (y:V):∀kvs:List (κ×V),A3u (kvs.map λkv=>if kv.1=k then (kv.1,y) else kv) j=(A3u kvs j).map λx=>if j=k then y else x
 | []=>rfl
 | p::r=>by
  have ih:=B0i k j y r;rw [Z0p];by_cases h:p.1=k
  ·rw [Z12 h];by_cases e:p.1=j
   ·rw [A1v (p:=(p.1,y)) e,A1v e,Option.map_some,Z12 (e.symm.trans h)]
   ·rw [A1x (p:=(p.1,y)) e,A1x e,ih]
  ·rw [Z0t h];by_cases e:p.1=j
   ·rw [A1v (p:=p) e,A1v e,Option.map_some,Z0t (λz=>h (e.trans z))]
   ·rw [A1x (p:=p) e,A1x e,ih]
theorem A7m (k j:κ) (y:V):∀kvs:List (κ×V),A3u kvs k=none->A3u (kvs++[(k,y)]) j=if j=k then some y else A3u kvs j
 | [],_=>by
  by_cases e:k=j
  ·rw [Z12 e.symm];exact A1v (p:=(k,y)) e
  ·rw [Z0t (λz=>e z.symm)];exact A1x (p:=(k,y)) e
 | p::r,hn=>by
  rw [Z17];have hk:¬p.1=k:=λz=>by rw [A1v z] at hn;cases hn
  rw [A1x hk] at hn;have ih:=A7m k j y r hn;by_cases e:p.1=j
  ·rw [A1v e,A1v e,Z0t (λz=>hk (e.trans z))]
  ·rw [A1x e,A1x e,ih]
theorem A4s (kvs:List (κ×V)) (k j:κ) (y:V):A3u (A3f kvs k y) j=if j=k then some y else A3u kvs j:=by
 unfold A3f;by_cases a:(kvs.any λkv=>decide (kv.1=k))=true
 ·rw [Z12 a,B0i];rw [A4q] at a;by_cases e:j=k
  ·obtain ⟨x,hx⟩:=Option.isSome_iff_exists.mp a;rw [Z12 e,e,hx,Option.map_some,Z12 rfl]
  ·rw [Z0t e]
   cases A3u kvs j with
   | none=>rfl
   | some x=>rw [Option.map_some,Z0t e]
 ·rw [Z0t a];refine A7m k j y kvs ?_;rw [A4q] at a
  cases q:A3u kvs k with
  | none=>rfl
  | some x=>rw [q] at a;exact (a rfl).elim
theorem A3j (kvs:List (κ×V)) (k:κ) (v:V):(A3f kvs k v).length<=kvs.length+1:=by
 unfold A3f;split
 ·rw [Z08];lia
 ·rw [Z06,Z0y,Z2g];lia
theorem B2h.isSome_eq {o:Option V} {u:Option Value} (r:B2h o u):o.isSome=u.isSome:=by
 cases o with
 | none=>cases u with
  | none=>rfl
  | some _=>exact (show False from r).elim
 | some _=>cases u with
  | none=>exact (show False from r).elim
  | some _=>rfl
theorem KV.val {kvs:List (κ×V)} {vs:List (κ×Value)} (r:KV kvs vs) (k:κ):B2h (A3u kvs k) (valueAt vs k):=by
 unfold KV at r
 induction r with
 | nil=>exact True.intro
 | @cons p q ps qs h t ih =>
  obtain ⟨h1,h2⟩:=h;by_cases e:p.1=k
  ·have e':q.1=k:=h1.symm.trans e;have b:valueAt (q::qs) k=some q.2:=by simp [valueAt,Z2h,e']
   rw [A1v e,b];exact h2
  ·have e':¬q.1=k:=λz=>e (h1.trans z);have b:valueAt (q::qs) k=valueAt qs k:=by simp [valueAt,Z2h,e']
   rw [A1x e,b];exact ih
theorem KV.any {kvs:List (κ×V)} {vs:List (κ×Value)} (r:KV kvs vs) (k:κ):(kvs.any λkv=>decide (kv.1=k))=vs.any λkv=>decide (kv.1=k):=by
 unfold KV at r
 induction r with
 | nil=>rfl
 | cons h t ih=>rw [List.any_cons,List.any_cons,ih,h.1]
theorem KV.repl {kvs:List (κ×V)} {vs:List (κ×Value)} (r:KV kvs vs) (k:κ) {y:V} {u:Value} (ry:A2a y u) :
  KV (kvs.map λkv=>if kv.1=k then (kv.1,y) else kv) (vs.map λkv=>if kv.1=k then (kv.1,u) else kv):=by
 unfold KV at r⊢
 induction r with
 | nil=>exact .nil
 | @cons p q ps qs h t ih =>
  rw [Z0p,Z0p];refine .cons ?_ ih;obtain ⟨h1,h2⟩:=h;by_cases e:p.1=k
  ·rw [Z12 e,Z12 (h1.symm.trans e)];exact ⟨h1,ry⟩
  ·rw [Z0t e,Z0t (λz=>e (h1.trans z))];exact ⟨h1,h2⟩
theorem KV.put {kvs:List (κ×V)} {vs:List (κ×Value)} (r:KV kvs vs) (k:κ) {y:V} {u:Value} (ry:A2a y u):KV (A3f kvs k y) (stored vs k u):=by
 unfold A3f stored;rw [r.any k];by_cases e:(vs.any λkv=>decide (kv.1=k))=true
 ·rw [Z12 e,Z12 e];exact r.repl k ry
 ·rw [Z0t e,Z0t e];exact Paired.snoc r ⟨rfl,ry⟩
theorem KV.length {kvs:List (κ×V)} {vs:List (κ×Value)} (r:KV kvs vs):kvs.length=vs.length:=Paired.length r
end
theorem B6o {P:Program} {w:World} {k:Key} {u:Value} (r:A2a (kV k) u):(A1y P w).is k u=true:=by
 cases k with
 | inl i=>obtain ⟨t,e⟩:=(show∃t,u=Value.int i t from r);subst e;exact A9t P w i t
 | inr x=>obtain ⟨t,e⟩:=(show∃t,u=Value.str x t from r);subst e;exact A9n P w x t
theorem A8g {P:Program} {w:World}:∀{ks:List Key} {us:List Value},A1u (ks.map kV) us->ItemsAre (A1y P w) ks us
 | [],_,r=>by rw [List.map_nil] at r;cases r;exact .nil
 | k::ks,_,r=>by
  rw [Z0p] at r
  cases r with
  | cons h t=>exact .cons (B6o h) (A8g t)
abbrev KT (H:Hp):List (List Key×V)->List (List Key×Addr×Value)->Prop:=Paired λp q=>p.1=q.1/\H q.2.1=some (.tup (p.1.map kV))/\A2a p.2 q.2.2
theorem KT.val {H:Hp} {kvs:List (List Key×V)} {xs:List (List Key×Addr×Value)} (r:KT H kvs xs) (k:List Key):B2h (A3u kvs k) ((atKey xs k).map (·.2)):=by
 induction r with
 | nil=>exact True.intro
 | @cons p q ps qs h t ih =>
  obtain ⟨h1,_,h2⟩:=h;by_cases e:p.1=k
  ·have e':q.1=k:=h1.symm.trans e;have b:atKey (q::qs) k=some q.2:=by simp [atKey,Z2h,e']
   rw [A1v e,b];exact h2
  ·have e':¬q.1=k:=λz=>e (h1.trans z);have b:atKey (q::qs) k=atKey qs k:=by simp [atKey,Z2h,e']
   rw [A1x e,b];exact ih
theorem KT.repl {H:Hp} {kvs:List (List Key×V)} {xs:List (List Key×Addr×Value)} (r:KT H kvs xs) (k:List Key) {y:V} {u:Value} (ry:A2a y u) :
  KT H (kvs.map λkv=>if kv.1=k then (kv.1,y) else kv) (xs.map (putAt k u)):=by
 induction r with
 | nil=>exact .nil
 | @cons p q ps qs h t ih =>
  rw [Z0p,Z0p];refine .cons ?_ ih;obtain ⟨h1,h2,h3⟩:=h;unfold putAt;by_cases e:p.1=k
  ·rw [Z12 e,Z12 (h1.symm.trans e)];exact ⟨h1,h2,ry⟩
  ·rw [Z0t e,Z0t (λz=>e (h1.trans z))];exact ⟨h1,h2,h3⟩
theorem KT.put {H:Hp} {kvs:List (List Key×V)} {xs:List (List Key×Addr×Value)} (r:KT H kvs xs) (k:List Key) {b:Addr} {y:V} {u:Value} (hb:H b=some (.tup (k.map kV))) (ry:A2a y u) :
  KT H (A3f kvs k y) (storedH xs k b u):=by
 have e:(kvs.any λkv=>decide (kv.1=k))=(atKey xs k).isSome:=by
  rw [A4q,(r.val k).isSome_eq,Option.isSome_map]
 unfold A3f storedH;rw [e];by_cases q:(atKey xs k).isSome=true
 ·rw [Z12 q,Z12 q];exact r.repl k ry
 ·rw [Z0t q,Z0t q];exact Paired.snoc r ⟨rfl,hb,ry⟩
theorem KT.keeps {H H':Hp} {kvs:List (List Key×V)} {xs:List (List Key×Addr×Value)} (r:KT H kvs xs) (ht:∀b ys,H b=some (.tup ys)->H' b=some (.tup ys)):KT H' kvs xs :=
 Paired.mapP r λ_ _ z=>⟨z.1,ht _ _ z.2.1,z.2.2⟩
section
variable {P:Program} {w:World} {H:Hp} {h:Heap} {a:Addr}
theorem B9p {u:HO} (ok:HOk P w H h) (e:Rd H a u):A1w P w H h a u:=e.ok ok
theorem B5q {kvs:List (Key×V)} (ok:HOk P w H h) (e:Rd H a (.dK kvs)):kvs.length<=sizeLine/\(a == sysModules)=false/\∃vs,KV kvs vs/\h.DictOf (A1y P w) a vs :=
 show A1w P w H h a (.dK kvs) from B9p ok e
theorem C0h {kvs:List (Key×V)} (ok:HOk P w H h) (e:H a=some (.dK kvs)):kvs.length<=sizeLine/\(a == sysModules)=false/\∃vs,KV kvs vs/\h.DictOf (A1y P w) a vs:=B5q ok (.inl e)
theorem B2e {ks:List Key} (ok:HOk P w H h) (e:H a=some (.tup (ks.map kV))):(tupleKind (A1y P w)).is h ks a:=by
 obtain ⟨_,its,r,o,h1,h2,n,h3⟩:=(show A1w P w H h a (.tup (ks.map kV)) from ok a _ e);exact ⟨o,its.toArray,n,h1,h2,h3,by simpa using A8g r⟩
theorem B7w {kvs:List (List Key×V)} (ok:HOk P w H h) (e:Rd H a (.dT kvs)):kvs.length<=sizeLine/\(a == sysModules)=false/\
  ∃xs,KT H kvs xs/\h.DictOfH (tupleKind (A1y P w)) a xs:=by
 obtain ⟨z,y,xs,r,o,es,ep,h1,h2,h3,h4,h5⟩:=(show A1w P w H h a (.dT kvs) from B9p ok e);refine ⟨z,y,xs,r,o,es,ep,h1,h2,h3,h4,λx hx=> ?_,h5⟩
 have all:∀{l:List (List Key×V)} {m:List (List Key×Addr×Value)},KT H l m->∀x∈m,(tupleKind (A1y P w)).is h x.1 x.2.1:=by
  intro l m q
  induction q with
  | nil=>intro x hx;exact nomatch hx
  | @cons p q ps qs hq t ih =>
   intro x hx;rcases Z0e.mp hx with e | hx
   ·subst e;exact B2e ok (by rw [<-hq.1];exact hq.2.1)
   ·exact ih x hx
 exact all r x hx
theorem C0j {kvs:List (List Key×V)} (ok:HOk P w H h) (e:H a=some (.dT kvs)):kvs.length<=sizeLine/\(a == sysModules)=false/\
  ∃xs,KT H kvs xs/\h.DictOfH (tupleKind (A1y P w)) a xs:=B7w ok (.inl e)
end
def B4p (H:Hp) (a:Addr) (y:V) (r:Option V):Prop :=
 (∃kvs k,Rd H a (.dK kvs)/\y=kV k/\r=A3u kvs k)\/∃kvs k b,Rd H a (.dT kvs)/\y= .ref b/\H b=some (.tup (k.map kV))/\r=A3u kvs k
def B7x (H:Hp) (a:Addr) (y v:V) (H':Hp):Prop :=
 (∃kvs k,H a=some (.dK kvs)/\y=kV k/\kvs.length<sizeLine/\H'=upd H a (.dK (A3f kvs k v)))\/
 ∃kvs k b,H a=some (.dT kvs)/\y= .ref b/\H b=some (.tup (k.map kV))/\kvs.length<sizeLine/\H'=upd H a (.dT (A3f kvs k v))
theorem B4p.k {H:Hp} {a:Addr} {kvs:List (Key×V)} {k:Key} (e:H a=some (.dK kvs)):B4p H a (kV k) (A3u kvs k):= .inl ⟨kvs,k,.inl e,rfl,rfl⟩
theorem B7x.k {H:Hp} {a:Addr} {kvs:List (Key×V)} {k:Key} {v:V} (e:H a=some (.dK kvs)) (hl:kvs.length<sizeLine):B7x H a (kV k) v (upd H a (.dK (A3f kvs k v))):= .inl ⟨kvs,k,e,rfl,hl,rfl⟩
section
variable {X:Cx} {pins:List (Addr×Obj)} {σ:St} {H:Hp} {s:Shared} {a:Addr} {y v:V} {u r:Value} {o:Option V} {A:Around} {E:Value->Shared->Prop}
theorem Inv.big (I:Inv X pins σ H s):sysModules<s.heap.objs.size:=by
 have h:mainGlobals<s.heap.objs.size:=(I.mod.glob.keeps I.bk).lt;exact Nat.lt_trans (by decide) h
theorem B2y {Q:Value->Shared->Prop} (hu:A.units+1<cLine) (I:Inv X pins σ H s) (g:B4p H a y (some v)) (ry:A2a y u) (h:∀w' s',Inv X pins σ H s'->A2a v w'->Q w' s') :
  wpAny (model X.prog X.w) A (getItem (.ref a) u) Q E s:=by
 rcases g with ⟨kvs,k,e,ey,l⟩ | ⟨kvs,k,b,e,ey,eb,l⟩
 ·subst ey;obtain ⟨z,hd,vs,rel,dd⟩:=B5q I.hok e;obtain ⟨w',hw,rw'⟩:=B2h.some_of (v:=v) (o:=valueAt vs k) (by rw [l];exact rel.val k);exact wpAny_getItem_of (B6o ry) dd.mapOf hw (h w' _ (I.tok _) rw')
 ·subst ey;cases (show u=Value.ref b from ry);obtain ⟨z,hd,xs,rel,dd⟩:=B7w I.hok e;obtain ⟨w',hw,rw'⟩:=B2h.some_of (v:=v) (o:=(atKey xs k).map (·.2)) (by rw [l];exact rel.val k);obtain ⟨p,hp,hp2⟩:=Z0i.mp hw;refine wpAny_getItem_heap (tupleKind_room_in1 hu) (B2e I.hok eb) dd hp ?_;rw [hp2];exact h w' _ (I.tok _) rw'
theorem B3e {h':Heap} {t':Nat} {ob:HO} (I:Inv X pins σ H s) (mu:Mut (H a)) (hs:Heap.SameBut a s.heap h') (he:∃q,h'.get? a=some q) (new:A1w X.prog X.w (upd H a ob) h' a ob) :
  Inv X pins σ (upd H a ob) { s with heap:=h',toks:=t' } :=
 I.write (x:=a) (e:=a) mu (.inl rfl) (λb q hb z=>(hs.2 b hb).trans z) he new
theorem B8k {P:Program} {w:World} {H':Hp} {h':Heap} {kvs:List (Key×V)} {vs:List (Key×Value)} (z:kvs.length<=sizeLine) (hd:(a == sysModules)=false) (rel:KV kvs vs) (dd:h'.DictOf (A1y P w) a vs) :
  A1w P w H' h' a (.dK kvs):=⟨z,hd,vs,rel,dd⟩
theorem B2m {H':Hp} {Q:Unit->Shared->Prop} (hu:A.units+1<cLine) (I:Inv X pins σ H s) (g:B7x H a y v H') (ry:A2a y u) (rv:A2a v r) (h:∀s',Inv X pins σ H' s'->Q () s') :
  wpAny (model X.prog X.w) A (setItem (.ref a) u r) Q E s:=by
 rcases g with ⟨kvs,k,e,ey,l,eH⟩ | ⟨kvs,k,b,e,ey,eb,l,eH⟩
 ·subst ey eH;obtain ⟨z,hd,vs,rel,dd⟩:=C0h I.hok e;have hz:vs.length<=sizeLine:=by rw [<-rel.length];exact z
  have hl:(A3f kvs k v).length<=sizeLine:=by have:=A3j kvs k v;lia
  refine wpAny_setItem_pairs (hsz:=hz) (B6o ry) dd λh' dd' hs=>h _ ?_;have he:∃q,h'.get? a=some q:=let ⟨q,_,_,hq,_⟩:=dd';⟨q,hq⟩;exact B3e I (by rw [e];exact True.intro) hs he (B8k hl hd (rel.put k rv) dd')
 ·subst ey eH;cases (show u=Value.ref b from ry);obtain ⟨z,hd,xs,rel,dd⟩:=C0j I.hok e;have hz:xs.length<=sizeLine:=by rw [<-Paired.length rel];exact z
  have hl:(A3f kvs k v).length<=sizeLine:=by have:=A3j kvs k v;lia
  refine wpAny_setItem_heap (hsz:=hz) (tupleKind_room_in1 hu) (B2e I.hok eb) dd λh' dd' hs=>h _ ?_;obtain ⟨q,es,ep,hq,h2,h3,h4,_,h5⟩:=dd';refine B3e I (by rw [e];exact True.intro) hs ⟨q,hq⟩ ⟨hl,hd,_,(rel.put k eb rv).keeps λc ys ec=> ?_,q,es,ep,hq,h2,h3,h4,h5⟩;rw [A0l (A9m ec e (λz=>nomatch z))];exact ec
end
section
variable {X:Cx} {pins:List (Addr×Obj)} {σ:St} {H:Hp} {s:Shared} {a:Addr} {kvs:List (Key×V)} {k:Key} {u:Value} {A:Around} {E:Value->Shared->Prop}
end
def C1u (i:Expr):Prop:=∀ov iv,subscripted i false ov iv=operate [ov,iv] (getItem ov iv)
theorem B7k {prog:Program} {w:World} {A:Around} {E:Value->Shared->Prop} {s:Shared} {env:Env} {value slice:Expr} {pos:Pos} {T id:String} {Q:Value->Shared->Prop}
  (hl:typeLookup (.type T) "__getitem__"=pure (some (.builtin id))) (hs:C1u slice)
  (h:wpAny (model prog w) A (eval value env) (λo s₁=>wpAny (model prog w) A (eval slice env) (λi s₂=>s₂.TypeIs o T/\wpAny (model prog w) A (getItem o i) Q E s₂) E s₁) E s) :
  wpAny (model prog w) A (eval (.Subscript value slice pos) env) Q E s:=by
 refine Subscript_ (Z10 h (λo s₁ h₁=>Z10 h₁ (λi s₂ h₂=> ?_) λ_ _ x=>x) λ_ _ x=>x);obtain ⟨hT,h₂⟩:=h₂;unfold subscriptTail;refine Z00 ?_;rw [getitemInPython_of_ne hT.not_modules];refine Z00 (wpAny_specialOf hT hl ?_)
 have fin:wpAny (model prog w) A (subscripted slice false o i) (λr s₃=>wpAny (model prog w) A (letTemporaryGo value o r >>= λ_=>pure r) Q E s₃) E s₂:=by
  rw [hs o i];exact wpAny_operating (Z10 h₂ (λr s₃ h₃=>Z00 (wpAny_letTemporaryGo (Z04 h₃))) λ_ _ x=>x)
 first
  | exact Z04 (Z00 fin)
  | exact Z00 (Z04 (Z00 fin))
  | exact Z00 fin
theorem A9v {X:Cx} {pins:List (Addr×Obj)} {σ:St} {H:Hp} {s:Shared} {a:Addr} {y:V} {o:Option V} (I:Inv X pins σ H s) (g:B4p H a y o):s.TypeIs (.ref a) "dict":=by
 rcases g with ⟨kvs,k,e,_,_⟩ | ⟨kvs,k,b,e,_,_,_⟩
 ·obtain ⟨_,_,vs,_,dd⟩:=B5q I.hok e;exact dd.typeIs
 ·obtain ⟨_,_,xs,_,dd⟩:=B7w I.hok e;exact dd.typeIs
def C0s (td ty:TE):TE:=λσ H Q=>td σ H λx H1=>ty σ H1 λy H2=>∃a v,x= .ref a/\B4p H2 a y (some v)/\Q v H2
def C0e (td ty tv:TE):TS:=λD σ H=>tv σ H λv H1=>td σ H1 λx H2=>ty σ H2 λy H3=>∃a H4,x= .ref a/\B7x H3 a y v H4/\D.nx σ H4
section
variable {X:Cx} {o i e value:Expr} {pos pos' tpos:Pos} {td ty tv:TE}
theorem A5j (hu:X.A.units+1<cLine) (ho:PE X o td) (hi:PE X i ty) (hs:C1u i):PE X (.Subscript o i pos) (C0s td ty):=by
 intro pins s σ H Q I h;refine B7k PySem.F.slot_dict_getitem.lookup hs (thn (ho pins s σ H _ I h) ?_);rintro u s1 ⟨x,H1,I1,rx,q1⟩;refine thn (hi pins s1 σ H1 _ I1 q1) ?_;rintro iv s2 ⟨y,H2,I2,ry,a,v,ex,g,q2⟩;subst ex;obtain rfl:u=Value.ref a:=rx;exact ⟨A9v I2 g,B2y hu I2 g ry λw' s3 I3 rw'=>⟨v,H2,I3,rw',q2⟩⟩
theorem B3a (hu:X.A.units+1<cLine) (ho:PE X o td) (hi:PE X i ty) (hv:PE X value tv) (hs:swapsWith value (some (.Subscript o i pos')) pos.line X.env=pure false) :
  PS X (.Assign [.Subscript o i pos'] value pos) (C0e td ty tv):=by
 intro pins s σ H D I h;refine wpAny_Assign_Subscript (thn (hv pins s σ H _ I h) ?_) hs;rintro r s1 ⟨v,H1,I1,rv,q1⟩;refine thn (ho pins s1 σ H1 _ I1 q1) ?_;rintro u s2 ⟨x,H2,I2,rx,q2⟩;refine thn (hi pins s2 σ H2 _ I2 q2) ?_;rintro iv s3 ⟨y,H3,I3,ry,a,H4,ex,g,q3⟩;subst ex;obtain rfl:u=Value.ref a:=rx;exact B2m hu I3 g ry rv λs4 I4=>⟨σ,H4,I4,q3⟩
end
theorem B4t {P:Program} {w:World} {H:Hp} (h:Heap) (hb:sysModules<h.objs.size):A1w P w H (h.push { cls:= .type "dict",data:= .dict #[] }) h.objs.size (.dK []) :=
 ⟨Z1e _,beq_eq_false_iff_ne.mpr (Ne.symm (Z0h hb)),[],.nil,Heap.DictOf.new h⟩
def B8g:TE:=λ_ H Q=>∀p,H p=none->Q (.ref p) (upd H p (.dK []))
section
variable {X:Cx} {pos:Pos}
theorem B0h:PE X (.Dict [] [] pos) B8g:=λpins s σ H Q I h =>
 wpAny_Dict_empty ⟨.ref s.heap.objs.size,_,I.laid (a:=s.heap.objs.size) (o:= .dK []) (t':=s.toks) (λ_ _ q=>Z01 _ q) (Z09 _) (B4t s.heap I.big),rfl,h _ (I.hok.fresh (Z09 _))⟩
end
section
variable {X:Cx} {pins:List (Addr×Obj)} {σ:St} {H:Hp} {s:Shared} {a:Addr} {y d:V} {u r:Value} {o:Option V} {A:Around} {E:Value->Shared->Prop}
end
section
variable {X:Cx} {o e f:Expr} {apos cpos:Pos} {td ty tx:TE}
end
section
variable {X:Cx} {pins:List (Addr×Obj)} {σ:St} {H:Hp} {s:Shared} {a:Addr} {kvs:List (Key×V)} {A:Around} {E:Value->Shared->Prop}
end
section
variable {X:Cx} {pins:List (Addr×Obj)} {σ:St} {H:Hp} {s:Shared} {a:Addr} {y:V} {u:Value} {A:Around} {E:Value->Shared->Prop}
end
end L2
namespace Att
open PySem PySem.W PySem.Calls PyProof.Rows
theorem A5g {P:Params} {h:Heap}:∀(ns:List Int) (vs:List Value),WellAll P h vs (ns.map WData.int)->IntsAre vs ns:=by
 intro ns
 induction ns with
 | nil =>
  intro vs w;rw [List.map_nil] at w;cases w;exact .nil
 | cons n ns ih =>
  intro vs w;rw [Z0p] at w
  cases w with
  | cons a b =>
   cases a
   exact .cons _ _ (ih _ b)
theorem script_of {l:OpenLaw} {n:Nat} (hn:l.most=some n) {P:Params} {h:Heap} {args:List WData} {vals:List Value}
  (hpre:l.row.toRowW.claim.pre args=true) (hwl:WellAll P h vals args) :
  ∃a vs ns,vals=[Value.ref a]/\args=[WData.list (ns.map WData.int)]/\h.get? a=some { cls:= .type "list",data:= .seq vs.toArray }/\IntsAre vs ns/\ns.length<=n:=by
 have hsh:WShape.hasAll [] args [.list .int]=true:=(pre_splitW hpre).1;have hc:l.pre.holds [] { args:=args }=true:=(pre_splitW hpre).2;obtain ⟨d,r,rfl,h1,h2⟩:=hasAllW_cons hsh;obtain rfl:=hasAllW_nil h2;obtain ⟨xs,rfl,h3⟩:=hasW_list h1;obtain ⟨ns,rfl⟩:=items_int h3
 have hlen:ns.length<=n:=by
  unfold OpenLaw.pre at hc
  have h4:(WTm.not (.lt (.lit (.int (n:Int))) (.len (.arg 0)))).holds [] { args:=[.list (ns.map .int)] }=true:=by
   have h4:=(holds_andW hc).1;rw [hn] at h4;exact h4
  have h5:=condW_of h4 (w_not (w_lt w_lit (w_len_list (w_arg rfl))));rw [Z08] at h5;refine Nat.le_of_not_lt λq=> ?_;have q':(n:Int)<((ns.length:Nat):Int):=by lia
  first
   | (rw [Z20 q'] at h5;exact absurd h5 (by decide))
   | (simp at h5;lia)
 cases hwl with
 | cons w1 w2 =>
  cases w2
  cases w1 with
  | list ho hall=>exact ⟨_,_,ns,rfl,rfl,ho,A5g ns _ hall,hlen⟩
theorem post_true (l:OpenLaw) (args:List WData):l.row.toRowW.claim.post args (.bool true) args=true :=
 postW_of (r:=l.row.toRowW) (X:=(true == true))
  (show WShape.has [] (.bool true) .bool=true by first | rfl | decide | simp [WShape.has,WShape.arms,WShape.armsAll])
  (show (WTm.eq .res (.lit (.bool true))).value [] { args:=args,res:=some (.bool true),after:=args }=some (.bool (true == true)) from w_eq_bool (w_res rfl) w_lit) rfl
section
variable {prog:Program} {w:World} {A:Around} {E:Value->Shared->Prop} {s:Shared} {K:Frag}
end
end Att
namespace L2
open PySem PySem.Spec PyProof.Rows
theorem A8a:∀{vs:List Value} {ns:List Int},IntsAre vs ns->A1u (ns.map V.int) vs
 | _,_,.nil=> .nil
 | _,_,.cons n t h=> .cons ⟨t,rfl⟩ (A8a h)
def C1n (H:Hp):Prop:=∀b,H b=none\/∃o xs,H b=some (.frz o (.lst xs))
theorem B5d {P:Program} {w:World} {K:Frag} {mg mb:Str->Option Value} {CX:CXT} {k:Nat} {fa a:Addr} {fd:FuncData} {x:Str} {sp:Sp} {s₁:Shared} {vs:List Value} {ns:List Int}
  (KX:K.In s₁.heap) (hns:s₁.heap.Ns mainGlobals mg) (hb:s₁.heap.Ns builtinsNs mb) (hbb:∀x:Str,x≠"__name__"->mb x=bootBuiltins x) (hlim:s₁.heap.NoLimit) (hg:s₁.gens= #[])
  (ha:s₁.heap.get? a=some { cls:= .type "list",data:= .seq vs.toArray }) (hi:IntsAre vs ns) (hl:ns.length<=sizeLine) (hr:A4f k callerA)
  (F:∀base:Heap,K.In base->base.Ns mainGlobals mg->A5r P w K mg base CX k fa fd [x] sp) (hbind:∀(s:Shared) (u:Value),BindsTo s fd ⟨[u],[]⟩ [(x,u)])
  (hsp:∀H:Hp,C1n H->SqL K H a (ns.map V.int)->sp [.ref a] H (λv _=>v= .bl true) λ_ _ _=>False)
  (hCX:∀H e s',CX [] H s₁ (λ_ _ _=>False) e s'->False) :
  codeAny (model P w) callerA (.call (.ref fa) ⟨[.ref a],[]⟩) (λr s'=>r= .ok (.ret (.bool true))/\OldK s₁.heap s'.heap/\s'.os=s₁.os/\AllBare s'.gens) s₁:=by
 have rv:=A8a hi;have lenV:=hi.length
 have core:∀H:Hp,C1n H->SqL K H a (ns.map V.int)->HOk P w H s₁.heap->(∀b,H b≠none->b=a)->(H a≠none->K.lookup a=none)->
   codeAny (model P w) callerA (.call (.ref fa) ⟨[.ref a],[]⟩) (λr s'=>r= .ok (.ret (.bool true))/\OldK s₁.heap s'.heap/\s'.os=s₁.os/\AllBare s'.gens) s₁:=by
  intro H hO hS hok hA hK;have base_of:∀{b:Addr} {o:Obj},s₁.heap.get? b=some o->H b=none->(B4u s₁.heap H).get? b=some o:=λe n=>B5s e n
  have noA:∀{b:Addr} {o:Obj} {es:Array DictEntry} {ep:Nat},s₁.heap.get? b=some o->o.data= .dict es ep->H b=none:=λ{b o es ep} e d=>by
   cases q:H b with
   | none=>rfl
   | some u =>
    have e':b=a:=hA b (by rw [q];simp);subst e';rw [ha] at e;cases e;have d':Data.seq vs.toArray _=Data.dict es ep:=d;cases d'
  have nsK:∀{b:Addr} {m:Str->Option Value},s₁.heap.Ns b m->(B4u s₁.heap H).Ns b m:=λ{b m} ⟨o,es,ep,e,d,r⟩=>⟨o,es,ep,base_of e (noA e d),d,r⟩
  have hKb:K.In (B4u s₁.heap H):=λb o e=>base_of (KX b o e) (by
   cases q:H b with
   | none=>rfl
   | some u =>
    have e':b=a:=hA b (by rw [q];simp);subst e'
    rw [hK (by rw [q];simp)] at e;cases e)
  have hM:Mod K mg (B4u s₁.heap H):=⟨hKb,nsK hns,⟨mb,nsK hb,hbb⟩,let ⟨mc,h1,h2⟩:=hlim;⟨mc,nsK h1,h2⟩⟩;have e0:B5z P w K mg (B4u s₁.heap H) callerA [] s₁ H:=⟨rfl,hM,λb o e=>B6s e,Nat.le_of_eq (B3d _ _),trivial,λb hb=>absurd (show b∈([]:List Addr) from hb) (by simp),hok,.of_eq hg⟩;refine codeAny_mono ((F _ hKb (nsK hns)).run callerA [] s₁ H ⟨[.ref a],[]⟩ [.ref a] [.ref a] _ _ hr e0 (hbind s₁ (.ref a)) (.cons rfl .nil) (hsp H hO hS)) λr s' h=> ?_
  cases r with
  | error e=>exact (hCX H e s' h).elim
  | ok fl =>
   cases fl with
   | next=>exact False.elim h
   | brk=>exact False.elim h
   | cont=>exact False.elim h
   | ret u =>
    obtain ⟨v,H',os,bare,un,hok',r',q⟩:=h;have q':v= .bl true:=q;subst q';obtain rfl:u=Value.bool true:=r';refine ⟨rfl,OldK.of_keep λb o e=> ?_,os,bare⟩
    cases q:H b with
    | none=>exact un.keep b o e q (by intro z;exact absurd (show b∈([]:List Addr) from z) (by simp)) (by simp)
    | some u =>
     rcases hO b with z | ⟨ob,xs,z⟩
     ·rw [q] at z;cases z
     ·have z2:=un.frzs b ob _ z;obtain ⟨e1,_⟩:=hok b _ z;obtain ⟨e2,_⟩:=hok' b _ z2;rw [e] at e1;cases e1;exact e2
 cases hk:K.lookup a with
 | some o =>
  have e:=KX a o hk;rw [ha] at e;cases e;refine core (λ_=>none) (λ_=> .inl rfl) (.inr ⟨_,vs.toArray,_,hk,rfl,rfl,rfl,by rw [Z0g,lenV];exact hl,by simpa using rv⟩) (λb u z=>by have z':(none:Option HO)=some u:=z;cases z') (λb z=>absurd rfl z) λz=>absurd rfl z
 | none =>
  refine core (λb=>if b=a then some (.frz { cls:= .type "list",data:= .seq vs.toArray } (.lst (ns.map V.int))) else none) (λb=> ?_) (.inl (.inr ⟨{ cls:= .type "list",data:= .seq vs.toArray },Z12 rfl⟩)) (λb u z=> ?_) (λb z=> ?_) λ_=>hk
  ·by_cases hb:b=a
   ·exact .inr ⟨_,_,Z12 hb⟩
   ·exact .inl (Z0t hb)
  ·by_cases hb:b=a
   ·have z':=(Z12 hb).symm.trans z;cases z';subst hb;exact ⟨ha,by rw [Z08];exact hl,vs,_,rv,ha⟩
   ·have z':=(Z0t hb).symm.trans z;cases z'
  ·by_cases hb:b=a
   ·exact hb
   ·exact absurd (Z0t hb) z
def A3o (s:Stmt):Arguments:=match s with
 | .FunctionDef _ a _ _ _ _ _ _ _ _=>a
 | _=>{ posonlyargs:=[],args:=[],vararg:=none,kwonlyargs:=[],kw_defaults:=[],kwarg:=none,defaults:=[] }
def A3a (s:Stmt):List Stmt:=match s with
 | .FunctionDef _ _ b _ _ _ _ _ _ _=>b
 | _=>[]
def A0h (s:Stmt):Scope:=match s with
 | .FunctionDef _ _ _ _ _ _ sc _ _ _=>sc
 | _=>{ kind:= .function,names:=[],isGenerator:=false,isCoroutine:=false }
abbrev CX0:CXT:=λ_ _ _ _ _ _=>False
abbrev E0:XK:=λ_ _ _=>False
theorem C0q {X:Cx}:B3p CX0 X E0:=λ_ _ _ _ _ _ _ h=>h.elim
structure Fun (K:Frag) (x qual:Str) (st:Stmt) (f:Addr) (fd:FuncData):Prop where
 ex:∃(oc:Value) (od:Option Addr) (kV doc pm:Value) (an:Option Addr) (cdv ct:Value) (osl:Array (Option Value)),
  fd=fnOf x qual (A3o st) (A3a st) (A0h st) .none kV doc pm an cdv ct/\K.lookup f=some ⟨oc,od,.func fd,osl⟩/\codeIn K cdv qual=true
 kp:keepIn K (.ref f)=true
section
variable {P:Program} {w:World} {K:Frag} {mg:Str->Option Value} {base:Heap}
theorem Fun.ok {x qual:Str} {st:Stmt} {f:Addr} {fd:FuncData} {N ps:List Str} {k:Nat} {sp:Sp} (F:Fun K x qual st f fd) (S:A0v N ps (A0h st)) (len:∀vs H Q E,sp vs H Q E->vs.length=ps.length)
  (hbody:∀(cdv:Value) (A:Around) (outer:List Env) (s:Shared) (H:Hp) (vs:List V) (Q:VK) (E:XK),A4f k (A.deeper (envOfC qual (A0h st) s.heap.objs.size f cdv))->sp vs H Q E->
   ∃t,PSs (B7z CX0 P w K mg base N qual (A0h st) f cdv A outer s H E).nox (A3a st) t/\t { nx:=λ_ H'=>Q .non H',rt:=Q } (A8h N vs) H):A5r P w K mg base CX0 (k+1) f fd ps sp:=by
 obtain ⟨oc,od,kV,doc,pm,an,cdv,ct,osl,rfl,lk,hcd⟩:=F.ex;refine C1e lk hcd S len λA outer s H vs Q E hr hsp=> ?_;obtain ⟨t,h,q⟩:=hbody cdv A outer s H vs Q E hr hsp;exact ⟨t,h.nox,q⟩
theorem Fun.binds {x qual:Str} {st:Stmt} {f:Addr} {fd:FuncData} {ps:List Str} (F:Fun K x qual st f fd)
  (h:∀(kV doc pm:Value) (an:Option Addr) (cdv ct:Value) (us:List Value),us.length=ps.length->bindArgs (fnOf x qual (A3o st) (A3a st) (A0h st) .none kV doc pm an cdv ct) ⟨us,[]⟩=pure (ps.zip us)):A4o K fd ps []:=by
 obtain ⟨oc,od,kV,doc,pm,an,cdv,ct,osl,rfl,lk,hcd⟩:=F.ex;exact .all (h kV doc pm an cdv ct)
theorem B6h {x qual:Str} {st:Stmt} {f:Addr} {oc:Value} {od an:Option Addr} {osl:Array (Option Value)} {kV doc pm cdv ct:Value} (l:K.lookup f=some ⟨oc,od,.func (fnOf x qual (A3o st) (A3a st) (A0h st) .none kV doc pm an cdv ct),osl⟩)
  (c:codeIn K cdv qual=true) (k:keepIn K (.ref f)=true):Fun K x qual st f (fnOf x qual (A3o st) (A3a st) (A0h st) .none kV doc pm an cdv ct):=⟨⟨oc,od,kV,doc,pm,an,cdv,ct,osl,rfl,l,c⟩,k⟩
end
theorem A9k {A:Around} {k:Nat} (hr:A4f k A):A.units+1<cLine:=Nat.lt_of_le_of_lt (Nat.add_le_add_left (by decide:1<=64) _) hr.units
section
variable {X:Cx}
theorem pv (i:Nat) {x:Str} {pos:Pos} (hN:X.N[i]? =some x:=by rfl) (hv:Vis X.env.scope x:=by first | exact Or.inl rfl | exact Or.inr (Or.inl rfl) | exact Or.inr (Or.inr rfl)) (hd:(x == ("__debug__":Str))=false:=by decide)
  (hcd:(x == ("__classdict__":Str))=false:=by decide):PE X (.Name x pos) (C1s i):=B9l hN hv hd hcd
end
theorem B2f {A B:Prop} (h:B):if false=true then A else B:=by
 rw [Z0t Z0v];exact h
theorem C1o {A B:Prop} (h:A):if true=true then A else B:=by
 rw [Z12 rfl];exact h
theorem A7u {c A B:Prop} [Decidable c] (h1:c->A) (h2:¬c->B):if c then A else B:=by
 by_cases h:c
 ·rw [Z12 h];exact h1 h
 ·rw [Z0t h];exact h2 h
def A1t (H H':Hp):Prop:=∀b o,H b=some o->H' b=some o
theorem A1t.refl (H:Hp):A1t H H:=λ_ _ h=>h
theorem A1t.trans {H H1 H2:Hp} (a:A1t H H1) (b:A1t H1 H2):A1t H H2:=λc o h=>b c o (a c o h)
theorem A1t.free {H H':Hp} (e:A1t H H') {l:Addr} (h:H' l=Option.none):H l=Option.none:=by
 cases q:H l with
 | none=>rfl
 | some o =>
  rw [e l o q] at h;cases h
section
variable {κ:Type} [DecidableEq κ]
end
end L2
namespace SA
open PySem PyProof.Rows
abbrev SM:=StateT SortSt Sem
def A2q:Bool->Keyed->Array Keyed->Nat->Nat->Nat->SM (Option Nat):=sortPriv% PySem.Builtin.gallop
def A1k:Nat->SM Unit:=sortPriv% PySem.Builtin.setMinGallop
def A6s:Array Keyed->Array Keyed->SM (Array Keyed):=sortPriv% PySem.Builtin.mergeLo
def A6l:Array Keyed->Array Keyed->SM (Array Keyed):=sortPriv% PySem.Builtin.mergeHi
abbrev A8k (st:SortSt) (g:Nat):SortSt:=SortSt.mk' (kindOf st) (arrOf st) (pendingOf st) g (failedOf st)
theorem A4p (g:Nat):A1k g=modify λs=>A8k s g:=rfl
theorem B1h (left:Bool) (key:Keyed) (arr:Array Keyed) (base n hint:Nat):A2q left key arr base n hint=(do
 let beyond (i:Nat):SM (Option Bool):=do
  let x<-elem' arr (base+i)
  if left then lt' x key else return (<-lt' key x).map (!·)
 let mut lastofs:=0
 let mut ofs:=1
 let mut lo:=0
 let mut hi:=0
 let some right<-beyond hint | return none
 if right then
  let maxofs:=n-hint
  for _ in [0:n] do
   if ofs≥maxofs then break
   let some more<-beyond (hint+ofs) | return none
   if !more then break
   lastofs:=ofs
   ofs:=2*ofs+1
  lo:=hint+lastofs+1
  hi:=hint+min ofs maxofs
 else
  let maxofs:=hint+1
  for _ in [0:n] do
   if ofs≥maxofs then break
   let some found<-beyond (hint-ofs) | return none
   if found then break
   lastofs:=ofs
   ofs:=2*ofs+1
  lo:=hint+1-min ofs maxofs
  hi:=hint-lastofs
 for _ in [0:n] do
  if lo≥hi then break
  let m:=lo+(hi-lo)/2
  let some more<-beyond m | return none
  if more then lo:=m+1 else hi:=m
 return some hi):=rfl
theorem A8t (a b:Array Keyed):A6s a b=(do
 rule "list.sort.merge-lo"
 let total:=a.size+b.size
 let done (out:Array Keyed) (ia ib:Nat):=out++a.extract ia a.size++b.extract ib b.size
 let lastOfA (out:Array Keyed) (ia ib:Nat):=out++b.extract ib b.size++a.extract ia a.size
 let mut out:Array Keyed:= #[<-elem' b 0]
 let mut ia:=0
 let mut ib:=1
 if ib == b.size then return done out ia ib
 if ia+1 == a.size then return lastOfA out ia ib
 let mut minGallop:=gallopOf (<-get)
 for _ in [0:total] do
  let mut acount:=0
  let mut bcount:=0
  for _ in [0:total] do
   let some bWins<-lt' (<-elem' b ib) (<-elem' a ia) | return done out ia ib
   if bWins then
    out:=out.push (<-elem' b ib);ib:=ib+1;bcount:=bcount+1;acount:=0
    if ib == b.size then return done out ia ib
    if bcount≥minGallop then break
   else
    out:=out.push (<-elem' a ia);ia:=ia+1;acount:=acount+1;bcount:=0
    if ia+1 == a.size then return lastOfA out ia ib
    if acount≥minGallop then break
  rule "list.sort.gallop"
  minGallop:=minGallop+1
  for _ in [0:total] do
   if minGallop>1 then minGallop:=minGallop-1
   A1k minGallop
   let some k<-A2q false (<-elem' b ib) a ia (a.size-ia) 0 | return done out ia ib
   acount:=k
   if k>0 then
    out:=out++a.extract ia (ia+k);ia:=ia+k
    if ia+1 == a.size then return lastOfA out ia ib
    if ia == a.size then return done out ia ib
   out:=out.push (<-elem' b ib);ib:=ib+1
   if ib == b.size then return done out ia ib
   let some k<-A2q true (<-elem' a ia) b ib (b.size-ib) 0 | return done out ia ib
   bcount:=k
   if k>0 then
    out:=out++b.extract ib (ib+k);ib:=ib+k
    if ib == b.size then return done out ia ib
   out:=out.push (<-elem' a ia);ia:=ia+1
   if ia+1 == a.size then return lastOfA out ia ib
   if acount<7&&bcount<7 then break
  minGallop:=minGallop+1
  A1k minGallop
 unsupported "internal:list.sort.merge-bound"):=rfl
theorem A8z (a b:Array Keyed):A6l a b=(do
 rule "list.sort.merge-hi"
 let total:=a.size+b.size
 let done (out:Array Keyed) (na nb:Nat):=a.extract 0 na++b.extract 0 nb++out.reverse
 let firstOfB (out:Array Keyed) (na nb:Nat):=b.extract 0 nb++a.extract 0 na++out.reverse
 let mut na:=a.size-1
 let mut nb:=b.size
 let mut out:Array Keyed:= #[<-elem' a na]
 if na == 0 then return done out na nb
 if nb == 1 then return firstOfB out na nb
 let mut minGallop:=gallopOf (<-get)
 for _ in [0:total] do
  let mut acount:=0
  let mut bcount:=0
  for _ in [0:total] do
   let some aWins<-lt' (<-elem' b (nb-1)) (<-elem' a (na-1)) | return done out na nb
   if aWins then
    na:=na-1;out:=out.push (<-elem' a na);acount:=acount+1;bcount:=0
    if na == 0 then return done out na nb
    if acount≥minGallop then break
   else
    nb:=nb-1;out:=out.push (<-elem' b nb);bcount:=bcount+1;acount:=0
    if nb == 1 then return firstOfB out na nb
    if bcount≥minGallop then break
  rule "list.sort.gallop"
  minGallop:=minGallop+1
  for _ in [0:total] do
   if minGallop>1 then minGallop:=minGallop-1
   A1k minGallop
   let some at_<-A2q false (<-elem' b (nb-1)) a 0 na (na-1) | return done out na nb
   let k:=na-at_
   acount:=k
   if k>0 then
    out:=out++(a.extract at_ na).reverse;na:=at_
    if na == 0 then return done out na nb
   nb:=nb-1;out:=out.push (<-elem' b nb)
   if nb == 1 then return firstOfB out na nb
   let some at_<-A2q true (<-elem' a (na-1)) b 0 nb (nb-1) | return done out na nb
   let k:=nb-at_
   bcount:=k
   if k>0 then
    out:=out++(b.extract at_ nb).reverse;nb:=at_
    if nb == 1 then return firstOfB out na nb
    if nb == 0 then return done out na nb
   na:=na-1;out:=out.push (<-elem' a na)
   if na == 0 then return done out na nb
   if acount<7&&bcount<7 then break
  minGallop:=minGallop+1
  A1k minGallop
 unsupported "internal:list.sort.merge-bound"):=rfl
theorem A9p (i:Nat):mergeAt' i=(do
 let s<-get
 let (some (sa,na,power),some (sb,nb,_)):=((pendingOf s)[i]?,(pendingOf s)[i+1]?) | unsupported "internal:list.sort.pending"
 set (setPending s (((pendingOf s).setIfInBounds i (sa,na+nb,power)).eraseIdxIfInBounds (i+1)))
 let some k<-A2q false (<-elem' (arrOf s) sb) (arrOf s) sa na 0 | return false
 let (sa,na):=(sa+k,na-k)
 if na == 0 then return true
 let some nb<-A2q true (<-elem' (arrOf s) (sa+na-1)) (arrOf s) sb nb (nb-1) | return false
 if nb == 0 then return true
 let x:=(arrOf s).extract sa sb
 let y:=(arrOf s).extract sb (sb+nb)
 let merged<-if na<=nb then A6s x y else A6l x y
 modify λs=>setArr s (merged.toList.zipIdx.foldl (λa (p,j)=>a.setIfInBounds (sa+j) p) (arrOf s))
 return (failedOf (<-get)).isNone):=rfl
section
variable {prog:Program} {w:World} {A:Around} {E:Value->Shared->Prop} {s:Shared}
structure Tr (lt:Keyed->Keyed->Bool) (S:Keyed->Prop):Prop where
 tr:∀x y z,S x->S y->S z->lt y x=false->lt z y=false->lt z x=false
structure A5z (prog:Program) (w:World) (A:Around) (s:Shared) (κ:SortKind) (lt:Keyed->Keyed->Bool) (S:Keyed->Prop):Prop extends Tr lt S where
 ask:∀x y,S x->S y->∀(E:Value->Shared->Prop) (Q:Bool->Shared->Prop),Q (lt x y) s->wpAny (model prog w) A (keyLt' κ x.1 y.1) Q E s
 asym:∀x y,S x->S y->lt x y=true->lt y x=false
variable {κ:SortKind} {lt:Keyed->Keyed->Bool} {S:Keyed->Prop}
theorem A0r {arr:Array Keyed} {i:Nat} {x:Keyed} {Q:Keyed->SortSt->Prop} {st:SortSt} (h:arr[i]? =some x) (hq:Q x st):wpS (model prog w) A E s (elem' arr i) Q st:=by
 rw [elem'_eq,h];exact wpS_pure hq
theorem A8f (as:A5z prog w A s κ lt S) {x y:Keyed} {Q:Option Bool->SortSt->Prop} {st:SortSt} (hk:kindOf st=κ) (hx:S x) (hy:S y) (hq:Q (some (lt x y)) st):wpS (model prog w) A E s (lt' x y) Q st:=by
 rw [lt'_eq];refine wpS_bind (wpS_get ?_);rw [hk];refine wpS_bind (wpS_lift (wpAny_attempt (as.ask x y hx hy _ _ ⟨rfl,?_⟩)));exact wpS_pure hq
def Cnt (b:Nat->Bool) (n k:Nat):Prop:=k<=n/\(∀i,i<k->b i=true)/\∀i,k<=i->i<n->b i=false
theorem A6k (as:A5z prog w A s κ lt S) {left:Bool} {key:Keyed} {arr:Array Keyed} {base n hint:Nat} {b:Nat->Bool} {Q:Option Nat->SortSt->Prop} {st:SortSt} (hk:kindOf st=κ) (hkey:S key)
  (hel:∀i,i<n->∃x,arr[base+i]? =some x/\S x/\b i=if left then lt x key else !lt key x) (hmono:∀i j,i<=j->j<n->b j=true->b i=true) (hh:hint<n) (hq:∀k,Cnt b n k->Q (some k) st) :
  wpS (model prog w) A E s (A2q left key arr base n hint) Q st:=by
 rw [B1h]
 have bey:∀(i:Nat),i<n->∀(R:Option Bool->SortSt->Prop),R (some (b i)) st->wpS (model prog w) A E s (do
   let x<-elem' arr (base+i)
   if left then lt' x key else return (<-lt' key x).map (!·)) R st:=λi hi R hR=>by
  obtain ⟨x,h1,h2,h3⟩:=hel i hi;refine wpS_bind (A0r h1 ?_)
  cases left with
  | true =>
   simp only [if_true] at h3⊢;exact A8f as hk h2 hkey (by rw [<-h3];exact hR)
  | false =>
   simp only [Bool.false_eq_true,if_false] at h3⊢;refine wpS_bind (A8f as hk hkey h2 ?_);exact wpS_pure (by show R (some (!lt key x)) st;rw [<-h3];exact hR)
 have hf:∀i j,i<=j->j<n->b i=false->b j=false:=λi j h1 h2 h3=>by
  cases e:b j with
  | false=>rfl
  | true=>rw [hmono i j h1 h2 e] at h3;cases h3
 have fin:∀lo hi,lo<=hi->hi<=n->(∀i,i<lo->b i=true)->(∀i,hi<=i->i<n->b i=false)->wpS (model prog w) A E s (do
   let mut lo:=lo
   let mut hi:=hi
   for _ in [0:n] do
    if lo≥hi then break
    let m:=lo+(hi-lo)/2
    let some more<-(do
     let x<-elem' arr (base+m)
     if left then lt' x key else return (<-lt' key x).map (!·):SM (Option Bool)) | return none
    if more then lo:=m+1 else hi:=m
   return some hi:SM (Option Nat)) Q st:=λlo hi h1 h2 h3 h4=>by
  refine wpS_bind (wpS_mono (wpS_forRange (I:=λx c st'=>st'=st/\∃lo hi,c=(none,lo,hi)/\lo<=hi/\hi<=n/\hi-lo<=n-x/\(∀i,i<lo->b i=true)/\∀i,hi<=i->i<n->b i=false)
   (Q:=λc st'=>st'=st/\∃k,c=(none,k,k)/\Cnt b n k) ?step ?fin ⟨rfl,lo,hi,rfl,h1,h2,by lia,h3,h4⟩) ?post)
  case post =>
   rintro c st' ⟨rfl,k,rfl,hc⟩;exact wpS_pure (hq k hc)
  case fin =>
   rintro c st' ⟨rfl,lo,hi,rfl,g1,g2,g3,g4,g5⟩;have:lo=hi:=by lia
   subst this;exact ⟨rfl,lo,rfl,g2,g4,g5⟩
  case step =>
   rintro x c st' _ hx ⟨rfl,lo,hi,rfl,g1,g2,g3,g4,g5⟩;dsimp only;by_cases hge:lo≥hi
   ·rw [Z12 hge];have:lo=hi:=by lia
    subst this;exact wpS_pure ⟨rfl,lo,rfl,g2,g4,g5⟩
   ·rw [Z0t hge];refine wpS_bind (bey _ (by lia) _ ?_);dsimp only
    cases e:b (lo+(hi-lo)/2) with
    | true =>
     simp only [if_true];exact wpS_pure ⟨rfl,_,hi,rfl,by lia,g2,by lia,λi hi'=>hmono i _ (by lia) (by lia) e,g5⟩
    | false =>
     simp only [Bool.false_eq_true,if_false];exact wpS_pure ⟨rfl,lo,_,rfl,by lia,by lia,by lia,g4,λi h5 h6=>hf _ i h5 h6 e⟩
 refine wpS_bind (bey hint hh _ ?_);dsimp only
 cases e0:b hint with
 | true =>
  simp only [if_true]
  refine wpS_bind (wpS_mono (wpS_forRange (I:=λx c st'=>st'=st/\∃lastofs ofs,c=(none,lastofs,ofs)/\lastofs<ofs/\x+1<=ofs/\hint+lastofs<n/\b (hint+lastofs)=true)
   (Q:=λc st'=>st'=st/\∃lastofs ofs,c=(none,lastofs,ofs)/\lastofs<ofs/\hint+lastofs<n/\b (hint+lastofs)=true/\(n-hint<=ofs\/b (hint+ofs)=false)) ?step2 ?fin2 ⟨rfl,0,1,rfl,by lia,by lia,by lia,e0⟩) ?post2)
  case post2 =>
   rintro c st' ⟨rfl,lastofs,ofs,rfl,g1,g2,g3,g4⟩;dsimp only;refine fin _ _ (by lia) (by lia) (λi hi=>hmono i _ (by lia) g2 g3) (λi h1 h2=> ?_);rcases g4 with g4 | g4
   ·lia
   ·exact hf (hint+ofs) i (by lia) h2 g4
  case fin2 =>
   rintro c st' ⟨rfl,lastofs,ofs,rfl,g1,g2,g3,g4⟩;exact ⟨rfl,lastofs,ofs,rfl,g1,g3,g4,.inl (by lia)⟩
  case step2 =>
   rintro x c st' _ hx ⟨rfl,lastofs,ofs,rfl,g1,g2,g3,g4⟩;dsimp only;by_cases hge:ofs≥n-hint
   ·rw [Z12 hge];exact wpS_pure ⟨rfl,lastofs,ofs,rfl,g1,g3,g4,.inl hge⟩
   ·rw [Z0t hge];refine wpS_bind (bey _ (by lia) _ ?_);dsimp only
    cases e:b (hint+ofs) with
    | true =>
     simp only [Bool.not_true,Bool.false_eq_true,if_false];exact wpS_pure ⟨rfl,ofs,_,rfl,by lia,by lia,by lia,e⟩
    | false =>
     simp only [Bool.not_false,if_true];exact wpS_pure ⟨rfl,lastofs,ofs,rfl,g1,g3,g4,.inr e⟩
 | false =>
  simp only [Bool.false_eq_true,if_false]
  refine wpS_bind (wpS_mono (wpS_forRange (I:=λx c st'=>st'=st/\∃lastofs ofs,c=(none,lastofs,ofs)/\lastofs<ofs/\x+1<=ofs/\lastofs<=hint/\b (hint-lastofs)=false)
   (Q:=λc st'=>st'=st/\∃lastofs ofs,c=(none,lastofs,ofs)/\lastofs<ofs/\lastofs<=hint/\b (hint-lastofs)=false/\(hint+1<=ofs\/ofs<=hint/\b (hint-ofs)=true)) ?step3 ?fin3 ⟨rfl,0,1,rfl,by lia,by lia,by lia,e0⟩) ?post3)
  case post3 =>
   rintro c st' ⟨rfl,lastofs,ofs,rfl,g1,g2,g3,g4⟩;dsimp only;refine fin _ _ (by lia) (by lia) (λi hi=> ?_) (λi h1 h2=>hf _ i h1 h2 g3);rcases g4 with g4 | ⟨g4,g5⟩
   ·lia
   ·exact hmono i (hint-ofs) (by lia) (by lia) g5
  case fin3 =>
   rintro c st' ⟨rfl,lastofs,ofs,rfl,g1,g2,g3,g4⟩;exact ⟨rfl,lastofs,ofs,rfl,g1,g3,g4,.inl (by lia)⟩
  case step3 =>
   rintro x c st' _ hx ⟨rfl,lastofs,ofs,rfl,g1,g2,g3,g4⟩;dsimp only;by_cases hge:ofs≥hint+1
   ·rw [Z12 hge];exact wpS_pure ⟨rfl,lastofs,ofs,rfl,g1,g3,g4,.inl hge⟩
   ·rw [Z0t hge];refine wpS_bind (bey _ (by lia) _ ?_);dsimp only
    cases e:b (hint-ofs) with
    | true =>
     simp only [if_true];exact wpS_pure ⟨rfl,lastofs,ofs,rfl,g1,g3,g4,.inr ⟨by lia,e⟩⟩
    | false =>
     simp only [Bool.false_eq_true,if_false];exact wpS_pure ⟨rfl,ofs,_,rfl,by lia,by lia,by lia,e⟩
end
section
variable {prog:Program} {w:World} {A:Around} {E:Value->Shared->Prop} {s:Shared}
variable {κ:SortKind} {lt:Keyed->Keyed->Bool} {S:Keyed->Prop}
abbrev Le (lt:Keyed->Keyed->Bool) (x y:Keyed):Prop:=lt y x=false
structure A0u (lt:Keyed->Keyed->Bool) (S:Keyed->Prop) (a:Array Keyed):Prop where
 s:∀(i:Nat) (x:Keyed),a[i]? =some x->S x
 so:∀(i j:Nat) (x y:Keyed),i<=j->a[i]? =some x->a[j]? =some y->Le lt x y
structure A2v (lt:Keyed->Keyed->Bool) (a b out:Array Keyed) (ia ib:Nat):Prop where
 pm:out.toList.Perm (a.toList.take ia++b.toList.take ib)
 so:out.toList.Pairwise (Le lt)
 fa:∀x∈out.toList,∀(i:Nat) (y:Keyed),ia<=i->a[i]? =some y->Le lt x y
 fb:∀x∈out.toList,∀(i:Nat) (y:Keyed),ib<=i->b[i]? =some y->Le lt x y
def Res (lt:Keyed->Keyed->Bool) (a b r:Array Keyed):Prop:=r.toList.Perm (a.toList++b.toList)/\r.toList.Pairwise (Le lt)
theorem B2u {a:Array Keyed} {i:Nat} {x:Keyed} (h:a[i]? =some x):a.toList.take (i+1)=a.toList.take i++[x]:=by
 have h':a.toList[i]? =some x:=by simpa using h
 rw [Z14,h'];rfl
theorem A2v.takeA (as:Tr lt S) {a b out:Array Keyed} {ia ib:Nat} {x:Keyed} (h:A2v lt a b out ia ib) (ha:A0u lt S a) (hb:A0u lt S b) (hx:a[ia]? =some x) (hle:∀y,b[ib]? =some y->Le lt x y):A2v lt a b (out.push x) (ia+1) ib:=by
 have sx:=ha.s _ _ hx
 have hall:∀i y,ib<=i->b[i]? =some y->Le lt x y:=λi y hi hy=>by
  have hl:=(Z1m.mp hy).1;have hz:b[ib]? =some b[ib]:=Array.getElem?_eq_getElem (by lia);exact as.tr x _ y sx (hb.s _ _ hz) (hb.s _ _ hy) (hle _ hz) (hb.so _ _ _ _ hi hz hy)
 refine ⟨?_,?_,?_,?_⟩
 ·rw [Array.toList_push,B2u hx];refine (h.pm.append_right [x]).trans ?_;rw [Z0z,Z0z];exact List.Perm.append_left _ List.perm_append_comm
 ·rw [Array.toList_push,List.pairwise_append];exact ⟨h.so,by simp,λu hu v hv=>by rw [Z0w.mp hv];exact h.fa u hu ia x (Z09 _) hx⟩
 ·intro u hu i y hi hy;rw [Array.toList_push] at hu;rcases Z07.mp hu with hu | hu
  ·exact h.fa u hu i y (by lia) hy
  ·rw [Z0w.mp hu];exact ha.so _ _ _ _ (by lia) hx hy
 ·intro u hu i y hi hy;rw [Array.toList_push] at hu;rcases Z07.mp hu with hu | hu
  ·exact h.fb u hu i y hi hy
  ·rw [Z0w.mp hu];exact hall i y hi hy
theorem A2v.symm {a b out:Array Keyed} {ia ib:Nat} (h:A2v lt a b out ia ib):A2v lt b a out ib ia:=⟨h.pm.trans List.perm_append_comm,h.so,h.fb,h.fa⟩
theorem A2v.takeB (as:Tr lt S) {a b out:Array Keyed} {ia ib:Nat} {x:Keyed} (h:A2v lt a b out ia ib) (ha:A0u lt S a) (hb:A0u lt S b) (hx:b[ib]? =some x) (hle:∀y,a[ia]? =some y->Le lt x y):A2v lt a b (out.push x) ia (ib+1):=(h.symm.takeA as hb ha hx hle).symm
theorem B5k {a:Array Keyed} {i k:Nat} {x:Keyed} (h:a[i+k]? =some x):a.extract i (i+(k+1))=(a.extract i (i+k)).push x:=by
 have hl:=(Z1m.mp h).1;apply Array.toList_inj.mp;rw [Array.toList_push,Array.toList_extract,Array.toList_extract];have h':(a.toList.drop i)[k]? =some x:=by rw [List.getElem?_drop];simpa using h
 simp only [List.extract_eq_drop_take,show i+(k+1)-i=k+1 by lia,show i+k-i=k by lia];rw [Z14,h'];rfl
theorem A2v.takesA (as:Tr lt S) {a b out:Array Keyed} {ia ib:Nat} (h:A2v lt a b out ia ib) (ha:A0u lt S a) (hb:A0u lt S b):∀k,ia+k<=a.size->(∀i x y,i<k->a[ia+i]? =some x->b[ib]? =some y->Le lt x y)->A2v lt a b (out++a.extract ia (ia+k)) (ia+k) ib
 | 0,_,_=>by
  have:a.extract ia (ia+0)= #[]:=by simp;lia
  rw [this,Array.append_empty];exact h
 | k+1,hk,hle=>by
  have ih:=A2v.takesA as h ha hb k (by lia) λi x y hi=>hle i x y (by lia);have hx:a[ia+k]? =some a[ia+k]:=Array.getElem?_eq_getElem (by lia);rw [B5k hx,Array.append_push];exact ih.takeA as ha hb hx λy hy=>hle k _ y (by lia) hx hy
theorem A2v.takesB (as:Tr lt S) {a b out:Array Keyed} {ia ib:Nat} (h:A2v lt a b out ia ib) (ha:A0u lt S a) (hb:A0u lt S b) (k:Nat) (hk:ib+k<=b.size) (hle:∀i x y,i<k->b[ib+i]? =some x->a[ia]? =some y->Le lt x y):A2v lt a b (out++b.extract ib (ib+k)) ia (ib+k) :=
 (h.symm.takesA as hb ha k hk hle).symm
theorem B2p (a:Array Keyed) (i:Nat):(a.extract i a.size).toList=a.toList.drop i:=by
 rw [Array.toList_extract,List.extract_eq_drop_take];exact Z2l (by rw [Z19];simp)
theorem A2v.endA {a b out:Array Keyed} {ia:Nat} (h:A2v lt a b out ia b.size) (ha:A0u lt S a):Res lt a b (out++a.extract ia a.size):=by
 have e:b.toList.take b.size=b.toList:=Z2l (by simp);have pm:=h.pm;rw [e] at pm;refine ⟨?_,?_⟩
 ·rw [Array.toList_append,B2p];refine (pm.append_right _).trans ?_;rw [Z0z];refine (List.Perm.append_left _ List.perm_append_comm).trans ?_;rw [<-Z0z,Z2e]
 ·rw [Array.toList_append,B2p,List.pairwise_append];refine ⟨h.so,?_,λx hx y hy=> ?_⟩
  ·rw [List.pairwise_iff_getElem];intro i j hi hj hij;refine ha.so (ia+i) (ia+j) _ _ (by lia) ?_ ?_
   ·rw [<-Array.getElem?_toList,<-List.getElem?_drop];exact Z0b hi
   ·rw [<-Array.getElem?_toList,<-List.getElem?_drop];exact Z0b hj
  ·obtain ⟨i,hi⟩:=List.getElem?_of_mem hy;rw [List.getElem?_drop] at hi;exact h.fa x hx (ia+i) y (by lia) (by rw [<-Array.getElem?_toList];exact hi)
theorem A2v.endB {a b out:Array Keyed} {ib:Nat} (h:A2v lt a b out a.size ib) (hb:A0u lt S b):Res lt a b (out++b.extract ib b.size):=by
 obtain ⟨h1,h2⟩:=h.symm.endA hb;exact ⟨h1.trans List.perm_append_comm,h2⟩
theorem A2v.endL (as:Tr lt S) {a b out:Array Keyed} {ia ib:Nat} (h:A2v lt a b out ia ib) (ha:A0u lt S a) (hb:A0u lt S b) (hl:ia+1=a.size) (hib:ib<=b.size) (hlast:∀x y,a[ia]? =some x->y∈b.toList->Le lt y x):Res lt a b (out++b.extract ib b.size++a.extract ia a.size):=by
 have hx:a[ia]? =some a[ia]:=Array.getElem?_eq_getElem (by lia)
 have h1:=h.takesB as ha hb (b.size-ib) (by lia) λi x y hi h1 h2=>by
  rw [hx] at h2;cases h2;exact hlast _ x hx (by have:=Array.mem_of_getElem? h1;simpa using this)
 rw [show ib+(b.size-ib)=b.size by lia] at h1;exact h1.endA ha
theorem A3e {n:String} {Q:Unit->SortSt->Prop} {st:SortSt} (h:Q () st):wpS (model prog w) A E s (liftM (rule n):SM Unit) Q st:=wpS_lift (wpAny_rule ⟨rfl,h⟩)
theorem A3d {g:Nat} {Q:Unit->SortSt->Prop} {st:SortSt} (h:Q () (A8k st g)):wpS (model prog w) A E s (A1k g) Q st:=by
 rw [A4p];exact wpS_modify h
structure A0p (lt:Keyed->Keyed->Bool) (S:Keyed->Prop) (a:Array Keyed) (lo n:Nat):Prop where
 len:lo+n<=a.size
 s:∀(i:Nat) (x:Keyed),lo<=i->i<lo+n->a[i]? =some x->S x
 so:∀(i j:Nat) (x y:Keyed),lo<=i->i<=j->j<lo+n->a[i]? =some x->a[j]? =some y->Le lt x y
theorem A0u.inn {a:Array Keyed} (h:A0u lt S a) {lo:Nat} (hl:lo<=a.size):A0p lt S a lo (a.size-lo):=⟨by lia,λi x _ _=>h.s i x,λi j x y _ h1 _=>h.so i j x y h1⟩
theorem B7n (as:A5z prog w A s κ lt S) {key:Keyed} {a:Array Keyed} {lo n hint:Nat} {Q:Option Nat->SortSt->Prop} {st:SortSt} (hk:kindOf st=κ) (hkey:S key) (ha:A0p lt S a lo n) (hh:hint<n)
  (hq:∀k,k<=n->(∀i x,lo<=i->i<lo+k->a[i]? =some x->Le lt x key)->(∀i x,lo+k<=i->i<lo+n->a[i]? =some x->lt key x=true)->Q (some k) st):wpS (model prog w) A E s (A2q false key a lo n hint) Q st:=by
 have el:∀i,i<n->∃x,a[lo+i]? =some x:=λi hi=>⟨_,Array.getElem?_eq_getElem (by have:=ha.len;lia)⟩;refine A6k as (b:=λi=>match a[lo+i]? with | some x=> !lt key x | none=>false) hk hkey ?_ ?_ hh ?_
 ·intro i hi;obtain ⟨x,hx⟩:=el i hi;exact ⟨x,hx,ha.s _ x (by lia) (by lia) hx,by simp only [hx];rfl⟩
 ·intro i j hij hj h;obtain ⟨x,hx⟩:=el i (by lia);obtain ⟨y,hy⟩:=el j hj;simp only [hx,hy,Bool.not_eq_true'] at h⊢;exact as.tr x y key (ha.s _ x (by lia) (by lia) hx) (ha.s _ y (by lia) (by lia) hy) hkey (ha.so _ _ x y (by lia) (by lia) (by lia) hx hy) h
 ·rintro k ⟨h1,h2,h3⟩;refine hq k h1 (λi x g1 g2 hx=> ?_) (λi x g1 g2 hx=> ?_)
  ·have:=h2 (i-lo) (by lia);simp only [show lo+(i-lo)=i by lia,hx,Bool.not_eq_true'] at this;exact this
  ·have:=h3 (i-lo) (by lia) (by lia);simp only [show lo+(i-lo)=i by lia,hx,Bool.not_eq_false'] at this;exact this
theorem B7c (as:A5z prog w A s κ lt S) {key:Keyed} {a:Array Keyed} {lo n hint:Nat} {Q:Option Nat->SortSt->Prop} {st:SortSt} (hk:kindOf st=κ) (hkey:S key) (ha:A0p lt S a lo n) (hh:hint<n)
  (hq:∀k,k<=n->(∀i x,lo<=i->i<lo+k->a[i]? =some x->lt x key=true)->(∀i x,lo+k<=i->i<lo+n->a[i]? =some x->Le lt key x)->Q (some k) st):wpS (model prog w) A E s (A2q true key a lo n hint) Q st:=by
 have el:∀i,i<n->∃x,a[lo+i]? =some x:=λi hi=>⟨_,Array.getElem?_eq_getElem (by have:=ha.len;lia)⟩;refine A6k as (b:=λi=>match a[lo+i]? with | some x=>lt x key | none=>false) hk hkey ?_ ?_ hh ?_
 ·intro i hi;obtain ⟨x,hx⟩:=el i hi;exact ⟨x,hx,ha.s _ x (by lia) (by lia) hx,by simp only [hx];rfl⟩
 ·intro i j hij hj h;obtain ⟨x,hx⟩:=el i (by lia);obtain ⟨y,hy⟩:=el j hj;simp only [hx,hy] at h⊢
  cases e:lt x key with
  | true=>rfl
  | false =>
   have:=as.tr key x y hkey (ha.s _ x (by lia) (by lia) hx) (ha.s _ y (by lia) (by lia) hy) e (ha.so _ _ x y (by lia) (by lia) (by lia) hx hy);rw [this] at h;cases h
 ·rintro k ⟨h1,h2,h3⟩;refine hq k h1 (λi x g1 g2 hx=> ?_) (λi x g1 g2 hx=> ?_)
  ·have:=h2 (i-lo) (by lia);simp only [show lo+(i-lo)=i by lia,hx] at this;exact this
  ·have:=h3 (i-lo) (by lia) (by lia);simp only [show lo+(i-lo)=i by lia,hx] at this;exact this
theorem A8r (as:A5z prog w A s κ lt S) {a b:Array Keyed} {Q:Array Keyed->SortSt->Prop} {st:SortSt} (hk:kindOf st=κ) (ha:A0u lt S a) (hb:A0u lt S b) (na:0<a.size) (nb:0<b.size)
  (h0:∀x y,b[0]? =some x->a[0]? =some y->Le lt x y) (hl:∀x y,a[a.size-1]? =some x->y∈b.toList->Le lt y x) (hq:∀r g,Res lt a b r->Q r (A8k st g)):wpS (model prog w) A E s (A6s a b) Q st:=by
 rw [A8t];refine wpS_bind (A3e ?_);have hb0:b[0]? =some b[0]:=Array.getElem?_eq_getElem nb;refine wpS_bind (A0r hb0 ?_);dsimp only;have m0:A2v lt a b #[] 0 0:=⟨by simp,by simp,by simp,by simp⟩;have m1:A2v lt a b #[b[0]] 0 1:=m0.takeB as.toTr ha hb hb0 λy hy=>h0 _ y hb0 hy
 have eb:∀{out:Array Keyed} {ia ib:Nat},A2v lt a b out ia ib->ib=b.size->Res lt a b (out++a.extract ia a.size++b.extract ib b.size):=λ{out ia ib} m e=>by
  subst e;have:b.extract b.size b.size= #[]:=by simp
  rw [this,Array.append_empty];exact m.endA ha
 have ea:∀{out:Array Keyed} {ia ib:Nat},A2v lt a b out ia ib->ia=a.size->Res lt a b (out++a.extract ia a.size++b.extract ib b.size):=λ{out ia ib} m e=>by
  subst e;have:a.extract a.size a.size= #[]:=by simp
  rw [this,Array.append_empty];exact m.endB hb
 have el:∀{out:Array Keyed} {ia ib:Nat},A2v lt a b out ia ib->ia+1=a.size->ib<=b.size->Res lt a b (out++b.extract ib b.size++a.extract ia a.size):=λ{out ia ib} m e hi=>m.endL as.toTr ha hb e hi λx y hx hy=>hl x y (by rw [<-e];exact hx) hy;have self:∀r,Res lt a b r->Q r st:=λr h=>hq r (gallopOf st) h;by_cases c1:1=b.size
 ·rw [Z12 (by simpa using c1)];exact wpS_pure (self _ (eb m1 c1))
 rw [Z0t (by simpa using c1)];by_cases c2:0+1=a.size
 ·rw [Z12 (by simpa using c2)];exact wpS_pure (self _ (el m1 c2 (by lia)))
 rw [Z0t (by simpa using c2)];refine wpS_bind (wpS_get ?_);have get:∀{c:Array Keyed} {i:Nat} (h:i<c.size),c[i]? =some c[i]:=λh=>Array.getElem?_eq_getElem h
 refine wpS_bind (wpS_mono (wpS_forRange (I:=λx c st'=>(∃g,st'=A8k st g)/\∃out ia ib mg,c=(none,out,ia,ib,mg)/\A2v lt a b out ia ib/\ia+1<a.size/\ib<b.size/\(a.size-ia)+(b.size-ib)+x<=a.size+b.size)
  (Q:=λc st'=>(∃g,st'=A8k st g)/\∃r,c.1=some r/\Res lt a b r) ?step ?fin ⟨⟨gallopOf st,rfl⟩,_,_,_,_,rfl,m1,by lia,by lia,by lia⟩) ?post)
 case post =>
  rintro ⟨c1,c2⟩ st' ⟨⟨g,rfl⟩,r,e,hr⟩;dsimp only at e;subst e;exact wpS_pure (hq r g hr)
 case fin =>
  rintro c st' ⟨⟨g,rfl⟩,out,ia,ib,mg,rfl,m,h1,h2,h3⟩
  lia
 case step =>
  rintro x c st' _ hx ⟨⟨g,rfl⟩,out,ia,ib,mg,rfl,m,h1,h2,h3⟩;dsimp only
  refine wpS_bind (wpS_mono (wpS_forRange (I:=λy c st'=>st'=A8k st g/\∃out' ia' ib' ac bc,c=(none,out',ia',ib',ac,bc)/\A2v lt a b out' ia' ib'/\ia'+1<a.size/\ib'<b.size/\(a.size-ia')+(b.size-ib')+y=(a.size-ia)+(b.size-ib))
   (Q:=λc st'=>st'=A8k st g/\((∃r t,c=(some r,t)/\Res lt a b r)\/∃out' ia' ib' ac bc,c=(none,out',ia',ib',ac,bc)/\A2v lt a b out' ia' ib'/\ia'+1<a.size/\ib'<b.size/\(a.size-ia')+(b.size-ib')<(a.size-ia)+(b.size-ib))) ?step1 ?fin1 ⟨rfl,_,_,_,_,_,rfl,m,h1,h2,by lia⟩) ?post1)
  case fin1 =>
   rintro c st' ⟨rfl,out',ia',ib',ac,bc,rfl,m',g1,g2,g3⟩
   lia
  case step1 =>
   rintro y c st' _ hy ⟨rfl,out',ia',ib',ac,bc,rfl,m',g1,g2,g3⟩;dsimp only;have xb:=get g2;have xa:=get (show ia'<a.size by lia);refine wpS_bind (A0r xb ?_);refine wpS_bind (A0r xa ?_);refine wpS_bind (A8f as hk (hb.s _ _ xb) (ha.s _ _ xa) ?_);dsimp only
   cases e:lt b[ib'] a[ia'] with
   | true =>
    rw [Z12 rfl];refine wpS_bind (A0r xb ?_)
    have m2:=m'.takeB as.toTr ha hb xb λz hz=>by
     rw [xa] at hz;cases hz;exact as.asym _ _ (hb.s _ _ xb) (ha.s _ _ xa) e
    by_cases c3:ib'+1=b.size
    ·rw [Z12 (by simpa using c3)];exact wpS_pure ⟨rfl,.inl ⟨_,_,rfl,eb m2 c3⟩⟩
    rw [Z0t (by simpa using c3)];split
    ·exact wpS_pure ⟨rfl,.inr ⟨_,_,_,_,_,rfl,m2,by lia,by lia,by lia⟩⟩
    ·exact wpS_pure ⟨rfl,_,_,_,_,_,rfl,m2,by lia,by lia,by lia⟩
   | false =>
    rw [Z0t (by simp)];refine wpS_bind (A0r xa ?_)
    have m2:=m'.takeA as.toTr ha hb xa λz hz=>by
     rw [xb] at hz;cases hz;exact e
    by_cases c3:ia'+1+1=a.size
    ·rw [Z12 (by simpa using c3)];exact wpS_pure ⟨rfl,.inl ⟨_,_,rfl,el m2 c3 (by lia)⟩⟩
    rw [Z0t (by simpa using c3)];split
    ·exact wpS_pure ⟨rfl,.inr ⟨_,_,_,_,_,rfl,m2,by lia,by lia,by lia⟩⟩
    ·exact wpS_pure ⟨rfl,_,_,_,_,_,rfl,m2,by lia,by lia,by lia⟩
  case post1 =>
   rintro c st' ⟨rfl,⟨r,t,rfl,hr⟩ | ⟨out1,ia1,ib1,ac1,bc1,rfl,n1,n2,n3,n4⟩⟩
   ·dsimp only;exact wpS_pure ⟨⟨g,rfl⟩,r,rfl,hr⟩
   dsimp only;refine wpS_bind (A3e ?_)
   refine wpS_bind (wpS_mono (wpS_forRange (I:=λy c st'=>(∃g,st'=A8k st g)/\∃out' ia' ib' mg ac bc,c=(none,out',ia',ib',mg,ac,bc)/\A2v lt a b out' ia' ib'/\ia'+1<a.size/\ib'<b.size/\(a.size-ia')+(b.size-ib')+y<=(a.size-ia1)+(b.size-ib1))
    (Q:=λc st'=>(∃g,st'=A8k st g)/\((∃r t,c=(some r,t)/\Res lt a b r)\/∃out' ia' ib' mg ac bc,c=(none,out',ia',ib',mg,ac,bc)/\A2v lt a b out' ia' ib'/\ia'+1<a.size/\ib'<b.size/\(a.size-ia')+(b.size-ib')<=(a.size-ia1)+(b.size-ib1))) ?step2 ?fin2 ⟨⟨g,rfl⟩,_,_,_,_,_,_,rfl,n1,n2,n3,by lia⟩) ?post2)
   case fin2 =>
    rintro c st' ⟨⟨g,rfl⟩,out',ia',ib',mg',ac,bc,rfl,m',g1,g2,g3⟩
    lia
   case post2 =>
    rintro c st' ⟨⟨g',rfl⟩,⟨r,t,rfl,hr⟩ | ⟨out2,ia2,ib2,mg2,ac2,bc2,rfl,m2,g1,g2,g3⟩⟩
    ·dsimp only;exact wpS_pure ⟨⟨g',rfl⟩,r,rfl,hr⟩
    dsimp only;refine wpS_bind (A3d ?_);exact wpS_pure ⟨⟨_,rfl⟩,_,_,_,_,rfl,m2,g1,g2,by lia⟩
   case step2 =>
    rintro y c st' _ hy ⟨⟨g',rfl⟩,out',ia',ib',mg',ac,bc,rfl,m',g1,g2,g3⟩;dsimp only;have xb:=get g2;have xa:=get (show ia'<a.size by lia);by_cases hg:mg'>1
    all_goals
     first | rw [Z12 hg] | rw [Z0t hg]
     refine wpS_bind (A3d ?_);refine wpS_bind (A0r xb ?_);refine wpS_bind (B7n as hk (hb.s _ _ xb) (ha.inn (by lia)) (by lia) ?_);intro k hk1 hk2 hk3;dsimp only
     have m3:=m'.takesA as.toTr ha hb k (by lia) λi u v hi hu hv=>by
      rw [xb] at hv;cases hv;exact hk2 _ u (by lia) (by lia) hu
     by_cases hk0:k>0
     case' pos =>
      rw [Z12 hk0];by_cases c4:ia'+k+1=a.size
      ·rw [Z12 (by simpa using c4)];exact wpS_pure ⟨⟨_,rfl⟩,.inl ⟨_,_,rfl,el m3 c4 (by lia)⟩⟩
      rw [Z0t (by simpa using c4)];by_cases c5:ia'+k=a.size
      ·rw [Z12 (by simpa using c5)];exact wpS_pure ⟨⟨_,rfl⟩,.inl ⟨_,_,rfl,ea m3 c5⟩⟩
      rw [Z0t (by simpa using c5)];have m4:=m3;have xa4:=get (show ia'+k<a.size by lia);have t4:=hk3 (ia'+k) _ (by lia) (by lia) xa4
     case' neg =>
      rw [Z0t hk0];have m4:=m';have xa4:=xa;have t4:=hk3 ia' _ (by lia) (by lia) xa
     all_goals
      refine wpS_bind (A0r xb ?_)
      have m5:=m4.takeB as.toTr ha hb xb λz hz=>by
       rw [xa4] at hz;cases hz;exact as.asym _ _ (hb.s _ _ xb) (ha.s _ _ xa4) t4
      by_cases c6:ib'+1=b.size
      ·rw [Z12 (by simpa using c6)];exact wpS_pure ⟨⟨_,rfl⟩,.inl ⟨_,_,rfl,eb m5 c6⟩⟩
      rw [Z0t (by simpa using c6)];refine wpS_bind (A0r xa4 ?_);refine wpS_bind (B7c as hk (ha.s _ _ xa4) (hb.inn (by lia)) (by lia) ?_);intro k' q1 q2 q3;dsimp only
      have m6:=m5.takesB as.toTr ha hb k' (by lia) λi u v hi hu hv=>by
       rw [xa4] at hv;cases hv;exact as.asym _ _ (hb.s _ _ hu) (ha.s _ _ xa4) (q2 _ u (by lia) (by lia) hu)
      by_cases hk':k'>0
      case' pos =>
       rw [Z12 hk'];by_cases c7:ib'+1+k'=b.size
       ·rw [Z12 (by simpa using c7)];exact wpS_pure ⟨⟨_,rfl⟩,.inl ⟨_,_,rfl,eb m6 c7⟩⟩
       rw [Z0t (by simpa using c7)];have m7:=m6;have t7:=λz=>q3 (ib'+1+k') z (by lia) (by lia)
      case' neg =>
       rw [Z0t hk'];have m7:=m5;have t7:=λz=>q3 (ib'+1) z (by lia) (by lia)
      all_goals
       refine wpS_bind (A0r xa4 ?_);have m8:=m7.takeA as.toTr ha hb xa4 t7;split
       ·rename_i c8;exact wpS_pure ⟨⟨_,rfl⟩,.inl ⟨_,_,rfl,el m8 (by simpa using c8) (by lia)⟩⟩
       rename_i c8;have c9:¬_=a.size:=λe=>c8 (by simpa using e);split
       ·exact wpS_pure ⟨⟨_,rfl⟩,.inr ⟨_,_,_,_,_,_,rfl,m8,by lia,by lia,by lia⟩⟩
       ·exact wpS_pure ⟨⟨_,rfl⟩,_,_,_,_,_,_,rfl,m8,by lia,by lia,by lia⟩
def fl (lt:Keyed->Keyed->Bool):Keyed->Keyed->Bool:=λx y=>lt y x
theorem Tr.fl (h:Tr lt S):Tr (fl lt) S:=⟨λx y z hx hy hz h1 h2=>h.tr z y x hz hy hx h2 h1⟩
theorem A6x {a:Array Keyed} {i:Nat} (h:i<a.size):a.reverse[i]? =a[a.size-1-i]? :=by
 rw [Array.getElem?_reverse h]
theorem A4z {a:Array Keyed} {i:Nat} {x:Keyed} (h:a.reverse[i]? =some x):i<a.size/\a[a.size-1-i]? =some x:=by
 have hl:=(Z1m.mp h).1;rw [Array.size_reverse] at hl;rw [A6x hl] at h;exact ⟨hl,h⟩
theorem A0u.rev {a:Array Keyed} (h:A0u lt S a):A0u (fl lt) S a.reverse:=⟨λi x hx=>h.s _ x (A4z hx).2,λi j x y hij hx hy=>h.so _ _ y x (by lia) (A4z hy).2 (A4z hx).2⟩
def HI (lt:Keyed->Keyed->Bool) (a b out:Array Keyed) (na nb:Nat):Prop:=A2v (fl lt) a.reverse b.reverse out (a.size-na) (b.size-nb)
theorem HI.symm {a b out:Array Keyed} {na nb:Nat} (h:HI lt a b out na nb):HI lt b a out nb na:=A2v.symm h
theorem HI.takeA (as:Tr lt S) {a b out:Array Keyed} {na nb:Nat} {x:Keyed} (h:HI lt a b out na nb) (ha:A0u lt S a) (hb:A0u lt S b) (h1:0<na) (h2:na<=a.size) (h3:0<nb) (h4:nb<=b.size) (hx:a[na-1]? =some x) (hle:∀y,b[nb-1]? =some y->Le lt y x):HI lt a b (out.push x) (na-1) nb:=by
 have:=A2v.takeA as.fl h ha.rev hb.rev (x:=x) (by rw [A6x (by lia)];rw [show a.size-1-(a.size-na)=na-1 by lia];exact hx) λy hy=>by
  have:=(A4z hy).2;rw [show b.size-1-(b.size-nb)=nb-1 by lia] at this;exact hle y this
 rw [show a.size-na+1=a.size-(na-1) by lia] at this;exact this
theorem HI.takeB (as:Tr lt S) {a b out:Array Keyed} {na nb:Nat} {x:Keyed} (h:HI lt a b out na nb) (ha:A0u lt S a) (hb:A0u lt S b) (h1:0<nb) (h2:nb<=b.size) (h3:0<na) (h4:na<=a.size) (hx:b[nb-1]? =some x) (hle:∀y,a[na-1]? =some y->Le lt y x):HI lt a b (out.push x) na (nb-1) :=
 (h.symm.takeA as hb ha h1 h2 h3 h4 hx hle).symm
theorem B3y {a:Array Keyed} {k n:Nat} (h1:k<=n) (h2:n<=a.size):(a.extract k n).reverse=a.reverse.extract (a.size-n) (a.size-n+(n-k)):=by
 apply Array.ext_getElem?;intro i;by_cases hi:i<n-k
 ·rw [A6x (by rw [Array.size_extract];lia),Array.getElem?_extract,Array.getElem?_extract,Array.size_extract,Z12 (by lia),Z12 (by rw [Array.size_reverse];lia),A6x (by lia)];congr 1
  lia
 ·rw [Array.getElem?_eq_none (by rw [Array.size_reverse,Array.size_extract];lia),Array.getElem?_eq_none (by rw [Array.size_extract,Array.size_reverse];lia)]
theorem HI.takesA (as:Tr lt S) {a b out:Array Keyed} {na nb k:Nat} (h:HI lt a b out na nb) (ha:A0u lt S a) (hb:A0u lt S b) (h1:k<=na) (h2:na<=a.size) (h3:0<nb) (h4:nb<=b.size) (hle:∀i x y,k<=i->i<na->a[i]? =some x->b[nb-1]? =some y->Le lt y x):HI lt a b (out++(a.extract k na).reverse) k nb:=by
 have:=A2v.takesA as.fl h ha.rev hb.rev (na-k) (by rw [Array.size_reverse];lia) λi x y hi hx hy=>by
  have hy':=(A4z hy).2;rw [show b.size-1-(b.size-nb)=nb-1 by lia] at hy';have hx':=(A4z hx).2;exact hle _ x y (by lia) (by lia) hx' hy'
 rw [<-B3y h1 h2,show a.size-na+(na-k)=a.size-k by lia] at this;exact this
theorem HI.takesB (as:Tr lt S) {a b out:Array Keyed} {na nb k:Nat} (h:HI lt a b out na nb) (ha:A0u lt S a) (hb:A0u lt S b) (h1:k<=nb) (h2:nb<=b.size) (h3:0<na) (h4:na<=a.size) (hle:∀i x y,k<=i->i<nb->b[i]? =some x->a[na-1]? =some y->Le lt y x):HI lt a b (out++(b.extract k nb).reverse) na k :=
 (h.symm.takesA as hb ha h1 h2 h3 h4 hle).symm
theorem Res.rev {a b r:Array Keyed} (h:Res (fl lt) a.reverse b.reverse r):Res lt a b r.reverse:=by
 refine ⟨?_,?_⟩
 ·rw [Array.toList_reverse];refine (List.reverse_perm _).trans (h.1.trans ?_);rw [Array.toList_reverse,Array.toList_reverse];exact (List.reverse_perm _).append (List.reverse_perm _)
 ·rw [Array.toList_reverse,List.pairwise_reverse];exact h.2
theorem Res.symm {a b r:Array Keyed} (h:Res lt a b r):Res lt b a r:=⟨h.1.trans List.perm_append_comm,h.2⟩
theorem A9b {a:Array Keyed} {n:Nat} (h:n<=a.size):a.reverse.extract (a.size-n) a.reverse.size=(a.extract 0 n).reverse:=by
 rw [B3y (Z1e n) h,Array.size_reverse];congr 1
 lia
theorem HI.endA {a b out:Array Keyed} {na:Nat} (h:HI lt a b out na 0) (ha:A0u lt S a) (hn:na<=a.size):Res lt a b (a.extract 0 na++out.reverse):=by
 have h':A2v (fl lt) a.reverse b.reverse out (a.size-na) b.reverse.size:=by
  have:=h;unfold HI at this;rw [Array.size_reverse];exact this
 have:=(h'.endA ha.rev).rev;rw [A9b hn,Array.reverse_append,Array.reverse_reverse] at this;exact this
theorem HI.endL (as:Tr lt S) {a b out:Array Keyed} {na:Nat} (h:HI lt a b out na 1) (ha:A0u lt S a) (hb:A0u lt S b) (hn:na<=a.size) (nb:0<b.size) (hl:∀x y,b[0]? =some x->y∈a.toList->Le lt x y):Res lt a b (b.extract 0 1++a.extract 0 na++out.reverse):=by
 have:=((A2v.endL as.fl (A2v.symm h) hb.rev ha.rev (by rw [Array.size_reverse];lia) (by rw [Array.size_reverse];lia) λx y hx hy=>by
  have hx':=(A4z hx).2;rw [show b.size-1-(b.size-1)=0 by lia] at hx'
  exact hl x y hx' (by simpa using hy)).rev).symm
 rw [A9b hn,A9b nb,Array.reverse_append,Array.reverse_append,Array.reverse_reverse,Array.reverse_reverse] at this;rw [Array.append_assoc];exact this
theorem A9e (as:A5z prog w A s κ lt S) {a b:Array Keyed} {Q:Array Keyed->SortSt->Prop} {st:SortSt} (hk:kindOf st=κ) (ha:A0u lt S a) (hb:A0u lt S b) (na:0<a.size) (nb:0<b.size)
  (h0:∀x y,b[0]? =some x->a[0]? =some y->Le lt x y) (hl:∀x y,a[a.size-1]? =some x->y∈b.toList->Le lt y x) (hq:∀r g,Res lt a b r->Q r (A8k st g)):wpS (model prog w) A E s (A6l a b) Q st:=by
 rw [A8z];have get:∀{c:Array Keyed} {i:Nat} (h:i<c.size),c[i]? =some c[i]:=λh=>Array.getElem?_eq_getElem h;refine wpS_bind (A3e ?_);have xl:=get (show a.size-1<a.size by lia);refine wpS_bind (A0r xl ?_);dsimp only
 have m0:HI lt a b #[] a.size b.size:=by
  unfold HI;rw [Nat.sub_self,Nat.sub_self];exact ⟨by simp,by simp,by simp,by simp⟩
 have m1:=m0.takeA as.toTr ha hb na (Z09 _) nb (Z09 _) xl λy hy=>hl _ y xl (by have:=Array.mem_of_getElem? hy;simpa using this);have e0:∀c:Array Keyed,c.extract 0 0= #[]:=λc=>by simp
 have eb:∀{out:Array Keyed} {ia ib:Nat},HI lt a b out ia ib->ib=0->ia<=a.size->Res lt a b (a.extract 0 ia++b.extract 0 ib++out.reverse):=λ{out ia ib} m e h=>by
  subst e;rw [e0,Array.append_empty];exact m.endA ha h
 have ea:∀{out:Array Keyed} {ia ib:Nat},HI lt a b out ia ib->ia=0->ib<=b.size->Res lt a b (a.extract 0 ia++b.extract 0 ib++out.reverse):=λ{out ia ib} m e h=>by
  subst e;rw [e0,Array.empty_append];exact (m.symm.endA hb h).symm
 have el:∀{out:Array Keyed} {ia ib:Nat},HI lt a b out ia ib->ib=1->ia<=a.size->Res lt a b (b.extract 0 ib++a.extract 0 ia++out.reverse):=λ{out ia ib} m e h=>by
  subst e;refine m.endL as.toTr ha hb h nb λx y hx hy=> ?_;have ya:=get na;obtain ⟨i,hi⟩:=List.getElem?_of_mem hy;have hi':a[i]? =some y:=by simpa using hi
  exact as.tr _ _ _ (hb.s _ _ hx) (ha.s _ _ ya) (ha.s _ _ hi') (h0 _ _ hx ya) (ha.so _ _ _ _ (Z1e _) ya hi')
 have self:∀r,Res lt a b r->Q r st:=λr h=>hq r (gallopOf st) h;by_cases c1:a.size-1=0
 ·rw [Z12 (by simpa using c1)];exact wpS_pure (self _ (ea m1 c1 (by lia)))
 rw [Z0t (by simpa using c1)];by_cases c2:b.size=1
 ·rw [Z12 (by simpa using c2)];exact wpS_pure (self _ (el m1 c2 (by lia)))
 rw [Z0t (by simpa using c2)];refine wpS_bind (wpS_get ?_)
 refine wpS_bind (wpS_mono (wpS_forRange (I:=λx c st'=>(∃g,st'=A8k st g)/\∃ia ib out mg,c=(none,ia,ib,out,mg)/\HI lt a b out ia ib/\0<ia/\ia<=a.size/\1<ib/\ib<=b.size/\ia+ib+x<=a.size+b.size)
  (Q:=λc st'=>(∃g,st'=A8k st g)/\∃r,c.1=some r/\Res lt a b r) ?step ?fin ⟨⟨gallopOf st,rfl⟩,_,_,_,_,rfl,m1,by lia,by lia,by lia,by lia,by lia⟩) ?post)
 case post =>
  rintro ⟨c1,c2⟩ st' ⟨⟨g,rfl⟩,r,e,hr⟩;dsimp only at e;subst e;exact wpS_pure (hq r g hr)
 case fin =>
  rintro c st' ⟨⟨g,rfl⟩,ia,ib,out,mg,rfl,m,h1,h1',h2,h2',h3⟩
  lia
 case step =>
  rintro x c st' _ hx ⟨⟨g,rfl⟩,ia,ib,out,mg,rfl,m,h1,h1',h2,h2',h3⟩;dsimp only
  refine wpS_bind (wpS_mono (wpS_forRange (I:=λy c st'=>st'=A8k st g/\∃ia' ib' out' ac bc,c=(none,ia',ib',out',ac,bc)/\HI lt a b out' ia' ib'/\0<ia'/\ia'<=a.size/\1<ib'/\ib'<=b.size/\ia'+ib'+y=ia+ib)
   (Q:=λc st'=>st'=A8k st g/\((∃r t,c=(some r,t)/\Res lt a b r)\/∃ia' ib' out' ac bc,c=(none,ia',ib',out',ac,bc)/\HI lt a b out' ia' ib'/\0<ia'/\ia'<=a.size/\1<ib'/\ib'<=b.size/\ia'+ib'<ia+ib)) ?step1 ?fin1 ⟨rfl,_,_,_,_,_,rfl,m,h1,h1',h2,h2',by lia⟩) ?post1)
  case fin1 =>
   rintro c st' ⟨rfl,ia',ib',out',ac,bc,rfl,m',g1,g1',g2,g2',g3⟩
   lia
  case step1 =>
   rintro y c st' _ hy ⟨rfl,ia',ib',out',ac,bc,rfl,m',g1,g1',g2,g2',g3⟩;dsimp only;have xb:=get (show ib'-1<b.size by lia);have xa:=get (show ia'-1<a.size by lia);refine wpS_bind (A0r xb ?_);refine wpS_bind (A0r xa ?_);refine wpS_bind (A8f as hk (hb.s _ _ xb) (ha.s _ _ xa) ?_);dsimp only
   cases e:lt b[ib'-1] a[ia'-1] with
   | true =>
    rw [Z12 rfl];refine wpS_bind (A0r xa ?_)
    have m2:=m'.takeA as.toTr ha hb g1 g1' (by lia) g2' xa λz hz=>by
     rw [xb] at hz;cases hz;exact as.asym _ _ (hb.s _ _ xb) (ha.s _ _ xa) e
    by_cases c3:ia'-1=0
    ·rw [Z12 (by simpa using c3)];exact wpS_pure ⟨rfl,.inl ⟨_,_,rfl,ea m2 c3 g2'⟩⟩
    rw [Z0t (by simpa using c3)];split
    ·exact wpS_pure ⟨rfl,.inr ⟨_,_,_,_,_,rfl,m2,by lia,by lia,by lia,by lia,by lia⟩⟩
    ·exact wpS_pure ⟨rfl,_,_,_,_,_,rfl,m2,by lia,by lia,by lia,by lia,by lia⟩
   | false =>
    rw [Z0t (by simp)];refine wpS_bind (A0r xb ?_)
    have m2:=m'.takeB as.toTr ha hb (by lia) g2' g1 g1' xb λz hz=>by
     rw [xa] at hz;cases hz;exact e
    by_cases c3:ib'-1=1
    ·rw [Z12 (by simpa using c3)];exact wpS_pure ⟨rfl,.inl ⟨_,_,rfl,el m2 c3 g1'⟩⟩
    rw [Z0t (by simpa using c3)];split
    ·exact wpS_pure ⟨rfl,.inr ⟨_,_,_,_,_,rfl,m2,by lia,by lia,by lia,by lia,by lia⟩⟩
    ·exact wpS_pure ⟨rfl,_,_,_,_,_,rfl,m2,by lia,by lia,by lia,by lia,by lia⟩
  case post1 =>
   rintro c st' ⟨rfl,⟨r,t,rfl,hr⟩ | ⟨ia1,ib1,out1,ac1,bc1,rfl,n1,n2,n2',n3,n3',n4⟩⟩
   ·dsimp only;exact wpS_pure ⟨⟨g,rfl⟩,r,rfl,hr⟩
   dsimp only;refine wpS_bind (A3e ?_)
   refine wpS_bind (wpS_mono (wpS_forRange (I:=λy c st'=>(∃g,st'=A8k st g)/\∃ia' ib' out' mg ac bc,c=(none,ia',ib',out',mg,ac,bc)/\HI lt a b out' ia' ib'/\0<ia'/\ia'<=a.size/\1<ib'/\ib'<=b.size/\ia'+ib'+y<=ia1+ib1)
    (Q:=λc st'=>(∃g,st'=A8k st g)/\((∃r t,c=(some r,t)/\Res lt a b r)\/∃ia' ib' out' mg ac bc,c=(none,ia',ib',out',mg,ac,bc)/\HI lt a b out' ia' ib'/\0<ia'/\ia'<=a.size/\1<ib'/\ib'<=b.size/\ia'+ib'<=ia1+ib1)) ?step2 ?fin2 ⟨⟨g,rfl⟩,_,_,_,_,_,_,rfl,n1,n2,n2',n3,n3',by lia⟩) ?post2)
   case fin2 =>
    rintro c st' ⟨⟨g,rfl⟩,ia',ib',out',mg',ac,bc,rfl,m',g1,g1',g2,g2',g3⟩
    lia
   case post2 =>
    rintro c st' ⟨⟨g',rfl⟩,⟨r,t,rfl,hr⟩ | ⟨ia2,ib2,out2,mg2,ac2,bc2,rfl,m2,g1,g1',g2,g2',g3⟩⟩
    ·dsimp only;exact wpS_pure ⟨⟨g',rfl⟩,r,rfl,hr⟩
    dsimp only;refine wpS_bind (A3d ?_);exact wpS_pure ⟨⟨_,rfl⟩,_,_,_,_,rfl,m2,g1,g1',g2,g2',by lia⟩
   case step2 =>
    rintro y c st' _ hy ⟨⟨g',rfl⟩,ia',ib',out',mg',ac,bc,rfl,m',g1,g1',g2,g2',g3⟩;dsimp only;have xb:=get (show ib'-1<b.size by lia);have xa:=get (show ia'-1<a.size by lia);have sa:∀n,n<=a.size->A0p lt S a 0 n:=λn hn=>⟨by lia,λi u _ _=>ha.s i u,λi j u v _ h1 _=>ha.so i j u v h1⟩;have sb:∀n,n<=b.size->A0p lt S b 0 n:=λn hn=>⟨by lia,λi u _ _=>hb.s i u,λi j u v _ h1 _=>hb.so i j u v h1⟩;by_cases hg:mg'>1
    all_goals
     first | rw [Z12 hg] | rw [Z0t hg]
     refine wpS_bind (A3d ?_);refine wpS_bind (A0r xb ?_);refine wpS_bind (B7n as hk (hb.s _ _ xb) (sa ia' g1') (by lia) ?_);intro k hk1 hk2 hk3;dsimp only
     have m3:=m'.takesA as.toTr ha hb hk1 g1' (by lia) g2' λi u v hi hi' hu hv=>by
      rw [xb] at hv;cases hv;exact as.asym _ _ (hb.s _ _ xb) (ha.s _ _ hu) (hk3 _ u (by lia) (by lia) hu)
     by_cases hk0:ia'-k>0
     case' pos =>
      rw [Z12 hk0];by_cases c4:k=0
      ·rw [Z12 (by simpa using c4)];exact wpS_pure ⟨⟨_,rfl⟩,.inl ⟨_,_,rfl,ea m3 c4 g2'⟩⟩
      rw [Z0t (by simpa using c4)];have m4:=m3;have xa4:=get (show k-1<a.size by lia);have t4:=hk2 (k-1) _ (by lia) (by lia) xa4
     case' neg =>
      rw [Z0t hk0];have m4:=m';have xa4:=xa;have t4:=hk2 (ia'-1) _ (by lia) (by lia) xa
     all_goals
      refine wpS_bind (A0r xb ?_)
      have m5:=m4.takeB as.toTr ha hb (by lia) g2' (by lia) (by lia) xb λz hz=>by
       rw [xa4] at hz;cases hz;exact t4
      by_cases c6:ib'-1=1
      ·rw [Z12 (by simpa using c6)];exact wpS_pure ⟨⟨_,rfl⟩,.inl ⟨_,_,rfl,el m5 c6 (by lia)⟩⟩
      rw [Z0t (by simpa using c6)];refine wpS_bind (A0r xa4 ?_);refine wpS_bind (B7c as hk (ha.s _ _ xa4) (sb (ib'-1) (by lia)) (by lia) ?_);intro k' q1 q2 q3;dsimp only
      have m6:=m5.takesB as.toTr ha hb q1 (by lia) (by lia) (by lia) λi u v hi hi' hu hv=>by
       rw [xa4] at hv;cases hv;exact q3 _ u (by lia) (by lia) hu
      by_cases hk':ib'-1-k'>0
      case' pos =>
       rw [Z12 hk'];by_cases c7:k'=1
       ·rw [Z12 (by simpa using c7)];exact wpS_pure ⟨⟨_,rfl⟩,.inl ⟨_,_,rfl,el m6 c7 (by lia)⟩⟩
       rw [Z0t (by simpa using c7)];by_cases c8:k'=0
       ·rw [Z12 (by simpa using c8)];exact wpS_pure ⟨⟨_,rfl⟩,.inl ⟨_,_,rfl,eb m6 c8 (by lia)⟩⟩
       rw [Z0t (by simpa using c8)];have m7:=m6;have t7:=λz=>q2 (k'-1) z (by lia) (by lia)
      case' neg =>
       rw [Z0t hk'];have m7:=m5;have t7:=λz=>q2 (ib'-1-1) z (by lia) (by lia)
      all_goals
       refine wpS_bind (A0r xa4 ?_);have m8:=m7.takeA as.toTr ha hb (by lia) (by lia) (by lia) (by lia) xa4 λz hz=>as.asym _ _ (hb.s _ _ hz) (ha.s _ _ xa4) (t7 z hz);split
       ·rename_i c8;exact wpS_pure ⟨⟨_,rfl⟩,.inl ⟨_,_,rfl,ea m8 (by simpa using c8) (by lia)⟩⟩
       rename_i c8;have c9:¬_=0:=λe=>c8 (by simpa using e);split
       ·exact wpS_pure ⟨⟨_,rfl⟩,.inr ⟨_,_,_,_,_,_,rfl,m8,by lia,by lia,by lia,by lia,by lia⟩⟩
       ·exact wpS_pure ⟨⟨_,rfl⟩,_,_,_,_,_,_,rfl,m8,by lia,by lia,by lia,by lia,by lia⟩
structure Bs (S:Keyed->Prop) (a1:Array Keyed) (lo:Nat) (xs:Array Keyed):Prop where
 pm:xs.Perm a1
 low:∀i,i<lo->xs[i]? =a1[i]?
 mem:∀(i:Nat) (x:Keyed),xs[i]? =some x->S x
theorem Bs.size {a1 xs:Array Keyed} {lo:Nat} (h:Bs S a1 lo xs):xs.size=a1.size:=h.pm.size_eq
theorem Bs.get {a1 xs:Array Keyed} {lo:Nat} (h:Bs S a1 lo xs) {i:Nat} (hi:i<a1.size):∃x,xs[i]? =some x/\S x:=by
 have:i<xs.size:=by rw [h.size];exact hi
 exact ⟨xs[i],Array.getElem?_eq_getElem this,h.mem i _ (Array.getElem?_eq_getElem this)⟩
theorem B0y {xs ys:Array Keyed} (h:ys.Perm xs) (hm:∀(i:Nat) (x:Keyed),xs[i]? =some x->S x):∀(i:Nat) (x:Keyed),ys[i]? =some x->S x:=λi x hx=>by
 have h1:x∈ys:=Array.mem_of_getElem? hx;have h2:x∈xs:=h.mem_iff.mp h1;obtain ⟨j,hj⟩:=Array.getElem?_of_mem h2;exact hm j x hj
theorem Bs.put {a1 xs ys:Array Keyed} {lo:Nat} (h:Bs S a1 lo xs) (hp:ys.Perm xs) (hl:∀i,i<lo->ys[i]? =xs[i]?):Bs S a1 lo ys:=⟨hp.trans h.pm,λi hi=>(hl i hi).trans (h.low i hi),B0y hp h.mem⟩
theorem Bs.mirror {a1 xs:Array Keyed} {lo:Nat} (h:Bs S a1 lo xs) {i j:Nat} (hi:lo<=i) (hj:j<=a1.size):Bs S a1 lo (mirror xs i j ((j-i)/2)) :=
 h.put (mirror_perm _ _ _ _) λk hk=>by rw [getElem?_mirror_all (by rw [h.size];exact hj),Z0t (by lia)]
theorem A3c (as:A5z prog w A s κ lt S) {i j:Nat} {x y:Keyed} {Q:Option Bool->SortSt->Prop} {st:SortSt} (hk:kindOf st=κ) (hi:(arrOf st)[i]? =some x) (hj:(arrOf st)[j]? =some y) (hx:S x) (hy:S y) (hq:Q (some (lt x y)) st):wpS (model prog w) A E s (ltAt' i j) Q st:=by
 rw [ltAt'_eq];refine wpS_bind (wpS_get ?_);refine wpS_bind (A0r hi ?_);exact wpS_bind (A0r hj (A8f as hk hx hy hq))
def B1r (lt:Keyed->Keyed->Bool) (xs:Array Keyed) (lo n:Nat):Prop:=∀(i j:Nat) (x y:Keyed),lo<=i->i<=j->j<lo+n->xs[i]? =some x->xs[j]? =some y->Le lt y x
def Eqb (lt:Keyed->Keyed->Bool) (xs:Array Keyed) (p q:Nat):Prop:=∀(i j:Nat) (x y:Keyed),p<=i->i<q->p<=j->j<q->xs[i]? =some x->xs[j]? =some y->Le lt x y
theorem B1r.mirror {xs:Array Keyed} {lo n p q:Nat} (h:B1r lt xs lo n) (he:Eqb lt xs p q) (h1:lo<=p) (h2:q<=lo+n) (h3:q<=xs.size):B1r lt (mirror xs p q ((q-p)/2)) lo n:=λi j x y g1 g2 g3 hx hy=>by
 rw [getElem?_mirror_all h3] at hx hy;by_cases c1:p<=i/\i<q
 ·rw [Z12 c1] at hx;by_cases c2:p<=j/\j<q
  ·rw [Z12 c2] at hy;exact he _ _ _ _ (by lia) (by lia) (by lia) (by lia) hy hx
  ·rw [Z0t c2] at hy;exact h _ _ _ _ (by lia) (by lia) g3 hx hy
 ·rw [Z0t c1] at hx;by_cases c2:p<=j/\j<q
  ·rw [Z12 c2] at hy;exact h _ _ _ _ g1 (by lia) (by lia) hx hy
  ·rw [Z0t c2] at hy;exact h _ _ _ _ g1 g2 g3 hx hy
theorem B1r.turn {a1 xs:Array Keyed} {lo n:Nat} (b:Bs S a1 lo xs) (h:B1r lt xs lo n) (h3:lo+n<=a1.size):A0p lt S (PyProof.Rows.mirror xs lo (lo+n) ((lo+n-lo)/2)) lo n:=by
 have bm:=b.mirror (Z09 lo) h3;have h3':lo+n<=xs.size:=by rw [b.size];exact h3
 refine ⟨by rw [bm.size];exact h3,λi x _ _=>bm.mem i x,λi j x y g1 g2 g3 hx hy=> ?_⟩;rw [getElem?_mirror_all h3',Z12 (by lia)] at hx hy;exact h _ _ _ _ (by lia) (by lia) (by lia) hy hx
theorem A0p.snoc (as:A5z prog w A s κ lt S) {xs:Array Keyed} {lo n:Nat} (h:A0p lt S xs lo n) (h1:1<=n) (hl:lo+n<xs.size) {x y:Keyed} (hy:xs[lo+n-1]? =some y) (hx:xs[lo+n]? =some x) (sx:S x) (hle:Le lt y x):A0p lt S xs lo (n+1):=by
 have irr:∀u,S u->Le lt u u:=λu hu=>by
  cases e:lt u u with
  | false=>exact e
  | true=>have:=as.asym u u hu hu e;rw [e] at this;cases this
 refine ⟨by lia,λi u g1 g2 hu=> ?_,λi j u v g1 g2 g3 hu hv=> ?_⟩
 ·by_cases c:i=lo+n
  ·subst c;rw [hx] at hu;cases hu;exact sx
  ·exact h.s i u g1 (by lia) hu
 ·by_cases c:j=lo+n
  ·subst c;rw [hx] at hv;cases hv;by_cases c2:i=lo+n
   ·subst c2;rw [hx] at hu;cases hu;exact irr x sx
   ·exact as.tr u y x (h.s i u g1 (by lia) hu) (h.s _ y (by lia) (by lia) hy) sx (h.so i _ u y g1 (by lia) (by lia) hu hy) hle
  ·exact h.so i j u v g1 g2 (by lia) hu hv
theorem A5z.irr (as:A5z prog w A s κ lt S) {u:Keyed} (hu:S u):Le lt u u:=by
 cases e:lt u u with
 | false=>exact e
 | true=>have:=as.asym u u hu hu e;rw [e] at this;cases this
theorem Eqb.one (as:A5z prog w A s κ lt S) {xs:Array Keyed} {p q:Nat} (hm:∀(i:Nat) (x:Keyed),xs[i]? =some x->S x) (h:q<=p+1):Eqb lt xs p q:=λi j u v q1 q2 q3 q4 hu hv=>by
 have ei:i=j:=by lia
 rw [ei] at hu;have ev:u=v:=Z1a (hu.symm.trans hv);rw [<-ev];exact as.irr (hm _ _ hu)
theorem A0p.one (as:A5z prog w A s κ lt S) {xs:Array Keyed} {lo:Nat} (hl:lo<xs.size) (hm:∀(i:Nat) (x:Keyed),xs[i]? =some x->S x):A0p lt S xs lo 1 :=
 ⟨by lia,λi u _ _ hu=>hm i u hu,λi j u v g1 g2 g3 hu hv=>Eqb.one as hm (Z09 (lo+1)) i j u v g1 (by lia) (by lia) (by lia) hu hv⟩
theorem B1r.snoc (as:A5z prog w A s κ lt S) {xs:Array Keyed} {lo n:Nat} (h:B1r lt xs lo n) (hm:∀(i:Nat) (x:Keyed),xs[i]? =some x->S x) (h1:1<=n) {x y:Keyed} (hy:xs[lo+n-1]? =some y) (hx:xs[lo+n]? =some x) (hle:Le lt x y):B1r lt xs lo (n+1):=λi j u v q1 q2 q3 hu hv=>by
 by_cases cj:j=lo+n
 ·rw [cj] at hv;have ev:x=v:=Z1a (hx.symm.trans hv);rw [<-ev];by_cases ci:i=lo+n
  ·rw [ci] at hu;have eu:x=u:=Z1a (hx.symm.trans hu);rw [<-eu];exact as.irr (hm _ _ hx)
  ·exact as.tr x y u (hm _ _ hx) (hm _ _ hy) (hm _ _ hu) hle (h i _ u y q1 (by lia) (by lia) hu hy)
 ·exact h i j u v q1 q2 (by lia) hu hv
theorem A7t (as:A5z prog w A s κ lt S) {a1:Array Keyed} {lo nrem:Nat} {st:SortSt} {Q:Option Nat->SortSt->Prop} (hk:kindOf st=κ) (b:Bs S a1 lo (arrOf st)) (hn:lo+nrem<=a1.size) (h1:1<=nrem)
  (hq:∀n xs,1<=n->n<=nrem->Bs S a1 lo xs->A0p lt S xs lo n->Q (some n) (setArr st xs)):wpS (model prog w) A E s (countRun' lo nrem) Q st:=by
 rw [countRun'_eq];obtain ⟨x0,hx0,sx0⟩:=b.get (show lo<a1.size by lia)
 refine wpS_bind (wpS_mono (wpS_forRange (I:=λx c st'=>st'=st/\c=(none,x)/\A0p lt S (arrOf st) lo x)
  (Q:=λc st'=>st'=st/\∃n,c=(none,n)/\1<=n/\n<=nrem/\A0p lt S (arrOf st) lo n/\(n<nrem->∀x y,(arrOf st)[lo+n]? =some x->(arrOf st)[lo+n-1]? =some y->lt x y=true)) ?step ?fin ⟨rfl,rfl,A0p.one as (by rw [b.size];lia) b.mem⟩) ?post)
 case fin =>
  rintro c st' ⟨rfl,rfl,so⟩;rw [show max 1 nrem=nrem by lia] at so⊢;exact ⟨rfl,_,rfl,h1,Z09 _,so,λh=>by lia⟩
 case step =>
  rintro n c st' g1 g2 ⟨rfl,rfl,so⟩;dsimp only;obtain ⟨x,hx,sx⟩:=b.get (show lo+n<a1.size by lia);obtain ⟨y,hy,sy⟩:=b.get (show lo+n-1<a1.size by lia);refine wpS_bind (A3c as hk hx hy sx sy ?_);dsimp only
  cases e:lt x y with
  | true =>
   rw [Z12 rfl];exact wpS_pure ⟨rfl,n,rfl,g1,by lia,so,λ_ p q hp hq=>by rw [hx] at hp;rw [hy] at hq;cases hp;cases hq;exact e⟩
  | false =>
   rw [Z0t (by simp)];exact wpS_pure ⟨rfl,rfl,so.snoc as g1 (by rw [b.size];lia) hy hx sx e⟩
 case post =>
  rintro c st' ⟨rfl,n,rfl,g1,g2,so,hs⟩;dsimp only;by_cases c1:n=nrem
  ·rw [Z12 (by simpa using c1)];exact wpS_pure (hq n (arrOf st') g1 g2 b so)
  rw [Z0t (by simpa using c1)];have hs:=hs (by lia);obtain ⟨x,hx,sx⟩:=b.get (show lo+n<a1.size by lia);obtain ⟨y,hy,sy⟩:=b.get (show lo+n-1<a1.size by lia);have exy:=hs x y hx hy;have hlx:lo+n<=(arrOf st').size:=by rw [b.size];lia
  by_cases c2:n>1
  case' pos =>
   rw [Z12 c2];refine wpS_bind (A3c as hk hx0 hy sx0 sy ?_);dsimp only;by_cases e:lt x0 y=true
   ·rw [Z12 e];exact wpS_pure (hq n (arrOf st') g1 g2 b so)
   rw [Z0t e];rw [Bool.not_eq_true] at e;rw [reverseSlice'_eq];refine wpS_bind (wpS_modify ?_)
   have hall:Eqb lt (arrOf st') lo (lo+n):=λi j u v q1 q2 q3 q4 hu hv=>by
    have su:=b.mem _ _ hu;have sv:=b.mem _ _ hv;exact as.tr u y v su sy sv (so.so i _ u y q1 (by lia) (by lia) hu hy) (as.tr y x0 v sy sx0 sv e (so.so lo j x0 v (Z09 _) q3 q4 hx0 hv))
   have b2:=b.mirror (Z09 lo) (show lo+n<=a1.size by lia);have d1:B1r lt (arrOf st') lo n:=λi j u v q1 q2 q3 hu hv=>hall _ _ _ _ (by lia) (by lia) q1 (by lia) hv hu;have d2:=B1r.mirror (d1.snoc as b.mem g1 hy hx (as.asym _ _ sx sy exy)) hall (Z09 _) (show lo+n<=lo+(n+1) by lia) hlx;generalize mirror (arrOf st') lo (lo+n) ((lo+n-lo)/2)=xs2 at b2 d2⊢
  case' neg =>
   rw [Z0t c2];have b2:=b;have d1:B1r lt (arrOf st') lo n:=λi j u v q1 q2 q3 hu hv=>Eqb.one as b.mem (Z09 (lo+1)) j i v u (by lia) (by lia) q1 (by lia) hv hu;have d2:=d1.snoc as b.mem g1 hy hx (as.asym _ _ sx sy exy);change wpS _ _ _ _ _ _ (setArr st' (arrOf st'));generalize arrOf st'=xs2 at b2 d2⊢
  all_goals
   refine wpS_bind (A3e ?_)
   refine wpS_bind (wpS_mono (wpS_forRange (I:=λm c t=>∃xs neq,t=setArr st' xs/\c=(none,m,neq)/\Bs S a1 lo xs/\B1r lt xs lo m/\neq<m/\Eqb lt xs (lo+m-(neq+1)) (lo+m))
    (Q:=λc t=>∃xs m neq,t=setArr st' xs/\c=(none,m,neq)/\1<=m/\m<=nrem/\Bs S a1 lo xs/\B1r lt xs lo m/\neq<m/\Eqb lt xs (lo+m-(neq+1)) (lo+m)) ?step2 ?fin2 ⟨xs2,0,rfl,rfl,b2,d2,by lia,Eqb.one as b2.mem (by lia)⟩) ?post2)
   case fin2 =>
    rintro c t ⟨xs,neq,rfl,rfl,q1,q2,q3,q4⟩;rw [show max (n+1) nrem=nrem by lia] at q2 q3 q4⊢;exact ⟨xs,nrem,neq,rfl,rfl,h1,Z09 _,q1,q2,q3,q4⟩
   case step2 =>
    rintro m c t p1 p2 ⟨xs,neq,rfl,rfl,q1,q2,q3,q4⟩;dsimp only;obtain ⟨u,hu,su⟩:=q1.get (show lo+m<a1.size by lia);obtain ⟨v,hv,sv⟩:=q1.get (show lo+m-1<a1.size by lia);refine wpS_bind (A3c as hk hu hv su sv ?_);dsimp only;by_cases e:lt u v=true
    ·rw [Z12 e];have d3:=q2.snoc as q1.mem (by lia) hv hu (as.asym _ _ su sv e);by_cases c3:neq>0
     ·rw [Z12 c3,reverseSlice'_eq];refine wpS_bind (wpS_modify (wpS_pure ?_));have b3:=q1.mirror (show lo<=lo+m-(neq+1) by lia) (show lo+m<=a1.size by lia);exact ⟨_,0,rfl,rfl,b3,d3.mirror q4 (by lia) (by lia) (by rw [q1.size];lia),by lia,Eqb.one as b3.mem (by lia)⟩
     ·rw [Z0t c3];exact wpS_pure ⟨xs,0,rfl,rfl,q1,d3,by lia,Eqb.one as q1.mem (by lia)⟩
    rw [Z0t e];rw [Bool.not_eq_true] at e;refine wpS_bind (A3c as hk hv hu sv su ?_);dsimp only;by_cases e2:lt v u=true
    ·rw [Z12 e2];exact wpS_pure ⟨xs,m,neq,rfl,rfl,by lia,by lia,q1,q2,q3,q4⟩
    rw [Z0t e2];rw [Bool.not_eq_true] at e2;refine wpS_pure ⟨xs,neq+1,rfl,rfl,q1,q2.snoc as q1.mem (by lia) hv hu e2,by lia,λi j x' y' r1 r2 r3 r4 hx' hy'=> ?_⟩
    have near:∀i x',lo+(m+1)-(neq+1+1)<=i->i<lo+(m+1)->xs[i]? =some x'->S x'/\Le lt x' v/\Le lt v x':=λi x' r1 r2 hx'=>by
     by_cases ci:i=lo+m
     ·rw [ci] at hx';have ex:u=x':=Z1a (hu.symm.trans hx');rw [<-ex];exact ⟨su,e2,e⟩
     ·exact ⟨q1.mem _ _ hx',q4 _ _ _ _ (by lia) (by lia) (by lia) (by lia) hx' hv,q4 _ _ _ _ (by lia) (by lia) (by lia) (by lia) hv hx'⟩
    obtain ⟨s1,s2,s3⟩:=near i x' r1 r2 hx';obtain ⟨t1,t2,t3⟩:=near j y' r3 r4 hy';exact as.tr x' v y' s1 sv t1 s2 t3
   case post2 =>
    rintro c t ⟨xs,m,neq,rfl,rfl,p1,p2,q1,q2,q3,q4⟩;dsimp only;by_cases c3:neq>0
    case' pos =>
     rw [Z12 c3,reverseSlice'_eq];refine wpS_bind (wpS_modify ?_);have b3:=q1.mirror (show lo<=lo+m-(neq+1) by lia) (show lo+m<=a1.size by lia);have d3:=q2.mirror q4 (show lo<=lo+m-(neq+1) by lia) (by lia) (by rw [q1.size];lia);change wpS _ _ _ _ _ _ (setArr st' (mirror xs (lo+m-(neq+1)) (lo+m) ((lo+m-(lo+m-(neq+1)))/2)));generalize mirror xs (lo+m-(neq+1)) (lo+m) ((lo+m-(lo+m-(neq+1)))/2)=xs3 at b3 d3⊢
    case' neg =>
     rw [Z0t c3];have b3:=q1;have d3:=q2;generalize xs=xs3 at b3 d3⊢
    all_goals
     rw [reverseSlice'_eq];refine wpS_bind (wpS_modify ?_);have b4:=b3.mirror (Z09 lo) (show lo+m<=a1.size by lia);have s4:=d3.turn b3 (by lia);change wpS _ _ _ _ _ _ (setArr st' (mirror xs3 lo (lo+m) ((lo+m-lo)/2)));generalize mirror xs3 lo (lo+m) ((lo+m-lo)/2)=xs4 at b4 s4⊢
     refine wpS_bind (wpS_mono (wpS_forRange (I:=λx c t=>t=setArr st' xs4/\c=(none,x)/\A0p lt S xs4 lo x)
      (Q:=λc t=>t=setArr st' xs4/\∃m,c=(none,m)/\1<=m/\m<=nrem/\A0p lt S xs4 lo m) ?step3 ?fin3 ⟨rfl,rfl,s4⟩) ?post3)
     case fin3 =>
      rintro c t ⟨rfl,rfl,r⟩;rw [show max m nrem=nrem by lia] at r⊢;exact ⟨rfl,_,rfl,h1,Z09 _,r⟩
     case step3 =>
      rintro x c t r1 r2 ⟨rfl,rfl,r⟩;dsimp only;obtain ⟨u,hu,su⟩:=b4.get (show lo+x<a1.size by lia);obtain ⟨v,hv,sv⟩:=b4.get (show lo+x-1<a1.size by lia);refine wpS_bind (A3c as hk hu hv su sv ?_);dsimp only;by_cases e:lt u v=true
      ·rw [Z12 e];exact wpS_pure ⟨rfl,x,rfl,by lia,by lia,r⟩
      ·rw [Z0t e];rw [Bool.not_eq_true] at e;exact wpS_pure ⟨rfl,rfl,r.snoc as (by lia) (by rw [b4.size];lia) hv hu su e⟩
     case post3 =>
      rintro c t ⟨rfl,x,rfl,r1,r2,r⟩;exact wpS_pure (hq x xs4 r1 r2 b4 r)
theorem A6b (as:A5z prog w A s κ lt S) {a1 xs0:Array Keyed} {lo n ok:Nat} {st:SortSt} {Q:Bool->SortSt->Prop} (hk:kindOf st=κ) (b:Bs S a1 lo xs0) (hn:lo+n<=a1.size) (h1:1<=ok) (h2:ok<=n) (so:A0p lt S xs0 lo ok)
  (hq:∀xs,Bs S a1 lo xs->A0p lt S xs lo n->Q true (setArr st xs)):wpS (model prog w) A E s (binarySort' lo n ok) Q (setArr st xs0):=by
 rw [binarySort'_eq]
 refine wpS_bind (wpS_mono (wpS_forRange (I:=λk c t=>c=(none,())/\∃xs,t=setArr st xs/\Bs S a1 lo xs/\A0p lt S xs lo k)
  (Q:=λc t=>c=(none,())/\∃xs,t=setArr st xs/\Bs S a1 lo xs/\A0p lt S xs lo n) ?step ?fin ⟨rfl,xs0,rfl,b,by rw [show max ok 1=ok by lia];exact so⟩) ?post)
 case post =>
  rintro c t ⟨rfl,xs,rfl,q1,q2⟩;exact wpS_pure (hq xs q1 q2)
 case fin =>
  rintro c t ⟨rfl,xs,rfl,q1,q2⟩;rw [show max (max ok 1) n=n by lia] at q2;exact ⟨rfl,xs,rfl,q1,q2⟩
 case step =>
  rintro k c t p1 p2 ⟨rfl,xs,rfl,q1,q2⟩;obtain ⟨x,hx,sx⟩:=q1.get (show lo+k<a1.size by lia);have k1:1<=k:=by lia
  refine wpS_bind (wpS_mono (wpS_forRange (I:=λz c t=>t=setArr st xs/\∃l r,c=(none,l,r)/\l<=r/\r<=k/\r-l<=k-z/\(∀i u,lo<=i->i<lo+l->xs[i]? =some u->Le lt u x)/\∀i u,lo+r<=i->i<lo+k->xs[i]? =some u->Le lt x u)
   (Q:=λc t=>t=setArr st xs/\∃l r,c=(none,l,r)/\l<=k/\(∀i u,lo<=i->i<lo+l->xs[i]? =some u->Le lt u x)/\∀i u,lo+l<=i->i<lo+k->xs[i]? =some u->Le lt x u) ?istep ?ifin ⟨rfl,0,k,rfl,by lia,by lia,by lia,λi u g1 g2=>by lia,λi u g1 g2=>by lia⟩) ?ipost)
  case ifin =>
   rintro c t ⟨rfl,l,r,rfl,g1,g2,g3,g4,g5⟩;have:l=r:=by lia
   subst this;exact ⟨rfl,l,l,rfl,g2,g4,g5⟩
  case istep =>
   rintro z c t _ hz ⟨rfl,l,r,rfl,g1,g2,g3,g4,g5⟩;dsimp only;by_cases hge:l≥r
   ·rw [Z12 hge];have:l=r:=by lia
    subst this;exact wpS_pure ⟨rfl,l,l,rfl,g2,g4,g5⟩
   rw [Z0t hge];obtain ⟨y,hy,sy⟩:=q1.get (show lo+(l+r)/2<a1.size by lia);refine wpS_bind (A3c as hk hx hy sx sy ?_);dsimp only;by_cases e:lt x y=true
   ·rw [Z12 e];refine wpS_pure ⟨rfl,l,_,rfl,by lia,by lia,by lia,g4,λi u r1 r2 hu=> ?_⟩;exact as.tr x y u sx sy (q1.mem _ _ hu) (as.asym _ _ sx sy e) (q2.so _ i y u (by lia) r1 r2 hy hu)
   ·rw [Z0t e];rw [Bool.not_eq_true] at e;refine wpS_pure ⟨rfl,_,r,rfl,by lia,by lia,by lia,λi u r1 r2 hu=> ?_,g5⟩;exact as.tr u y x (q1.mem _ _ hu) sy sx (q2.so i _ u y r1 (by lia) (by lia) hu hy) e
  case ipost =>
   rintro c t ⟨rfl,l,r,rfl,g2,g4,g5⟩;dsimp only;rw [moveDown'_eq];refine wpS_bind (wpS_modify (wpS_pure ⟨rfl,_,rfl,?_,?_⟩))
   ·refine q1.put (bubble_perm _ _ _) λi hi=> ?_;show (bubble xs (lo+k) (lo+k-(lo+l)))[i]? =_;rw [getElem?_bubble (by rw [q1.size];lia) _ (by lia),Z0t (by lia),Z0t (by lia)]
   ·have hs:lo+k<xs.size:=by rw [q1.size];lia
    have hg:∀i,(bubble xs (lo+k) (lo+k-(lo+l)))[i]? =if i=lo+l then xs[lo+k]? else if lo+l<i/\i<=lo+k then xs[i-1]? else xs[i]? :=λi=>by
     rw [getElem?_bubble hs _ (by lia),show lo+k-(lo+k-(lo+l))=lo+l by lia]
    refine ⟨?_,λi u _ _ hu=>B0y (bubble_perm xs _ _) q1.mem i u hu,λi j u v r1 r2 r3 hu hv=> ?_⟩
    ·show lo+(k+1)<=(bubble xs (lo+k) (lo+k-(lo+l))).size;rw [bubble_size];lia
    ·have hu:(bubble xs (lo+k) (lo+k-(lo+l)))[i]? =some u:=hu;have hv:(bubble xs (lo+k) (lo+k-(lo+l)))[j]? =some v:=hv;rw [hg] at hu hv;by_cases ci:i=lo+l
     ·rw [Z12 ci,hx] at hu;cases hu;by_cases cj:j=lo+l
      ·rw [Z12 cj,hx] at hv;cases hv;exact as.irr sx
      ·rw [Z0t cj,Z12 (by lia)] at hv;exact g5 _ v (by lia) (by lia) hv
     ·rw [Z0t ci] at hu;by_cases cj:j=lo+l
      ·rw [Z12 cj,hx] at hv;cases hv;rw [Z0t (by lia)] at hu;exact g4 _ u r1 (by lia) hu
      ·rw [Z0t cj] at hv;by_cases di:lo+l<i/\i<=lo+k
       ·rw [Z12 di] at hu;rw [Z12 (by lia)] at hv;exact q2.so _ _ u v (by lia) (by lia) (by lia) hu hv
       ·rw [Z0t di] at hu;by_cases dj:lo+l<j/\j<=lo+k
        ·rw [Z12 dj] at hv;exact q2.so _ _ u v r1 (by lia) (by lia) hu hv
        ·rw [Z0t dj] at hv;exact q2.so _ _ u v r1 r2 (by lia) hu hv
theorem seg {arr:Array Keyed} {U X V:List Keyed} (h:arr.toList=U++X++V) {i:Nat} (hi:i<X.length):arr[U.length+i]? =X[i]? :=by
 rw [<-Array.getElem?_toList,h,Z0z,Z1l (by lia),show U.length+i-U.length=i by lia,Z26 hi]
theorem A3z (as:A5z prog w A s κ lt S) {arr:Array Keyed} {U X V:List Keyed} (h:arr.toList=U++X++V) (so:X.Pairwise (Le lt)) (hm:∀x∈X,S x):A0p lt S arr U.length X.length:=by
 have hl:arr.size=U.length+X.length+V.length:=by rw [<-Array.length_toList,h];simp only [Z06]
 have g:∀i x,U.length<=i->i<U.length+X.length->arr[i]? =some x->X[i-U.length]? =some x:=λi x h1 h2 hx=>by
  rw [<-seg h (by lia),show U.length+(i-U.length)=i by lia];exact hx
 refine ⟨by lia,λi x h1 h2 hx=>hm x (Z13 (g i x h1 h2 hx)),λi j x y h1 h2 h3 hx hy=> ?_⟩;have gx:=g i x h1 (by lia) hx;have gy:=g j y (by lia) h3 hy;by_cases c:i=j
 ·rw [c] at gx;have e:x=y:=Z1a (gx.symm.trans gy);rw [<-e];exact as.irr (hm x (Z13 gx))
 ·rw [List.pairwise_iff_getElem] at so;obtain ⟨lx,ex⟩:=Z03.mp gx;obtain ⟨ly,ey⟩:=Z03.mp gy;rw [<-ex,<-ey];exact so _ _ lx ly (by lia)
theorem B0b {sa:Nat} {V:List Keyed}:∀(m W U:List Keyed) (n:Nat) (arr:Array Keyed),arr.toList=U++W++V->W.length=m.length->U.length=sa+n->((m.zipIdx n).foldl (λa (p,j)=>a.setIfInBounds (sa+j) p) arr).toList=U++m++V
 | [],[],U,n,arr,h,_,_=>h
 | p::m,q::W,U,n,arr,h,h1,h2=>by
  rw [List.zipIdx_cons,List.foldl_cons]
  have:=B0b (sa:=sa) (V:=V) m W (U++[p]) (n+1) (arr.setIfInBounds (sa+n) p) (by
   rw [Array.toList_setIfInBounds,h,<-h2]
   simp) (by simpa using h1) (by simp;lia)
  rw [Z0z] at this⊢;rw [Z0z] at this;exact this
theorem B6w {st':SortSt} {Q:PUnit->SortSt->Prop} {st:SortSt} (h:Q ⟨⟩ st'):wpS (model prog w) A E s (set st':SM PUnit) Q st:=by
 unfold wpS;rw [StateT.run_set];exact Z04 ⟨rfl,h⟩
theorem B2i {arr:Array Keyed} {U X V:List Keyed} (h:arr.toList=U++X++V):(arr.extract U.length (U.length+X.length)).toList=X:=by
 rw [Array.toList_extract,List.extract_eq_drop_take,h,Z0z,List.drop_left,show U.length+X.length-U.length=X.length by lia,List.take_left]
theorem B6k (as:A5z prog w A s κ lt S) {a:Array Keyed} (so:a.toList.Pairwise (Le lt)) (hm:∀x∈a.toList,S x):A0u lt S a:=by
 have:=A3z as (arr:=a) (U:=[]) (X:=a.toList) (V:=[]) (by simp) so hm;refine ⟨λi x hx=>hm x (by have:=Array.mem_of_getElem? hx;simpa using this),λi j x y h1 hx hy=>this.so i j x y (Z1e _) h1 ?_ hx hy⟩;have:=(Z1m.mp hy).1
 simpa using this
theorem A8o (as:A5z prog w A s κ lt S) {arr:Array Keyed} {P:Array (Nat×Nat×Nat)} {i pw pw':Nat} {U X Y V:List Keyed} {g:Nat} {Q:Bool->SortSt->Prop} (h:arr.toList=U++X++Y++V) (hm:∀x∈arr.toList,S x) (sX:X.Pairwise (Le lt)) (sY:Y.Pairwise (Le lt)) (nX:X≠[]) (nY:Y≠[])
  (p1:P[i]? =some (U.length,X.length,pw)) (p2:P[i+1]? =some (U.length+X.length,Y.length,pw'))
  (hq:∀(xs:Array Keyed) (Z:List Keyed) g',xs.toList=U++Z++V->Z.Perm (X++Y)->Z.Pairwise (Le lt)->Q true (SortSt.mk' κ xs ((P.setIfInBounds i (U.length,X.length+Y.length,pw)).eraseIdxIfInBounds (i+1)) g' none)) :
  wpS (model prog w) A E s (mergeAt' i) Q (SortSt.mk' κ arr P g none):=by
 rw [A9p];refine wpS_bind (wpS_get ?_);dsimp only;rw [p1,p2];dsimp only;refine wpS_bind (B6w ?_);have hX:0<X.length:=List.length_pos_iff.mpr nX;have hY:0<Y.length:=List.length_pos_iff.mpr nY;have hXY:arr.toList=U++X++(Y++V):=by rw [h];simp
 have hYV:arr.toList=(U++X)++Y++V:=by rw [h]
 have mX:∀x∈X,S x:=λx hx=>hm x (by rw [h];simp [hx]);have mY:∀x∈Y,S x:=λx hx=>hm x (by rw [h];simp [hx]);have sIX:=A3z as hXY sX mX;have sIY:=A3z as hYV sY mY;rw [Z06] at sIY
 have gX:∀i x,X[i]? =some x->arr[U.length+i]? =some x:=λi x hx=>by
  rw [seg hXY (Z03.mp hx).1];exact hx
 have gY:∀i x,Y[i]? =some x->arr[U.length+X.length+i]? =some x:=λi x hx=>by
  have:=seg hYV (Z03.mp hx).1;rw [Z06] at this;rw [this];exact hx
 have ix:∀x∈X,∃i,i<X.length/\X[i]? =some x:=λx hx=>by
  obtain ⟨i,hi⟩:=List.getElem?_of_mem hx;exact ⟨i,(Z03.mp hi).1,hi⟩
 have iy:∀x∈Y,∃i,i<Y.length/\Y[i]? =some x:=λx hx=>by
  obtain ⟨i,hi⟩:=List.getElem?_of_mem hx;exact ⟨i,(Z03.mp hi).1,hi⟩
 obtain ⟨y0,hy0⟩:∃y,Y[0]? =some y:=⟨_,Z0b hY⟩;obtain ⟨xl,hxl⟩:∃x,X[X.length-1]? =some x:=⟨_,Z0b (by lia)⟩;have sy0:=mY y0 (Z13 hy0);have sxl:=mX xl (Z13 hxl);have ay0:=gY 0 y0 hy0;rw [Nat.add_zero] at ay0;have axl:=gX _ xl hxl;have easy:(∀x∈X,∀y∈Y,Le lt x y)->(X++Y).Pairwise (Le lt):=λh=>List.pairwise_append.mpr ⟨sX,sY,h⟩
 have hy0':∀y∈Y,Le lt y0 y:=λy hy=>by
  obtain ⟨i,hi,e⟩:=iy y hy;exact sIY.so (U.length+X.length) _ y0 y (Z09 _) (Nat.le_add_right _ i) (by lia) ay0 (gY i y e)
 have hxl':∀x∈X,Le lt x xl:=λx hx=>by
  obtain ⟨i,hi,e⟩:=ix x hx;exact sIX.so (U.length+i) _ x xl (by lia) (by lia) (by lia) (gX i x e) axl
 refine wpS_bind (A0r ay0 ?_);refine wpS_bind (B7n as rfl sy0 sIX hX ?_);intro k k1 k2 k3;dsimp only;by_cases c1:X.length-k=0
 ·rw [Z12 (by simpa using c1)];refine wpS_pure (hq arr (X++Y) g (by rw [h];simp) (List.Perm.refl _) (easy λx hx y hy=> ?_));obtain ⟨i,hi,e⟩:=ix x hx;exact as.tr x y0 y (mX x hx) sy0 (mY y hy) (k2 _ x (by lia) (by lia) (gX i x e)) (hy0' y hy)
 rw [Z0t (by simpa using c1)];have el:U.length+k+(X.length-k)-1=U.length+(X.length-1):=by lia
 rw [el];refine wpS_bind (A0r axl ?_);refine wpS_bind (B7c as rfl sxl sIY (show Y.length-1<Y.length by lia) ?_);intro n n1 n2 n3;dsimp only;by_cases c2:n=0
 ·rw [Z12 (by simpa using c2)];refine wpS_pure (hq arr (X++Y) g (by rw [h];simp) (List.Perm.refl _) (easy λx hx y hy=> ?_));obtain ⟨i,hi,e⟩:=iy y hy;exact as.tr x xl y (mX x hx) sxl (mY y hy) (hxl' x hx) (n3 _ y (by lia) (by lia) (gY i y e))
 rw [Z0t (by simpa using c2)];have eX:X=X.take k++X.drop k:=(Z2e k X).symm;have eY:Y=Y.take n++Y.drop n:=(Z2e n Y).symm;have tk:(X.take k).length=k:=by rw [Z0x];lia
 have dk:(X.drop k).length=X.length-k:=Z19;have tn:(Y.take n).length=n:=by rw [Z0x];lia
 have ex:(arr.extract (U.length+k) (U.length+X.length)).toList=X.drop k:=by
  have:=B2i (arr:=arr) (U:=U++X.take k) (X:=X.drop k) (V:=Y++V) (by
   rw [hXY]
   conv=>lhs;rw [eX]
   simp only [Z0z])
  rw [Z06,tk,dk,show U.length+k+(X.length-k)=U.length+X.length by lia] at this;exact this
 have ey:(arr.extract (U.length+X.length) (U.length+X.length+n)).toList=Y.take n:=by
  have:=B2i (arr:=arr) (U:=U++X) (X:=Y.take n) (V:=Y.drop n++V) (by
   rw [hYV]
   conv=>lhs;rw [eY]
   simp only [Z0z])
  rw [Z06,tn] at this;exact this
 generalize arr.extract (U.length+k) (U.length+X.length)=ax at ex⊢;generalize arr.extract (U.length+X.length) (U.length+X.length+n)=ay at ey⊢;have sax:A0u lt S ax:=B6k as (by rw [ex];exact sX.sublist (List.drop_sublist _ _)) λx hx=>mX x (List.mem_of_mem_drop (by rw [ex] at hx;exact hx));have say:A0u lt S ay:=B6k as (by rw [ey];exact sY.sublist (List.take_sublist _ _)) λx hx=>mY x (Z2p (by rw [ey] at hx;exact hx));have zx:ax.size=X.length-k:=by rw [<-Array.length_toList,ex,dk]
 have zy:ay.size=n:=by rw [<-Array.length_toList,ey,tn]
 have ax0:∀i,ax[i]? =X[k+i]? :=λi=>by rw [<-Array.getElem?_toList,ex,List.getElem?_drop]
 have b0:∀x y,ay[0]? =some x->ax[0]? =some y->Le lt x y:=λx y hx hy=>by
  rw [<-Array.getElem?_toList,ey,List.getElem?_take_of_lt (by lia),hy0] at hx;cases hx;rw [ax0] at hy;exact as.asym _ _ sy0 (mX y (Z13 hy)) (k3 _ y (by lia) (by lia) (gX _ y hy))
 have bl:∀x y,ax[ax.size-1]? =some x->y∈ay.toList->Le lt y x:=λx y hx hy=>by
  rw [ax0,zx,show k+(X.length-k-1)=X.length-1 by lia,hxl] at hx;cases hx;rw [ey] at hy;obtain ⟨i,hi⟩:=List.getElem?_of_mem hy;have hl:=(Z03.mp hi).1;rw [tn] at hl;rw [List.getElem?_take_of_lt hl] at hi;exact as.asym _ _ (mY y (Z13 hi)) sxl (n2 _ y (by lia) (by lia) (gY i y hi))
 have rest:∀(r:Array Keyed) (g':Nat),Res lt ax ay r->wpS (model prog w) A E s (do
   modify λs=>setArr s (r.toList.zipIdx.foldl (λa (p,j)=>a.setIfInBounds (U.length+k+j) p) (arrOf s))
   return (failedOf (<-get)).isNone:SM Bool) Q (SortSt.mk' κ arr ((P.setIfInBounds i (U.length,X.length+Y.length,pw)).eraseIdxIfInBounds (i+1)) g' none):=λr g' hr=>by
  refine wpS_bind (wpS_modify (wpS_bind (wpS_get (wpS_pure ?_))));obtain ⟨rp,rs⟩:=hr;rw [ex,ey] at rp
  have fp:=B0b (sa:=U.length+k) (V:=Y.drop n++V) r.toList (X.drop k++Y.take n) (U++X.take k) 0 arr (by
   rw [h]
   conv=>lhs;rw [eX,eY]
   simp only [Z0z]) rp.length_eq.symm (by rw [Z06,tk];rfl)
  refine hq _ (X.take k++r.toList++Y.drop n) g' (by
   refine fp.trans ?_
   simp only [Z0z]) ?_ ?_
  ·have:(X.take k++r.toList++Y.drop n).Perm (X.take k++(X.drop k++Y.take n)++Y.drop n):=(rp.append_left _).append_right _;refine this.trans ?_
   conv=>rhs;rw [eX,eY]
   simp only [Z0z];exact List.Perm.refl _
  ·have inr:∀x∈r.toList,x∈X.drop k\/x∈Y.take n:=λx hx=>Z07.mp (rp.mem_iff.mp hx)
   have hA:∀x∈X.take k,Le lt x y0:=λx hx=>by
    obtain ⟨i,hi⟩:=List.getElem?_of_mem hx;have hl:=(Z03.mp hi).1;rw [tk] at hl;rw [List.getElem?_take_of_lt hl] at hi;exact k2 _ x (by lia) (by lia) (gX i x hi)
   have hB:∀y∈Y.drop n,Le lt xl y:=λy hy=>by
    obtain ⟨i,hi⟩:=List.getElem?_of_mem hy;rw [List.getElem?_drop] at hi;have hl:=(Z03.mp hi).1;exact n3 _ y (by lia) (by lia) (gY _ y hi)
   have sX':=sX;rw [eX,List.pairwise_append] at sX';have sY':=sY;rw [eY,List.pairwise_append] at sY';rw [List.pairwise_append,List.pairwise_append];refine ⟨⟨sX'.1,rs,λx hx y hy=> ?_⟩,sY'.2.1,λx hx y hy=> ?_⟩
   ·rcases inr y hy with q | q
    ·exact sX'.2.2 x hx y q
    ·exact as.tr x y0 y (mX x (Z2p hx)) sy0 (mY y (Z2p q)) (hA x hx) (hy0' y (Z2p q))
   ·have yy:=mY y (List.mem_of_mem_drop hy);rcases Z07.mp hx with q | q
    ·exact as.tr x y0 y (mX x (Z2p q)) sy0 yy (hA x q) (hy0' y (List.mem_of_mem_drop hy))
    ·rcases inr x q with q | q
     ·exact as.tr x xl y (mX x (List.mem_of_mem_drop q)) sxl yy (hxl' x (List.mem_of_mem_drop q)) (hB y hy)
     ·exact sY'.2.2 x q y hy
 by_cases c3:X.length-k<=n
 ·rw [Z12 c3];exact wpS_bind (A8r as rfl sax say (by lia) (by lia) b0 bl λr g' hr=>rest r g' hr)
 ·rw [Z0t c3];exact wpS_bind (A9e as rfl sax say (by lia) (by lia) b0 bl λr g' hr=>rest r g' hr)
def A2y:List (Nat×Nat×Nat)->Nat->List (List Keyed)->Prop
 | [],_,[]=>True
 | e::ps,s,L::Ls=>e.1=s/\e.2.1=L.length/\A2y ps (s+L.length) Ls
 | [],_,_::_=>False
 | _::_,_,[]=>False
theorem A2y.len:∀{ps:List (Nat×Nat×Nat)} {s:Nat} {Ls:List (List Keyed)},A2y ps s Ls->ps.length=Ls.length
 | [],_,[],_=>rfl
 | e::ps,s,L::Ls,h=>by rw [Z0y,Z0y,A2y.len h.2.2]
theorem A2y.push:∀{ps:List (Nat×Nat×Nat)} {s:Nat} {Ls:List (List Keyed)},A2y ps s Ls->∀(lo:Nat) (L:List Keyed) (q:Nat),lo=s+Ls.flatten.length->A2y (ps++[(lo,L.length,q)]) s (Ls++[L])
 | [],s,[],_,lo,L,q,e=>⟨by simpa using e,rfl,trivial⟩
 | _::ps,s,M::Ls,h,lo,L,q,e=>⟨h.1,h.2.1,A2y.push h.2.2 lo L q (by rw [e,List.flatten_cons,Z06];lia)⟩
theorem A2y.congr:∀{ps qs:List (Nat×Nat×Nat)} {s:Nat} {Ls:List (List Keyed)},A2y ps s Ls->ps.map (λe=>(e.1,e.2.1))=qs.map (λe=>(e.1,e.2.1))->A2y qs s Ls
 | [],[],_,[],_,_=>trivial
 | e::ps,f::qs,s,L::Ls,h,he=>by
  simp only [Z0p,List.cons.injEq,Prod.mk.injEq] at he;exact ⟨he.1.1▸h.1,he.1.2▸h.2.1,A2y.congr h.2.2 he.2⟩
theorem A2y.split:∀(i:Nat) {ps:List (Nat×Nat×Nat)} {s:Nat} {Ls:List (List Keyed)},A2y ps s Ls->i+1<ps.length->∃(L1:List (List Keyed)) (X Y:List Keyed) (L2:List (List Keyed)) (p1:List (Nat×Nat×Nat)) (pw pw':Nat) (p2:List (Nat×Nat×Nat)),Ls=L1++X::Y::L2/\ps=p1++(s+L1.flatten.length,X.length,pw)::(s+L1.flatten.length+X.length,Y.length,pw')::p2/\p1.length=i/\∀(Z:List Keyed),Z.length=X.length+Y.length->A2y (p1++(s+L1.flatten.length,X.length+Y.length,pw)::p2) s (L1++Z::L2)
 | 0,e::f::ps,s,X::Y::Ls,h,_=>by
  obtain ⟨h1,h2,h3,h4,h5⟩:=h;refine ⟨[],X,Y,Ls,[],e.2.2,f.2.2,ps,rfl,?_,rfl,λZ hZ=>⟨rfl,hZ.symm,?_⟩⟩
  ·show e::f::ps=_;obtain ⟨e1,e2,e3⟩:=e;obtain ⟨f1,f2,f3⟩:=f;dsimp only at h1 h2 h3 h4;subst h1 h2 h3 h4;rfl
  ·rw [hZ,<-Nat.add_assoc];exact h5
 | i+1,e::ps,s,M::Ls,h,hl=>by
  obtain ⟨L1,X,Y,L2,p1,pw,pw',p2,e1,e2,e3,e4⟩:=A2y.split i h.2.2 (by simpa using hl);have ea:s+(M::L1).flatten.length=s+M.length+L1.flatten.length:=by rw [List.flatten_cons,Z06];lia
  refine ⟨M::L1,X,Y,L2,e::p1,pw,pw',p2,by rw [e1];rfl,?_,by rw [Z0y,e3],λZ hZ=>⟨h.1,h.2.1,?_⟩⟩
  ·rw [ea,e2];rfl
  ·rw [ea];exact e4 Z hZ
theorem B5x {P:Array (Nat×Nat×Nat)} {p1 p2:List (Nat×Nat×Nat)} {e e' v:Nat×Nat×Nat} {i:Nat} (h:P.toList=p1++e::e'::p2) (hi:p1.length=i):((P.setIfInBounds i v).eraseIdxIfInBounds (i+1)).toList=p1++v::p2:=by
 rw [Array.toList_eraseIdxIfInBounds,Array.toList_setIfInBounds,h,<-hi];simp [List.eraseIdx_append_of_length_le]
structure Rn (κ:SortKind) (lt:Keyed->Keyed->Bool) (a0:Array Keyed) (lo:Nat) (rest:List Keyed) (n:Nat) (st:SortSt):Prop where
 ex:∃(xs:Array Keyed) (P:Array (Nat×Nat×Nat)) (g:Nat) (Ls:List (List Keyed)),st=SortSt.mk' κ xs P g none/\xs.toList=Ls.flatten++rest/\A2y P.toList 0 Ls/\(∀L∈Ls,L≠[]/\L.Pairwise (Le lt))/\Ls.flatten.length=lo/\xs.Perm a0/\P.size=n
theorem A4t (as:A5z prog w A s κ lt S) {a0:Array Keyed} (hm:∀x∈a0.toList,S x) {lo n i:Nat} {rest:List Keyed} {st:SortSt} {Q:Bool->SortSt->Prop} (h:Rn κ lt a0 lo rest n st) (hi:i+1<n) (hq:∀st',Rn κ lt a0 lo rest (n-1) st'->Q true st'):wpS (model prog w) A E s (mergeAt' i) Q st:=by
 obtain ⟨xs,P,g,Ls,rfl,e1,e2,e3,e4,e5,e6⟩:=h.ex;obtain ⟨L1,X,Y,L2,p1,pw,pw',p2,f1,f2,f3,f4⟩:=A2y.split i e2 (by rw [Array.length_toList,e6];exact hi);simp only [Nat.zero_add] at f2 f4;subst f1;have hx:xs.toList=L1.flatten++X++Y++(L2.flatten++rest):=by rw [e1];simp
 have mx:∀x∈xs.toList,S x:=λx hx=>hm x ((Array.perm_iff_toList_perm.mp e5).mem_iff.mp hx);refine A8o as hx mx (e3 X (by simp)).2 (e3 Y (by simp)).2 (e3 X (by simp)).1 (e3 Y (by simp)).1 (pw:=pw) (pw':=pw') ?_ ?_ ?_
 ·rw [<-Array.getElem?_toList,f2,<-f3,Z1l (Z09 _),Nat.sub_self];rfl
 ·rw [<-Array.getElem?_toList,f2,<-f3,Z1l (by lia),show p1.length+1-p1.length=1 by lia];rfl
 ·intro xs' Z g' h1 h2 h3;refine hq _ ⟨xs',_,g',L1++Z::L2,rfl,by rw [h1];simp,by rw [B5x f2 f3];exact f4 Z (by rw [h2.length_eq,Z06]),λL hL=> ?_,?_,?_,?_⟩
  ·rcases Z07.mp hL with q | q
   ·exact e3 L (by simp [q])
   ·rcases Z0e.mp q with q | q
    ·subst q;refine ⟨λe=> ?_,h3⟩;rw [e] at h2;have:=h2.length_eq;rw [Z06] at this;have:=List.length_pos_iff.mpr (e3 X (by simp)).1;simp at *
     lia
    ·exact e3 L (by simp [q])
  ·have:=h2.length_eq;rw [<-e4];simp only [List.flatten_append,List.flatten_cons,Z06] at this⊢
   lia
  ·refine Array.Perm.trans ?_ e5;rw [Array.perm_iff_toList_perm,h1,hx];simp only [Z0z];refine List.Perm.append_left _ ?_;rw [<-Z0z,<-Z0z,<-Z0z];simp only [Z0z];rw [<-Z0z X Y];exact h2.append_right _
  ·have h7:=congrArg List.length f2;have h8:=congrArg List.length (B5x (v:=(L1.flatten.length,X.length+Y.length,pw)) f2 f3);simp only [Array.length_toList,Z06,Z0y] at h7 h8
   lia
theorem B0l {a1 xs:Array Keyed} {F:List Keyed} {R:List Keyed} {n:Nat} (h:a1.toList=F++R) (b:Bs S a1 F.length xs) (so:A0p lt S xs F.length n):∃L R',xs.toList=F++(L++R')/\L.length=n/\L.Pairwise (Le lt):=by
 have hl:=so.len;refine ⟨(xs.toList.drop F.length).take n,(xs.toList.drop F.length).drop n,?_,?_,?_⟩
 ·rw [Z2e]
  have e:xs.toList.take F.length=F:=by
   apply List.ext_getElem?;intro i;by_cases hi:i<F.length
   ·rw [List.getElem?_take_of_lt hi,Array.getElem?_toList,b.low i hi,<-Array.getElem?_toList,h,Z26 hi]
   ·rw [List.getElem?_eq_none (by rw [Z0x];lia),List.getElem?_eq_none (by lia)]
  conv=>lhs;rw [<-Z2e F.length xs.toList,e]
 ·rw [Z0x,Z19,Array.length_toList]
  lia
 ·rw [List.pairwise_iff_getElem];intro i j hi hj hij;rw [Z0x,Z19,Array.length_toList] at hi hj;refine so.so (F.length+i) (F.length+j) _ _ (by lia) (by lia) (by lia) ?_ ?_
  ·rw [List.getElem_take,List.getElem_drop,<-Array.getElem?_toList];exact Z0b _
  ·rw [List.getElem_take,List.getElem_drop,<-Array.getElem?_toList];exact Z0b _
theorem Rn.push {a0:Array Keyed} {lo n:Nat} {L R:List Keyed} {st:SortSt} (h:Rn κ lt a0 lo (L++R) n st) (hL:L≠[]) (sL:L.Pairwise (Le lt)):Rn κ lt a0 (lo+L.length) R (n+1) (setPending st ((pendingOf st).push (lo,L.length,0))):=by
 obtain ⟨xs,P,g,Ls,rfl,e1,e2,e3,e4,e5,e6⟩:=h.ex;refine ⟨xs,P.push (lo,L.length,0),g,Ls++[L],rfl,by rw [e1];simp,?_,λM hM=> ?_,by rw [<-e4];simp,e5,by rw [Array.size_push,e6]⟩
 ·rw [Array.toList_push];exact e2.push lo L 0 (by lia)
 ·rcases Z07.mp hM with q | q
  ·exact e3 M q
  ·rw [Z0w.mp q];exact ⟨hL,sL⟩
theorem Rn.modify {a0:Array Keyed} {lo n:Nat} {R:List Keyed} {st:SortSt} (h:Rn κ lt a0 lo R n st) (i:Nat) {f:Nat×Nat×Nat->Nat×Nat×Nat} (hf:∀e,(f e).1=e.1/\(f e).2.1=e.2.1):Rn κ lt a0 lo R n (setPending st ((pendingOf st).modify i f)):=by
 obtain ⟨xs,P,g,Ls,rfl,e1,e2,e3,e4,e5,e6⟩:=h.ex;refine ⟨xs,P.modify i f,g,Ls,rfl,e1,e2.congr ?_,e3,e4,e5,by rw [Array.size_modify,e6]⟩;rw [Array.toList_modify];apply List.ext_getElem?;intro j;rw [Z1z,Z1z,List.getElem?_modify];by_cases c:i=j
 ·simp only [c,if_true]
  cases P.toList[j]? with
  | none=>rfl
  | some e=>simp [hf e]
 ·simp only [c,if_false];cases P.toList[j]? <;> rfl
theorem A7x (as:A5z prog w A s κ lt S) {a0:Array Keyed} (hm:∀x∈a0.toList,S x) {g0:Nat} {Q:Unit->SortSt->Prop}
  (hq:∀(xs:Array Keyed) P g,xs.Perm a0->xs.toList.Pairwise (Le lt)->Q () (SortSt.mk' κ xs P g none)):wpS (model prog w) A E s sortRuns' Q (SortSt.mk' κ a0 #[] g0 none):=by
 rw [sortRuns'_eq];refine wpS_bind (wpS_get ?_);dsimp only;rw [show (arrOf (SortSt.mk' κ a0 #[] g0 none)).size=a0.size from rfl];generalize minRun' a0.size a0.size 0=mr
 refine wpS_bind (wpS_mono (wpS_forRange (I:=λx c t=>∃lo rest n,c=(none,lo)/\x<=lo/\Rn κ lt a0 lo rest n t)
  (Q:=λc t=>∃lo rest n,c=(none,lo)/\a0.size<=lo/\Rn κ lt a0 lo rest n t) ?step ?fin ⟨0,a0.toList,0,rfl,by lia,⟨a0,#[],g0,[],rfl,rfl,trivial,by simp,rfl,Array.Perm.refl _,rfl⟩⟩) ?post)
 case fin =>
  rintro c t ⟨lo,rest,n,rfl,h1,h2⟩;exact ⟨lo,rest,n,rfl,by lia,h2⟩
 case step =>
  rintro x c t _ hx ⟨lo,rest,np,rfl,h1,h2⟩;dsimp only;by_cases c1:lo≥a0.size
  ·rw [Z12 c1];exact wpS_pure ⟨lo,rest,np,rfl,c1,h2⟩
  rw [Z0t c1];obtain ⟨xs,P,g,Ls,rfl,e1,e2,e3,e4,e5,e6⟩:=h2.ex;subst e4;have zx:xs.size=a0.size:=e5.size_eq;have mx:∀(i:Nat) (x:Keyed),xs[i]? =some x->S x:=λi x hx=>hm x ((Array.perm_iff_toList_perm.mp e5).mem_iff.mp (by have:=Array.mem_of_getElem? hx;simpa using this));have b0:Bs S xs Ls.flatten.length xs:=⟨Array.Perm.refl _,λi _=>rfl,mx⟩;refine wpS_bind (A7t as (a1:=xs) (lo:=Ls.flatten.length) rfl b0 (by lia) (by lia) ?_);intro n xs1 n1 n2 b1 s1;dsimp only;by_cases c2:n<mr
  case' pos =>
   rw [Z12 c2];refine wpS_bind (A3e ?_);have hf:n<=min (a0.size-Ls.flatten.length) mr:=by lia
   refine wpS_bind (A6b as (a1:=xs) (st:=SortSt.mk' κ xs1 P g none) rfl b1 (show Ls.flatten.length+min (a0.size-Ls.flatten.length) mr<=xs.size by lia) n1 hf s1 λxs2 b s2=> ?_);simp only [Bool.not_true,Bool.false_eq_true,if_false];obtain ⟨L,R,f1,f2,f3⟩:=B0l e1 b s2;rw [<-f2]
  case' neg =>
   rw [Z0t c2];have b:=b1;obtain ⟨L,R,f1,f2,f3⟩:=B0l e1 b s1;rw [<-f2]
  all_goals
   have hL:L≠[]:=λe=>by rw [e,Z2g] at f2;lia
   have r0:Rn κ lt a0 Ls.flatten.length (L++R) np (SortSt.mk' κ _ P g none):=⟨_,P,g,Ls,rfl,f1,e2,e3,rfl,b.pm.trans e5,e6⟩;have hL1:=List.length_pos_iff.mpr hL
   have fin:∀np t,Rn κ lt a0 Ls.flatten.length (L++R) np t->wpS (model prog w) A E s (do
     modify λs=>setPending s ((pendingOf s).push (Ls.flatten.length,L.length,0))
     return ForInStep.yield (none,Ls.flatten.length+L.length):SM (ForInStep (Option Unit×Nat))) (λr st'=>match r with
     | .done c'=>∃lo rest n,c'=(none,lo)/\a0.size<=lo/\Rn κ lt a0 lo rest n st'
     | .yield c'=>∃lo rest n,c'=(none,lo)/\x+1<=lo/\Rn κ lt a0 lo rest n st') t:=λnp t h=>by
    refine wpS_bind (wpS_modify (wpS_pure ?_));exact ⟨_,R,_,rfl,by lia,h.push hL f3⟩
   refine wpS_bind (wpS_get ?_)
   cases hb:P.back? with
   | none=>exact fin np _ r0
   | some e =>
    obtain ⟨s1,n2,q⟩:=e;dsimp only;generalize power' a0.size (2*s1+n2) (2*s1+n2+n2+L.length) a0.size=pw
    refine wpS_bind (wpS_mono (wpS_forRange (I:=λx c t=>c=(none,())/\∃np,Rn κ lt a0 Ls.flatten.length (L++R) np t)
     (Q:=λc t=>c=(none,())/\∃np,Rn κ lt a0 Ls.flatten.length (L++R) np t) ?step3 ?fin3 ⟨rfl,np,r0⟩) ?post3)
    case fin3=>exact λc t h=>h
    case post3 =>
     rintro c t ⟨rfl,np',r1⟩;dsimp only;exact wpS_bind (wpS_modify (fin np' _ (r1.modify _ λe=>⟨rfl,rfl⟩)))
    case step3 =>
     rintro y c t _ _ ⟨rfl,np',r1⟩;refine wpS_bind (wpS_get ?_)
     have hp:(pendingOf t).size=np':=by
      obtain ⟨xs,P,g,Ls,rfl,e1,e2,e3,e4,e5,e6⟩:=r1.ex;exact e6
     by_cases c3:(pendingOf t).size>1
     ·rw [Z12 c3]
      cases (pendingOf t)[(pendingOf t).size-2]? with
      | none=>exact wpS_pure ⟨rfl,np',r1⟩
      | some e =>
       obtain ⟨o1,o2,older⟩:=e;dsimp only;by_cases c4:older<=pw
       ·rw [Z12 c4];exact wpS_pure ⟨rfl,np',r1⟩
       rw [Z0t c4];refine wpS_bind (A4t as hm r1 (by lia) λst' h3=> ?_);simp only [Bool.not_true,Bool.false_eq_true,if_false];exact wpS_pure ⟨rfl,_,h3⟩
     ·rw [Z0t c3];exact wpS_pure ⟨rfl,np',r1⟩
 case post =>
  rintro c t ⟨lo,rest,n,rfl,h1,h2⟩;dsimp only
  have hn:n<=a0.size/\rest=[]:=by
   obtain ⟨xs,P,g,Ls,rfl,e1,e2,e3,e4,e5,e6⟩:=h2.ex;have zx:xs.toList.length=a0.size:=by rw [Array.length_toList];exact e5.size_eq
   rw [e1,Z06] at zx
   have:Ls.length<=Ls.flatten.length:=by
    clear e1 e2 e4 zx h2
    induction Ls with
    | nil=>simp
    | cons L Ls ih =>
     have:=List.length_pos_iff.mpr (e3 L (by simp)).1;have:=ih λM hM=>e3 M (by simp [hM]);rw [List.flatten_cons,Z06,Z0y]
     lia
   have h3:=e2.len;rw [Array.length_toList] at h3;exact ⟨by lia,Z2n.mp (by lia)⟩
  obtain ⟨hn,rfl⟩:=hn
  refine wpS_bind (wpS_mono (wpS_forRange (I:=λx c t=>∃m,c=(none,())/\(m<=1\/m+x<=a0.size)/\Rn κ lt a0 lo [] m t)
   (Q:=λc t=>∃m,c=(none,())/\m<=1/\Rn κ lt a0 lo [] m t) ?step2 ?fin2 ⟨n,rfl,.inr (by lia),h2⟩) ?post2)
  case fin2 =>
   rintro c t ⟨m,rfl,g1,g2⟩;exact ⟨m,rfl,by lia,g2⟩
  case post2 =>
   rintro c t ⟨m,rfl,g1,g2⟩;obtain ⟨xs,P,g,Ls,rfl,e1,e2,e3,e4,e5,e6⟩:=g2.ex;refine wpS_pure (hq xs P g e5 ?_);have h3:=e2.len;rw [Array.length_toList] at h3;rw [e1,Z0u]
   match Ls,h3,e3 with
   | [],_,_=>exact List.Pairwise.nil
   | [L],_,e3=>simpa using (e3 L (by simp)).2
   | _::_::_,h3,_=>simp only [Z0y] at h3;lia
  case step2 =>
   rintro x c t _ hx ⟨m,rfl,g1,g2⟩;refine wpS_bind (wpS_get ?_)
   have hp:(pendingOf t).size=m:=by
    obtain ⟨xs,P,g,Ls,rfl,e1,e2,e3,e4,e5,e6⟩:=g2.ex;exact e6
   by_cases c1:(pendingOf t).size<=1
   ·rw [Z12 c1];exact wpS_pure ⟨m,rfl,by lia,g2⟩
   rw [Z0t c1];refine wpS_bind (A4t as hm g2 (i:=_) (by (repeat' split) <;> lia) λst' h3=> ?_);simp only [Bool.not_true,Bool.false_eq_true,if_false];exact wpS_pure ⟨_,rfl,by lia,h3⟩
end
def A2z:List Int->List Int->Bool
 | _,[]=>false
 | [],_::_=>true
 | x::xs,y::ys=>if x=y then A2z xs ys else decide (x<y)
theorem A5n:∀(x y:List Int),A2z x y=true->A2z y x=false
 | [],[],h=>by cases h
 | _::_,[],h=>by cases h
 | [],y::ys,_=>rfl
 | x::xs,y::ys,h=>by
  unfold A2z at h⊢;by_cases c:x=y
  ·rw [Z12 c] at h;rw [Z12 c.symm];exact A5n xs ys h
  ·rw [Z0t c] at h;rw [Z0t λe=>c e.symm];have:=of_decide_eq_true h;exact Z1j (by lia)
theorem B2r:∀(x y z:List Int),A2z y x=false->A2z z y=false->A2z z x=false
 | [],_,z,_,_=>by cases z <;> rfl
 | x::xs,[],z,h,_=>by cases h
 | x::xs,y::ys,[],_,h=>by cases h
 | x::xs,y::ys,z::zs,h1,h2=>by
  unfold A2z at h1 h2⊢;by_cases c1:y=x
  ·rw [Z12 c1] at h1;by_cases c2:z=y
   ·rw [Z12 c2] at h2;rw [Z12 (c2.trans c1)];exact B2r xs ys zs h1 h2
   ·rw [Z0t c2] at h2;rw [Z0t (by lia)];have:=of_decide_eq_false h2;exact Z1j (by lia)
  ·rw [Z0t c1] at h1;have h3:=of_decide_eq_false h1;by_cases c2:z=y
   ·rw [Z0t (by lia)];exact Z1j (by lia)
   ·rw [Z0t c2] at h2;have h4:=of_decide_eq_false h2;rw [Z0t (by lia)];exact Z1j (by lia)
section
variable {prog:Program} {w:World} {A:Around} {E:Value->Shared->Prop} {s:Shared}
theorem B0j {Q:Bool->Shared->Prop}:∀{xs ys:List Value} {ns ms:List Int} (i n k:Nat),IntsAre xs ns->IntsAre ys ms->n+ms.length=k+ns.length->Q (A2z ns ms) s->PySem.W.KatLex prog w A true (decide (n<k)) Q (xs.zip ys) i s
 | [],[],_,_,i,n,k,.nil,.nil,hl,h=>by
  refine PySem.W.kat_nil ?_;simp only [Z2g] at hl;rw [Z1j (by lia)];exact h
 | [],_::_,_,_,i,n,k,.nil,.cons _ _ _,hl,h=>by
  refine PySem.W.kat_nil ?_;simp only [Z2g,Z0y] at hl;rw [Z20 (by lia)];exact h
 | _::_,[],_,_,i,n,k,.cons _ _ _,.nil,hl,h=>by
  refine PySem.W.kat_nil ?_;simp only [Z2g,Z0y] at hl;rw [Z1j (by lia)];exact h
 | _::xs,_::ys,_,_,i,n,k,.cons a t hx,.cons c u hy,hl,h=>by
  rw [List.zip_cons_cons];refine PySem.W.kat_cons (wpAny_eqBool_int ?_);simp only [Z0y] at hl;unfold A2z at h;by_cases e:a=c
  ·rw [Z12 e] at h;rw [show (a == c)=true by simpa using e];exact PySem.W.kat_yes (B0j (i+1) n k hx hy (by lia) h)
  ·rw [Z0t e] at h;rw [show (a == c)=false by simpa using e];refine PySem.W.kat_no ?_;by_cases z:i=0
   ·rw [show (true&&i == 0)=true by simpa using z];exact PySem.W.kat_lt_int (t:=t) (u:=u) h
   ·rw [show (true&&i == 0)=false by simpa using z];exact PySem.W.kat_one _ _ (PyProof.Rows.lt_int h)
def B1x (h:Heap) (v:Value) (ns:List Int):Prop:=∃a o xs n,v= .ref a/\h.get? a=some o/\o.cls= .type "tuple"/\o.data= .seq xs n/\IntsAre xs.toList ns
theorem B0n:∀{xs:List Value} {ns ms:List Int},IntsAre xs ns->IntsAre xs ms->ns=ms
 | _,_,_,.nil,.nil=>rfl
 | _,_,_,.cons a t h,.cons _ _ h'=>by rw [B0n h h']
theorem B1x.one {h:Heap} {v:Value} {ns ms:List Int} (x:B1x h v ns) (y:B1x h v ms):ns=ms:=by
 obtain ⟨a,o,xs,n,rfl,h1,h2,h3,h4⟩:=x;obtain ⟨a',o',xs',n',e,h1',h2',h3',h4'⟩:=y;cases e;rw [h1] at h1';cases h1';rw [h3] at h3';cases h3';exact B0n h4 h4'
open Classical in
noncomputable def B4o (h:Heap) (v:Value):List Int:=if e:∃ns,B1x h v ns then e.choose else []
theorem A6o {h:Heap} {v:Value} {ns:List Int} (x:B1x h v ns):B4o h v=ns:=by
 unfold B4o;have e:∃ns,B1x h v ns:=⟨ns,x⟩;rw [dif_pos e];exact e.choose_spec.one x
theorem B5a:A5z prog w A s (tuples' true) (λx y=>A2z (B4o s.heap x.1) (B4o s.heap y.1)) (λx=>∃ns,B1x s.heap x.1 ns) where
 tr:=λx y z _ _ _=>B2r _ _ _
 asym:=λx y _ _=>A5n _ _
 ask:=λx y ⟨ns,hx⟩ ⟨ms,hy⟩ E Q h=>by
  rw [A6o hx,A6o hy] at h;obtain ⟨a,o,xs,n,e1,h1,h2,h3,h4⟩:=hx;obtain ⟨a',o',xs',n',e1',h1',h2',h3',h4'⟩:=hy;rw [e1,e1'];have l1:=h4.length;have l2:=h4'.length;rw [Array.length_toList] at l1 l2;exact PySem.W.kat_lt h1 h3 h1' h3' (B0j 0 _ _ h4 h4' (by lia) h)
end
section
variable {prog:Program} {w:World} {A:Around} {E:Value->Shared->Prop} {s:Shared}
def A8q (h:Heap) (kS a:Addr) (out:Array Value):Heap:=(h.update kS (Obj.mapSeq λ_=>(#[]:Array Value))).update a (Obj.mapSeq λ_=>out)
theorem B7h {h:Heap} {kS a:Addr} {e1:Nat} (ha:h.get? a=some (seqObj "list" #[] e1)) (hka:kS≠a) (out:Array Value):∃c,(A8q h kS a out).get? a=some (seqObj "list" out c):=by
 have s1:=Heap.SameBut.update h kS (Obj.mapSeq λ_=>(#[]:Array Value));have na1:(h.update kS (Obj.mapSeq λ_=>(#[]:Array Value))).get? a=some (seqObj "list" #[] e1):=(s1.2 a hka.symm).trans ha;exact ⟨_,get?_update_seq na1 λ_=>out⟩
theorem B3m {a kS:Addr} {keys:Array Value} {e e1:Nat} {st:SortSt} {P:PySem.Fin->Shared->Prop} (hk:s.heap.get? kS=some (seqObj "list" keys e)) (ha:s.heap.get? a=some (seqObj "list" #[] e1)) (hka:kS≠a) (hz:keys.size<=sizeLine) (hz2:(arrOf st).size<=sizeLine) (hf:failedOf st=none)
  (h:P (.done (.ret .none)) { s with heap:=A8q s.heap kS a ((arrOf st).map (·.2)) }):wpAny (model prog w) A (ksk_tail a false e1 (.ref kS) st) P E s:=by
 have s1:=Heap.SameBut.update s.heap kS (Obj.mapSeq λ_=>(#[]:Array Value));have na1:(s.heap.update kS (Obj.mapSeq λ_=>(#[]:Array Value))).get? a=some (seqObj "list" #[] e1):=(s1.2 a hka.symm).trans ha;unfold ksk_tail
 try dsimp only
 refine Z00 (listUpdate_at hk rfl ?_ hz (Z1e _));refine Z00 (wpAny_letGo ?_);refine Z00 (seqEpoch_at na1 rfl ?_);simp only [Bool.false_eq_true,if_false];refine Z00 (listUpdate_at na1 rfl ?_ (Z1e _) (by rw [Array.size_map];lia));rw [hf];simp only [bne_self_eq_false,Bool.false_eq_true,if_false];exact Z04 h
theorem B6f:∀{ks:List Value} {h:Heap},(∀k∈ks,∃n ns,B1x h k (n::ns))->∃fs:List Value,PySem.W.KatTups h ks fs/\fs.length=ks.length/\∀v∈fs,∃(n:Int) (t:Tok),v= .int n t
 | [],h,_=>⟨[],PySem.W.KatTups.nil,rfl,λv hv=>by cases hv⟩
 | k::ks,h,hk=>by
  obtain ⟨fs,f1,f2,f3⟩:=B6f (ks:=ks) λq hq=>hk q (Z1f _ hq);obtain ⟨n,ns,a,o,xs,m,rfl,h1,h2,h3,h4⟩:=hk k (Z27)
  cases hx:xs.toList with
  | nil=>rw [hx] at h4;cases h4
  | cons f r =>
   rw [hx] at h4
   cases h4 with
   | cons _ t h5 =>
   refine ⟨.int n t::fs,PySem.W.KatTups.cons h1 h2 h3 (by rw [<-Array.getElem?_toList,hx];rfl) f1,by simp [f2],λv hv=> ?_⟩;rcases Z0e.mp hv with q | q
   ·exact ⟨n,t,q⟩
   ·exact f3 v q
theorem B4q {a kS:Addr} {keys:Array Value} {vs:List Value} {e e1:Nat} {P:PySem.Fin->Shared->Prop} (hk:s.heap.get? kS=some (seqObj "list" keys e)) (ha:s.heap.get? a=some (seqObj "list" #[] e1)) (hka:kS≠a) (hl:keys.size=vs.length) (hz:vs.length<=sizeLine)
  (ht:∀k∈keys.toList,∃n ns,B1x s.heap k (n::ns))
  (h:∀out:List Keyed,out.Perm (keys.toList.zip vs)->out.Pairwise (λx y=>A2z (B4o s.heap y.1) (B4o s.heap x.1)=false)->P (.done (.ret .none)) { s with heap:=A8q s.heap kS a (out.map (·.2)).toArray }) :
  wpAny (model prog w) A (ksk_end a false vs.toArray e1 (.ref kS) keys) P E s:=by
 have hzs:(keys.zip vs.toArray).size=vs.length:=by rw [Array.size_zip,hl,Z0g,Nat.min_self]
 have hzl:=ksk_zip keys vs
 have fin:∀st:SortSt,(arrOf st).Perm (keys.zip vs.toArray)->(arrOf st).toList.Pairwise (λx y=>A2z (B4o s.heap y.1) (B4o s.heap x.1)=false)->failedOf st=none->wpAny (model prog w) A (ksk_tail a false e1 (.ref kS) st) P E s:=λst hp hs hf=>by
  refine B3m hk ha hka (by lia) (by rw [hp.size_eq,hzs];exact hz) hf ?_;have:=h (arrOf st).toList (by rw [<-hzl];exact Array.perm_iff_toList_perm.mp hp) hs;rw [show ((arrOf st).toList.map (·.2)).toArray=(arrOf st).map (·.2) by rw [<-Array.toList_map]] at this;exact this
 unfold ksk_end
 try dsimp only
 simp only [Bool.false_eq_true,if_false];by_cases h2:vs.toArray.size<2
 ·rw [Z12 h2,Z12 h2];refine Z00 (Z04 ?_);rw [StateT.run_pure];refine Z00 (Z04 ?_)
  try dsimp only
  refine fin (SortSt.mk' general' (keys.zip vs.toArray) #[] 7 none) (Array.Perm.refl _) ?_ rfl;show (keys.zip vs.toArray).toList.Pairwise _;have hl1:(keys.zip vs.toArray).toList.length<2:=by rw [Array.length_toList,hzs];simpa using h2
  match (keys.zip vs.toArray).toList,hl1 with
  | [],_=>exact List.Pairwise.nil
  | [x],_=>exact List.pairwise_singleton _ _
  | _::_::_,hl1=>simp only [Z0y] at hl1;lia
 ·rw [Z0t h2,Z0t h2];rw [Z0g] at h2;obtain ⟨fs,f1,f2,f3⟩:=B6f ht;have f2':0<fs.length:=by rw [f2,Array.length_toList,hl];lia
  have hK:keys=keys.toList.toArray:=by simp
  rw [hK];refine Z00 (PySem.W.kat_kind (T:= .type "int") f1 f2' (λv hv=> ?_) rfl ?_)
  ·obtain ⟨n,t,rfl⟩:=f3 v hv;exact .now
  rw [<-hK];rw [show (Value.type "int" != Value.type "tuple")=true from rfl]
  refine Z00 (Z10 (A7x B5a (a0:=keys.zip vs.toArray) (g0:=7) (λx hx=> ?_)
   (Q:=λ_ st'=>(arrOf st').Perm (keys.zip vs.toArray)/\failedOf st'=none/\(arrOf st').toList.Pairwise (λx y=>A2z (B4o s.heap y.1) (B4o s.heap x.1)=false)) λxs Pq g p1 p2=>⟨p1,rfl,p2⟩) ?_ λ_ _ e=>e)
  ·rw [hzl] at hx;obtain ⟨n,ns,q⟩:=ht _ (List.of_mem_zip hx).1;exact ⟨_,q⟩
  ·rintro ⟨⟨⟩,st'⟩ s' ⟨rfl,hp,hf,hs⟩
   try dsimp only
   exact fin st' hp hs hf
end
end SA
namespace L2
open PySem PySem.Spec PyProof.Rows
section
variable {X:Cx}
def tCut (t u:TS):TS:=λD σ H=>∃M:St->Hp->Prop,t { D with nx:=M } σ H/\∀σ' H',M σ' H'->u D σ' H'
theorem B2q {st:Stmt} {rest:List Stmt} {t u:TS} (h1:PS X st t) (h2:PSs X rest u):PSs X (st::rest) (tCut t u):=by
 intro pins s σ H D I h;obtain ⟨M,h,hm⟩:=h;refine wpAny_execs_cons (thn (h1 pins s σ H { D with nx:=M } I h) λf s1 q=> ?_)
 cases f with
 | next =>
  obtain ⟨σ',H',I',q⟩:=q;exact h2 pins s1 σ' H' D I' (hm _ _ q)
 | ret v=>exact q
 | brk=>exact q
 | cont=>exact q
def rIsi (K:Frag):List V->Hp->VK->Prop:=λxs H Q=>∃x c t b,xs=[x,c]/\A9a K H x t/\(∀u,A2a c u->kitOne K t u=some b)/\Q (.bl b) H
theorem A2c:A7r X (.builtin "isinstance") (rIsi X.K):=by
 intro pins s σ H xs us Q I r h;obtain ⟨x,c,t,b,rfl,ty,e,q⟩:=h;obtain ⟨u,w',rfl,ru,rw'⟩:=B9a r;exact B2g I ru ty (e w' rw') λtk=>⟨.bl b,H,I.tok tk,rfl,q⟩
theorem A3x {K:Frag} (T:String):∀u,A2a (.ty T) u->kitOne K (.type T) u=some true:=by
 intro u h;cases (show u=Value.type T from h);unfold kitOne;rw [Z12 (beq_self_eq_true _)]
theorem B9c {K:Frag} {T U:String} {b:Bool} (h:(Value.type T == Value.type U)=false) (hm:PySem.W.kitMeta U=true) (hs:(PySem.fastBuiltinMro T).map (·.contains (Value.type U))=some b) :
  ∀u,A2a (.ty U) u->kitOne K (.type T) u=some b:=by
 intro u z;cases (show u=Value.type U from z);unfold kitOne;rw [Z0t (by rw [h];exact Z0v)];show (if PySem.W.kitMeta U=true then subIn K (.type T) (.type U) else none)=some b;rw [Z12 hm];exact hs
end
section
variable {prog:Program} {w:World} {A:Around} {E:Value->Shared->Prop} {s:Shared}
end
section
variable {z TI TO i1 i2 l1 l2:Addr} {st1 st2:Nat->Heap->Prop} {src1 src2:Array Value->Heap->Prop} {prog:Program} {w:World} {A:Around} {E:Value->Shared->Prop} {s:Shared}
end
section
variable {X:Cx} {pins:List (Addr×Obj)} {σ:St} {H:Hp} {s:Shared} {h':Heap}
theorem Inv.turnedL {t':Nat} {ts:List Addr} (I:Inv X pins σ H s) (k:∀b u,b∉ts->s.heap.get? b=some u->h'.get? b=some u) (f:∀b∈ts,A8l X pins H b):Inv X pins σ H { s with heap:=h',toks:=t' }:=by
 have nt:∀b u,H b=some u->b∉ts:=λb u e z=>by have:=(f b z).1;rw [e] at this;cases this
 refine I.step (g':=s.gens) (d':=s.drawn) (ch:=ts) (λb hb=>⟨(f b hb).2.2.2.1,(f b hb).2.1,(f b hb).2.2.2.2.1,(f b hb).2.2.2.2.2⟩) (λb u _ _ hc e _=>k b u hc e) (λb u _ _ hc e _=>⟨u.slots,k b u hc e⟩)
  (λb u _ e n=>n) (λb u hc e=>⟨u,k b u hc e⟩) (λb xs e=>e) (λb u xs e=>e) (λb ps e=>⟨#[],by rw [e];simp⟩) (λm hm=> ?_) (λb u e=> ?_) I.bare
 ·obtain ⟨ob,es,ep,ho,r⟩:=hm;exact ⟨ob,es,ep,k _ ob (λz=>(f _ z).2.1 rfl) ho,r⟩
 ·refine (I.hok b u e).stay (λc v hc q=>k c v ?_ q) (λc q=>q) λc xs q=>q;rcases hc with rfl | hc
  ·exact nt _ _ e
  ·exact nt _ _ hc
end
structure B7j (X:Cx) (scope:Scope) (cl:List (Str×Addr)):Prop where
 eq:closureFor scope X.env=pure cl
 sub:∀x c,cl.lookup x=some c->X.env.cells.lookup x=some c
 has:∀x,((relabel scope X.env).names.lookup x=some .cell\/(relabel scope X.env).names.lookup x=some .free)->∃c,cl.lookup x=some c
 kind:scope.kind= .function
 ncell:∀y∈scope.names,y.2≠.cell
 names:∀y∈scope.names,y.2= .local->scope.names.lookup y.1=some .local
noncomputable def blk (X:Cx) (N':List Str) (scope:Scope) (cl:List (Str×Addr)) (C:Addr) (s₀:Shared) (H₀:Hp) (fp:List Addr):Cx :=
 { X with N:=N',s₀:=s₀,H₀:=H₀,env:=compEnvC scope cl C X.env,outer:=X.stack,ex:=fp,fn:=λ_=>false,pn:=[],xe:=λ_ _=>False }
def A4n (ix:List (Option Nat)) (σ:St):St:=ix.map λo=>o.bind λj=>(σ[j]?).bind id
section
variable {X:Cx} {pins:List (Addr×Obj)} {σ:St} {H:Hp} {s:Shared} {N':List Str} {scope:Scope} {cl:List (Str×Addr)} {fp:List Addr} {ix:List (Option Nat)}
def B8f (X:Cx) (N':List Str) (scope:Scope) (ix:List (Option Nat)):Prop :=
 ix.length=N'.length/\∀i j:Nat,ix[i]? =some (some j)->∃x,N'[i]? =some x/\X.N[j]? =some x/\(X.env.scope.names.lookup x=some .cell\/X.env.scope.names.lookup x=some .free)/\
  ((relabel scope X.env).names.lookup x=some .cell\/(relabel scope X.env).names.lookup x=some .free)
theorem B8x (I:Inv X pins σ H s) (ck:B7j X scope cl) (f:∀b∈fp,A8l X pins H b) (hlt:∀b∈fp,b<s.heap.objs.size):(blk X N' scope cl s.heap.objs.size s H fp).Ok where
 mod:=I.ok.mod
 kind:=ck.kind
 glob:=I.ok.glob
 blt:=I.ok.blt
 above:=Z09 _
 inj:=λx y c h1 h2=>I.ok.inj x y c (ck.sub x c h1) (ck.sub y c h2)
 has:=λx h=>ck.has x h
 cab:=λx c h=>by cases h
 hd:=I.ok.hd
 frames:=I.ok.frames
 stk:= .inl rfl
 exf:=λb hb=>⟨Z0h (hlt b hb),λx c h=>(f b hb).2.2.2.2.1 x c (ck.sub x c h)⟩
 bs:=I.bs
 bsz:=Z1n I.ok.bsz I.sz
 noex:=λb o e hb=>by
  rcases (f b hb).2.2.2.1 with z | z
  ·exact I.ok.noex b o e z
  ·exact absurd (Z0q (Z0a (I.ok.bs b o e).1) z) (Nat.lt_irrefl _)
 exfs:=λb hb hs=>by
  rcases Z0e.mp (I.stkSub b hs) with z | z
  ·exact (f b hb).2.1 z
  ·exact (f b hb).2.2.1 z
 funs:=I.stack
 frf:=I.stkFree
theorem B4m (I:Inv X pins σ H s) (ck:B7j X scope cl) (io:B8f X N' scope ix) (f:∀b∈fp,A8l X pins H b) (hlt:∀b∈fp,b<s.heap.objs.size) {h':Heap} {m:Str->Option Value} {t':Nat}
  (hn:h'.Ns s.heap.objs.size m) (k:∀b o,s.heap.get? b=some o->h'.get? b=some o):Inv (blk X N' scope cl s.heap.objs.size s H fp) [] (A4n ix σ) H { s with heap:=h',toks:=t' }:=by
 have cl':∀x c,cl.lookup x=some c->∃v,s.heap.IsCell c v:=λx c h=>I.cell x c (ck.sub x c h);refine ⟨B8x I ck f hlt,rfl,I.bare,Un.kept k,⟨m,hn,λi x v e1 e2 e3=> ?_⟩,λx c e=> ?_,I.hok.fresh (Z09 _),λx c e=>I.freeC x c (ck.sub x c e),(λp hp=>by cases hp),I.hok.kept k,?_⟩
 ·unfold A4n at e2;rw [Z1z] at e2
  cases hi:ix[i]? with
  | none=>rw [hi] at e2;cases e2
  | some o =>
   rw [hi] at e2
   cases o with
   | none=>cases Z1a e2
   | some j =>
    have e2':(σ[j]?).bind id=some v:=Z1a e2;obtain ⟨x',n1,n2,k1,k2⟩:=io.2 i j hi;have ex:x'=x:=Z1a (n1.symm.trans e1);subst ex
    have es:σ[j]? =some (some v):=by
     cases q:σ[j]? with
     | none=>rw [q] at e2';cases e2'
     | some w =>
      rw [q] at e2';exact congrArg some e2'
    obtain ⟨m0,_,hl⟩:=I.loc;obtain ⟨u,ru,lo⟩:=hl j x' v n2 es (k1.elim (λz=> .inr (.inl z)) λz=> .inr (.inr z));refine ⟨u,ru,.inr ⟨k2,?_⟩⟩;obtain ⟨c,hc⟩:=ck.has x' k2;refine ⟨c,hc,?_⟩;rcases lo with ⟨z,_⟩ | ⟨_,c',hc',ic⟩
    ·exfalso;have z':X.env.scope.names.lookup x'=some .local:=z;rcases k1 with k1 | k1 <;> (rw [z'] at k1;cases k1)
    ·have ec:c'=c:=Z1a (hc'.symm.trans (ck.sub x' c hc));subst ec;obtain ⟨o,ho,hd⟩:=ic;exact ⟨o,k _ _ ho,hd⟩
 ·obtain ⟨v,o,ho,hd⟩:=cl' x c e;exact ⟨v,o,k _ _ ho,hd⟩
 ·unfold A4n;rw [Z08];exact io.1
theorem B7d (I:Inv X pins σ H s) (f:∀b∈fp,A8l X pins H b) {σ':St} {H':Hp} {s':Shared} {pl:List (Addr×Obj)} (J:Inv (blk X N' scope cl s.heap.objs.size s H fp) pl σ' H' s') {h':Heap} (sb:Heap.SameBut s.heap.objs.size s'.heap h') :
  Inv X pins σ H' { s' with heap:=h' }:=by
 have nC:∀b o,s.heap.get? b=some o->b≠s.heap.objs.size:=λb o e=>Z0h (Z0a e);have hC:H' s.heap.objs.size=none:=J.free;have u:Un (frs X.stack) fp H H' s.heap s'.heap:=J.base
 refine I.call' (ch:=fp) (s':={ s' with heap:=h' }) J.os ⟨λb o e n hb hx=>(sb.2 b (nC b o e)).trans (u.keep b o e n hb hx),λb o e n hb hx=> ?_,u.free,λb o e hx=> ?_,u.tups,u.frzs,u.tbls⟩ (λb o e=> ?_) J.bare
  (λb hb=>⟨(f b hb).2.2.2.1,(f b hb).2.1,(f b hb).2.2.2.2.1,(f b hb).2.2.2.2.2⟩)
 ·obtain ⟨sl,q⟩:=u.slot b o e n hb hx;exact ⟨sl,(sb.2 b (nC b o e)).trans q⟩
 ·obtain ⟨o',q⟩:=u.there b o e hx;exact ⟨o',(sb.2 b (nC b o e)).trans q⟩
 ·refine (J.hok b o e).stay (λc v hc q=>(sb.2 c ?_).trans q) (λc q=>q) λc xs q=>q;rcases hc with rfl | hc
  ·exact A0c e hC
  ·exact A0c hc hC
end
def A1p:St->St->Prop
 | [],_=>True
 | none::r,_::r'=>A1p r r'
 | none::r,[]=>A1p r []
 | some v::r,w::r'=>w=some v/\A1p r r'
 | some _::_,[]=>False
theorem A1p.get:∀{a b:St},A1p a b->∀(j:Nat) v,a[j]? =some (some v)->b[j]? =some (some v)
 | [],_,_,_,_,e=>by simp at e
 | none::r,_::r',h,0,v,e=>by simp at e
 | none::r,_::r',h,j+1,v,e=>by simpa using A1p.get (a:=r) (b:=r') h j v (by simpa using e)
 | none::r,[],h,0,v,e=>by simp at e
 | none::r,[],h,j+1,v,e=>by have:=A1p.get (a:=r) (b:=[]) h j v (by simpa using e);simp at this
 | some w::r,_::r',h,0,v,e=>by
  have e':w=v:=by simpa using e
  subst e'
  simpa using h.1
 | some _::r,_::r',h,j+1,v,e=>by simpa using A1p.get (a:=r) (b:=r') h.2 j v (by simpa using e)
section
variable {X:Cx}
def C1j (ix:List (Option Nat)) (wi:TI) (g:TG) (te:TE):TE:=λσ H Q=>wi σ H λJ H1=>∀D,H1 D=none->∃W:Nat->Nat->Hp->Prop,(∃m,W 0 m (upd H1 D (.lst [])))/\∀i m H2,W i m H2->
 (J.stop i H2/\Q (.ref D) H2)\/(J.go i H2/\∃N:VK,(∀y H5,N y H5->∃xs,H5 D=some (.lst xs)/\xs.length<sizeLine/\∃m',m'<m/\W (i+1) m' (upd H5 D (.lst (xs++[y]))))/\∀x H3,J.yld i H2 x H3->g x (A4n ix σ) H3 λσ4 H4=>A1p (A4n ix σ) σ4/\te σ4 H4 N)
end
section
variable {X:Cx} {m:Str} {pos apos:Pos} {e o:Expr} {es:List Expr} {ta:TE} {t:TA}
end
mutual
inductive Rep (H:Hp):V->PyData->Prop
 | non:Rep H .non .none
 | bl (b:Bool):Rep H (.bl b) (.bool b)
 | int (i:Int):Rep H (.int i) (.int i)
 | str (x:Str):Rep H (.str x) (.str x)
 | lst {p:Addr} {xs:List V} {ds:List PyData}:H p=some (.lst xs)->B8c H xs ds->Rep H (.ref p) (.list ds)
 | tup {p:Addr} {xs:List V} {ds:List PyData}:H p=some (.tup xs)->B8c H xs ds->Rep H (.ref p) (.tuple ds)
inductive B8c (H:Hp):List V->List PyData->Prop
 | nil:B8c H [] []
 | cons {v:V} {vs:List V} {d:PyData} {ds:List PyData}:Rep H v d->B8c H vs ds->B8c H (v::vs) (d::ds)
end
section
variable {X:Cx} {pins:List (Addr×Obj)} {σ:St} {H:Hp} {s:Shared}
mutual
theorem A3b (I:Inv X pins σ H s):∀{v:V} {d:PyData} {u:Value},Rep H v d->A2a v u->∃as,Reads s.heap u d as
 | _,_,u,.non,r=>by cases (show u=Value.none from r);exact ⟨_,.none⟩
 | _,_,u,.bl b,r=>by cases (show u=Value.bool b from r);exact ⟨_,.bool b⟩
 | _,_,u,.int i,r=>by obtain ⟨t,q⟩:=(show∃t,u=Value.int i t from r);cases q;exact ⟨_,.int i t⟩
 | _,_,u,.str x,r=>by obtain ⟨t,q⟩:=(show∃t,u=Value.str x t from r);cases q;exact ⟨_,.str x t⟩
 | _,_,u,@Rep.lst _ p xs ds e q,r=>by
  cases (show u=Value.ref p from r)
  obtain ⟨_,its,n,rv,ho⟩:=(show A1w X.prog X.w H s.heap p (.lst xs) from I.hok p _ e);obtain ⟨as,z⟩:=A4e I q rv;exact ⟨_,Reads.list ho rfl rfl (by simpa using z)⟩
 | _,_,u,@Rep.tup _ p xs ds e q,r=>by
  cases (show u=Value.ref p from r)
  obtain ⟨_,its,rv,o,ho,hc,n,hd⟩:=(show A1w X.prog X.w H s.heap p (.tup xs) from I.hok p _ e);obtain ⟨as,z⟩:=A4e I q rv;exact ⟨_,Reads.tuple ho hc hd (by simpa using z)⟩
theorem A4e (I:Inv X pins σ H s):∀{vs:List V} {ds:List PyData} {us:List Value},B8c H vs ds->A1u vs us->∃as,ReadsAll s.heap us ds as
 | _,_,_,.nil,.nil=>⟨_,.nil⟩
 | _,_,_,.cons a r,.cons q rv=>by
  obtain ⟨as,z⟩:=A3b I a q;obtain ⟨bs,y⟩:=A4e I r rv;exact ⟨_,.cons z y⟩
end
end
def C1l (neg:Bool):R2:=λx y H Q=>∃d e,Rep H x d/\Rep H y e/\SeqAt.shaped d=true/\SeqAt.shaped e=true/\Q (.bl (if neg then !PyData.eqv d e else PyData.eqv d e)) H
section
variable {X:Cx}
theorem B8y (hu:X.A.units+64<cLine):OpR X (compareOp .Eq) (C1l false):=by
 intro pins s σ H x y v u Q I rx ry h;obtain ⟨d,e,h1,h2,s1,s2,q⟩:=h;obtain ⟨as,r1⟩:=A3b I h1 rx;obtain ⟨bs,r2⟩:=A3b I h2 ry;exact eq_dataH r1 r2 s1 s2 hu ⟨.bl (PyData.eqv d e),H,I,rfl,q⟩
theorem B6b (hu:X.A.units+64<cLine):OpR X (compareOp .NotEq) (C1l true):=by
 intro pins s σ H x y v u Q I rx ry h;obtain ⟨d,e,h1,h2,s1,s2,q⟩:=h;obtain ⟨as,r1⟩:=A3b I h1 rx;obtain ⟨bs,r2⟩:=A3b I h2 ry;exact ne_dataH r1 r2 s1 s2 hu ⟨.bl (!PyData.eqv d e),H,I,rfl,q⟩
end
theorem B4h {X:Cx} {scope:Scope} (hk:scope.kind= .function) (hn:∀y∈scope.names,y.2≠.free/\y.2≠.cell) (hl:∀y∈scope.names,y.2= .local->scope.names.lookup y.1=some .local):B7j X scope [] where
 eq:=closureFor_none λy hy=>(hn y hy).1
 sub:=λx c h=>by cases h
 has:=λx h=>by
  exfalso
  have e:(relabel scope X.env).names=scope.names:=map_eq_self λy hy=>by
   obtain ⟨n,k⟩:=y;have z:=(hn _ hy).1;have z':(k == NameKind.free)=false:=by simpa using z
   simp [z']
  rw [e] at h
  have mem:∀{k:NameKind},scope.names.lookup x=some k->(x,k)∈scope.names:=λ{k} q=>by
   generalize scope.names=l at q
   induction l with
   | nil=>cases q
   | cons a r ih =>
    obtain ⟨n,k'⟩:=a;rw [Z28] at q;split at q
    ·rename_i hb;have hb':x=n:=by simpa using hb
     cases q
     subst hb';exact .head _
    ·exact .tail _ (ih q)
  rcases h with h | h
  ·exact (hn _ (mem h)).2 rfl
  ·exact (hn _ (mem h)).1 rfl
 kind:=hk
 ncell:=λy hy=>(hn y hy).2
 names:=hl
theorem B3z {X:Cx} {N':List Str} {scope:Scope} {n:Nat} (h:n=N'.length):B8f X N' scope (List.replicate n none):=⟨by rw [List.length_replicate];exact h,λi j e=>by
 rw [List.getElem?_replicate] at e
 split at e <;> cases e⟩
section
variable {K:Frag} {a D:Addr} {xs:List V} {g:TG} {te:TE} {Q:VK} {σ₀:St} {H:Hp}
theorem B3s (Pv:Nat->List V->Hp->Prop) (h0:Pv 0 [] (upd H D (.lst []))) (hl:∀i ys H,Pv i ys H->SqL K H a xs)
  (hs:∀i x ys H,xs[i]? =some x->Pv i ys H->g x σ₀ H λσ4 H4=>A1p σ₀ σ4/\te σ4 H4 λy H5=>H5 D=some (.lst ys)/\ys.length<sizeLine/\Pv (i+1) (ys++[y]) (upd H5 D (.lst (ys++[y])))) (hd:∀ys H,Pv xs.length ys H->Q (.ref D) H) :
  ∃W:Nat->Nat->Hp->Prop,(∃m,W 0 m (upd H D (.lst [])))/\∀i m H2,W i m H2->
   ((Itl K a).stop i H2/\Q (.ref D) H2)\/((Itl K a).go i H2/\∃N:VK,(∀y H5,N y H5->∃xs,H5 D=some (.lst xs)/\xs.length<sizeLine/\∃m',m'<m/\W (i+1) m' (upd H5 D (.lst (xs++[y]))))/\
    ∀x H3,(Itl K a).yld i H2 x H3->g x σ₀ H3 λσ4 H4=>A1p σ₀ σ4/\te σ4 H4 N):=by
 refine ⟨λi m H=>m=xs.length-i/\i<=xs.length/\∃ys,Pv i ys H,⟨xs.length,by simp,Z1e _,[],h0⟩,?_⟩;rintro i m H2 ⟨rfl,hi,ys,p⟩;have q:=hl i ys H2 p;by_cases hlt:i<xs.length
 ·refine .inr ⟨⟨xs,xs[i],q,by simp [hlt]⟩,λy H5=>H5 D=some (.lst ys)/\ys.length<sizeLine/\Pv (i+1) (ys++[y]) (upd H5 D (.lst (ys++[y]))),λy H5 n=>⟨ys,n.1,n.2.1,xs.length-(i+1),by lia,rfl,hlt,_,n.2.2⟩,λx H3 z=> ?_⟩;obtain ⟨e,z⟩:=z;subst e;exact hs i x ys _ (z xs q) p
 ·have e:i=xs.length:=by lia
  subst e;exact .inl ⟨⟨xs,q,Z09 _⟩,hd ys H2 p⟩
theorem B4w (Pv:Nat->List V->Hp->Prop) (h0:Pv 0 [] (upd H D (.lst []))) (hl:∀i ys H,Pv i ys H->SqT K H a xs)
  (hs:∀i x ys H,xs[i]? =some x->Pv i ys H->g x σ₀ H λσ4 H4=>A1p σ₀ σ4/\te σ4 H4 λy H5=>H5 D=some (.lst ys)/\ys.length<sizeLine/\Pv (i+1) (ys++[y]) (upd H5 D (.lst (ys++[y])))) (hd:∀ys H,Pv xs.length ys H->Q (.ref D) H) :
  ∃W:Nat->Nat->Hp->Prop,(∃m,W 0 m (upd H D (.lst [])))/\∀i m H2,W i m H2->
   ((Itt K a).stop i H2/\Q (.ref D) H2)\/((Itt K a).go i H2/\∃N:VK,(∀y H5,N y H5->∃xs,H5 D=some (.lst xs)/\xs.length<sizeLine/\∃m',m'<m/\W (i+1) m' (upd H5 D (.lst (xs++[y]))))/\
    ∀x H3,(Itt K a).yld i H2 x H3->g x σ₀ H3 λσ4 H4=>A1p σ₀ σ4/\te σ4 H4 N):=by
 refine ⟨λi m H=>m=xs.length-i/\i<=xs.length/\∃ys,Pv i ys H,⟨xs.length,by simp,Z1e _,[],h0⟩,?_⟩;rintro i m H2 ⟨rfl,hi,ys,p⟩;have q:=hl i ys H2 p;by_cases hlt:i<xs.length
 ·refine .inr ⟨⟨xs,xs[i],q,by simp [hlt]⟩,λy H5=>H5 D=some (.lst ys)/\ys.length<sizeLine/\Pv (i+1) (ys++[y]) (upd H5 D (.lst (ys++[y]))),λy H5 n=>⟨ys,n.1,n.2.1,xs.length-(i+1),by lia,rfl,hlt,_,n.2.2⟩,λx H3 z=> ?_⟩;obtain ⟨e,z⟩:=z;subst e;exact hs i x ys _ (z xs q) p
 ·have e:i=xs.length:=by lia
  subst e;exact .inl ⟨⟨xs,q,Z09 _⟩,hd ys H2 p⟩
end
theorem A2s {x:Str} {k:NameKind}:∀{l:List (Str×NameKind)},l.lookup x=some k->(x,k)∈l
 | [],q=>by cases q
 | (n,k')::r,q=>by
  rw [Z28] at q;split at q
  ·rename_i hb;have hb':x=n:=by simpa using hb
   cases q
   subst hb';exact .head _
  ·exact .tail _ (A2s q)
theorem A6r {X:Cx} {scope:Scope} {x:Str} {c:Addr} (he:closureFor scope X.env=pure [(x,c)]) (hc:X.env.cells.lookup x=some c) (hk:scope.kind= .function) (hn:∀y∈scope.names,y.2≠.cell/\(y.2= .free->y.1=x))
  (hl:∀y∈scope.names,y.2= .local->scope.names.lookup y.1=some .local):B7j X scope [(x,c)] where
 eq:=he
 sub:=λy d h=>by
  rw [Z28] at h;split at h
  ·rename_i hb;have hb':y=x:=by simpa using hb
   cases h
   subst hb';exact hc
  ·cases h
 has:=λy h=>by
  have key:y=x:=by
   have m:∃k,(y,k)∈(relabel scope X.env).names/\(k= .cell\/k= .free):=h.elim (λz=>⟨_,A2s z,.inl rfl⟩) λz=>⟨_,A2s z,.inr rfl⟩;obtain ⟨k,hm,hk⟩:=m;obtain ⟨⟨n,k0⟩,h0,e⟩:=Z2c.mp hm;dsimp only at e;by_cases hf:k0= .free
   ·have en:n=y:=by
     split at e
     ·exact congrArg Prod.fst e
     ·exact congrArg Prod.fst e
    rw [<-en];exact (hn _ h0).2 hf
   ·have hb:(k0 == NameKind.free)=false:=by simpa using hf
    simp only [hb,Bool.false_and,Bool.false_eq_true,if_false] at e;have e2:k0=k:=congrArg Prod.snd e;subst e2;rcases hk with hk | hk
    ·exact absurd hk (hn _ h0).1
    ·exact absurd hk hf
  subst key;exact ⟨c,by simp [Z28]⟩
 kind:=hk
 ncell:=λy hy=>(hn y hy).1
 names:=hl
theorem A5c {X:Cx} {N0:List Str} {x:Str} {scope:Scope} {j:Nat} (hN:X.N[j]? =some x) (h1:X.env.scope.names.lookup x=some .cell\/X.env.scope.names.lookup x=some .free)
  (h2:(relabel scope X.env).names.lookup x=some .cell\/(relabel scope X.env).names.lookup x=some .free):B8f X (N0++[x]) scope (List.replicate N0.length none++[some j]):=by
 refine ⟨by simp,λi k e=> ?_⟩;by_cases hi:i<N0.length
 ·rw [Z26 (by simpa using hi),List.getElem?_replicate] at e;split at e <;> cases e
 ·have hi':i=N0.length:=by
   have:=(Z03.mp e).1;simp at this
   lia
  subst hi';rw [Z1l (by simp)] at e;have ek:j=k:=by simpa using e
  subst ek;exact ⟨x,by simp,hN,h1,h2⟩
theorem A1i {H H':Hp} {l:Addr} {o:HO} (s:A1t H H') (hl:H l=none):A1t H (upd H' l o):=λb u e=>by
 rw [A0l (A0c e hl)];exact s b u e
theorem A0j {H:Hp} {l:Addr} {o:HO} (hl:H l=none):A1t H (upd H l o):=A1i (A1t.refl H) hl
theorem A5x {n:Nat} (h:n<=1000000):n<=sizeLine:=by rw [sizeLine_eq];lia
theorem A1l {n:Nat} (h:n<=1000000):n<sizeLine:=by rw [sizeLine_eq];lia
section
variable {G:Hp} {v:V} {vs:List V} {d:PyData} {ds:List PyData}
end
theorem C0p {c A B:Prop} [Decidable c] (hc:¬c) (h:B):if decide c=true then A else B:=by
 rw [Z1j hc];exact B2f h
theorem B9k {c A B:Prop} [Decidable c] (hc:c) (h:A):if decide c=true then A else B:=by
 rw [Z20 hc];exact C1o h
theorem B8a {c A B:Prop} [Decidable c] (h1:c->A) (h2:¬c->B):if decide c=true then A else B :=
 A7u (λh=>h1 (of_decide_eq_true h)) (λh=>h2 λhc=>h (Z20 hc))
section
variable {X:Cx}
end
theorem B3w {α:Type} {xs:List α} {i:Int} (h0:0<=i) (h1:i<xs.length):∃v,xs[i.toNat]? =some v/\atI xs i=some v:=by
 obtain ⟨n,rfl⟩:=Int.eq_ofNat_of_zero_le h0;have hn:n<xs.length:=by lia
 exact ⟨xs[n],by simp [hn],A0q (by simp [hn])⟩
theorem B2x {α:Type} {f:α->V} {xs:List α} {i:Int} (h0:0<=i) (h1:i<xs.length):∃x,xs[i.toNat]? =some x/\atI (xs.map f) i=some (f x):=by
 obtain ⟨n,rfl⟩:=Int.eq_ofNat_of_zero_le h0;have hn:n<xs.length:=by lia
 exact ⟨xs[n],by simp [hn],A0q (by simp [hn])⟩
section
variable {K:Frag} {a D:Addr} {xs:List V} {g:TG} {te:TE} {QD:Hp->Prop} {σ₀:St} {H:Hp}
theorem B1t (Pv:Nat->List V->Hp->Prop) (h0:Pv 0 [] (upd H D (.lst []))) (hl:∀i ys H,Pv i ys H->SqL K H a xs)
  (hs:∀i x ys H,xs[i]? =some x->Pv i ys H->g x σ₀ H λσ4 H4=>A1p σ₀ σ4/\te σ4 H4 λy H5=>H5 D=some (.lst ys)/\ys.length<sizeLine/\Pv (i+1) (ys++[y]) (upd H5 D (.lst (ys++[y])))) (hd:∀ys H,Pv xs.length ys H->QD H) :
  ∃W:Nat->Nat->Hp->Prop,(∃m,W 0 m (upd H D (.lst [])))/\∀i m H2,W i m H2->
   ((Itl K a).stop i H2/\QD H2)\/((Itl K a).go i H2/\∃N:VK,(∀y H5,N y H5->∃xs,H5 D=some (.lst xs)/\xs.length<sizeLine/\∃m',m'<m/\W (i+1) m' (upd H5 D (.lst (xs++[y]))))/\
    ∀x H3,(Itl K a).yld i H2 x H3->g x σ₀ H3 λσ4 H4=>A1p σ₀ σ4/\te σ4 H4 N):=B3s (Q:=λ_ H=>QD H) Pv h0 hl hs hd
theorem A4x (Pv:Nat->List V->Hp->Prop) (h0:Pv 0 [] (upd H D (.lst []))) (hl:∀i ys H,Pv i ys H->SqT K H a xs)
  (hs:∀i x ys H,xs[i]? =some x->Pv i ys H->g x σ₀ H λσ4 H4=>A1p σ₀ σ4/\te σ4 H4 λy H5=>H5 D=some (.lst ys)/\ys.length<sizeLine/\Pv (i+1) (ys++[y]) (upd H5 D (.lst (ys++[y])))) (hd:∀ys H,Pv xs.length ys H->QD H) :
  ∃W:Nat->Nat->Hp->Prop,(∃m,W 0 m (upd H D (.lst [])))/\∀i m H2,W i m H2->
   ((Itt K a).stop i H2/\QD H2)\/((Itt K a).go i H2/\∃N:VK,(∀y H5,N y H5->∃xs,H5 D=some (.lst xs)/\xs.length<sizeLine/\∃m',m'<m/\W (i+1) m' (upd H5 D (.lst (xs++[y]))))/\
    ∀x H3,(Itt K a).yld i H2 x H3->g x σ₀ H3 λσ4 H4=>A1p σ₀ σ4/\te σ4 H4 N):=B4w (Q:=λ_ H=>QD H) Pv h0 hl hs hd
end
section
variable {X:Cx}
theorem B1p:A7r X (.type "dict") (λxs H Q=>∃a kvs,xs=[V.ref a]/\Rd H a (.dK kvs)/\∀p,H p=none->Q (.ref p) (upd H p (.dK kvs))):=by
 intro pins s σ H xs us Q I r h;obtain ⟨a,kvs,rfl,ha,q⟩:=h;obtain ⟨u,rfl,ru⟩:=B5b r;cases ru;obtain ⟨hz,hs,vs,rel,dd⟩:=B5q I.hok ha;refine kt_call_dict (knd:=A1y X.prog X.w) hs dd (by rw [<-rel.length];exact hz) λh' dd' sb=> ?_;have hn:=I.hok.fresh (Z09 s.heap.objs.size);have kp:∀b u,s.heap.get? b=some u->h'.get? b=some u:=λb u e=>(sb.2 b (Z0h (Z0a e))).trans (Z01 _ e)
 have hsy:(s.heap.objs.size == sysModules)=false:=by
  have:=I.big;have hne:s.heap.objs.size≠sysModules:=Z1q this
  simpa using hne
 exact ⟨.ref s.heap.objs.size,_,I.laid (t':=s.toks) (o:= .dK kvs) kp (Z09 _) ⟨hz,hsy,vs,rel,dd'⟩,rfl,q _ hn⟩
def PTs (X:Cx) (cs:List Expr) (t:TT):Prop :=
 ∀(pins:List (Addr×Obj)) (s:Shared) (σ:St) (H:Hp) (Q:Bool->Hp->Prop),Inv X pins σ H s->t σ H Q->wpAny (model X.prog X.w) X.A (forIn cs true λc r=>if r=true then do let ok<-isTrue c X.env (eval c X.env);pure (ForInStep.yield ok) else pure (ForInStep.yield r)) (TP X pins σ Q) X.xe s
theorem B5p {elt iter tg:Expr} {cs:List Expr} {scope:Scope} {pos:Pos} {N':List Str} {ix:List (Option Nat)} {cl:List (Str×Addr)} {wi:TI} {g:TG} {tc:TT} {te:TE} (hc:X.calm=true) (ck:B7j X scope cl) (io:B8f X N' scope ix) (hi:PI X tg iter wi)
  (hg:∀C s₀ H₀ fp,PG (blk X N' scope cl C s₀ H₀ fp) tg g) (ht:∀C s₀ H₀ fp,PTs (blk X N' scope cl C s₀ H₀ fp) cs tc) (he:∀C s₀ H₀ fp,PE (blk X N' scope cl C s₀ H₀ fp) elt te) (R:VK->St->It->Hp->Prop) (hR:∀Q σ J H1,R Q σ J H1->∀D,H1 D=none->∃W:Nat->Nat->Hp->Prop,(∃m,W 0 m (upd H1 D (.lst [])))/\∀i m H2,W i m H2->
 (J.stop i H2/\Q (.ref D) H2)\/(J.go i H2/\∃(N:VK) (M:Hp->Prop),(∀y H5,N y H5->∃xs,H5 D=some (.lst xs)/\xs.length<sizeLine/\∃m',m'<m/\W (i+1) m' (upd H5 D (.lst (xs++[y]))))/\(∀H5,M H5->∃m',m'<m/\W (i+1) m' H5)/\∀x H3,J.yld i H2 x H3->g x (A4n ix σ) H3 λσ4 H4=>A1p (A4n ix σ) σ4/\tc σ4 H4 λb H5=>if b=true then te σ4 H5 N else M H5)) (hs:∀x,foldedSetIterable iter X.env x=pure x:=by intro _;rfl) :
  PE X (.ListComp elt [⟨tg,iter,cs,0⟩] scope pos) (λσ H Q=>wi σ H (R Q σ)):=by
 intro pins s σ H Q I h;rw [eval_ListComp];refine wpAny_comprehension_free (use:=none) rfl hs ck.eq ck.kind ck.names (thn (hi pins s σ H _ I h) λxv s1 h1=>thn h1 λitv s2 h2=> ?_);obtain ⟨it,fp,tn,J,H1,rfl,I1,T,st1,f1,R1⟩:=h2;refine Z16 ?_;have hD:H1 s2.heap.objs.size=none:=I1.hok.fresh (Z09 _);obtain ⟨W,⟨m0,w0⟩,turn⟩:=hR _ _ _ _ R1 _ hD;have hfD:∀b∈fp,b<s2.heap.objs.size:=λb hb=>let ⟨o,e,_⟩:=T.obj _ _ st1 b hb;Z0a e;have I2:Inv X pins σ (upd H1 s2.heap.objs.size (.lst [])) { s2 with heap:=s2.heap.push { cls:= .type "list",data:= .seq ([]:List Value).toArray },toks:=s2.toks }:=I1.lnew (its:=[]) .nil (Z1e _);have f2:∀b∈fp,A8l X pins (upd H1 s2.heap.objs.size (.lst [])) b:=λb hb=>⟨by rw [A0l (Z0h (hfD b hb))];exact (f1 b hb).1,(f1 b hb).2⟩
 have lt2:∀b∈fp,b<(s2.heap.push { cls:= .type "list",data:= .seq ([]:List Value).toArray }).objs.size:=λb hb=>by rw [Heap.size_push];exact Nat.lt_succ_of_lt (hfD b hb)
 refine wpAny_newFunctionEnv ck.ncell (by intro y hy;simp at hy) (λh3 hns sb3=> ?_) ck.kind;dsimp only at hns sb3⊢;have k3:∀b o,(s2.heap.push { cls:= .type "list",data:= .seq ([]:List Value).toArray }).get? b=some o->h3.get? b=some o:=λb o e=>(sb3.2 b (Z0h (Z0a e))).trans (Z01 _ e);generalize hs2:({ s2 with heap:=s2.heap.push { cls:= .type "list",data:= .seq ([]:List Value).toArray },toks:=s2.toks }:Shared)=s3 at I2;have e3:s2.heap.push { cls:= .type "list",data:= .seq ([]:List Value).toArray }=s3.heap:=by rw [<-hs2]
 rw [e3] at hns k3 lt2;have I3:=B4m (N':=N') (ix:=ix) I2 ck io f2 lt2 (h':=h3) (t':=s2.toks+([]:List (Str×Value)).length) hns k3;have e4:({ s3 with heap:=h3,toks:=s2.toks+([]:List (Str×Value)).length }:Shared)={ s2 with heap:=h3,toks:=s2.toks+([]:List (Str×Value)).length }:=by rw [<-hs2]
 rw [e4] at I3;have st3:tn 0 h3:=T.keep _ _ _ st1 λb hb o e=>k3 b o (by rw [<-e3];exact Z01 _ e)
 have loop:∀s4:Shared,s4={ s2 with heap:=h3,toks:=s2.toks+([]:List (Str×Value)).length }->
   codeAny (model X.prog X.w) X.A (.compLoop (.ListComp elt [⟨tg,iter,cs,0⟩] scope pos) 0 (.ref it) (.ref s2.heap.objs.size) (compEnvC scope cl s3.heap.objs.size X.env))
    (compPost (model X.prog X.w) X.A X.xe none (EP X pins σ Q) (.ref s2.heap.objs.size) s3.heap.objs.size) s4:=by
  rintro s4 rfl
  have stat:∀{H':Hp},(∀b∈fp,H' b=none)->∀b∈fp,A8l (blk X N' scope cl s3.heap.objs.size s3 (upd H1 s2.heap.objs.size (.lst [])) fp) [] H' b:=λhn b hb =>
   ⟨hn b hb,Z0h (lt2 b hb),λhs=>I3.ok.exfs b hb hs,.inl hb,λx c e=>(f2 b hb).2.2.2.2.1 x c (ck.sub x c e),(λp hp=>by cases hp)⟩
  refine codeAny_loop rfl (λn s'=>∃i σ' H',Inv (blk X N' scope cl s3.heap.objs.size s3 (upd H1 s2.heap.objs.size (.lst [])) fp) [] σ' H' s'/\(∀(j:Nat) v,(A4n ix σ)[j]? =some (some v)->σ'[j]? =some (some v))/\tn i s'.heap/\(∀b∈fp,H' b=none)/\W i n H')
   (λn s' hI=> ?_) m0 ⟨0,_,_,I3,λ_ _ z=>z,st3,λb hb=>(f2 b hb).1,w0⟩
  obtain ⟨i,σ5,H5,I5,wk,st5,fr5,w5⟩:=hI;show wpAny _ _ ((compTurn (.ListComp elt [⟨tg,iter,cs,0⟩] scope pos) 0 (.ref it) (.ref s2.heap.objs.size) (compEnvC scope cl s3.heap.objs.size X.env)).onRaise (λx=>do noteFrame x (compEnvC scope cl s3.heap.objs.size X.env);theTreesLotGoes x)) _ _ s';refine wpAny_noted ?_;rw [compTurn_list];refine Z00 (wpAny_standAt ?_);rcases turn i n H5 w5 with ⟨stop,qn⟩ | ⟨go,NN,MM,hNN,hMM,step⟩
  ·refine Z00 (Z10 (T.done (blk X N' scope cl s3.heap.objs.size s3 (upd H1 s2.heap.objs.size (.lst [])) fp) rfl rfl rfl hc i [] s' σ5 H5 (λ_ _=>False) I5 (stat fr5) st5 stop) (λr s6 h6=> ?_) λ_ _ z=>z.elim);obtain ⟨rfl,I6⟩:=h6;refine Z04 ?_;obtain ⟨mm,hm,_⟩:=id I6.loc;exact ⟨mm,hm,λh' sb=>⟨.ref s2.heap.objs.size,H5,B7d I2 f2 I6 sb,rfl,qn⟩⟩
  ·refine Z00 (Z10 (T.item (blk X N' scope cl s3.heap.objs.size s3 (upd H1 s2.heap.objs.size (.lst [])) fp) rfl rfl rfl hc i [] s' σ5 H5 (λ_ _=>False) I5 (stat fr5) st5 go) (λr s6 h6=> ?_) λ_ _ z=>z.elim);obtain ⟨u,rfl,h6⟩:=h6;refine Z00 (Z10 h6 (λ_ s7 h7=> ?_) λ_ _ z=>z.elim);obtain ⟨x,H7,I7,r7,y7,st7,fr7⟩:=h7;have I7w:Inv (blk X N' scope cl s3.heap.objs.size s3 (upd H1 s2.heap.objs.size (.lst [])) fp) [] (A4n ix σ) H7 s7:=I7.weak (by rw [I7.len];unfold A4n;rw [Z08];exact io.1) wk;have I7p:=I7w.pinned (stat fr7) (T.obj _ _ st7);refine Z00 (Z10 (hg _ _ _ _ _ s7 _ H7 x u _ I7p r7 (step x H7 y7)) (λ_ s8 h8=> ?_) λ_ _ z=>z.elim);obtain ⟨σ8,H8,I8,kp8,q8⟩:=h8
   have back:∀{s10:Shared} {σ10:St} {H10:Hp} {m':Nat},Inv (blk X N' scope cl s3.heap.objs.size s3 (upd H1 s2.heap.objs.size (.lst [])) fp) ([]++A8j fp s7.heap) σ10 H10 s10->(∀(j:Nat) v,(A4n ix σ)[j]? =some (some v)->σ10[j]? =some (some v))->W (i+1) m' H10->
     ∃i σ' H',Inv (blk X N' scope cl s3.heap.objs.size s3 (upd H1 s2.heap.objs.size (.lst [])) fp) [] σ' H' s10/\(∀(j:Nat) v,(A4n ix σ)[j]? =some (some v)->σ'[j]? =some (some v))/\tn i s10.heap/\(∀b∈fp,H' b=none)/\W i m' H':=by
    intro s10 σ10 H10 m' I10 kk w10;refine ⟨i+1,σ10,H10,I10.unpinned,kk,T.keep _ _ _ st7 λb hb o e=>(I10.pin (b,o) (Z02 _ (Z02 _ (A2h hb e)))).1,λb hb=> ?_,w10⟩;obtain ⟨o,e,d⟩:=T.obj _ _ st7 b hb;exact (I10.pin (b,o) (Z02 _ (Z02 _ (A2h hb e)))).2.1
   refine Z00 (Z10 (ht _ _ _ _ _ s8 σ8 H8 _ I8 q8) (λok s9' h9'=> ?_) λ_ _ z=>z.elim);obtain ⟨H9',I9',q9'⟩:=h9'
   cases ok with
   | false =>
    have q9'':MM H9':=by simpa using q9'
    obtain ⟨m',hm',w9⟩:=hMM _ q9'';exact Z00 (Z04 (Z04 ⟨rfl,m',hm',back I9' kp8.get w9⟩))
   | true =>
    have q9'':te σ8 H9' NN:=by simpa using q9'
    refine Z00 (Z00 (Z10 (he _ _ _ _ _ s9' σ8 H9' _ I9' q9'') (λyv s9 h9=> ?_) λ_ _ z=>z.elim));obtain ⟨y,H9,I9,r9,n9⟩:=h9;obtain ⟨xs,hx9,hz9,m',hm',w9⟩:=hNN _ _ n9;refine Z00 (Z10 (A1n (X:=blk X N' scope cl s3.heap.objs.size s3 (upd H1 s2.heap.objs.size (.lst [])) fp) _ s9 σ8 H9 (.ref s2.heap.objs.size) [y] (.ref s2.heap.objs.size) [yv] (λ_ H'=>W (i+1) m' H') I9 rfl (.cons r9 .nil) ⟨_,xs,y,rfl,rfl,hx9,hz9,w9⟩) (λ_ s10 h10=> ?_) λ_ _ z=>z.elim);obtain ⟨_,H10,I10,_,w10⟩:=h10;exact Z04 (Z04 ⟨rfl,m',hm',back I10 kp8.get w10⟩)
 have e5:s3.heap.objs.size=(s2.heap.push { cls:= .type "list",data:= .seq ([]:List Value).toArray }).objs.size:=by rw [e3]
 rw [e5] at loop;exact codeAny_compStart_list (loop _ rfl) (T.self X.A 0 _ _ _ st3 (loop _ rfl))
theorem A5u {elt iter tg:Expr} {scope:Scope} {pos:Pos} {N':List Str} {ix:List (Option Nat)} {cl:List (Str×Addr)} {wi:TI} {g:TG} {te:TE} (hc:X.calm=true) (ck:B7j X scope cl) (io:B8f X N' scope ix) (hi:PI X tg iter wi)
  (hg:∀C s₀ H₀ fp,PG (blk X N' scope cl C s₀ H₀ fp) tg g) (he:∀C s₀ H₀ fp,PE (blk X N' scope cl C s₀ H₀ fp) elt te) (hs:∀x,foldedSetIterable iter X.env x=pure x:=by intro _;rfl) :
  PE X (.ListComp elt [⟨tg,iter,[],0⟩] scope pos) (C1j ix wi g te) :=
 B5p (tc:=λ_ H Q=>Q true H) hc ck io hi hg (λ_ _ _ _ _ _ _ _ _ I h=>wpAny_tests_nil ⟨_,I,h⟩) he _ (λ_ _ _ _ R D2 hD=>by
  obtain ⟨W,w0,turn⟩:=R D2 hD;refine ⟨W,w0,λi m H2 w=>(turn i m H2 w).imp id λ⟨go,N,hN,step⟩=>⟨go,N,λ_=>False,hN,λ_ z=>z.elim,?_⟩⟩
  simpa using step) hs
end
section
variable {K:Frag} {a D:Addr} {xs:List V} {g:TG} {tc:TT} {te:TE} {QD:Hp->Prop} {σ₀:St} {H:Hp}
end
section
variable {prog:Program} {w:World} {K:Type} [DecidableEq K] {knd:KeyKind prog w K} {A:Around} {R:Result->Shared->Prop} {I l d:Addr} {items:Array Value} {rs:List (K×Value)} {h₀:Heap} {g:Array GenState} {dr:Drawn} {os:OsState}
end
def A5e (env:Env):List (Str×Addr)->Prop
 | []=>True
 | p::r=>env.cells.lookup p.1=some p.2/\A5e env r
theorem A5e.get {env:Env}:∀{cl:List (Str×Addr)},A5e env cl->∀{x:Str} {c:Addr},cl.lookup x=some c->env.cells.lookup x=some c
 | [],_,_,_,h=>by cases h
 | (y,d)::r,h,x,c,e=>by
  rw [Z28] at e;split at e
  ·rename_i hb;have hb':x=y:=by simpa using hb
   cases e
   subst hb';exact h.1
  ·exact A5e.get h.2 e
theorem A3w {x:Str}:∀{cl:List (Str×Addr)},x∈cl.map (·.1)->∃c,cl.lookup x=some c
 | [],h=>by cases h
 | (y,d)::r,h=>by
  rw [Z28]
  cases hb:(x == y) with
  | true=>exact ⟨d,rfl⟩
  | false =>
   have hne:x≠y:=by simpa using hb
   rcases Z0e.mp h with e | e
   ·exact absurd e hne
   ·exact A3w e
theorem B3n {X:Cx} {scope:Scope} {cl:List (Str×Addr)} {xs:List Str} (he:closureFor scope X.env=pure cl) (hc:A5e X.env cl) (hx:cl.map (·.1)=xs) (hk:scope.kind= .function) (hn:∀y∈scope.names,y.2≠.cell/\(y.2= .free->y.1∈xs))
  (hl:∀y∈scope.names,y.2= .local->scope.names.lookup y.1=some .local):B7j X scope cl where
 eq:=he
 sub:=λy d h=>hc.get h
 has:=λy h=>by
  have key:y∈xs:=by
   have m:∃k,(y,k)∈(relabel scope X.env).names/\(k= .cell\/k= .free):=h.elim (λz=>⟨_,A2s z,.inl rfl⟩) λz=>⟨_,A2s z,.inr rfl⟩;obtain ⟨k,hm,hk⟩:=m;obtain ⟨⟨n,k0⟩,h0,e⟩:=Z2c.mp hm;dsimp only at e;by_cases hf:k0= .free
   ·have en:n=y:=by
     split at e
     ·exact congrArg Prod.fst e
     ·exact congrArg Prod.fst e
    rw [<-en];exact (hn _ h0).2 hf
   ·have hb:(k0 == NameKind.free)=false:=by simpa using hf
    simp only [hb,Bool.false_and,Bool.false_eq_true,if_false] at e;have e2:k0=k:=congrArg Prod.snd e;subst e2;rcases hk with hk | hk
    ·exact absurd hk (hn _ h0).1
    ·exact absurd hk hf
  rw [<-hx] at key;exact A3w key
 kind:=hk
 ncell:=λy hy=>(hn y hy).1
 names:=hl
def A7v (X:Cx) (scope:Scope):List Str->List Nat->Prop
 | [],[]=>True
 | x::xs,j::js=>(X.N[j]? =some x/\(X.env.scope.names.lookup x=some .cell\/X.env.scope.names.lookup x=some .free)/\((relabel scope X.env).names.lookup x=some .cell\/(relabel scope X.env).names.lookup x=some .free))/\A7v X scope xs js
 | _,_=>False
theorem A7v.get {X:Cx} {scope:Scope}:∀{xs:List Str} {js:List Nat},A7v X scope xs js->xs.length=js.length/\∀(i j:Nat),js[i]? =some j->∃x,xs[i]? =some x/\X.N[j]? =some x/\(X.env.scope.names.lookup x=some .cell\/X.env.scope.names.lookup x=some .free)/\((relabel scope X.env).names.lookup x=some .cell\/(relabel scope X.env).names.lookup x=some .free)
 | [],[],_=>⟨rfl,λi j e=>by simp at e⟩
 | x::xs,j::js,h=>by
  obtain ⟨e,f⟩:=A7v.get h.2;refine ⟨by simp [e],λi k ek=> ?_⟩
  cases i with
  | zero=>simp at ek;subst ek;exact ⟨x,rfl,h.1⟩
  | succ i=>exact f i k (by simpa using ek)
 | [],_::_,h=>h.elim
 | _::_,[],h=>h.elim
theorem B1y {X:Cx} {N0 xs:List Str} {js:List Nat} {scope:Scope} (h:A7v X scope xs js):B8f X (N0++xs) scope (List.replicate N0.length none++js.map some):=by
 obtain ⟨hl,hf⟩:=h.get;refine ⟨by simp [hl],λi k e=> ?_⟩;by_cases hi:i<N0.length
 ·rw [Z26 (by simpa using hi),List.getElem?_replicate] at e;split at e <;> cases e
 ·rw [Z1l (by simpa using hi),List.length_replicate,Z1z] at e;obtain ⟨j,ej,ek⟩:=Z0i.mp e;cases ek;obtain ⟨x,h1,h2,h3,h4⟩:=hf _ _ ej;exact ⟨x,by rw [Z1l (by lia)];exact h1,h2,h3,h4⟩
section
variable {X:Cx}
end
section
variable {D:Addr} {g:TG} {te:TE} {QD:Hp->Prop} {σ₀:St} {H:Hp}
theorem B3t {J:It} (n:Nat) (Pv:Nat->List V->Hp->Prop) (h0:Pv 0 [] (upd H D (.lst []))) (hgo:∀i ys H,i<n->Pv i ys H->J.go i H) (hst:∀ys H,Pv n ys H->J.stop n H)
  (hs:∀i ys H,i<n->Pv i ys H->∀x H3,J.yld i H x H3->g x σ₀ H3 λσ4 H4=>A1p σ₀ σ4/\te σ4 H4 λy H5=>H5 D=some (.lst ys)/\ys.length<sizeLine/\Pv (i+1) (ys++[y]) (upd H5 D (.lst (ys++[y])))) (hd:∀ys H,Pv n ys H->QD H) :
  ∃W:Nat->Nat->Hp->Prop,(∃m,W 0 m (upd H D (.lst [])))/\∀i m H2,W i m H2->
   (J.stop i H2/\QD H2)\/(J.go i H2/\∃N:VK,(∀y H5,N y H5->∃xs,H5 D=some (.lst xs)/\xs.length<sizeLine/\∃m',m'<m/\W (i+1) m' (upd H5 D (.lst (xs++[y]))))/\
    ∀x H3,J.yld i H2 x H3->g x σ₀ H3 λσ4 H4=>A1p σ₀ σ4/\te σ4 H4 N):=by
 refine ⟨λi m H=>m=n-i/\i<=n/\∃ys,Pv i ys H,⟨n,by simp,Z1e _,[],h0⟩,?_⟩;rintro i m H2 ⟨rfl,hi,ys,p⟩;by_cases hlt:i<n
 ·exact .inr ⟨hgo i ys H2 hlt p,λy H5=>H5 D=some (.lst ys)/\ys.length<sizeLine/\Pv (i+1) (ys++[y]) (upd H5 D (.lst (ys++[y]))),λy H5 z=>⟨ys,z.1,z.2.1,n-(i+1),by lia,rfl,hlt,_,z.2.2⟩,λx H3 z=>hs i ys H2 hlt p x H3 z⟩
 ·have e:i=n:=by lia
  subst e;exact .inl ⟨hst ys H2 p,hd ys H2 p⟩
end
theorem B5j {X:Cx} {K:Frag} (h:X.K=K):IxR X (C0y K):=h▸A1d
theorem B2c {X:Cx} {K:Frag} (h:X.K=K):IxR X (C0m K):=h▸A1b
theorem A6n {X:Cx} {K:Frag} (h:X.K=K):A7r X (.builtin "len") (λxs H Q=>∃p ys,xs=[.ref p]/\(SqL K H p ys\/SqT K H p ys)/\Q (.int ys.length) H):=h▸A0i
section
variable {X:Cx}
end
section
variable {X:Cx} {pins:List (Addr×Obj)} {σ:St} {H H1:Hp} {s s1:Shared} {ea C:Addr} {a0:Value} {B:Heap}
end
section
variable {X:Cx} {C C':Addr} {y n:Str} {yp hpos:Pos} {b₀:Stmt} {suite:List Stmt} {rest:List ExceptHandler} {th:Addr->TS} {i:Nat}
end
section
variable {X:Cx} {k:Nat} {f:Addr} {fd:FuncData} {ps:List Str} {sp:Sp} {x:Str} {p pos:Pos} {e:Expr} {es:List Expr} {t:TA}
end
section
variable {X:Cx} {hs:List ExceptHandler} {h₀:ExceptHandler} {e:Expr} {tx:TX} {pos epos npos:Pos} {i:Nat} {n:Str}
end
section
variable {P:Program} {w:World} {K:Frag} {mg:Str->Option Value} {base:Heap}
end
theorem B5i {X:Cx} {x:Str} {v:V} {pos:Pos} (h:∃u,X.mg x=some u/\A2a v u) (hg:Gl X x) (hd:(x == ("__debug__":Str))=false:=by decide):PE X (.Name x pos) (tC v):=by
 obtain ⟨u,hm,r⟩:=h;exact λ_ _ _ H _ I q=>A8v I hg hm ⟨v,H,I,r,q⟩ hd
theorem A7w:∀(its:List Value) (lo:Int),(∀(j:Nat) (v:Value),its[j]? =some v->∃t,v= .int (lo+j) t)->A1u ((List.range its.length).map λ(k:Nat)=>V.int (lo+k)) its
 | [],_,_=> .nil
 | v::r,lo,h=>by
  rw [Z0y,List.range_succ_eq_map,Z0p,List.map_map]
  have t:=A7w r (lo+1) λj u hj=>by
   obtain ⟨t,e⟩:=h (j+1) u (by simpa using hj);exact ⟨t,by rw [e];congr 1;lia⟩
  have e:((λ(k:Nat)=>V.int (lo+k))∘Nat.succ)=λ(k:Nat)=>V.int (lo+1+k):=by
   funext k;show V.int (lo+((k+1:Nat):Int))=V.int (lo+1+k);congr 1
   lia
  rw [e];exact .cons (h 0 v rfl) t
section
variable {prog:Program} {w:World} {A:Around} {E:Value->Shared->Prop} {s:Shared}
end
section
variable {X:Cx}
theorem C0c {lo hi:Int}:Builtin.Range.rangeSize lo hi 1=(((hi-lo).toNat:Nat):Int):=by rw [rangeSize_one];split <;> lia
theorem B0s {pins:List (Addr×Obj)} {σ:St} {H:Hp} {s:Shared} {Q:VK} {lo hi:Int} {t u v:Tok} {tk:Nat} (hh:X.A.handled=none) (I:Inv X pins σ H s) (h1: -(2^62)<=lo) (h2:lo<2^62) (h3: -(2^62)<=hi) (h4:hi<2^62) (h5:hi-lo<=1000000)
  (q:∀D,H D=none->Q (.ref D) (upd H D (.lst ((List.range (hi-lo).toNat).map λ(k:Nat)=> .int (lo+k))))):wpAny (model X.prog X.w) X.A (call (.type "list") [.ref s.heap.objs.size]) (EP X pins σ Q) X.xe { s with heap:=s.heap.push { cls:= .type "range",data:= .fields #[.int lo t,.int hi u,.int 1 v] },toks:=tk }:=by
 have I1:Inv X pins σ H { s with heap:=s.heap.push { cls:= .type "range",data:= .fields #[.int lo t,.int hi u,.int 1 v] },toks:=tk }:=I.kept λb o e=>Z01 _ e
 refine call_list_range hh (IsRange.new ..) (small_one h1 h2 h3 h4) C0c (by lia) λh' tk' acc' c' kp hD hacc=> ?_;have hl:acc'.toList.length=(hi-lo).toNat:=by rw [Array.length_toList];exact hacc.1
 have vs:=A7w acc'.toList lo λj v hj=>by
  obtain ⟨t,e⟩:=hacc.2 j v (by rw [<-Array.getElem?_toList];exact hj);exact ⟨t,by rw [e];congr 1;lia⟩
 rw [hl] at vs;refine ⟨.ref _,_,I1.laid (t':=tk') (o:= .lst ((List.range (hi-lo).toNat).map λ(k:Nat)=> .int (lo+k))) kp (Z09 _) ⟨?_,acc'.toList,c',vs,by simpa using hD⟩,rfl,q _ (I1.hok.fresh (Z09 _))⟩;rw [Z08,List.length_range];exact A5x (by lia)
def tLR1 (ta:TA):TE:=λσ H Q=>ta σ H λvs H1=>∃j:Int,vs=[.int j]/\-(2^62)<=j/\j<=1000000/\∀D,H1 D=none->Q (.ref D) (upd H1 D (.lst ((List.range j.toNat).map λ(k:Nat)=> .int (k:Int))))
def tLR2 (ta:TA):TE:=λσ H Q=>ta σ H λvs H1=>∃i j:Int,vs=[.int i,.int j]/\(-(2^62)<=i/\i<2^62/\-(2^62)<=j/\j<2^62/\j-i<=1000000)/\∀D,H1 D=none->Q (.ref D) (upd H1 D (.lst ((List.range (j-i).toNat).map λ(k:Nat)=> .int (i+k))))
theorem A7b {a:Expr} {ta:TA} {p1 p2 pos1 pos2:Pos} (hc:X.calm=true) (hgd:Gl X "list") (hmd:X.mg "list"=none) (hgz:Gl X "range") (hmz:X.mg "range"=none) (ha:PA X [a] ta)
  (hs0:starEach [.Call (.Name "range" p2) [a] [] pos2] X.env=(false,eval (.Call (.Name "range" p2) [a] [] pos2) X.env)::starEach [] X.env:=by rfl)
  (hs:starEach [a] X.env=[(false,eval a X.env)]:=by rfl):PE X (.Call (.Name "list" p1) [.Call (.Name "range" p2) [a] [] pos2] [] pos1) (tLR1 ta):=by
 intro pins s σ H Q I h;have hh:X.A.handled=none:=I.ok.hd hc;refine wpAny_Call_Name_kw (A3h I hgd hmd boot_list ?_);refine PyProof.Rows.callWith_type1 ?_ hs0 (by rfl);rw [hs0];show wpAny _ _ (spliced ((false,eval _ X.env)::backTo pos1 (starEach [] X.env))) _ _ s;refine Calls.spliced_cons ?_;refine Call_ (A3h I hgz hmz boot_range (PyProof.Rows.callWith_type1 (thn (ha pos2 pins s σ H _ I h) ?_) hs rfl));rintro us s1 ⟨vs,H1,I1,r1,q1⟩;obtain ⟨j,e,q1,q2,q⟩:=q1;subst e
 cases r1 with
 | cons r rr =>
  cases rr
  obtain ⟨t,rfl⟩:=r;refine call_range_1 (Calls.spliced_nil (B0s hh I1 (by lia) (by lia) q1 (by lia) (by lia) λD hD=> ?_));have:=q D hD
  simpa using this
theorem A7c {a b:Expr} {ta:TA} {p1 p2 pos1 pos2:Pos} (hc:X.calm=true) (hgd:Gl X "list") (hmd:X.mg "list"=none) (hgz:Gl X "range") (hmz:X.mg "range"=none) (ha:PA X [a,b] ta)
  (hs0:starEach [.Call (.Name "range" p2) [a,b] [] pos2] X.env=(false,eval (.Call (.Name "range" p2) [a,b] [] pos2) X.env)::starEach [] X.env:=by rfl)
  (hs:starEach [a,b] X.env=[(false,eval a X.env),(false,eval b X.env)]:=by rfl) (hs2:starEach [b] X.env=[(false,eval b X.env)]:=by rfl):PE X (.Call (.Name "list" p1) [.Call (.Name "range" p2) [a,b] [] pos2] [] pos1) (tLR2 ta):=by
 intro pins s σ H Q I h;have hh:X.A.handled=none:=I.ok.hd hc;refine wpAny_Call_Name_kw (A3h I hgd hmd boot_list ?_);refine PyProof.Rows.callWith_type1 ?_ hs0 (by rfl);rw [hs0];show wpAny _ _ (spliced ((false,eval _ X.env)::backTo pos1 (starEach [] X.env))) _ _ s;refine Calls.spliced_cons ?_;refine Call_ (A3h I hgz hmz boot_range (PyProof.Rows.callWith_type1 (thn (ha pos2 pins s σ H _ I h) ?_) (by rw [hs,hs2]) (by rw [hs2];rfl)));rintro us s1 ⟨vs,H1,I1,r1,q1⟩;obtain ⟨i,j,e,⟨q1,q2,q3,q4,q5⟩,q⟩:=q1;subst e
 cases r1 with
 | cons r rr =>
  cases rr with
  | cons r' rr =>
   cases rr
   obtain ⟨t,rfl⟩:=r;obtain ⟨t',rfl⟩:=r';exact call_range_2 (Calls.spliced_nil (B0s hh I1 q1 q2 q3 q4 q5 q))
def B8q (K:Frag):R2:=λx y H Q=>∃a b xs ys,x= .ref a/\y= .ref b/\SqT K H a xs/\SqT K H b ys/\xs.length+ys.length<=sizeLine/\
 (xs=[]->Q (.ref b) H)/\(xs≠[]->ys=[]->Q (.ref a) H)/\(xs≠[]->ys≠[]->∀p,H p=none->Q (.ref p) (upd H p (.tup (xs++ys))))
theorem B5n:OpR X (binaryOp .Add) (B8q X.K):=by
 intro pins s σ H x y v u Q I rx ry h;obtain ⟨a,b,xs,ys,rfl,rfl,ha,hb,hz,q1,q2,q3⟩:=h;by_cases hx:xs=[]
 ·subst hx;cases rx;cases ry;obtain ⟨its,r1,p1,_⟩:=I.tuple ha;obtain ⟨its2,r2,p2,_⟩:=I.tuple hb;have e1:its=[]:=r1.nil_iff.mpr rfl;obtain ⟨⟨cls,dd,data,sl⟩,ho,hc,n,hd⟩:=id p1;obtain ⟨⟨cls2,dd2,data2,sl2⟩,ho2,hc2,n2,hd2⟩:=id p2;simp only at hc hd hc2 hd2;subst hc hd hc2 hd2
  exact concat_meets ⟨_,ho,rfl⟩ ⟨_,ho2,rfl⟩ noFill_tuple_add seq_tuple_add PySem.F.slot_tuple_add PySem.F.entry_tuple_add (PySem.F.args_tuple_add_2 _ _)
   (tuple_addW0 a b its.toArray its2.toArray n n2 dd dd2 sl sl2 (by simp [e1])) ⟨ho,ho2,⟨.ref b,H,I,rfl,q1 rfl⟩⟩
 ·exact B7o pins s σ H _ _ v u Q I rx ry ⟨a,b,xs,ys,rfl,rfl,ha,hb,hx,hz,λz=>q2 hx z,λz=>q3 hx z⟩
def B8v:R2:=λx y H Q=>∃a b xs ys,x= .ref a/\y= .ref b/\H a=some (.tup xs)/\H b=some (.tup ys)/\xs.length+ys.length<=sizeLine/\∀q H',A1t H H'->H' q=some (.tup (xs++ys))->Q (.ref q) H'
theorem A6w:OpR X (binaryOp .Add) B8v:=λpins s σ H x y v u Q I rx ry h=>by
 obtain ⟨a,b,xs,ys,e1,e2,ha,hb,hz,q⟩:=h;refine B5n pins s σ H x y v u Q I rx ry ⟨a,b,xs,ys,e1,e2,SqT.of ha,SqT.of hb,hz,λz=> ?_,λ_ z=> ?_,λ_ _ p hp=> ?_⟩
 ·subst z;exact q b H (A1t.refl _) hb
 ·subst z;exact q a H (A1t.refl _) (by rw [Z0u];exact ha)
 ·exact q p _ (A0j hp) A0g
end
open PySem PySem.Spec PyProof.Rows PySem.W
theorem A5h:∀{ns:List Int} {n:Int},n∈ns->WData.weight (.int n)<=WData.weightAll (ns.map WData.int)
 | m::r,n,h=>by
  rw [Z0p,WData.weightAll];rcases Z0e.mp h with rfl | h
  ·lia
  ·have:=A5h h
   lia
theorem A9q {ns:List Int} (h:WData.layableAll [WData.list (ns.map WData.int)]=true):∀n∈ns,n.natAbs.log2<2^20:=λn hn=>by
 have h1:WData.layable (WData.list (ns.map WData.int))=true:=by simpa [WData.layableAll] using h
 unfold WData.layable at h1;rw [Z1x] at h1;have h2:=of_decide_eq_true h1.2;rw [WData.weight] at h2;have h3:=A5h hn;rw [WData.weight] at h3;split at h3
 ·rename_i z;have:n=0:=by simpa using z
  subst this;decide
 ·lia
theorem B5t {l:PySem.W.OpenLaw} {n k:Nat} {q:Program} {loose:List Str} {XP:(Str->Option Value)->Heap->Prop} {YP:World->Heap->Prop} {d:DefRec} {K:Params->Frag} {CX:World->CXT} {sp:World->Sp} {x:Str}
  (hn:l.most=some n) (hn2:n<=sizeLine) (hdf:d.params.defaults=[]) (hr:A4f k callerA)
  (hY:∀(w:World) (h:Heap),YP w h->(K w.params).In h)
  (F:∀(w:World) (mg:Str->Option Value) (fa:Addr) (h:Heap),(K w.params).In h->h.Ns mainGlobals mg->mg d.name=some (.ref fa)->
   ∃fd:FuncData,(∀(s:Shared) (u:Value),BindsTo s fd ⟨[u],[]⟩ [(x,u)])/\
    ∀base:Heap,(K w.params).In base->base.Ns mainGlobals mg->A5r l.prog w (K w.params) mg base (CX w) k fa fd [x] (sp w))
  (hsp:∀(w:World) (H:Hp) (a:Addr) (ns:List Int),ns.length<=n->(∀m∈ns,m.natAbs.log2<2^20)->SqL (K w.params) H a (ns.map V.int)->sp w [.ref a] H (λv _=>v= .bl true) λ_ _ _=>False)
  (hCX:∀(w:World) (H:Hp) (s:Shared) (e:Value) (s':Shared),CX w [] H s (λ_ _ _=>False) e s'->False) :
  PySem.W.WalkO q loose XP YP l.row.toRowW d [] (λf vs=>PySem.call f vs):=by
 intro w s₀ s₁ mg mb G Y fa o pm cd doc dV kV ho hd hcd hD hmg hg args vals as hpre hlay hrd hwl hlo;obtain rfl:dV= .none:=Dflts.none hD hdf;obtain rfl:kV= .none:=Dflts.noKw hD;obtain ⟨a,vs,ns,rfl,rfl,hobj,hints,hlen⟩:=Att.script_of hn hpre hwl;have bits:=A9q hlay;have KX:=hY w _ Y;obtain ⟨fd,hb,hF⟩:=F w mg fa _ KX G.T.g hmg;refine enter_call (codeAny_mono (B5d KX G.T.g G.T.b G.T.builtins G.T.nolimit hg hobj hints (Z1n hlen hn2) hr hF hb (λH hO hS=>hsp w H a ns hlen bits hS) λH e s'=>hCX w H s₁ e s') λr s' hq=> ?_);obtain ⟨rfl,h2,h3,h4⟩:=hq;exact ⟨.inl ⟨.bool true,.bool true,[],rfl,λ_=>rfl,.bool true,Att.post_true l _,λ_=>⟨List.Pairwise.nil,λ_ hm=>(nomatch hm)⟩⟩,h2,h3,h4⟩
section
variable {X:Cx}
end
section
variable {X:Cx} {pins:List (Addr×Obj)} {σ:St} {H H1:Hp} {s s1:Shared} {a:Addr} {o:HO}
theorem Inv.trackO (I1:Inv X pins σ H1 s1) (I:Inv X pins σ H s) (hn:s1.heap.get? a=none) (hH:H a=none) (new:A1w X.prog X.w (upd H a o) s.heap a o):Inv X pins σ (upd H a o) s:=by
 have ne1:∀b o,s1.heap.get? b=some o->b≠a:=λb o e z=>by
  rw [z,hn] at e;cases e
 have up:∀b u,H b=some u->upd H a o b=some u:=λb u e=>by
  rw [A0l (A0c e hH)];exact e
 refine ⟨I.ok,I.os,I.bare,⟨I.base.keep,I.base.slot,λb o e n hb=> ?_,I.base.there,λb xs e=>up _ _ (I.base.tups b xs e),λb o u e=>up _ _ (I.base.frzs b o u e),λb ps e=> ?_⟩,I.loc,I.cell,?_,λx c e=> ?_,λp hp=> ?_,λb u e=> ?_,I.len⟩
 ·obtain ⟨o1,e1⟩:=I1.base.there b o e hb;rw [A0l (ne1 b o1 e1)];exact I.base.free b o e n hb
 ·obtain ⟨m,q⟩:=I.base.tbls b ps e;exact ⟨m,up _ _ q⟩
 ·obtain ⟨m,⟨o,_,_,ho,_⟩,_⟩:=I1.loc;rw [A0l (ne1 _ o ho)];exact I.free
 ·obtain ⟨v,o,ho,_⟩:=I1.cell x c e;rw [A0l (ne1 _ o ho)];exact I.freeC x c e
 ·obtain ⟨e,n,r⟩:=I.pin p hp;have e1:=(I1.pin p hp).1;exact ⟨e,by rw [A0l (ne1 _ _ e1)];exact n,r⟩
 ·by_cases hb:b=a
  ·subst hb;rw [A0g] at e;cases e;exact new
  ·rw [A0l hb] at e;exact (I.hok b u e).stay (λ_ _ _ q=>q) (λc q=>up _ _ q) λc xs q=>up _ _ q
end
open PySem PySem.Spec PyProof.Rows SA
section
variable {X:Cx} {k:Nat} {f:Addr} {fd:FuncData} {ps:List Str} {sp:Sp}
theorem B7f {A':Around} {pins:List (Addr×Obj)} {σ:St} {H:Hp} {s:Shared} {Q:VK} {u:Value} {v:V} (F:A5r X.prog X.w X.K X.mg X.base CX0 k f fd ps sp) (hr:A4f k A') (hb:A4o X.K fd ps []) (I:Inv X pins σ H s) (e0:B5z X.prog X.w X.K X.mg X.base A' X.stack s H) (r:A2a v u) (h:sp [v] H Q E0) :
  wpAny (model X.prog X.w) A' (call (.ref f) [u]) (EP X pins σ Q) (λ_ _=>False) s:=by
 have hl:([u]++[]).length=ps.length:=F.len _ _ _ _ h;refine wpAny_call (codeAny_mono (F.run A' X.stack s H ⟨[u],[]⟩ [u] [v] Q E0 hr e0 (hb s [u] I.kIn hl) (.cons r .nil) h) λr s' hq=> ?_)
 cases r with
 | error e=>exact False.elim hq
 | ok fl =>
  cases fl with
  | ret u=>exact I.after hq
  | next=>exact False.elim hq
  | brk=>exact False.elim hq
  | cont=>exact False.elim hq
theorem A7h {α β:Type} {g:α->β}:∀{l:List β} {L:List α},l.Perm (L.map g)->∃L':List α,L'.Perm L/\l=L'.map g
 | [],L,h=>⟨[],by rw [List.map_eq_nil_iff.mp h.symm.eq_nil],rfl⟩
 | x::l,L,h=>by
  obtain ⟨t,ht,rfl⟩:=Z2c.mp (h.mem_iff.mp (Z27));obtain ⟨A,B,rfl⟩:=List.append_of_mem ht
  have h2:(g t::l).Perm (g t::(A++B).map g):=by
   refine h.trans ?_;rw [Z0s,Z0p,Z0s];exact List.perm_middle
  obtain ⟨L',p1,p2⟩:=A7h (List.Perm.cons_inv h2);exact ⟨t::L',(p1.cons t).trans List.perm_middle.symm,by rw [p2];rfl⟩
theorem A6j {α:Type} {g:α->V} {g':α->Value}:∀{L:List α},(∀t∈L,A2a (g t) (g' t))->A1u (L.map g) (L.map g')
 | [],_=> .nil
 | t::L,h=> .cons (h t Z27) (A6j λq hq=>h q (Z1f _ hq))
theorem B9i {pins:List (Addr×Obj)} {σ:St} {H:Hp} {s:Shared} (I:Inv X pins σ H s) {c:Addr} {ns:List Int} (h:H c=some (.tup (ns.map .int))):B1x s.heap (.ref c) ns:=by
 obtain ⟨z,its,r,o,ho,hc,n,hd⟩:=I.hok c _ h;refine ⟨c,o,its.toArray,n,rfl,ho,hc,hd,?_⟩;clear h ho hd z;show IntsAre its ns
 induction ns generalizing its with
 | nil=>cases r;exact .nil
 | cons m ns ih =>
  cases r with
  | cons r rr =>
   obtain ⟨t,rfl⟩:=r;exact .cons m t (ih _ rr)
theorem B2n {pins:List (Addr×Obj)} {σ:St} {H:Hp} {s:Shared} {a kS:Addr} {e1 e:Nat} {ys:List V} {its:List Value} {kf:V->V} {kI:V->List Int} {P:PySem.Fin->Shared->Prop} {E:Value->Shared->Prop} (F:A5r X.prog X.w X.K X.mg X.base CX0 k f fd ps sp) (hr:A4f k X.A.in1.in1) (hb:A4o X.K fd ps []) (I:Inv X pins σ H s)
  (ha:s.heap.get? a=some (seqObj "list" #[] e1)) (hk:s.heap.get? kS=some (seqObj "list" #[] e)) (fa:A8l X pins H a) (fk:A8l X pins H kS) (hka:kS≠a) (rv:A1u ys its) (hz:ys.length<=sizeLine)
  (hs:∀y∈ys,∀Q:VK,Q (kf y) H->sp [y] H Q E0) (ht:∀y∈ys,∃c n ns,kf y= .ref c/\kI y=n::ns/\H c=some (.tup ((n::ns).map .int)))
  (h:∀s' zs its' c,Inv X pins σ H s'->s'.heap.get? a=some (seqObj "list" (List.toArray its') c)->A1u zs its'->zs.Perm ys->zs.Pairwise (λx y=>A2z (kI y) (kI x)=false)->P (.done (.ret .none)) s') :
  wpAny (model X.prog X.w) X.A.in1.in1 (ksk_rest a (.ref f) false its.toArray e1 (.ref kS)) P E s:=by
 have lys:=rv.length;unfold ksk_rest;refine Z00 (wpAny_rule ?_)
 first
  | rw [List.forIn_toArray]
  | (rw [<-Array.forIn_toList];simp only [List.toList_toArray])
  | rw [<-Array.forIn_toList]
 refine Z00 (ksk_fold (λi s'=>∃(ks:List Value) (e:Nat),Inv X pins σ H s'/\s'.heap.get? a=some (seqObj "list" #[] e1)/\s'.heap.get? kS=some (seqObj "list" ks.toArray e)/\A1u ((ys.take i).map kf) ks) its 0 s
  ⟨[],e,I,ha,hk,by simpa using Paired.nil⟩ ?step ?done)
 case step =>
  rintro j x s1 hx ⟨ks,e,I1,ha1,hk1,rk⟩;simp only [Nat.zero_add] at rk⊢;have hj:j<its.length:=(Z03.mp hx).1;obtain ⟨y,hy⟩:∃y,ys[j]? =some y:=⟨_,Z0b (by lia)⟩;have my:=Z13 hy;obtain ⟨x',hx',ry⟩:=rv.get hy;rw [hx] at hx';cases hx';have lk:=rk.length;rw [Z08,Z0x] at lk
  have Ip:=I1.pinned (fp:=[a,kS]) (λb hb=>by
   rcases Z0e.mp hb with q | q
   ·rw [q];exact fa
   ·rw [Z0w.mp q];exact fk) (λb hb=>by
   rcases Z0e.mp hb with q | q
   ·rw [q];exact ⟨_,ha1,λv e=>by cases e⟩
   ·rw [Z0w.mp q];exact ⟨_,hk1,λv e=>by cases e⟩)
  refine Z00 (wpAny_attempt (Z10 (B7f (Q:=λv H'=>v=kf y/\H'=H) F hr hb Ip Ip.env0.in1.in1 ry (hs y my _ ⟨rfl,rfl⟩)) (λu s2 he=> ?_) λ_ _ hF=>hF.elim));obtain ⟨v,H',I2,ru,rfl,rfl⟩:=he;have pa:=(I2.pin (a,seqObj "list" #[] e1) (Z02 _ (Z02 _ (A2h (by simp) ha1)))).1;have pk:=(I2.pin (kS,seqObj "list" ks.toArray e) (Z02 _ (Z02 _ (A2h (by simp) hk1)))).1;have I3:=I2.unpinned
  try dsimp only
  refine Z00 (listUpdate_at pk rfl ?_ (by rw [Z0g];lia) (Z1n (Nat.le_of_eq (Array.size_push ..)) (by rw [Z0g];lia)));have s1':=Heap.SameBut.update s2.heap kS (Obj.mapSeq (·.push u));obtain ⟨c2,hc2⟩:∃c2,(s2.heap.update kS (Obj.mapSeq (·.push u))).get? kS=some (seqObj "list" (ks.toArray.push u) c2):=⟨_,get?_update_seq pk (·.push u)⟩;refine Z04 ⟨rfl,ks++[u],c2,?_,(s1'.2 a hka.symm).trans pa,by rw [hc2];simp,?_⟩
  ·exact I3.turnedL (t':=s2.toks) (ts:=[kS]) (λb o hb e=>(s1'.2 b (by simpa using hb)).trans e) λb hb=>by rw [Z0w.mp hb];exact fk
  ·rw [Z14,hy,Z0s];exact rk.append (.cons ru .nil)
 case done =>
  rintro s1 ⟨ks,e,I1,ha1,hk1,rk⟩;rw [Nat.zero_add,<-lys,Z18] at rk;have lk:=rk.length;rw [Z08] at lk
  try dsimp only
  refine Z00 (listItems_at hk1 rfl ?_)
  have hkey:∀(i:Nat) (y:V) (u:Value),ys[i]? =some y->ks[i]? =some u->B1x s1.heap u (kI y):=λi y u hy hu=>by
   obtain ⟨c,n,ns,q1,q2,q3⟩:=ht y (Z13 hy);obtain ⟨u',hu',ru⟩:=rk.get (i:=i) (x:=kf y) (by rw [Z1z,hy];rfl);rw [hu] at hu';cases hu';rw [q1] at ru;cases ru;rw [q2];exact B9i I1 q3
  refine B4q hk1 ha1 hka (by rw [Z0g];lia) (by lia) (λu hu=> ?_) λout p1 p2=> ?_
  ·obtain ⟨i,hi⟩:=List.getElem?_of_mem (show u∈ks by simpa using hu);have hl:=(Z03.mp hi).1;have hy:ys[i]? =some ys[i]:=Z0b (by lia);have:=hkey i _ u hy hi;obtain ⟨c,n,ns,q1,q2,q3⟩:=ht _ (Z13 hy);rw [q2] at this;exact ⟨n,ns,this⟩
  ·
   have ez:(ys.zip (ks.zip its)).map (·.2)=ks.zip its:=List.map_snd_zip (by rw [List.length_zip];lia);have ey:(ys.zip (ks.zip its)).map (·.1)=ys:=List.map_fst_zip (by rw [List.length_zip];lia);rw [show ks.toArray.toList=ks by simp,<-ez] at p1;obtain ⟨L,l1,rfl⟩:=A7h p1
   have mem:∀t∈L,A2a t.1 t.2.2/\B1x s1.heap t.2.1 (kI t.1):=λt ht=>by
    obtain ⟨i,hi⟩:=List.getElem?_of_mem (l1.mem_iff.mp ht);rw [Z2m] at hi;obtain ⟨g1,g2⟩:=hi;rw [Z2m] at g2;obtain ⟨g2,g3⟩:=g2;obtain ⟨w,gw,rw'⟩:=rv.get g1;rw [g3] at gw;cases gw;exact ⟨rw',hkey i _ _ g1 g2⟩
   have s1':=Heap.SameBut.update s1.heap kS (Obj.mapSeq λ_=>(#[]:Array Value));have na1:(s1.heap.update kS (Obj.mapSeq λ_=>(#[]:Array Value))).get? a=some (seqObj "list" #[] e1):=(s1'.2 a hka.symm).trans ha1;have s2':=Heap.SameBut.update (s1.heap.update kS (Obj.mapSeq λ_=>(#[]:Array Value))) a (Obj.mapSeq λ_=>((L.map (·.2)).map (·.2)).toArray);obtain ⟨c3,hc3⟩:=B7h ha1 hka ((L.map (λt=>t.2)).map (λt=>t.2)).toArray;refine h _ (L.map (·.1)) ((L.map (·.2)).map (·.2)) c3 (I1.turnedL (t':=s1.toks) (ts:=[kS,a]) (λb o hb e=> ?_) λb hb=> ?_) hc3 ?_ ?_ ?_
   ·have h1:b≠kS:=λq=>hb (by simp [q]);have h2:b≠a:=λq=>hb (by simp [q]);exact (s2'.2 b h2).trans ((s1'.2 b h1).trans e)
   ·rcases Z0e.mp hb with q | q
    ·rw [q];exact fk
    ·rw [Z0w.mp q];exact fa
   ·rw [List.map_map];exact A6j λt ht=>(mem t ht).1
   ·have:=l1.map (·.1);rw [ey] at this;exact this
   ·rw [List.pairwise_map] at p2⊢;refine p2.imp_of_mem λ{t u} ht hu q=> ?_;rw [A6o (mem t ht).2,A6o (mem u hu).2] at q;exact q
theorem B1u {pins:List (Addr×Obj)} {σ:St} {H:Hp} {s:Shared} {p:Addr} {ys:List V} {kf:V->V} {kI:V->List Int} {Q:VK} (F:A5r X.prog X.w X.K X.mg X.base CX0 k f fd ps sp) (hr:A4f (k+2) X.A) (hb:A4o X.K fd ps []) (I:Inv X pins σ H s) (hq:SqL X.K H p ys)
  (hs:∀y∈ys,∀Q:VK,Q (kf y) H->sp [y] H Q E0) (ht:∀y∈ys,∃c n ns,kf y= .ref c/\kI y=n::ns/\H c=some (.tup ((n::ns).map .int)))
  (h:∀zs,zs.Perm ys->zs.Pairwise (λx y=>A2z (kI y) (kI x)=false)->∀l,H l=none->Q (.ref l) (upd H l (.lst zs))) :
  wpAny (model X.prog X.w) X.A (call (.builtin "sorted") [.ref p] [(Str.ofString "key",.ref f)]) (EP X pins σ Q) X.xe s:=by
 obtain ⟨its,rv,pl,hz⟩:=I.list hq;have lys:=rv.length;refine call_function_entry_kw kind_sorted plain_sorted entry_sorted (ksk_s1 _ _) ?_;unfold Builtin.«sorted»;refine Z00 (m:=checkCount "sorted" 1 1 _) (Z04 ?_);refine Z00 (collect_list pl.isList ?_ (by lia));refine Z00 (wpAny_newList ?_ (by lia))
 have hsz:((s.heap.push (seqObj "list" #[] 0)).update s.heap.objs.size (Obj.mapSeq (· ++its.toArray))).objs.size=s.heap.objs.size+1:=by
  rw [Heap.size_update,size_push']
 have hoL:(((s.heap.push (seqObj "list" #[] 0)).update s.heap.objs.size (Obj.mapSeq (· ++its.toArray))).push (seqObj "list" its.toArray 0)).get? (s.heap.objs.size+1)=some (seqObj "list" its.toArray 0):=by
  rw [<-hsz];exact Z0c _ rfl
 have keep:∀b o,s.heap.get? b=some o->(((s.heap.push (seqObj "list" #[] 0)).update s.heap.objs.size (Obj.mapSeq (· ++its.toArray))).push (seqObj "list" its.toArray 0)).get? b=some o:=λb o q=>by
  have hlt:b<s.heap.objs.size:=Z0a q;rw [Heap.get?_push_ne _ _ _ (by rw [hsz];exact Z0h (Nat.lt_succ_of_lt hlt)),Heap.get?_update_ne _ _ _ _ (Z0h hlt),Heap.get?_push_ne _ _ _ (Z0h hlt)];exact q
 show wpAny _ _ _ _ _ { s with heap:=((s.heap.push (seqObj "list" #[] 0)).update s.heap.objs.size (Obj.mapSeq (· ++its.toArray))).push (seqObj "list" its.toArray 0) };rw [hsz];have I1:=I.kept (t':=s.toks) keep;have hnA:s.heap.get? (s.heap.objs.size+1)=none:=Heap.get?_none_of_le (Nat.le_succ _);have hHa:H (s.heap.objs.size+1)=none:=I.hok.fresh (Nat.le_succ _);have fa:A8l X pins H (s.heap.objs.size+1):=I.fpOk (Nat.le_succ _) hHa;generalize ((s.heap.push (seqObj "list" #[] 0)).update s.heap.objs.size (Obj.mapSeq (· ++its.toArray))).push (seqObj "list" its.toArray 0)=h1 at hoL I1⊢;generalize s.heap.objs.size+1=a at hoL hnA hHa fa⊢;refine Z00 (Z1w (wpAny_call_entry_kw slot_list_sort ⟨_,hoL,rfl⟩ entry_list_sort ?body (ksk_l1 _ _)))
 case body =>
  show wpAny (model X.prog X.w) X.A.in1.in1 (Builtin.«list.sort» ⟨[.ref a],[(Str.ofString "key",.ref f)]⟩) _ _ _;rw [ksk_t1];unfold ksk_tree;have s1:=Heap.SameBut.update h1 a (Obj.mapSeq λ_=>(#[]:Array Value));obtain ⟨e1,ho1⟩:∃e1,(h1.update a (Obj.mapSeq λ_=>(#[]:Array Value))).get? a=some (seqObj "list" #[] e1):=⟨_,get?_update_seq hoL λ_=> #[]⟩;have I2:=I1.turnedL (t':=s.toks) (h':=h1.update a (Obj.mapSeq λ_=>(#[]:Array Value))) (ts:=[a]) (λb o hb e=>(s1.2 b (by simpa using hb)).trans e) λb hb=>by rw [Z0w.mp hb];exact fa
  refine Z00 (listItems_at hoL rfl ?_);refine Z00 (listUpdate_at hoL rfl ?_ (by rw [Z0g];lia) (Z1e _));refine Z00 (seqEpoch_at ho1 rfl ?_);refine Z00 (wpAny_newTuple ?_ (by show its.length<=_;lia));refine Z00 (wpAny_newList ?_ (Z1e _));refine Z1w ?_;have I3:=I2.kept (t':=s.toks) (h':=(h1.update a (Obj.mapSeq λ_=>(#[]:Array Value))).push (seqObj "tuple" its.toArray 0)) λb o e=>Z01 _ e;have ha3:=Z01 (seqObj "tuple" its.toArray 0) ho1;have I4:=I3.kept (t':=s.toks) (h':=((h1.update a (Obj.mapSeq λ_=>(#[]:Array Value))).push (seqObj "tuple" its.toArray 0)).push (seqObj "list" #[] 0)) λb o e=>Z01 _ e;have ha4:=Z01 (seqObj "list" #[] 0) ha3;have fk:A8l X pins H ((h1.update a (Obj.mapSeq λ_=>(#[]:Array Value))).push (seqObj "tuple" its.toArray 0)).objs.size:=I3.fpOk (Z09 _) (I3.hok.fresh (Z09 _));refine B2n F ((hr.in1).in1) hb I4 ha4 (Z0c _ rfl) fa fk (Z1q (Z0a ha3)) rv hz hs ht λs' zs its' c I5 ha5 rz pz sz=>⟨_,rfl,?_⟩;refine Z04 ⟨_,rfl,.ref a,upd H a (.lst zs),I.trackO I5 hnA hHa ?_,rfl,h zs pz sz a hHa⟩;exact ⟨by rw [pz.length_eq];exact hz,its',c,rz,ha5⟩
def B5v (K:Frag) (sp:Sp):List V->Hp->VK->Prop:=λxs H Q=>∃(p:Addr) (ys:List V) (kf:V->V) (kI:V->List Int),xs=[.ref p]/\SqL K H p ys/\(∀y∈ys,∀Q:VK,Q (kf y) H->sp [y] H Q E0)/\(∀y∈ys,∃c n ns,kf y= .ref c/\kI y=n::ns/\H c=some (.tup ((n::ns).map .int)))/\
 ∀zs,zs.Perm ys->zs.Pairwise (λx y=>A2z (kI y) (kI x)=false)->∀l,H l=none->Q (.ref l) (upd H l (.lst zs))
theorem A9r:bootBuiltins "sorted"=some (.builtin "sorted"):=by decide +kernel
theorem B1c {e:Expr} {t:TA} {g:Str} {p gp kpos pos:Pos} (F:A5r X.prog X.w X.K X.mg X.base CX0 k f fd ps sp) (hr:A4f (k+2) X.A) (hb:A4o X.K fd ps []) (hg:Gl X "sorted") (hm:X.mg "sorted"=none) (hgf:Gl X g) (hmf:X.mg g=some (.ref f)) (ha:PA X [e] t) (hdb:(g == ("__debug__":Str))=false:=by decide)
  (hst:backTo pos (starEach [e] X.env)=(false,eval e X.env)::backTo pos (starEach [] X.env):=by rfl) (hpl:(backTo pos (starEach [e] X.env)).any (·.1)=false:=by rfl) :
  PE X (.Call (.Name "sorted" p) [e] [⟨some (Str.ofString "key"),.Name g gp,kpos⟩] pos) (tCB (B5v X.K sp) t):=by
 intro pins s σ H Q I h;refine wpAny_Call_Name_kw (A3h I hg hm A9r ?_);refine callWith_kw (thn (ha pos pins s σ H _ I h) ?_) hst hpl;rintro us s1 ⟨xs,H1,I1,r1,p,ys,kf,kI,rfl,q1,q2,q3,q4⟩;obtain ⟨u,rfl,ru⟩:=B5b r1;cases ru;refine kws_cons (A8v I1 hgf hmf (kws_nil ?_) hdb);exact B1u F hr hb I1 q1 q2 q3 q4
end
section
open PySem.SeqAt
open PySem.AutoSeq1 (wpAny_loadPart')
open PySem.MeetsSeq PySem.MeetsSeq2 PySem.MeetsSeq3
set_option maxRecDepth 8000 in
theorem A9d (l:Addr) (items:Array Value) (n:Nat) (b:Addr) (items2:Array Value) (n2:Nat) (hc0:(items.size != items2.size)=true) :
  Meets (Builtin.«list.__ne__» ⟨[.ref l,.ref b],[]⟩) (λ_ R s=>s.heap.get? l=some { cls:= .type "list",dict:=none,data:= .seq items n,slots:= #[] }/\s.heap.get? b=some { cls:= .type "list",dict:=none,data:= .seq items2 n2,slots:= #[] }/\R (.ok (.ret (Value.bool (CmpOp.NotEq == CmpOp.NotEq)))) { s with heap:=s.heap,toks:=s.toks }) :=
 .of_wp λprog w A R s h=>by obtain ⟨hp,g,d,tk,os⟩:=s;obtain ⟨hl,hb,h⟩:=h;have f1:=AutoSeq1.idx_int;have f2:=AutoSeq1.sub_tuple_tuple;have f3:=AutoSeq1.sub_list_list;have f4:=AutoSeq1.sub_tuple_list;have f5:=AutoSeq1.sub_list_tuple;wp_walk using wpAny_loadPart' hl,wpAny_loadPart' hb;exact ⟨_,rfl,h⟩
end
def C1r (neg:Bool):V->V->Hp->VK->Prop:=λx y H Q=>∃(a b:Addr) (xs:List V),x= .ref a/\y= .ref b/\H a=some (.lst xs)/\H b=some (.lst [])/\Q (.bl (xs.isEmpty != neg)) H
section
variable {X:Cx}
theorem B0u (hu:X.A.units+64<cLine):OpR X (compareOp .Eq) (C1r false):=by
 intro pins s σ H x y v u Q I rx ry h;obtain ⟨a,b,xs,rfl,rfl,ha,hb,q⟩:=h
 cases xs with
 | nil=>exact B8y hu pins s σ H _ _ v u Q I rx ry ⟨.list [],.list [],.lst ha .nil,.lst hb .nil,rfl,rfl,q⟩
 | cons z xs =>
  cases rx
  cases ry
  obtain ⟨z1,its,n,r,hl,e⟩:=I.lstM ha;obtain ⟨z2,its2,n2,r2,hl2,e2⟩:=I.lstM hb
  exact richCompare_meets_room (op:= .Eq) ⟨_,e,rfl⟩ ⟨_,e2,rfl⟩ PySem.F.slot_list_eq PySem.F.entry_list_eq (PySem.F.args_list_eq_2 _ _) (AutoSeq1.list___eq___list_list_0 a its.toArray n b its2.toArray n2 (by
   rw [Z0y] at hl;rw [Z2g] at hl2;simp only [Z0g,<-hl,<-hl2];rfl)) ⟨e,e2,show Value.bool false≠Value.notImplemented/\EP X pins σ Q (.bool false) s from ⟨(λx=>nomatch x),⟨.bl false,H,I,rfl,q⟩⟩⟩ (by lia)
theorem B0k (hu:X.A.units+64<cLine):OpR X (compareOp .NotEq) (C1r true):=by
 intro pins s σ H x y v u Q I rx ry h;obtain ⟨a,b,xs,rfl,rfl,ha,hb,q⟩:=h
 cases xs with
 | nil=>exact B6b hu pins s σ H _ _ v u Q I rx ry ⟨.list [],.list [],.lst ha .nil,.lst hb .nil,rfl,rfl,q⟩
 | cons z xs =>
  cases rx
  cases ry
  obtain ⟨z1,its,n,r,hl,e⟩:=I.lstM ha;obtain ⟨z2,its2,n2,r2,hl2,e2⟩:=I.lstM hb
  exact richCompare_meets_room (op:= .NotEq) ⟨_,e,rfl⟩ ⟨_,e2,rfl⟩ PySem.F.slot_list_ne PySem.F.entry_list_ne (PySem.F.args_list_ne_2 _ _) (A9d a its.toArray n b its2.toArray n2 (by
   rw [Z0y] at hl;rw [Z2g] at hl2;simp only [Z0g,<-hl,<-hl2];rfl)) ⟨e,e2,show Value.bool true≠Value.notImplemented/\EP X pins σ Q (.bool true) s from ⟨(λx=>nomatch x),⟨.bl true,H,I,rfl,q⟩⟩⟩ (by lia)
end
end L2
namespace My
open PySem L2
section
variable {G:Hp} {v:V}
end
abbrev Stp:=Int×Str×List Int×List Int
inductive Nd where
 | loop (n sz wd out:Int) (bd:List Nd)
 | deed (n k:Int) (w:Str) (cs us:List Int)
def A4j (f:Int->Int) (n k:Int):Int->Int:=λx=>if x=n then k else f x
def iv (lo hi:Int):List Int:=(List.range (hi-lo).toNat).map λ(i:Nat)=>lo+(i:Int)
theorem A6g {lo hi c:Int}:c∈iv lo hi↔lo<=c/\c<hi:=by
 unfold iv;rw [Z2c];constructor
 ·rintro ⟨i,hi',rfl⟩;have:=List.mem_range.mp hi'
  lia
 ·rintro ⟨h1,h2⟩;exact ⟨(c-lo).toNat,List.mem_range.mpr (by lia),by lia⟩
def cts (sz wd out:Int) (f:Int->Int):List Int:=if out= -1 then iv 0 sz else iv (f out*wd) (min (f out*wd+wd) sz)
mutual
def doN:Nd->(Int->Int)->List Stp
 | .deed _ k w cs us,f=>[(k,w,cs.map f,us.map f)]
 | .loop n sz wd out bd,f=>(cts sz wd out f).flatMap λc=>doL bd (A4j f n c)
def doL:List Nd->(Int->Int)->List Stp
 | [],_=>[]
 | x::r,f=>doN x f++doL r f
end
theorem A9s:∀(a b:List Nd) (f:Int->Int),doL (a++b) f=doL a f++doL b f
 | [],b,f=>by simp [doL]
 | x::r,b,f=>by rw [Z17,doL,doL,A9s r b f,Z0z]
mutual
def nmN:Nd->List Int
 | .deed .. =>[]
 | .loop n _ _ _ bd=>n::nmL bd
def nmL:List Nd->List Int
 | []=>[]
 | x::r=>nmN x++nmL r
end
theorem A6z:∀(a b:List Nd),nmL (a++b)=nmL a++nmL b
 | [],b=>by simp [nmL]
 | x::r,b=>by rw [Z17,nmL,nmL,A6z r b,Z0z]
abbrev Rd:=List (Int×Int)
mutual
def wbN:Rd->Nd->Prop
 | b,.deed n k w cs us=>(∀x∈cs,∃s,(x,s)∈b)/\(∀x∈us,∃s,(x,s)∈b)/\cs.length<=100/\us.length<=100
 | b,.loop n sz wd out bd=>(out= -1\/∃s,(out,s)∈b/\(s-1)*wd<sz/\1<=wd)/\1<=sz/\sz<=60/\0<=n/\(∀s,(n,s)∉b)/\wbL ((n,sz)::b) bd/\bd.length<=100
def wbL:Rd->List Nd->Prop
 | _,[]=>True
 | b,x::r=>wbN b x/\wbL b r
end
theorem A8s {b:Rd}:∀{l m:List Nd},wbL b (l++m)↔wbL b l/\wbL b m
 | [],m=>by simp [wbL]
 | x::r,m=>by rw [Z17,wbL,wbL,A8s,and_assoc]
theorem B3r {b:Rd}:∀{l:List Nd},wbL b l->∀x∈l,wbN b x
 | x::r,h,y,hy=>by
  rw [wbL] at h;rcases Z0e.mp hy with rfl | hy
  ·exact h.1
  ·exact B3r h.2 y hy
mutual
def dpN:Nd->Nat
 | .deed .. =>0
 | .loop _ _ _ _ bd=>dpL bd+1
def dpL:List Nd->Nat
 | []=>0
 | x::r=>max (dpN x) (dpL r)
end
theorem B3f:∀(a b:List Nd),dpL (a++b)=max (dpL a) (dpL b)
 | [],b=>by simp [dpL]
 | x::r,b=>by rw [Z17,dpL,dpL,B3f r b,Nat.max_assoc]
theorem B6n {l:List Nd} {p:Nat} {x:Nd} (h:l[p]? =some x):l=l.take p++x::l.drop (p+1):=by
 obtain ⟨hl,rfl⟩:=Z03.mp h;rw [<-List.drop_eq_getElem_cons hl,Z2e]
theorem B6x (a b:List Nd) (x:Nd):nmL (a++x::b)=nmL a++(nmN x++nmL b):=by rw [A6z,nmL]
theorem B6p (a b:List Nd) (x:Nd):dpL (a++x::b)=max (dpL a) (max (dpN x) (dpL b)):=by rw [B3f,dpL]
open PySem L2 SA
mutual
def mdN:List Int->Int->Nd->(Int->Int)->List (List Int×Stp)
 | pre,i,.deed _ k w cs us,f=>[(pre++[i],(k,w,cs.map f,us.map f))]
 | pre,i,.loop n sz wd out bd,f=>(cts sz wd out f).flatMap λc=>mdL (pre++[i,c]) 0 bd (A4j f n c)
def mdL:List Int->Int->List Nd->(Int->Int)->List (List Int×Stp)
 | _,_,[],_=>[]
 | pre,i,x::r,f=>mdN pre i x f++mdL pre (i+1) r f
end
mutual
theorem B8h:∀(x:Nd) (pre:List Int) (i:Int) (f:Int->Int),(mdN pre i x f).map (·.2)=doN x f
 | .deed n k w cs us,pre,i,f=>by rw [mdN,doN];rfl
 | .loop n sz wd out bd,pre,i,f=>by
  rw [mdN,doN,List.map_flatMap];congr 1;funext c;exact B4l bd _ 0 _
theorem B4l:∀(l:List Nd) (pre:List Int) (i:Int) (f:Int->Int),(mdL pre i l f).map (·.2)=doL l f
 | [],pre,i,f=>by rw [mdL,doL];rfl
 | x::r,pre,i,f=>by rw [mdL,doL,Z0s,B8h x,B4l r]
end
theorem A8y:∀(p a b:List Int),A2z (p++a) (p++b)=A2z a b
 | [],a,b=>rfl
 | x::p,a,b=>by
  have e:A2z (x::(p++a)) (x::(p++b))=A2z (p++a) (p++b):=by
   conv=>lhs;unfold A2z
   rw [Z12 rfl]
  exact e.trans (A8y p a b)
theorem B6a {i j:Int} (h:i<j) (a b:List Int):A2z (i::a) (j::b)=true:=by
 unfold A2z;rw [Z0t (by lia)];exact Z20 h
theorem B6l (lo hi:Int):(iv lo hi).Pairwise (· < ·):=by
 unfold iv;rw [List.pairwise_map];refine List.pairwise_lt_range.imp λ{a b} h=> ?_
 lia
theorem B7u (sz wd out:Int) (f:Int->Int):(cts sz wd out f).Pairwise (· < ·):=by
 unfold cts;split
 ·exact B6l _ _
 ·exact B6l _ _
abbrev Inc (x y:List Int×Stp):Prop:=A2z x.1 y.1=true
mutual
theorem B6z:∀(x:Nd) (pre:List Int) (i:Int) (f:Int->Int),(∀r∈mdN pre i x f,∃t,r.1=pre++i::t)/\(mdN pre i x f).Pairwise Inc
 | .deed n k w cs us,pre,i,f=>by
  rw [mdN];exact ⟨λr hr=>⟨[],by rw [Z0w.mp hr]⟩,List.pairwise_singleton _ _⟩
 | .loop n sz wd out bd,pre,i,f=>by
  rw [mdN]
  have key:∀c,∀r∈mdL (pre++[i,c]) 0 bd (A4j f n c),∃t,r.1=pre++i::c::t:=λc r hr=>by
   obtain ⟨j,t,e,_⟩:=(A4y bd (pre++[i,c]) 0 (A4j f n c)).1 r hr;exact ⟨j::t,by rw [e,Z0z];rfl⟩
  refine ⟨λr hr=> ?_,?_⟩
  ·obtain ⟨c,_,hr⟩:=List.mem_flatMap.mp hr;obtain ⟨t,e⟩:=key c r hr;exact ⟨_,e⟩
  ·rw [List.pairwise_flatMap];refine ⟨λc _=>(A4y bd _ 0 _).2,(B7u sz wd out f).imp λ{c d} h r hr q hq=> ?_⟩;obtain ⟨t,e⟩:=key c r hr;obtain ⟨u,e'⟩:=key d q hq;show A2z r.1 q.1=true;rw [e,e',A8y];unfold A2z;rw [Z12 rfl];exact B6a h _ _
theorem A4y:∀(l:List Nd) (pre:List Int) (i:Int) (f:Int->Int),(∀r∈mdL pre i l f,∃j t,r.1=pre++j::t/\i<=j)/\(mdL pre i l f).Pairwise Inc
 | [],pre,i,f=>by
  rw [mdL];exact ⟨λr hr=>(nomatch hr),List.Pairwise.nil⟩
 | x::l,pre,i,f=>by
  rw [mdL];have a:=B6z x pre i f;have b:=A4y l pre (i+1) f;refine ⟨λr hr=> ?_,List.pairwise_append.mpr ⟨a.2,b.2,λr hr q hq=> ?_⟩⟩
  ·rcases Z07.mp hr with h | h
   ·obtain ⟨t,e⟩:=a.1 r h;exact ⟨i,t,e,Int.le_refl _⟩
   ·obtain ⟨j,t,e,h⟩:=b.1 r h;exact ⟨j,t,e,by lia⟩
  ·obtain ⟨t,e⟩:=a.1 r hr;obtain ⟨j,u,e',h⟩:=b.1 q hq;show A2z r.1 q.1=true;rw [e,e',A8y];exact B6a (by lia) _ _
end
theorem B4g:∀(a b:List Nd) (pre:List Int) (i:Int) (f:Int->Int),mdL pre i (a++b) f=mdL pre i a f++mdL pre (i+a.length) b f
 | [],b,pre,i,f=>by simp [mdL]
 | x::a,b,pre,i,f=>by
  rw [Z17,mdL,mdL,B4g a b,Z0z,Z0y,show i+1+(a.length:Int)=i+((a.length+1:Nat):Int) by lia]
theorem B3x:∀{zs ms:List (List Int×Stp)},zs.Perm ms->zs.Pairwise (λx y=>A2z y.1 x.1=false)->ms.Pairwise Inc->zs=ms
 | [],ms,p,_,_=>p.nil_eq
 | z::zs,[],p,_,_=>by cases p.eq_nil
 | z::zs,m::ms,p,h1,h2=>by
  have irr:∀x:List Int,A2z x x=false:=λx=>by
   cases e:A2z x x with
   | false=>rfl
   | true=>have:=A5n x x e;rw [e] at this;cases this
  rw [List.pairwise_cons] at h1 h2
  have ez:z=m:=by
   rcases Z0e.mp (p.mem_iff.mp (Z27 (a:=z) (l:=zs))) with e | hz
   ·exact e
   ·rcases Z0e.mp (p.mem_iff.mpr (Z27 (a:=m) (l:=ms))) with e | hm
    ·exact e.symm
    ·have q1:=h1.1 m hm;have q2:A2z m.1 z.1=true:=h2.1 z hz;rw [q1] at q2;cases q2
  subst ez;rw [B3x (List.Perm.cons_inv p) h1.2 h2.2]
abbrev Way:=List Int×(Int->Int)
def A2f (ws:List Way) (B:List Nd):List (List Int×Stp):=ws.flatMap λw=>mdL w.1 0 B w.2
def A2e (ws:List Way) (p n sz wd out:Int):List Way:=ws.flatMap λw=>(cts sz wd out w.2).map λc=>(w.1++[p,c],A4j w.2 n c)
theorem A4v {α β:Type} (f g:α->List β):∀l:List α,(l.flatMap λx=>f x++g x).Perm (l.flatMap f++l.flatMap g)
 | []=>List.Perm.refl _
 | x::l=>by
  rw [List.flatMap_cons,List.flatMap_cons,List.flatMap_cons];have h1:(f x++g x++l.flatMap λx=>f x++g x).Perm (f x++g x++(l.flatMap f++l.flatMap g)):=(A4v f g l).append_left _;refine h1.trans ?_;simp only [Z0z];refine List.Perm.append_left _ ?_;rw [<-Z0z,<-Z0z];exact List.perm_append_comm.append_right _
theorem B5c (ws:List Way) (B:List Nd) (n k:Int) (w:Str) (cs us:List Int):(A2f ws (B++[.deed n k w cs us])).Perm (A2f ws B++ws.map λv=>(v.1++[(B.length:Int)],(k,w,cs.map v.2,us.map v.2))):=by
 unfold A2f
 have e:∀v:Way,mdL v.1 0 (B++[.deed n k w cs us]) v.2=mdL v.1 0 B v.2++[(v.1++[(B.length:Int)],(k,w,cs.map v.2,us.map v.2))]:=λv=>by
  rw [B4g,mdL,mdL,mdN,Z0u,Int.zero_add]
 simp only [e];refine (A4v _ _ ws).trans (List.Perm.append_left _ ?_);rw [List.map_eq_flatMap]
theorem B2a (ws:List Way) (B:List Nd) (n sz wd out:Int) (bd:List Nd):(A2f ws (B++[.loop n sz wd out bd])).Perm (A2f ws B++A2f (A2e ws B.length n sz wd out) bd):=by
 unfold A2f A2e
 have e:∀v:Way,mdL v.1 0 (B++[.loop n sz wd out bd]) v.2=mdL v.1 0 B v.2++(cts sz wd out v.2).flatMap λc=>mdL (v.1++[(B.length:Int),c]) 0 bd (A4j v.2 n c):=λv=>by
  rw [B4g,mdL,mdL,mdN,Z0u,Int.zero_add]
 simp only [e];refine (A4v _ _ ws).trans (List.Perm.append_left _ ?_);rw [List.flatMap_assoc];simp only [List.flatMap_map];exact List.Perm.refl _
theorem B9g {due:List (List Int×Stp)} {zs:List (List Int×Stp)} {B:List Nd} {f:Int->Int} (h:due.Perm (A2f [([],f)] B)) (p:zs.Perm due) (s:zs.Pairwise (λx y=>A2z y.1 x.1=false)):zs.map (·.2)=doL B f:=by
 have e:A2f [([],f)] B=mdL [] 0 B f:=by unfold A2f;simp
 rw [e] at h;rw [B3x (p.trans h) s (A4y B [] 0 f).2,B4l]
structure Hd where
 n:Int
 sz:Int
 wd:Int
 out:Int
def wth (h:Hd):Int:=if h.out= -1 then h.sz else min h.sz h.wd
def wo:List Hd->Int
 | []=>1
 | h::r=>wth h*wo r
theorem B0p:∀a b:List Hd,wo (a++b)=wo a*wo b
 | [],b=>by show wo b=1*wo b;lia
 | h::r,b=>by show wth h*wo (r++b)=wth h*wo r*wo b;rw [B0p r b,Int.mul_assoc]
structure A9f (hs:List Hd):Prop where
 lo:1<=wo hs
 hi:wo hs<=24
 sz:∀o∈hs,1<=o.sz/\o.sz<=wo hs
structure Gd (hs:List Hd) (most:Int) (h:Hd):Prop where
 w1:1<=wth h
 w2:wth h<=most
 s1:1<=h.sz
 by':(h.out= -1/\h.sz=wth h)\/∃o∈hs,h.out=o.n/\(o.sz-1)*h.wd<h.sz/\1<=h.wd/\(h.sz<=o.sz*wth h\/h.sz=wth h)
theorem A9f.nil:A9f []:=⟨by decide,by decide,λo ho=>nomatch ho⟩
theorem A9f.most {hs:List Hd} (k:A9f hs):1<=24/wo hs/\24/wo hs<=24/\24/wo hs*wo hs<=24:=by
 have h1:=k.lo;have h2:=k.hi;have e:=Int.ediv_mul_le 24 (show wo hs≠0 by lia);refine ⟨Int.le_ediv_of_mul_le (by lia) (by lia),Int.ediv_le_self _ (by lia),e⟩
theorem A9f.snoc {hs:List Hd} {h:Hd} (k:A9f hs) (g:Gd hs (24/wo hs) h):A9f (hs++[h]):=by
 have e:wo (hs++[h])=wo hs*wth h:=by
  rw [B0p];show wo hs*(wth h*1)=_;rw [Int.mul_one]
 have h1:=k.lo;have m:=k.most;have w1:=g.w1;have w2:=g.w2
 have le:wo hs*wth h<=24:=by
  have:wo hs*wth h<=wo hs*(24/wo hs):=Z29 w2 (by lia);have e2:wo hs*(24/wo hs)=24/wo hs*wo hs:=Int.mul_comm _ _
  lia
 have ge:wo hs<=wo hs*wth h:=by
  have:=Z29 w1 (show 0<=wo hs by lia)
  lia
 have ge2:wth h<=wo hs*wth h:=by
  have:=Int.mul_le_mul_of_nonneg_right h1 (show 0<=wth h by lia)
  lia
 refine ⟨by rw [e];lia,by rw [e];exact le,λo ho=> ?_⟩;rw [e];rcases Z07.mp ho with q | q
 ·have:=k.sz o q
  lia
 ·rw [Z0w.mp q];refine ⟨g.s1,?_⟩;rcases g.by' with ⟨_,z⟩ | ⟨o,ho,_,_,_,z | z⟩
  ·lia
  ·have:=(k.sz o ho).2;have:=Int.mul_le_mul_of_nonneg_right this (show 0<=wth h by lia)
   lia
  ·lia
theorem gd_a {hs:List Hd} {o:Hd} {n w wd most:Int} (mo:o∈hs) (e:o.sz=1) (w1:1<=w) (w2:w<=most) (w4:w<=4) (hd:4<=wd):Gd hs most ⟨n,w,wd,o.n⟩:=by
 have ew:wth ⟨n,w,wd,o.n⟩=w:=by
  unfold wth;dsimp only;split
  ·rfl
  ·lia
 refine ⟨by rw [ew];exact w1,by rw [ew];exact w2,w1,.inr ⟨o,mo,rfl,?_,by show 1<=wd;lia,.inr ew.symm⟩⟩;show (o.sz-1)*wd<w;rw [e]
 lia
theorem gd_b {hs:List Hd} {o:Hd} {n w r most:Int} (mo:o∈hs) (on:0<=o.n) (so:1<=o.sz) (w1:1<=w) (w2:w<=most) (r0:0<=r) (r1:r<w):Gd hs most ⟨n,o.sz*w-r,w,o.n⟩:=by
 have ew:wth ⟨n,o.sz*w-r,w,o.n⟩=min (o.sz*w-r) w:=by
  unfold wth;dsimp only;rw [Z0t (by lia)]
 have h1:1*w<=o.sz*w:=Int.mul_le_mul_of_nonneg_right so (by lia);have h2:(o.sz-1)*w=o.sz*w-w:=by rw [Int.sub_mul,Int.one_mul]
 have hz:min (o.sz*w-r) w<=w:=Int.min_le_right _ _;refine ⟨by rw [ew];lia,by rw [ew];lia,by show 1<=o.sz*w-r;lia,.inr ⟨o,mo,rfl,by show (o.sz-1)*w<o.sz*w-r;lia,w1,?_⟩⟩;rw [ew];show o.sz*w-r<=o.sz*min (o.sz*w-r) w\/o.sz*w-r=min (o.sz*w-r) w;by_cases c:o.sz*w-r<w
 ·right
  lia
 ·left;rw [show min (o.sz*w-r) w=w by lia]
  lia
def top (i:Nat):Stmt:=PySem.Challenge.pw_arrayloom_k43_the_order_of_a_nest.main.body.getD i (.Pass ⟨0,0,0,0⟩)
abbrev A4u:Stmt:=top 2
abbrev A4b:Stmt:=top 4
abbrev A5s:Stmt:=top 5
abbrev A5a:Stmt:=top 6
abbrev A3p:Stmt:=top 7
abbrev A5o:Stmt:=top 8
abbrev A3k:Stmt:=top 9
abbrev A3l:Stmt:=top 11
abbrev A5p:Stmt:=top 12
abbrev A9i:Stmt:=top 13
abbrev A3n:Stmt:=top 14
abbrev A4c:Stmt:=top 15
abbrev A3m:Stmt:=top 16
abbrev A2i:Stmt:=top 17
abbrev A3i:Stmt:=top 18
abbrev A5t:Stmt:=top 19
abbrev A8m:Stmt:=top 20
abbrev A8u:Stmt:=top 21
abbrev A7a:Stmt:=top 22
abbrev A5i:Stmt:=top 23
abbrev A4a:Stmt:=top 24
abbrev A6u:Stmt:=top 25
abbrev B5u:Stmt:=top 26
abbrev B8b:List Str:=["body","counts","steps"]
abbrev B9r:List Str:=["loop","counts","steps"]
abbrev B9x:List Str:=["size","width","outer","counts"]
abbrev C1a:List Str:=["numbers","counts"]
abbrev C1g:List Str:=["_law_script","_law_k"]
abbrev C0v:List Str:=["_law_cell","_law_number","_law_heads","_law_most"]
abbrev B9y:List Str:=["_law_cell","_law_heads","_law_many"]
abbrev C1c:List Str:=["_law_cell","_law_number","_law_heads"]
abbrev C0a:List Str:=["_law_ways","_law_place","_law_head"]
abbrev C0g:List Str:=["_law_ways","_law_place","_law_deed"]
abbrev B1n:List Str:=["_law_cell","_law_number","_law_heads","_law_bodies","_law_ways","_law_due"]
abbrev B7r:List Str:=["_law_script","_law_behind"]
abbrev B1j:List Str:=["_law_found","_law_due"]
set_option genInjectivity false in
set_option genSizeOf false in
structure Adr where
 cE:Addr
 cJ:FuncData
 cz:Addr
 cr:FuncData
 ar:Addr
 au:FuncData
 a_:Addr
 bj:FuncData
 cn:Addr
 ca:FuncData
 cI:Addr
 cH:FuncData
 bv:Addr
 bw:FuncData
 cb:Addr
 cp:FuncData
 cA:Addr
 cG:FuncData
 cS:Addr
 cT:FuncData
 cf:Addr
 ce:FuncData
 cx:Addr
 cu:FuncData
 cq:Addr
 b_:FuncData
 bn:Addr
 bo:FuncData
 cg:Addr
 bz:FuncData
 cD:Addr
 cC:FuncData
 cU:Addr
 cP:FuncData
 cR:Addr
 cQ:FuncData
 cO:Addr
 cM:FuncData
 cB:Addr
 cF:FuncData
 cy:Addr
 cw:FuncData
 cL:Addr
 cK:FuncData
 c_:Addr
 cZ:FuncData
structure FQ (K:Frag) (mg:Str->Option Value) (x q:Str) (st:Stmt) (f:Addr) (fd:FuncData) (ps:List Str):Prop where
 F:Fun K x q st f fd
 m:mg x=some (.ref f)
 b:A4o K fd ps []
structure FM (K:Frag) (x q:Str) (st:Stmt) (f:Addr) (fd:FuncData) (ps:List Str):Prop where
 F:Fun K x q st f fd
 b:A4o K fd ps []
structure Txt (K:Frag) (mg:Str->Option Value) (t:Adr):Prop where
 bf:FQ K mg "is_loop" "is_loop" A4u t.cE t.cJ ["node"]
 al:FQ K mg "steps_of" "steps_of" A4b t.cz t.cr ["nest"]
 be:FQ K mg "do_body" "do_body" A5s t.ar t.au B8b
 bt:FQ K mg "do_loop" "do_loop" A5a t.a_ t.bj B9r
 ap:FQ K mg "counts_of" "counts_of" A3p t.cn t.ca B9x
 ba:FQ K mg "step_of" "step_of" A5o t.cI t.cH ["deed","counts"]
 ah:FQ K mg "counts_at" "counts_at" A3k t.bv t.bw C1a
 ae:FQ K mg "_law_cell_at" "_law_cell_at" A3l t.cb t.cp C1g
 av:FQ K mg "_law_whole" "_law_whole" A5p t.cA t.cG ["_law_found"]
 bu:FQ K mg "_law_act" "_law_act" A9i t.cS t.cT ["_law_cell","_law_deep"]
 ao:FQ K mg "_law_head_by" "_law_head_by" A3n t.cf t.ce C0v
 aj:FQ K mg "_law_picked" "_law_picked" A4c t.cx t.cu B9y
 aq:FQ K mg "_law_deed_by" "_law_deed_by" A3m t.cq t.b_ C1c
 af:FQ K mg "_law_ways_within" "_law_ways_within" A2i t.bn t.bo C0a
 am:FQ K mg "_law_rows_of" "_law_rows_of" A3i t.cg t.bz C0g
 bi:FQ K mg "_law_worth" "_law_worth" A5t t.cD t.cC ["_law_heads"]
 bp:FQ K mg "_law_put" "_law_put" A8m t.cU t.cP B1n
 bq:FQ K mg "_law_end" "_law_end" A8u t.cR t.cQ B1n
 aw:FQ K mg "_law_mark" "_law_mark" A7a t.cO t.cM ["_law_row"]
 bg:FQ K mg "_law_built" "_law_built" A5i t.cB t.cF B7r
 ai:FQ K mg "_law_wholes" "_law_wholes" A4a t.cy t.cw B1j
 az:FQ K mg "_law_same" "_law_same" A6u t.cL t.cK B1j
 cV:FQ K mg "law" "law" B5u t.c_ t.cZ ["_law_script"]
 cc:∃u,mg "NO_OUTER"=some u/\A2a (.int (-1)) u
 cv:mg "list"=none
 ak:mg "range"=none
 br:mg "min"=none
 ag:mg "tuple"=none
 ad:mg "len"=none
 aa:mg "isinstance"=none
 cX:mg "bool"=none
 cY:mg "int"=none
 cW:mg "dict"=none
 cN:mg "sorted"=none
 da:mg "str"=none
abbrev FO (P:Program) (w:World) (base:Heap) {K:Frag} {mg:Str->Option Value} {x q:Str} {st:Stmt} {f:Addr} {fd:FuncData} {ps:List Str} (_:FQ K mg x q st f fd ps) (n:Nat) (sp:Sp):Prop:=A5r P w K mg base CX0 n f fd ps sp
abbrev FP (P:Program) (w:World) (mg:Str->Option Value) (base:Heap) {K:Frag} {x q:Str} {st:Stmt} {f:Addr} {fd:FuncData} {ps:List Str} (_:FM K x q st f fd ps) (n:Nat) (sp:Sp):Prop:=A5r P w K mg base CX0 n f fd ps sp
theorem pcl {X:Cx} {k k2:Nat} {f:Addr} {fd:FuncData} {ps:List Str} {sp:Sp} {x q:Str} {st:Stmt} {e:Expr} {es:List Expr} {t:TA} {p pos:Pos} (F:A5r X.prog X.w X.K X.mg X.base CX0 k f fd ps sp) (hr:A4f k2 X.A) (Z:FQ X.K X.mg x q st f fd ps) (ha:PA X (e::es) t) (hk:k<=k2:=by lia) (hg:Gl X x:=by rfl) (hdb:(x == ("__debug__":Str))=false:=by decide) (he:starEach (e::es) X.env=(false,eval e X.env)::starEach es X.env:=by rfl) (hpl:(backTo pos (starEach es X.env)).any (·.1)=false:=by rfl):PE X (.Call (.Name x p) (e::es) [] pos) (B8r sp [] E0 t):=B6t F (hr.mono hk) hg Z.m Z.F.kp Z.b .nil C0q ha hdb he hpl
theorem A0s {n:Nat} (h:Nat.ble n 1000000=true):n<=sizeLine:=A5x (Nat.le_of_ble_eq_true h)
theorem C1m:(0:Int)<2:=by decide
theorem C0t:(0:Int)<3:=by decide
theorem C1b:(0:Int)<5:=by decide
theorem z_90:(0:Int)<9:=by decide
theorem nH {H:Hp} {x:Addr} {o:HO} (h:H x=none):∃H',A1t H H'/\H' x=some o/\upd H x o=H':=⟨_,A0j h,A0g,rfl⟩
abbrev Sro (a:Addr):Option V:=some (.ref a)
abbrev Sio (a:Int):Option V:=some (.int a)
abbrev Sso (a:Str):Option V:=some (.str a)
abbrev Sbo (a:Bool):Option V:=some (.bl a)
local macro_rules | `(tactic| walk_at "ix") => `(tactic| first | exact Or.inl rfl | exact Or.inr rfl | (simp [relabel]; rfl) | (with_unfolding_all exact Or.inl rfl) | (with_unfolding_all exact Or.inr rfl) | (with_unfolding_all decide))
local macro_rules | `(tactic| walk_at "sc") => `(tactic| exact ⟨rfl, rfl, rfl, by decide +kernel, rfl, by decide +kernel, by decide +kernel⟩)
local macro_rules | `(tactic| walk_at "ln") => `(tactic| (intro _ _ _ _ h; first | (cases h; subst_vars; rfl) | ((repeat (obtain ⟨_, h⟩ := h)); subst_vars; rfl)))
theorem B1a:A0v ["node"] ["node"] (A0h A4u):=by walk_at "sc"
theorem A5q:A0v ["nest","steps"] ["nest"] (A0h A4b):=by walk_at "sc"
theorem A6h:A0v ["body","counts","steps","node"] B8b (A0h A5s):=by walk_at "sc"
theorem A1q:A0v ["loop","counts","steps","kind","number","size","width","outer","body","count"] B9r (A0h A5a):=by walk_at "sc"
theorem A4h:A0v ["size","width","outer","counts","begin"] B9x (A0h A3p):=by walk_at "sc"
theorem A2b:A0v ["deed","counts","kind","number","line","word","cell","turn"] ["deed","counts"] (A0h A5o):=by walk_at "sc"
theorem A7k:A0v C1a ["numbers","counts"] (A0h A3k):=by walk_at "sc"
theorem A8b:A0v C1g ["_law_script","_law_k"] (A0h A3l):=by walk_at "sc"
theorem B1q:A0v ["_law_found"] ["_law_found"] (A0h A5p):=by walk_at "sc"
theorem B0f:A0v ["_law_cell","_law_deep","_law_act_here"] ["_law_cell","_law_deep"] (A0h A9i):=by walk_at "sc"
theorem A2p:A0v ["_law_cell","_law_number","_law_heads","_law_most","_law_rest","_law_outer","_law_width"] C0v (A0h A3n):=by walk_at "sc"
theorem A9c:A0v B9y ["_law_cell","_law_heads","_law_many"] (A0h A4c):=by walk_at "sc"
theorem A2d:A0v ["_law_cell","_law_number","_law_heads","_law_rest","_law_word","_law_own","_law_turn"] C1c (A0h A3m):=by walk_at "sc"
theorem A0m:A0v ["_law_ways","_law_place","_law_head","_law_made","_law_mark_here","_law_counts","_law_low","_law_high","_law_count","_law_more"] C0a (A0h A2i):=by walk_at "sc"
theorem A1r:A0v ["_law_ways","_law_place","_law_deed","_law_made","_law_mark_here","_law_counts","_law_own","_law_turn"] C0g (A0h A3i):=by walk_at "sc"
theorem A2r:A0v ["_law_heads","_law_worth_here","_law_head"] ["_law_heads"] (A0h A5t):=by walk_at "sc"
theorem B0e:A0v ["_law_cell","_law_number","_law_heads","_law_bodies","_law_ways","_law_due","_law_deed"] B1n (A0h A8m):=by walk_at "sc"
theorem A9z:A0v ["_law_cell","_law_number","_law_heads","_law_bodies","_law_ways","_law_due","_law_body"] B1n (A0h A8u):=by walk_at "sc"
theorem B3v:A0v ["_law_row"] ["_law_row"] (A0h A7a):=by walk_at "sc"
theorem A1f:A0v ["_law_script","_law_behind","_law_start","_law_step","_law_heads","_law_bodies","_law_ways","_law_due","_law_k","_law_number","_law_act_here"] B7r (A0h A5i):=by walk_at "sc"
theorem A5m:A0v ["_law_found","_law_due","_law_k"] B1j (A0h A4a):=by walk_at "sc"
theorem A5k:A0v ["_law_found","_law_due","_law_k","_law_step"] B1j (A0h A6u):=by walk_at "sc"
theorem A9x:A0v ["_law_script","_law_nest","_law_due","_law_found"] ["_law_script"] (A0h B5u):=by walk_at "sc"
theorem B3q:(["number","counts"]:List Str).Nodup:=by decide +kernel
theorem B3i:(["_law_k","_law_cell","_law_heads"]:List Str).Nodup:=by decide +kernel
theorem B3h:(["_law_number","_law_counts"]:List Str).Nodup:=by decide +kernel
theorem B2z:(["_law_number","_law_counts"]:List Str).Nodup:=by decide +kernel
theorem B4f:(["_law_row"]:List Str).Nodup:=by decide +kernel
theorem A5r.none {P:Program} {w:World} {K:Frag} {mg:Str->Option Value} {base:Heap} {CX:CXT} {k:Nat} {f:Addr} {fd:FuncData} {ps:List Str} {sp:Sp} (h:∀vs H Q E,¬sp vs H Q E):A5r P w K mg base CX k f fd ps sp :=
 ⟨λvs H Q E q=>(h vs H Q E q).elim,λ_ _ _ H _ _ vs Q E _ _ _ _ q=>(h vs H Q E q).elim⟩
theorem B3g {α β:Type} {F:α->β->Prop}:∀{l:List α} {m:List β},Paired F l m->∀{i:Nat} {x:α},l[i]? =some x->∃y,m[i]? =some y/\F x y
 | _,_,.nil,i,x,e=>by simp at e
 | _,_,.cons r t,0,x,e=>by simp at e;subst e;exact ⟨_,rfl,r⟩
 | _,_,.cons r t,i+1,x,e=>by
  obtain ⟨y,e1,e2⟩:=B3g t (i:=i) (by simpa using e);exact ⟨y,by simpa using e1,e2⟩
theorem B4s {α β:Type} {F:α->β->Prop}:∀{a c:List α} {b d:List β},Paired F a b->Paired F c d->Paired F (a++c) (b++d)
 | _,_,_,_,.nil,h=>h
 | _,_,_,_,.cons r t,h=> .cons r (B4s t h)
theorem A6y {α:Type} {f:α->V} {xs:List α} {i:Nat} {v:V} (h:(xs.map f)[i]? =some v):∃x,xs[i]? =some x/\v=f x:=by
 rw [Z1z] at h
 cases e:xs[i]? with
 | none=>rw [e] at h;cases h
 | some x=>rw [e] at h;exact ⟨x,rfl,(Z1a h).symm⟩
def KT (H H':Hp):Prop:=∀p xs,H p=some (.tup xs)->H' p=some (.tup xs)
theorem KT.same {H H':Hp} (s:A1t H H'):KT H H':=λp xs e=>s _ _ e
theorem KT.at {H:Hp} {l:Addr} {u o:HO} (e:H l=some u) (n:∀xs,u≠.tup xs):KT H (upd H l o):=λp xs z=>by rw [A0l (A9m z e (n xs).symm)];exact z
theorem KT.trans {H H' H2:Hp} (a:KT H H') (b:KT H' H2):KT H H2:=λp xs e=>b _ _ (a _ _ e)
def B7a (H:Hp) (v:V) (s:Stp):Prop:=∃b c u,v= .ref b/\H b=some (.tup [.int s.1,.str s.2.1,.ref c,.ref u])/\H c=some (.tup (s.2.2.1.map V.int))/\H u=some (.tup (s.2.2.2.map V.int))
theorem B7a.kt {H H':Hp} {v:V} {s:Stp} (h:B7a H v s) (k:KT H H'):B7a H' v s:=by
 obtain ⟨b,c,u,rfl,h1,h2,h3⟩:=h;exact ⟨b,c,u,rfl,k _ _ h1,k _ _ h2,k _ _ h3⟩
abbrev A4w (H:Hp) (xs:List V) (os:List Stp):Prop:=Paired (B7a H) xs os
theorem A4w.kt {H H':Hp} {xs:List V} {os:List Stp} (h:A4w H xs os) (k:KT H H'):A4w H' xs os:=Paired.mapP h λ_ _ z=>z.kt k
local macro_rules | `(tactic| walk_at "lk") => `(tactic| first | with_reducible exact lk0 | (refine lk1 (by decide +kernel) ?_; walk_at "lk") | rfl)
mutual
def A5y (H:Hp):Nd->V->Prop
 | .deed n k w cs us,v=>∃b c u,v= .ref b/\H b=some (.tup [.str "deed",.int n,.int k,.str w,.ref c,.ref u])/\H c=some (.tup (cs.map V.int))/\H u=some (.tup (us.map V.int))
 | .loop n sz wd out bd,v=>∃b p xs,v= .ref b/\H b=some (.tup [.str "loop",.int n,.int sz,.int wd,.int out,.ref p])/\H p=some (.tup xs)/\A2g H bd xs
def A2g (H:Hp):List Nd->List V->Prop
 | [],vs=>vs=[]
 | x::r,vs=>∃v vr,vs=v::vr/\A5y H x v/\A2g H r vr
end
theorem A3q {H:Hp}:∀{l:List Nd} {vs:List V},A2g H l vs↔Paired (λv x=>A5y H x v) vs l
 | [],vs=>by
  rw [A2g];constructor
  ·rintro rfl;exact .nil
  ·intro h;cases h;rfl
 | x::r,vs=>by
  rw [A2g];constructor
  ·rintro ⟨v,vr,rfl,h1,h2⟩;exact .cons h1 (A3q.mp h2)
  ·intro h
   cases h with
   | cons a b=>exact ⟨_,_,rfl,a,A3q.mpr b⟩
mutual
theorem A5y.kt {H H':Hp} (k:KT H H'):∀{x:Nd} {v:V},A5y H x v->A5y H' x v
 | .deed n kk w cs us,v,h=>by
  rw [A5y] at h⊢;obtain ⟨b,c,u,e,h1,h2,h3⟩:=h;exact ⟨b,c,u,e,k _ _ h1,k _ _ h2,k _ _ h3⟩
 | .loop n sz wd out bd,v,h=>by
  rw [A5y] at h⊢;obtain ⟨b,p,xs,e,h1,h2,h3⟩:=h;exact ⟨b,p,xs,e,k _ _ h1,k _ _ h2,A2g.kt k h3⟩
theorem A2g.kt {H H':Hp} (k:KT H H'):∀{l:List Nd} {vs:List V},A2g H l vs->A2g H' l vs
 | [],vs,h=>by rw [A2g] at h⊢;exact h
 | x::r,vs,h=>by
  rw [A2g] at h⊢;obtain ⟨v,vr,e,h1,h2⟩:=h;exact ⟨v,vr,e,A5y.kt k h1,A2g.kt k h2⟩
end
theorem A2g.len {H:Hp} {l:List Nd} {vs:List V} (h:A2g H l vs):vs.length=l.length:=Paired.length (A3q.mp h)
def ci (kvs:List (Key×V)) (x:Int):Int:=match A3u kvs (Sum.inl x) with | some (.int i)=>i | _=>0
theorem B0r (kvs:List (Key×V)) (x:Int) (k:Int):ci (A3f kvs (Sum.inl x) (.int k))=A4j (ci kvs) x k:=by
 funext y;unfold ci A4j;rw [A4s];by_cases h:y=x
 ·subst h;rw [Z12 rfl,Z12 rfl]
 ·rw [Z0t (λz=>h (by injection z)),Z0t h]
mutual
theorem A7p:∀(x:Nd) (b:Rd) (f g:Int->Int),wbN b x->(∀y s,(y,s)∈b->f y=g y)->doN x f=doN x g
 | .deed n k v cs us,b,f,g,wb,h=>by
  rw [wbN] at wb;rw [doN,doN]
  have e1:cs.map f=cs.map g:=List.map_congr_left λx hx=>by
   obtain ⟨s,hs⟩:=wb.1 x hx;exact h x s hs
  have e2:us.map f=us.map g:=List.map_congr_left λx hx=>by
   obtain ⟨s,hs⟩:=wb.2.1 x hx;exact h x s hs
  rw [e1,e2]
 | .loop n sz wd out bd,b,f,g,wb,h=>by
  rw [wbN] at wb;obtain ⟨hout,s1,s2,n0,nb,wbd,lbd⟩:=wb;rw [doN,doN]
  have ec:cts sz wd out f=cts sz wd out g:=by
   unfold cts;by_cases ho:out= -1
   ·rw [Z12 ho,Z12 ho]
   ·obtain ⟨s,hs,_⟩:=hout.resolve_left ho;rw [Z0t ho,Z0t ho,h out s hs]
  rw [ec];congr 1;funext c;refine A5l bd _ _ _ wbd λy s hy=> ?_;unfold A4j;by_cases z:y=n
  ·rw [Z12 z,Z12 z]
  ·rw [Z0t z,Z0t z];rcases Z0e.mp hy with hy | hy
   ·injection hy with e1 e2;exact absurd e1 z
   ·exact h y s hy
theorem A5l:∀(l:List Nd) (b:Rd) (f g:Int->Int),wbL b l->(∀y s,(y,s)∈b->f y=g y)->doL l f=doL l g
 | [],b,f,g,wb,h=>by rw [doL,doL]
 | x::r,b,f,g,wb,h=>by
  rw [wbL] at wb;rw [doL,doL,A7p x b f g wb.1 h,A5l r b f g wb.2 h]
end
structure A5d (kvs:List (Key×V)) (KS:List Int):Prop where
 nd:(kvs.map (·.1)).Nodup
 mem:∀p∈kvs,∃m∈KS,p.1=Sum.inl m
theorem B0m {α:Type} [DecidableEq α]:∀{l m:List α},l.Nodup->(∀x∈l,x∈m)->l.length<=m.length
 | [],m,_,_=>Z1e _
 | x::r,m,nd,h=>by
  rw [Z15] at nd;have hx:=h x (.head _);have:=B0m (l:=r) (m:=m.erase x) nd.2 λy hy=>(List.mem_erase_of_ne (λz=>nd.1 (by rw [<-z];exact hy))).mpr (h y (.tail _ hy));rw [List.length_erase_of_mem hx] at this;have:0<m.length:=List.length_pos_of_mem hx;rw [Z0y]
  lia
theorem A5d.len {kvs:List (Key×V)} {KS:List Int} (h:A5d kvs KS):kvs.length<=KS.length:=by
 have:=B0m (l:=kvs.map (·.1)) (m:=KS.map (Sum.inl:Int->Key)) h.nd λx hx=>by
  obtain ⟨p,hp,rfl⟩:=Z2c.mp hx;obtain ⟨m,hm,e⟩:=h.mem p hp;rw [e];exact Z2c.mpr ⟨m,hm,rfl⟩
 rw [Z08,Z08] at this;exact this
theorem A5d.put {kvs:List (Key×V)} {KS:List Int} (h:A5d kvs KS) {n:Int} (hn:n∈KS) (v:V):A5d (A3f kvs (Sum.inl n) v) KS:=by
 unfold A3f;split
 ·refine ⟨?_,λp hp=> ?_⟩
  ·have:(kvs.map λkv=>if kv.1=Sum.inl n then (kv.1,v) else kv).map (·.1)=kvs.map (·.1):=by
    rw [List.map_map];refine List.map_congr_left λx _=> ?_;show (if x.1=Sum.inl n then (x.1,v) else x).1=x.1;split <;> rfl
   rw [this];exact h.nd
  ·obtain ⟨q,hq,rfl⟩:=Z2c.mp hp;obtain ⟨m,hm,e⟩:=h.mem q hq;refine ⟨m,hm,?_⟩;split <;> exact e
 ·rename_i ha;refine ⟨?_,λp hp=> ?_⟩
  ·rw [Z0s,Z0l];refine ⟨h.nd,by simp,λa ha' b hb=> ?_⟩;have hb:b=Sum.inl n:=by simpa using hb
   subst hb;intro z;subst z;obtain ⟨q,hq,e⟩:=Z2c.mp ha';exact ha (List.any_eq_true.mpr ⟨q,hq,by simpa using e⟩)
  ·rcases Z07.mp hp with hp | hp
   ·exact h.mem p hp
   ·rw [Z0w.mp hp];exact ⟨n,hn,rfl⟩
def K2 (x y:Addr) (H H':Hp):Prop:=∀b o,b≠x->b≠y->H b=some o->H' b=some o
theorem K2.refl {x y:Addr} {H:Hp}:K2 x y H H:=λ_ _ _ _ e=>e
theorem K2.of {x y:Addr} {H H':Hp} (s:A1t H H'):K2 x y H H':=λ_ _ _ _ e=>s _ _ e
theorem K2.trans {x y:Addr} {H H' H2:Hp} (a:K2 x y H H') (b:K2 x y H' H2):K2 x y H H2:=λc o n m e=>b c o n m (a c o n m e)
theorem K2.l {x y:Addr} {H:Hp} {o:HO}:K2 x y H (upd H x o):=λb u n _ e=>by rw [A0l n];exact e
theorem K2.r {x y:Addr} {H:Hp} {o:HO}:K2 x y H (upd H y o):=λb u _ n e=>by rw [A0l n];exact e
theorem K2.kt {x y:Addr} {H H':Hp} {u w:HO} (k:K2 x y H H') (hx:H x=some u) (nx:∀xs,u≠.tup xs) (hy:H y=some w) (ny:∀xs,w≠.tup xs):KT H H':=λb xs e=>k b _ (A9m e hx (nx xs).symm) (A9m e hy (ny xs).symm) e
def B5w (kvs:List (Key×V)) (b:Rd):Prop:=∀x s,(x,s)∈b->A3u kvs (Sum.inl x)=some (.int (ci kvs x))/\0<=ci kvs x/\ci kvs x<s
theorem B5w.of {kvs kvs':List (Key×V)} {b:Rd} (h:B5w kvs b) (e:∀x s,(x,s)∈b->A3u kvs' (Sum.inl x)=A3u kvs (Sum.inl x)):B5w kvs' b:=λx s hx=>by
 obtain ⟨h1,h2,h3⟩:=h x s hx;have:ci kvs' x=ci kvs x:=by unfold ci;rw [e x s hx]
 rw [this,e x s hx];exact ⟨h1,h2,h3⟩
structure Ask (H:Hp) (cd sl:Addr) (b:Rd) (KS:List Int) (kvs:List (Key×V)) (ys:List V) (c:Nat):Prop where
 hc:H cd=some (.dK kvs)
 has:B5w kvs b
 hs:H sl=some (.lst ys)
 ks:A5d kvs KS
 b1:KS.length<=900000
 b2:ys.length+c<=900000
structure B7l (H H':Hp) (cd sl:Addr) (b:Rd) (KS:List Int) (kvs kvs':List (Key×V)) (ys zs:List V) (os:List Stp):Prop where
 hc:H' cd=some (.dK kvs')
 hs:H' sl=some (.lst (ys++zs))
 st:A4w H' zs os
 same:∀x s,(x,s)∈b->A3u kvs' (Sum.inl x)=A3u kvs (Sum.inl x)
 ks:A5d kvs' KS
 kp:K2 cd sl H H'
def A9h (d:Nat):Sp:=λvs H Q _=>∃(p cd sl:Addr) (b:Rd) (xs:List V) (l:List Nd) (KS:List Int) (kvs:List (Key×V)) (ys:List V),vs=[.ref p,.ref cd,.ref sl]/\H p=some (.tup xs)/\A2g H l xs/\wbL b l/\dpL l<=d/\(∀m∈nmL l,m∈KS)/\Ask H cd sl b KS kvs ys (doL l (ci kvs)).length/\
 ∀kvs' zs H',B7l H H' cd sl b KS kvs kvs' ys zs (doL l (ci kvs))->Q .non H'
def B7e (d:Nat):Sp:=λvs H Q _=>∃(v:V) (cd sl:Addr) (n sz wd out:Int) (bd:List Nd) (b:Rd) (KS:List Int) (kvs:List (Key×V)) (ys:List V),vs=[v,.ref cd,.ref sl]/\A5y H (.loop n sz wd out bd) v/\wbN b (.loop n sz wd out bd)/\dpL bd<=d/\(∀m∈nmN (.loop n sz wd out bd),m∈KS)/\Ask H cd sl b KS kvs ys (doN (.loop n sz wd out bd) (ci kvs)).length/\
 ∀kvs' zs H',B7l H H' cd sl b KS kvs kvs' ys zs (doN (.loop n sz wd out bd) (ci kvs))->Q .non H'
def B8i:Sp:=λvs H Q _=>∃(b:Addr) (x:Str) (xs:List V),vs=[.ref b]/\H b=some (.tup (.str x::xs))/\Q (.bl (decide (V.str x=V.str "loop"))) H
def B9f:Sp:=λvs H Q _=>∃(sz wd out:Int) (cd:Addr) (b:Rd) (kvs:List (Key×V)),vs=[.int sz,.int wd,.int out,.ref cd]/\H cd=some (.dK kvs)/\B5w kvs b/\(out= -1\/∃s,(out,s)∈b/\(s-1)*wd<sz/\1<=wd)/\1<=sz/\sz<=60/\∀D,H D=none->Q (.ref D) (upd H D (.lst ((cts sz wd out (ci kvs)).map V.int)))
def B9j:Sp:=λvs H Q _=>∃(c cd:Addr) (cs:List Int) (kvs:List (Key×V)),vs=[.ref c,.ref cd]/\H c=some (.tup (cs.map V.int))/\cs.length<=100/\H cd=some (.dK kvs)/\(∀x∈cs,A3u kvs (Sum.inl x)=some (.int (ci kvs x)))/\∀(q:Addr) (H':Hp),H q=none->A1t H H'->H' q=some (.tup ((cs.map (ci kvs)).map V.int))->Q (.ref q) H'
def B8t:Sp:=λvs H Q _=>∃(b c u cd:Addr) (n k:Int) (w:Str) (cs us:List Int) (kvs:List (Key×V)),vs=[.ref b,.ref cd]/\H b=some (.tup [.str "deed",.int n,.int k,.str w,.ref c,.ref u])/\H c=some (.tup (cs.map V.int))/\H u=some (.tup (us.map V.int))/\cs.length<=100/\us.length<=100/\H cd=some (.dK kvs)/\(∀x∈cs,A3u kvs (Sum.inl x)=some (.int (ci kvs x)))/\(∀x∈us,A3u kvs (Sum.inl x)=some (.int (ci kvs x)))/\
 ∀(v:V) (H':Hp),A1t H H'->B7a H' v (k,w,cs.map (ci kvs),us.map (ci kvs))->Q v H'
variable {P:Program} {w:World} {K:Frag} {mg:Str->Option Value} {base:Heap} {t:Adr}
theorem B1b (T:Txt K mg t):FO P w base T.bf 1 B8i:=by
 refine T.bf.F.ok B1a (by walk_at "ln") λ_ A _ s H _ Q E hr h=> ?_
 ·obtain ⟨b,x,xs,rfl,hb,k⟩:=h;exact ⟨_,(A0f (A0x (B6u A6d (A0t A1b (pv 0) A0d (λ_ _=>rfl)) A2k (A1e _)))),_,rfl,b,_,_,_,rfl,rfl,SqT.of hb,A0q (j:=0) rfl,rfl,k⟩
theorem A7f (T:Txt K mg t):FO P w base T.ap 1 B9f:=by
 refine T.ap.F.ok A4h (by walk_at "ln") λ_ A _ s H _ Q E hr h=> ?_
 ·obtain ⟨sz,wd,out,cd,b,kvs,rfl,hcd,has,hout,z1,z60,k⟩:=h;have hu:=A9k hr
  refine ⟨_,(A0e (A2o (A0y A6d (pv 2) (B5i T.cc rfl) (A1e _))
    (A0f (A0x (A7b rfl (by rfl) T.cv (by rfl) T.ak (A0a (pv 0) A0b))))
    A1h)
   (A0e (A0w (i:=4) A4h.nd rfl (.inl rfl) (A0n A3r (A5j hu (pv 3) (pv 2) (λ_ _=>rfl)) (pv 1)))
   (A0f (A0x (A7c rfl (by rfl) T.cv (by rfl) T.ak (A0a (pv 4) (A0a (A0k (A2u rfl) (by rfl) T.br PyProof.Rows.boot_min (A0a (A0n A2m (pv 4) (pv 1)) (A0a (pv 0) A0b))) A0b))))))),?_⟩
  refine ⟨_,rfl,rfl,_,rfl,B8a (λho=> ?_) (λho=> ?_)⟩
  ·have ho:out= -1:=by injection ho
   refine ⟨_,rfl,_,rfl,by lia,by lia,λD hD=> ?_⟩;have:=k D hD;unfold cts at this;rw [Z12 ho] at this
   have e:(iv 0 sz).map V.int=(List.range sz.toNat).map λ(k:Nat)=>V.int (k:Int):=by
    unfold iv;rw [List.map_map,Int.sub_zero];refine List.map_congr_left λi _=> ?_;show V.int (0+(i:Int))=_;rw [Int.zero_add]
   rw [e] at this;exact this
  ·have ho:out≠-1:=λz=>ho (by rw [z]);obtain ⟨s0,hs,hlt,wd1⟩:=hout.resolve_left ho;obtain ⟨hv,c0,c1⟩:=has out s0 hs;have g:=B4p.k (H:=H) (a:=cd) (k:=Sum.inl out) hcd;rw [hv] at g;have m1:ci kvs out*wd<=(s0-1)*wd:=Int.mul_le_mul_of_nonneg_right (by lia) (by lia);have m0:0<=ci kvs out*wd:=Int.mul_nonneg c0 (by lia)
   have big:ci kvs out<=60:=by
    have:ci kvs out*1<=ci kvs out*wd:=Z29 wd1 c0
    lia
   refine ⟨_,rfl,_,rfl,cd,_,rfl,g,_,rfl,_,_,rfl,rfl,.inl ⟨by lia,by lia⟩,?_⟩
   have fin:∀hi:Int,hi=min (ci kvs out*wd+wd) sz->∀D,H D=none->Q (.ref D) (upd H D (.lst ((List.range (hi-ci kvs out*wd).toNat).map λ(k:Nat)=>V.int (ci kvs out*wd+k)))):=λhi e D hD=>by
    have:=k D hD;unfold cts at this;rw [Z0t ho,<-e] at this;unfold iv at this;rw [List.map_map] at this;exact this
   refine ⟨_,rfl,_,rfl,_,rfl,_,_,rfl,rfl,_,rfl,_,_,rfl,ci kvs out*wd,_,rfl,?_,λD hD=>fin _ ?_ D hD⟩
   ·show -(2^62)<=ci kvs out*wd/\ci kvs out*wd<2^62/\-(2^62)<=(if sz<ci kvs out*wd+wd then sz else ci kvs out*wd+wd)/\(if sz<ci kvs out*wd+wd then sz else ci kvs out*wd+wd)<2^62/\(if sz<ci kvs out*wd+wd then sz else ci kvs out*wd+wd)-ci kvs out*wd<=1000000;split <;> refine ⟨by lia,by lia,by lia,by lia,by lia⟩
   ·show (if sz<ci kvs out*wd+wd then sz else ci kvs out*wd+wd)=_;split <;> lia
theorem A7d (T:Txt K mg t):FO P w base T.ah 1 B9j:=by
 refine T.ah.F.ok A7k (by walk_at "ln") λ_ A _ s H _ Q E hr h=> ?_
 ·obtain ⟨c,cd,cs,kvs,rfl,hc,lc,hcd,has,k⟩:=h;have hu:=A9k hr;refine ⟨_,(A0f (A0x (A2l A1j (by rfl) T.ag Z0m (A0a (A5u (N':=["number","counts"]) (ix:=(List.replicate 1 none++[some 1])) rfl (A6r (x:="counts") rfl rfl rfl (by decide +kernel) (by decide +kernel)) (A5c (N0:=["number"]) rfl (.inl rfl) (by walk_at "ix")) (B0x (pv 0)) (λ_ _ _ _=>(A0o (i:=0) B3q rfl (.inl rfl))) (λ_ _ _ _=>(A5j hu (pv 1) (pv 0) (λ_ _=>rfl)))) A0b)))),?_⟩;refine ⟨_,rfl,c,rfl,⟨_,SqT.of hc⟩,λD hD=> ?_⟩;refine A4x (K:=K) (a:=c) (D:=D) (xs:=cs.map V.int) (λi ys H2=>A1t H H2/\H2 D=some (.lst ys)/\ys=((cs.take i).map (ci kvs)).map V.int) ⟨A0j hD,A0g,rfl⟩ (λi ys H2 ⟨s2,_⟩=>SqT.of (s2 _ _ hc)) ?_ ?_
  ·rintro i x ys H2 hx ⟨s2,hD2,rfl⟩;obtain ⟨z,hz,rfl⟩:=A6y hx;have g:=B4p.k (H:=H2) (a:=cd) (k:=Sum.inl z) (s2 _ _ hcd);rw [has z (Z13 hz)] at g;have hi:i<cs.length:=(Z03.mp hz).1;refine ⟨⟨rfl,True.intro⟩,_,rfl,_,rfl,cd,_,rfl,g,hD2,A1l (by simp;lia),A1i s2 hD,A0g,?_⟩;rw [Z14,hz,Z2f,Z0s,Z0s];rfl
  ·rintro ys H2 ⟨s2,hD2,rfl⟩;rw [Z08,Z18] at hD2;exact ⟨D,_,rfl,.inl ⟨SqL.of hD2,λp hp=>k p _ (s2.free hp) (s2.trans (A0j hp)) A0g⟩⟩
theorem B1v (T:Txt K mg t):FO P w base T.ba 2 B8t:=by
 have Ga0:= @A7d P w K mg base t T;refine T.ba.F.ok A2b (by walk_at "ln") λ_ A _ s H _ Q E hr h=> ?_
 ·obtain ⟨b,c,u,cd,n,k,w,cs,us,kvs,rfl,hb,hc,hu',lc,lu,hcd,h1,h2,q⟩:=h
  refine ⟨_,(A0e (B4c (pv 0) (A7s (n:=6) rfl (A0z (A0o (i:=2) A2b.nd rfl (.inl rfl)) (A0z (A0o (i:=3) A2b.nd rfl (.inl rfl)) (A0z (A0o (i:=4) A2b.nd rfl (.inl rfl)) (A0z (A0o (i:=5) A2b.nd rfl (.inl rfl)) (A0z (A0o (i:=6) A2b.nd rfl (.inl rfl)) (A0z (A0o (i:=7) A2b.nd rfl (.inl rfl)) A5v))))))))
   (A0f (A0x (A1s (A0a (pv 4) (A0a (pv 5) (A0a (pcl Ga0 hr T.ah (A0a (pv 6) (A0a (pv 1) A0b))) (A0a (pcl Ga0 hr T.ah (A0a (pv 7) (A0a (pv 1) A0b))) A0b)))))))),?_⟩
  refine ⟨_,rfl,b,_,rfl,SqT.of hb,rfl,_,_,rfl,_,_,rfl,_,_,rfl,_,_,rfl,_,_,rfl,_,_,rfl,rfl,?_⟩;refine ⟨_,rfl,_,rfl,_,rfl,_,rfl,c,cd,cs,kvs,rfl,hc,lc,hcd,h1,λq1 H1 hq1 s1 e1=> ?_⟩;refine ⟨_,rfl,_,rfl,u,cd,us,kvs,rfl,s1 _ _ hu',lu,s1 _ _ hcd,h2,λq2 H2 hq2 s2 e2=> ?_⟩;refine ⟨A0s rfl,λr hr0=> ?_⟩;have s3:A1t H2 (upd H2 r (.tup [.int k,.str w,.ref q1,.ref q2])):=A0j hr0;exact q _ _ (s1.trans (s2.trans s3)) ⟨r,q1,q2,rfl,A0g,s3 _ _ (s2 _ _ e1),s3 _ _ e2⟩
theorem A7z (T:Txt K mg t) {m d:Nat} {sp':Sp} (Ga1:A5r P w K mg base CX0 (m+2) t.a_ t.bj B9r sp')
  (hs:∀(v:V) (b:Rd) (n sz wd out:Int) (bd:List Nd) (cd sl:Addr) (KS:List Int) (kvs:List (Key×V)) (ys:List V) (H:Hp) (Q:VK),A5y H (.loop n sz wd out bd) v->wbN b (.loop n sz wd out bd)->dpN (.loop n sz wd out bd)<=d->(∀m∈nmN (.loop n sz wd out bd),m∈KS)->Ask H cd sl b KS kvs ys (doN (.loop n sz wd out bd) (ci kvs)).length->(∀kvs' zs H',B7l H H' cd sl b KS kvs kvs' ys zs (doN (.loop n sz wd out bd) (ci kvs))->Q .non H')->sp' [v,.ref cd,.ref sl] H Q E0) :
  A5r P w K mg base CX0 (m+3) t.ar t.au B8b (A9h d):=by
 have Ga2:= @B1b P w K mg base t T;have Ga3:= @B1v P w K mg base t T;refine T.be.F.ok A6h (by walk_at "ln") λ_ A _ s H _ Q E hr h=> ?_
 ·obtain ⟨p,cd,sl,b,xs,l,KS,kvs,ys,rfl,hp,nds,wb,dp,nm,ask,k⟩:=h;have hcs:cd≠sl:=A9m ask.hc ask.hs (by intro z;cases z);have lx:=nds.len;have prs:=A3q.mp nds
  refine ⟨_,(A0f (A3t PassesOwn.never rfl (B0x (pv 0)) (A0o (i:=3) A6h.nd rfl (.inl rfl))
    (A0f (A2o (A3g (pcl Ga2 hr T.bf (A0a (pv 3) A0b)))
     (A0f (A1g (pcl Ga1 hr T.bt (A0a (pv 3) (A0a (pv 1) (A0a (pv 2) A0b))))))
     (A0f (A1g (A6c Z0k Z0n Z0o A1n (pv 2) (A0a (pcl Ga3 hr T.ba (A0a (pv 3) (A0a (pv 1) A0b))) A0b)))))))),?_⟩
  refine ⟨_,rfl,p,rfl,⟨_,SqT.of hp⟩,?_⟩
  refine B7m (K:=K) (a:=p) (xs:=xs) (λi σ H2=>∃(o3:Option V) (kvs2:List (Key×V)) (zs:List V),σ=[Sro p,Sro cd,Sro sl,o3]/\B7l H H2 cd sl b KS kvs kvs2 ys zs (doL (l.take i) (ci kvs)))
   ⟨none,kvs,[],rfl,ask.hc,by rw [Z0u];exact ask.hs,by rw [List.take_zero,doL];exact .nil,λ_ _ _=>rfl,ask.ks,K2.refl⟩ (λi σ H2 _ zq=>by obtain ⟨_,_,_,_,D⟩:=zq;exact SqT.of ((D.kp.kt ask.hc (by intro xs z;cases z) ask.hs (by intro xs z;cases z)) _ _ hp)) ?_ ?_
  ·rintro i x σ H2 hx ⟨o3,kvs2,zs,rfl,D⟩;obtain ⟨nd,he,na⟩:=B3g prs hx;have kt:=D.kp.kt ask.hc (by intro xs z;cases z) ask.hs (by intro xs z;cases z);have na2:A5y H2 nd x:=A5y.kt kt na;have mem:=Z13 he;have wbx:=B3r wb nd mem;have st:doL (l.take (i+1)) (ci kvs)=doL (l.take i) (ci kvs)++doN nd (ci kvs):=by rw [Z14,he,Z2f,A9s,doL,doL,Z0u]
   have whole:doL l (ci kvs)=doL (l.take (i+1)) (ci kvs)++doL (l.drop (i+1)) (ci kvs):=by rw [<-A9s,Z2e]
   have lw:=congrArg List.length whole;have ls:=congrArg List.length st;rw [Z06] at lw ls;have lz:=Paired.length D.st;have b2:=ask.b2;have has2:B5w kvs2 b:=ask.has.of D.same;have eq:doN nd (ci kvs2)=doN nd (ci kvs):=A7p nd b _ _ wbx λy s hy=>by unfold ci;rw [D.same y s hy]
   have ask2:Ask H2 cd sl b KS kvs2 (ys++zs) (doN nd (ci kvs2)).length:=⟨D.hc,has2,D.hs,D.ks,ask.b1,by rw [Z06,eq];lia⟩
   have join:∀kvs' zs' H3,B7l H2 H3 cd sl b KS kvs2 kvs' (ys++zs) zs' (doN nd (ci kvs2))->B7l H H3 cd sl b KS kvs kvs' ys (zs++zs') (doL (l.take (i+1)) (ci kvs)):=λkvs' zs' H3 D3=>by
    refine ⟨D3.hc,by rw [<-Z0z];exact D3.hs,?_,λx s hx=>(D3.same x s hx).trans (D.same x s hx),D3.ks,D.kp.trans D3.kp⟩;rw [st,<-eq];exact B4s (D.st.kt (D3.kp.kt D.hc (by intro xs z;cases z) D.hs (by intro xs z;cases z))) D3.st
   cases nd with
   | deed n kk w cs us =>
    rw [A5y] at na2;obtain ⟨bb,c,u,rfl,hb,hc,hu'⟩:=na2;rw [wbN] at wbx;obtain ⟨m1,m2,l1,l2⟩:=wbx;refine ⟨_,rfl,bb,_,_,rfl,hb,_,rfl,C0p (by decide +kernel) ?_⟩;refine ⟨_,rfl,.inl ⟨rfl,_,SqL.of D.hs⟩,_,rfl,_,rfl,bb,c,u,cd,n,kk,w,cs,us,kvs2,rfl,hb,hc,hu',l1,l2,D.hc,(λx hx=>let ⟨s,hs⟩:=m1 x hx;(has2 x s hs).1),(λx hx=>let ⟨s,hs⟩:=m2 x hx;(has2 x s hs).1),λv H3 s3 sv=> ?_⟩;have l1':(doN (.deed n kk w cs us) (ci kvs)).length=1:=by rw [doN];rfl
    refine ⟨sl,_,_,rfl,rfl,s3 _ _ D.hs,A1l (by rw [Z06];lia),?_⟩;have kL:KT H3 (upd H3 sl (.lst (ys++zs++[v]))):=KT.at (s3 _ _ D.hs) (by intro xs z;cases z);refine ⟨_,kvs2,zs++[v],rfl,join kvs2 [v] _ ⟨?_,A0g,?_,λ_ _ _=>rfl,D.ks,(K2.of s3).trans K2.r⟩⟩
    ·rw [A0l hcs];exact s3 _ _ D.hc
    ·rw [doN];exact .cons (sv.kt kL) .nil
   | loop n sz wd out bd =>
    have na3:=na2;rw [A5y] at na2;obtain ⟨bb,pp,xs',rfl,hb,hpp,_⟩:=na2;refine ⟨_,rfl,bb,_,_,rfl,hb,_,rfl,B9k rfl ?_⟩
    have dpx:dpN (.loop n sz wd out bd)<=d:=by
     have e1:=B6n he;have:dpL l=max (dpL (l.take i)) (max (dpN (.loop n sz wd out bd)) (dpL (l.drop (i+1)))):=by rw [<-B6p,<-e1]
     lia
    have nmx:∀m∈nmN (.loop n sz wd out bd),m∈KS:=λm hm=>nm m (by
     rw [B6n he,B6x]
     exact Z02 _ (Z05 _ hm))
    exact ⟨_,rfl,_,rfl,_,rfl,hs _ b n sz wd out bd cd sl KS kvs2 (ys++zs) H2 _ na3 wbx dpx nmx ask2 λkvs' zs' H3 D3=>⟨_,kvs',zs++zs',rfl,join kvs' zs' H3 D3⟩⟩
  ·rintro σ H2 ⟨o3,kvs2,zs,rfl,D⟩;rw [lx,Z18] at D;exact k kvs2 zs H2 D
theorem B7i (T:Txt K mg t) {m d:Nat} (Ga4:A5r P w K mg base CX0 (m+1) t.ar t.au B8b (A9h d)):A5r P w K mg base CX0 (m+2) t.a_ t.bj B9r (B7e d):=by
 have Ga5:= @A7f P w K mg base t T;refine T.bt.F.ok A1q (by walk_at "ln") λ_ A _ s H _ Q E hr h=> ?_
 ·obtain ⟨v,cd,sl,n,sz,wd,out,bd,b,KS,kvs,ys,rfl,na,wb,dp,nm,ask,k⟩:=h;have hu:=A9k hr;have hcs:cd≠sl:=A9m ask.hc ask.hs (by intro z;cases z);rw [A5y] at na;obtain ⟨bb,p,xs,rfl,hb,hp,nds⟩:=na;rw [wbN] at wb;obtain ⟨hout,z1,z60,n0,nb,wbd,lbd⟩:=wb;rw [nmN] at nm;rw [doN] at ask k
  refine ⟨_,(A0e (B4c (pv 0) (A7s (n:=6) rfl (A0z (A0o (i:=3) A1q.nd rfl (.inl rfl)) (A0z (A0o (i:=4) A1q.nd rfl (.inl rfl)) (A0z (A0o (i:=5) A1q.nd rfl (.inl rfl)) (A0z (A0o (i:=6) A1q.nd rfl (.inl rfl)) (A0z (A0o (i:=7) A1q.nd rfl (.inl rfl)) (A0z (A0o (i:=8) A1q.nd rfl (.inl rfl)) A5v))))))))
   (A0f (A3t PassesOwn.never rfl (A5f (pcl Ga5 hr T.ap (A0a (pv 5) (A0a (pv 6) (A0a (pv 7) (A0a (pv 1) A0b)))))) (A0o (i:=9) A1q.nd rfl (.inl rfl))
    (A0e (B3a hu (pv 1) (pv 4) (pv 9) rfl)
    (A0f (A1g (pcl Ga4 hr T.be (A0a (pv 8) (A0a (pv 1) (A0a (pv 2) A0b)))))))))),?_⟩
  refine ⟨_,rfl,bb,_,rfl,SqT.of hb,rfl,_,_,rfl,_,_,rfl,_,_,rfl,_,_,rfl,_,_,rfl,_,_,rfl,rfl,?_⟩;refine ⟨_,rfl,_,rfl,_,rfl,_,rfl,sz,wd,out,cd,b,kvs,rfl,ask.hc,ask.has,hout,z1,z60,λL hL=>⟨L,rfl,⟨_,SqL.of A0g⟩,?_⟩⟩;obtain ⟨cl,ecl⟩:∃cl,cl=cts sz wd out (ci kvs):=⟨_,rfl⟩
  have inC:∀c∈cl,0<=c/\c<sz:=λc hc=>by
   rw [ecl] at hc;unfold cts at hc;by_cases ho:out= -1
   ·rw [Z12 ho] at hc;exact A6g.mp hc
   ·rw [Z0t ho] at hc;obtain ⟨s0,hs,hlt,wd1⟩:=hout.resolve_left ho;obtain ⟨_,c0,_⟩:=ask.has out s0 hs;have m0:0<=ci kvs out*wd:=Int.mul_nonneg c0 (by lia);have:=A6g.mp hc
    lia
  rw [<-ecl] at ask k⊢;obtain ⟨G,s0,hL0,eNH⟩:=nH (o:= .lst (cl.map V.int)) hL;rw [eNH];have Lc:L≠cd:=λz=>by rw [z,ask.hc] at hL;cases hL
  have Ls:L≠sl:=λz=>by rw [z,ask.hs] at hL;cases hL
  have b2:=ask.b2
  refine A4r (K:=K) (a:=L) (xs:=cl.map V.int) (λi σ H2=>∃(o9:Option V) (kvs2:List (Key×V)) (zs:List V),σ=[Sro bb,Sro cd,Sro sl,some (.str "loop"),Sio n,Sio sz,Sio wd,Sio out,Sro p,o9]/\B7l H H2 cd sl b KS kvs kvs2 ys zs ((cl.take i).flatMap λc=>doL bd (A4j (ci kvs) n c))/\H2 L=some (.lst (cl.map V.int)))
   ⟨none,kvs,[],rfl,⟨s0 _ _ ask.hc,by rw [Z0u];exact s0 _ _ ask.hs,by rw [List.take_zero];exact .nil,λ_ _ _=>rfl,ask.ks,K2.of s0⟩,hL0⟩ (λi σ H2 _ zq=>by obtain ⟨_,_,_,_,_,hl⟩:=zq;exact SqL.of hl) ?_ ?_
  ·rintro i x σ H2 hx ⟨o9,kvs2,zs,rfl,D,hL2⟩;obtain ⟨c,hc,rfl⟩:=A6y hx;have hcb:=inC c (Z13 hc);have kt:=D.kp.kt ask.hc (by intro xs z;cases z) ask.hs (by intro xs z;cases z);have lz:=Paired.length D.st;have st:((cl.take (i+1)).flatMap λc=>doL bd (A4j (ci kvs) n c))=((cl.take i).flatMap λc=>doL bd (A4j (ci kvs) n c))++doL bd (A4j (ci kvs) n c):=by rw [Z14,hc,Z2f,List.flatMap_append,List.flatMap_singleton]
   have whole:(cl.flatMap λc=>doL bd (A4j (ci kvs) n c))=((cl.take (i+1)).flatMap λc=>doL bd (A4j (ci kvs) n c))++((cl.drop (i+1)).flatMap λc=>doL bd (A4j (ci kvs) n c)):=by rw [<-List.flatMap_append,Z2e]
   have lw:=congrArg List.length whole;have ls:=congrArg List.length st;rw [Z06] at lw ls;have kl:=D.ks.len;have b1:=ask.b1;refine ⟨_,rfl,_,rfl,_,rfl,cd,_,rfl,B7x.k (k:=Sum.inl n) D.hc (A1l (by lia)),?_⟩;have hc3:upd H2 cd (.dK (A3f kvs2 (Sum.inl n) (.int c))) cd=some (.dK (A3f kvs2 (Sum.inl n) (.int c))):=A0g;have k3:K2 cd sl H2 (upd H2 cd (.dK (A3f kvs2 (Sum.inl n) (.int c)))):=K2.l;have hs3:upd H2 cd (.dK (A3f kvs2 (Sum.inl n) (.int c))) sl=some (.lst (ys++zs)):=by rw [A0l hcs.symm];exact D.hs
   have hL3:upd H2 cd (.dK (A3f kvs2 (Sum.inl n) (.int c))) L=some (.lst (cl.map V.int)):=by rw [A0l Lc];exact hL2
   have kt3:KT H2 (upd H2 cd (.dK (A3f kvs2 (Sum.inl n) (.int c)))):=KT.at D.hc (by intro xs z;cases z);generalize upd H2 cd (.dK (A3f kvs2 (Sum.inl n) (.int c)))=H3 at hc3 k3 hs3 hL3 kt3⊢;have has2:=ask.has.of D.same
   have has3:B5w (A3f kvs2 (Sum.inl n) (.int c)) ((n,sz)::b):=λx s hx=>by
    rw [B0r,A4s];unfold A4j;by_cases z:x=n
    ·subst z;rcases Z0e.mp hx with hx | hx
     ·cases hx
      rw [Z12 rfl,Z12 rfl];exact ⟨rfl,hcb.1,hcb.2⟩
     ·exact absurd hx (nb s)
    ·rw [Z0t (λy=>z (by injection y)),Z0t z];rcases Z0e.mp hx with hx | hx
     ·injection hx with e1 e2;exact absurd e1 z
     ·exact has2 x s hx
   have e:doL bd (ci (A3f kvs2 (Sum.inl n) (.int c)))=doL bd (A4j (ci kvs) n c):=A5l bd _ _ _ wbd λx s hx=>by
    rw [B0r];unfold A4j;by_cases z:x=n
    ·rw [Z12 z,Z12 z]
    ·rw [Z0t z,Z0t z];rcases Z0e.mp hx with hx | hx
     ·injection hx with e1 e2;exact absurd e1 z
     ·unfold ci;rw [D.same x s hx]
   refine ⟨_,rfl,_,rfl,_,rfl,p,cd,sl,(n,sz)::b,xs,bd,KS,A3f kvs2 (Sum.inl n) (.int c),ys++zs,rfl,kt3 _ _ (kt _ _ hp),(nds.kt kt).kt kt3,wbd,dp,(λm hm=>nm m (.tail _ hm)),⟨hc3,has3,hs3,D.ks.put (nm n (.head _)) _,b1,by rw [Z06,e];lia⟩,λkvs4 zs4 H4 D4=> ?_⟩;have hL4:H4 L=some (.lst (cl.map V.int)):=D4.kp _ _ Lc Ls hL3;refine ⟨_,kvs4,zs++zs4,rfl,⟨D4.hc,by rw [<-Z0z];exact D4.hs,?_,λx s hx=> ?_,D4.ks,D.kp.trans (k3.trans D4.kp)⟩,hL4⟩
   ·rw [st,<-e];exact B4s (D.st.kt (kt3.trans (D4.kp.kt hc3 (by intro xs z;cases z) hs3 (by intro xs z;cases z)))) D4.st
   ·rw [D4.same x s (.tail _ hx),A4s,Z0t (λy=>by injection y with y;subst y;exact nb s hx)];exact D.same x s hx
  ·rintro σ H2 ⟨o9,kvs2,zs,rfl,D,_⟩;rw [Z08,Z18] at D;exact k kvs2 zs H2 D
theorem B4n (T:Txt K mg t):∀d:Nat,A5r P w K mg base CX0 (2*d+3) t.ar t.au B8b (A9h d)
 | 0=>A7z T (m:=0) (sp':=λ_ _ _ _=>False) (A5r.none λ_ _ _ _ h=>h) λv b n sz wd out bd cd sl KS kvs ys H Q na wb dp=>by
   rw [dpN] at dp
   lia
 | d+1=>A7z T (m:=2*d+2) (B7i T (m:=2*d+2) (B4n T d)) λv b n sz wd out bd cd sl KS kvs ys H Q na wb dp nm ask q=>by
   rw [dpN] at dp;exact ⟨v,cd,sl,n,sz,wd,out,bd,b,KS,kvs,ys,rfl,na,wb,by lia,nm,ask,q⟩
def B5e:Sp:=λvs H Q _=>∃(q p:Addr) (nx:Int) (xs:List V) (l:List Nd),vs=[.ref q]/\H q=some (.tup [.int nx,.ref p])/\H p=some (.tup xs)/\A2g H l xs/\wbL [] l/\dpL l<=40/\(nmL l).length<=900000/\(doL l λ_=>0).length<=900000/\
 ∀(L:Addr) (zs:List V) (H':Hp),H L=none->A1t H H'->H' L=some (.lst zs)->A4w H' zs (doL l λ_=>0)->Q (.ref L) H'
theorem A8n (T:Txt K mg t):FO P w base T.al 84 B5e:=by
 have Ga4:= @B4n P w K mg base t T 40;refine T.al.F.ok A5q (by walk_at "ln") λ_ A _ s H _ Q E hr h=> ?_
 ·obtain ⟨q,p,nx,xs,l,rfl,hq,hp,nds,wb,dp,fm,ld,k⟩:=h
  refine ⟨_,(A0e (A0w (i:=1) A5q.nd rfl (.inl rfl) (A2j A0b))
   (A0e (A1g (pcl Ga4 hr T.be (A0a (A0t A1b (pv 0) A0d (λ_ _=>rfl)) (A0a B0h (A0a (pv 1) A0b)))))
   (A0f (A0x (pv 1))))),?_⟩
  refine ⟨A0s rfl,λL hL=> ?_⟩;have s1:A1t H (upd H L (.lst [])):=A0j hL;refine ⟨_,rfl,q,_,_,_,rfl,rfl,SqT.of (s1 _ _ hq),A0q (j:=1) rfl,λcd hcd=> ?_⟩;have s2:A1t (upd H L (.lst [])) (upd (upd H L (.lst [])) cd (.dK [])):=A0j hcd;have s12:=s1.trans s2;have hL2:=s2 _ _ (A0g (H:=H) (a:=L) (o:= .lst []));have hc2:upd (upd H L (.lst [])) cd (.dK []) cd=some (.dK []):=A0g;have c0:H cd=none:=s1.free hcd;generalize upd (upd H L (.lst [])) cd (.dK [])=G at s12 hL2 hc2⊢;have e0:ci []=λ_=>0:=rfl;refine ⟨_,rfl,p,cd,L,[],xs,l,nmL l,[],[],rfl,s12 _ _ hp,nds.kt (KT.same s12),wb,dp,λm hm=>hm,⟨hc2,λx s hx=>by (cases hx),hL2,⟨by simp,by simp⟩,fm,by rw [e0];simpa using ld⟩,λkvs' zs H' D=>⟨_,rfl,?_⟩⟩;have hs:=D.hs;rw [List.nil_append] at hs;refine k L zs H' hL (λb o e=>D.kp b o (A0c e c0) (A0c e hL) (s12 _ _ e)) hs ?_;rw [<-e0];exact D.st
theorem B2w {b:Bool} {A B:Prop} (h:b=false) (q:B):if b=true then A else B:=by rw [h];exact B2f q
theorem B4e {d:PyData} (h:d.canLay0=true) (hd:d.depth<=60):SeqAt.shaped d=true:=by
 unfold SeqAt.shaped;rw [h,Bool.true_and];exact Z20 (by lia)
def StK (s:Stp):Prop:=PyData.strOk s.2.1=true/\s.2.2.1.length<=100/\s.2.2.2.length<=100
def A7j (K:Frag):Sp:=λvs H Q _=>∃(a:Addr) (ns:List Int) (k:Int),vs=[.ref a,.int k]/\SqL K H a (ns.map V.int)/\0<=k/\∀z:Int,Q (.int z) H
def B1w:Sp:=λvs H Q _=>∃z:Int,vs=[.int z]/\Q (.bl true) H
def A8w:Sp:=λvs H Q _=>∃(p q:Addr) (c:List Int),vs=[.ref p,.ref q]/\H p=some (.tup (c.map V.int))/\H q=some (.tup (c.map V.int))/\c.length<=100/\Q (.bl true) H
def B2b:Sp:=λvs H Q _=>∃(f d:Addr) (xs ys:List V) (os:List Stp),vs=[.ref f,.ref d]/\H f=some (.lst xs)/\H d=some (.lst ys)/\A4w H xs os/\A4w H ys os/\(∀s∈os,StK s)/\os.length<=1000000/\∀H',A1t H H'->Q (.bl true) H'
theorem B9t {i j:Int} (h:i=j):(!decide (V.int i=V.int j))=false:=by subst h;simp
theorem A4g (T:Txt K mg t):FO P w base T.ae 1 (A7j K):=by
 refine T.ae.F.ok A8b (by walk_at "ln") λ_ A _ s H _ Q E hr h=> ?_
 ·obtain ⟨a,ns,k,rfl,hS,k0,q⟩:=h
  refine ⟨_,(A0e (A2o (A0y B7b (pv 1) (A0k A0i (by rfl) T.ad Z0r (A0a (pv 0) A0b)) (A1e _))
    (A0f (A0x (A0t A1d (pv 0) (pv 1) (λ_ _=>rfl))))
    A1h)
   (A0f (A0x A0d))),?_⟩
  refine ⟨_,rfl,_,rfl,a,_,rfl,.inl hS,_,_,rfl,rfl,_,rfl,?_⟩;refine B8a (λhk=> ?_) (λ_=>q 0);obtain ⟨z,_,e⟩:=B2x (f:=V.int) (xs:=ns) k0 (by simpa using hk);exact ⟨_,rfl,_,rfl,a,_,_,_,rfl,rfl,hS,e,q _⟩
theorem A6e (T:Txt K mg t):FO P w base T.av 1 B1w:=by
 refine T.av.F.ok B1q (by walk_at "ln") λ_ A _ s H _ Q E hr h=> ?_
 ·obtain ⟨z,rfl,q⟩:=h;refine ⟨_,(A0f (A0x (B8n (A0k A2c (by rfl) T.aa Z0d (A0a (pv 0) (A0a (A3y (v:=V.ty "int") rfl T.cY PyProof.Rows.boot_int rfl) A0b))) (B8l (B9o (A0k A2c (by rfl) T.aa Z0d (A0a (pv 0) (A0a (A3y (v:=V.ty "bool") rfl T.cX PyProof.Rows.boot_bool rfl) A0b)))))))),?_⟩;refine ⟨_,rfl,_,_,_,_,rfl,A9a.int z,A3x "int",true,rfl,C1o ?_⟩;exact ⟨_,rfl,_,_,_,_,rfl,A9a.int z,B9c (by decide +kernel) (by decide +kernel) (by decide +kernel),false,rfl,q⟩
theorem A9u (T:Txt K mg t):FO P w base T.ai 2 A8w:=by
 have Ga6:= @A6e P w K mg base t T;refine T.ai.F.ok A5m (by walk_at "ln") λ_ A _ s H _ Q E hr h=> ?_
 ·obtain ⟨p,q,c,rfl,hp,hq,lc,k⟩:=h
  refine ⟨_,(A0e (A2o (PW.pt (A8x (A3s (A3g (A0k A2c (by rfl) T.aa Z0d (A0a (pv 0) (A0a (A3y (v:=V.ty "tuple") rfl T.ag Z0m rfl) A0b))))) (A6i (A0y B2k (A0k A0i (by rfl) T.ad Z0r (A0a (pv 0) A0b)) (A0k A0i (by rfl) T.ad Z0r (A0a (pv 1) A0b)) (A1e _)))))
    (A0f (A0x A6v))
    A1h)
   (A0e (A3t PassesOwn.never rfl (A5w rfl T.ak (A0a (A0k A0i (by rfl) T.ad Z0r (A0a (pv 1) A0b)) A0b)) (A0o (i:=2) A5m.nd rfl (.inl rfl))
    (A0f (A2o (PW.pt (A8x (A3s (A3g (pcl Ga6 hr T.av (A0a (A0t A5b (pv 0) (pv 2) (λ_ _=>rfl)) A0b)))) (A6i (A0y B2k (A0t A5b (pv 0) (pv 2) (λ_ _=>rfl)) (A0t A5b (pv 1) (pv 2) (λ_ _=>rfl)) (A1e _)))))
     (A0f (A0x A6v))
     A1h)))
   (A0f (A0x A6v)))),?_⟩
  refine ⟨_,rfl,_,_,_,_,rfl,.tup hp,A3x "tuple",true,rfl,B2f ?_⟩;refine ⟨_,rfl,p,_,rfl,.inr (SqT.of hp),_,rfl,q,_,rfl,.inr (SqT.of hq),rfl,_,rfl,B2w (B9t rfl) ?_⟩;refine ⟨_,rfl,q,_,rfl,.inr (SqT.of hq),_,rfl,by simp,by simp;lia,?_⟩;refine A3v (n:=(c.map V.int).length) (λi σ H2=>H=H2/\∃(o2:Option V),σ=[Sro p,Sro q,o2]) ⟨rfl,none,rfl⟩ ?_ ?_
  ·rintro i σ H2 hi ⟨rfl,o2,rfl⟩;rw [Z08] at hi
   have e:atI (c.map V.int) (0+(i:Int))=some (.int c[i]):=by
    rw [Int.zero_add];exact A0q (by rw [Z1z,Z0b hi];rfl)
   refine ⟨_,rfl,_,rfl,.inr (.inl ⟨p,_,_,_,rfl,rfl,SqT.of hp,e,_,rfl,true,rfl,B2f ?_⟩)⟩;exact ⟨_,rfl,_,rfl,.inr (.inl ⟨p,_,_,_,rfl,rfl,SqT.of hp,e,_,rfl,_,rfl,.inr (.inl ⟨q,_,_,_,rfl,rfl,SqT.of hq,e,rfl,_,rfl,B2w (B9t rfl) ⟨rfl,_,rfl⟩⟩)⟩)⟩
  ·rintro σ H2 ⟨rfl,o2,rfl⟩;exact k
theorem B3k (T:Txt K mg t):FO P w base T.az 3 B2b:=by
 have Ga6:= @A6e P w K mg base t T;have Ga7:= @A9u P w K mg base t T;refine T.az.F.ok A5k (by walk_at "ln") λ_ A _ s H _ Q E hr h=> ?_
 ·obtain ⟨f,d,xs,ys,os,rfl,hf,hd,sx,sy,ok,few,k⟩:=h;have lx:=Paired.length sx;have ly:=Paired.length sy
  refine ⟨_,(A0e (A2o (PW.pt (A8x (A3s (A3g (A0k A2c (by rfl) T.aa Z0d (A0a (pv 0) (A0a (A3y (v:=V.ty "list") rfl T.cv PyProof.Rows.boot_list rfl) A0b))))) (A6i (A0y B2k (A0k A0i (by rfl) T.ad Z0r (A0a (pv 0) A0b)) (A0k A0i (by rfl) T.ad Z0r (A0a (pv 1) A0b)) (A1e _)))))
    (A0f (A0x A6v))
    A1h)
   (A0e (A3t PassesOwn.never rfl (A5w rfl T.ak (A0a (A0k A0i (by rfl) T.ad Z0r (A0a (pv 1) A0b)) A0b)) (A0o (i:=2) A5k.nd rfl (.inl rfl))
    (A0e (A0w (i:=3) A5k.nd rfl (.inl rfl) (A0t A5b (pv 0) (pv 2) (λ_ _=>rfl)))
    (A0e (A2o (PW.pt (A8x (A3s (A3g (A0k A2c (by rfl) T.aa Z0d (A0a (pv 3) (A0a (A3y (v:=V.ty "tuple") rfl T.ag Z0m rfl) A0b))))) (A6i (A0y B2k (A0k A0i (by rfl) T.ad Z0r (A0a (pv 3) A0b)) A0d (A1e _)))))
     (A0f (A0x A6v))
     A1h)
    (A0e (A2o (PW.pt (A8x (A3s (A3g (pcl Ga6 hr T.av (A0a (A0t A1b (pv 3) A0d (λ_ _=>rfl)) A0b)))) (A8x (A3s (A3g (A0k A2c (by rfl) T.aa Z0d (A0a (A0t A1b (pv 3) A0d (λ_ _=>rfl)) (A0a (A3y (v:=V.ty "str") rfl T.da PyProof.Rows.boot_str rfl) A0b))))) (A6i (A0y (B6b hr.units) (B0t B6m (pv 3) B4d (B2l A0d)) (B0t B6m (A0t A5b (pv 1) (pv 2) (λ_ _=>rfl)) B4d (B2l A0d)) (A1e _))))))
     (A0f (A0x A6v))
     A1h)
    (A0f (A2o (PW.pt (A8x (A3s (A3g (pcl Ga7 hr T.ai (A0a (A0t A1b (pv 3) A0d (λ_ _=>rfl)) (A0a (A0t A1b (A0t A5b (pv 1) (pv 2) (λ_ _=>rfl)) A0d (λ_ _=>rfl)) A0b))))) (A6i (A3s (A3g (pcl Ga7 hr T.ai (A0a (A0t A1b (pv 3) A0d (λ_ _=>rfl)) (A0a (A0t A1b (A0t A5b (pv 1) (pv 2) (λ_ _=>rfl)) A0d (λ_ _=>rfl)) A0b))))))))
     (A0f (A0x A6v))
     A1h))))))
   (A0f (A0x A6v)))),?_⟩
  refine ⟨_,rfl,_,_,_,_,rfl,.lst hf,A3x "list",true,rfl,B2f ?_⟩;refine ⟨_,rfl,f,_,rfl,.inl (SqL.of hf),_,rfl,d,_,rfl,.inl (SqL.of hd),rfl,_,rfl,B2w (B9t (by lia)) ?_⟩;refine ⟨_,rfl,d,_,rfl,.inl (SqL.of hd),_,rfl,by lia,by lia,?_⟩;refine A3v (n:=ys.length) (λi σ H2=>A1t H H2/\∃(o2 o3:Option V),σ=[Sro f,Sro d,o2,o3]) ⟨A1t.refl _,none,none,rfl⟩ ?_ ?_
  ·rintro i σ H2 hi ⟨s2,o2,o3,rfl⟩;have hxi:xs[i]? =some xs[i]:=Z0b (by lia);have hyi:ys[i]? =some ys[i]:=Z0b hi;obtain ⟨st,hst,b,c,u,eb,h1,h2,h3⟩:=B3g sx hxi;obtain ⟨st',hst',b',c',u',eb',h1',h2',h3'⟩:=B3g sy hyi;rw [hst] at hst';cases hst';have ax:atI xs (0+(i:Int))=some (.ref b):=by rw [Int.zero_add];exact A0q (by rw [hxi,eb])
   have ay:atI ys (0+(i:Int))=some (.ref b'):=by rw [Int.zero_add];exact A0q (by rw [hyi,eb'])
   obtain ⟨k1,k2,k3⟩:=ok st (Z13 hst);refine ⟨_,rfl,_,rfl,.inl ⟨f,_,_,_,rfl,rfl,SqL.of (s2 _ _ hf),ax,?_⟩⟩;refine ⟨_,rfl,_,_,_,_,rfl,.tup (s2 _ _ h1),A3x "tuple",true,rfl,B2f ?_⟩;refine ⟨_,rfl,b,_,rfl,.inr (SqT.of (s2 _ _ h1)),rfl,_,rfl,B2w (B9t rfl) ?_⟩;refine ⟨_,rfl,b,_,_,_,rfl,rfl,SqT.of (s2 _ _ h1),rfl,_,rfl,true,rfl,B2f ?_⟩;refine ⟨_,rfl,b,_,_,_,rfl,rfl,SqT.of (s2 _ _ h1),rfl,_,_,_,_,rfl,.str _,A3x "str",true,rfl,B2f ?_⟩;refine ⟨_,rfl,_,rfl,b,_,rfl,SqT.of (s2 _ _ h1),(by show¬(HT.sIx 4 0 none=0/\HT.sIx 4 4 (some 2)=4);decide),λz hz=> ?_⟩;have s3:=s2.trans (A0j (o:= .tup (B8d [.int st.1,.str st.2.1,.ref c,.ref u] none (some 2))) hz);refine ⟨_,rfl,_,rfl,.inl ⟨d,_,_,_,rfl,rfl,SqL.of (s3 _ _ hd),ay,_,rfl,b',_,rfl,SqT.of (s3 _ _ h1'),(by show¬(HT.sIx 4 0 none=0/\HT.sIx 4 4 (some 2)=4);decide),λz' hz'=> ?_⟩⟩;have s4:=s3.trans (A0j (o:= .tup (B8d [.int st.1,.str st.2.1,.ref c',.ref u'] none (some 2))) hz');have lay:(PyData.tuple [.int st.1,.str st.2.1]).canLay0=true:=by simp [PyData.canLay0,PyData.canLayAll0,k1]
   have sh:SeqAt.shaped (PyData.tuple [.int st.1,.str st.2.1])=true:=B4e lay (by simp [PyData.depth,PyData.depthAll]);refine ⟨_,_,.tup ((A0j hz') _ _ A0g) (.cons (.int _) (.cons (.str _) .nil)),.tup A0g (.cons (.int _) (.cons (.str _) .nil)),sh,sh,_,rfl,B2w (by rw [SeqAt.eqv_refl _ lay];rfl) ?_⟩;refine ⟨_,rfl,b,_,_,_,rfl,rfl,SqT.of (s4 _ _ h1),rfl,_,rfl,_,rfl,.inl ⟨d,_,_,_,rfl,rfl,SqL.of (s4 _ _ hd),ay,b',_,_,_,rfl,rfl,SqT.of (s4 _ _ h1'),rfl,c,c',_,rfl,s4 _ _ h2,s4 _ _ h2',by lia,true,rfl,B2f ?_⟩⟩;exact ⟨_,rfl,b,_,_,_,rfl,rfl,SqT.of (s4 _ _ h1),rfl,_,rfl,_,rfl,.inl ⟨d,_,_,_,rfl,rfl,SqL.of (s4 _ _ hd),ay,b',_,_,_,rfl,rfl,SqT.of (s4 _ _ h1'),rfl,u,u',_,rfl,s4 _ _ h3,s4 _ _ h3',by lia,true,rfl,B2f ⟨s4,_,_,rfl⟩⟩⟩
  ·rintro σ H2 ⟨s2,o2,o3,rfl⟩;exact k H2 s2
def B3u:Sp:=λvs H Q _=>∃(p:Addr) (v x:V),vs=[.ref p]/\H p=some (.tup [v,x])/\Q v H
theorem B2s (T:Txt K mg t):FO P w base T.aw 1 B3u:=by
 refine T.aw.F.ok B3v (by walk_at "ln") λ_ A _ s H _ Q E hr h=> ?_
 ·obtain ⟨p,v,x,rfl,hp,k⟩:=h;refine ⟨_,(A0f (A0x (A0t A1b (pv 0) A0d (λ_ _=>rfl)))),?_⟩;exact ⟨_,rfl,p,_,_,_,rfl,rfl,SqT.of hp,A0q (j:=0) rfl,k⟩
def B4y:Sp:=λvs H Q _=>∃(c d:Int),vs=[.int c,.int d]/\(d<20->Q (.str "loop") H)/\(0<d->Q (.str "end") H)/\Q (.str "deed") H
theorem B5f (T:Txt K mg t):FO P w base T.bu 1 B4y:=by
 refine T.bu.F.ok B0f (by walk_at "ln") λ_ A _ s H _ Q E hr h=> ?_
 ·obtain ⟨c,d,rfl,k1,k2,k3⟩:=h
  refine ⟨_,(A0e (A0w (i:=2) B0f.nd rfl (.inl rfl) (A0n A1o (pv 0) A0d))
   (A0e (A2o (PW.pt (B0o (A0y B7b (pv 2) A0d (A1e _)) (A6p (A0y B7b (pv 1) A0d (A1e _)))))
    (A0f (A0x A2k))
    A1h)
   (A0e (A2o (PW.pt (B0o (A0y A6d (pv 2) A0d (A1e _)) (A6p (A0y C0d (pv 1) A0d (A1e _)))))
    (A0f (A0x A2k))
    A1h)
   (A0f (A0x A2k))))),?_⟩
  refine ⟨_,rfl,_,_,rfl,rfl,C1b,_,rfl,_,_,rfl,rfl,_,rfl,?_⟩;refine B8a (λ_=>⟨_,rfl,_,_,rfl,rfl,_,rfl,B8a (λh=>k1 h) (λ_=> ?_)⟩) (λ_=> ?_)
  all_goals
   refine ⟨_,rfl,rfl,_,rfl,?_⟩;exact A7u (λ_=>⟨_,rfl,_,_,rfl,rfl,_,rfl,B8a (λh=>k2 h) (λ_=>k3)⟩) (λ_=>k3)
def B7y (H:Hp) (v:V) (h:Hd):Prop:=∃b,v= .ref b/\H b=some (.tup [.str "loop",.int h.n,.int h.sz,.int h.wd,.int h.out])
abbrev A4l (H:Hp) (xs:List V) (hs:List Hd):Prop:=Paired (B7y H) xs hs
theorem B7y.kt {H H':Hp} {v:V} {h:Hd} (a:B7y H v h) (k:KT H H'):B7y H' v h:=by
 obtain ⟨b,e,h⟩:=a;exact ⟨b,e,k _ _ h⟩
theorem A4l.kt {H H':Hp} {xs:List V} {hs:List Hd} (a:A4l H xs hs) (k:KT H H'):A4l H' xs hs:=Paired.mapP a λ_ _ z=>z.kt k
def B1l:Sp:=λvs H Q _=>∃(l:Addr) (xs:List V) (hs:List Hd),vs=[.ref l]/\H l=some (.lst xs)/\A4l H xs hs/\(∀i,A9f (hs.take i))/\Q (.int (wo hs)) H
def A8d:Sp:=λvs H Q _=>∃(c n most:Int) (l:Addr) (xs:List V) (hs:List Hd),vs=[.int c,.int n,.ref l,.int most]/\H l=some (.lst xs)/\A4l H xs hs/\(∀o∈hs,1<=o.sz/\o.sz<=24/\0<=o.n)/\1<=most/\most<=24/\
 ∀(v:V) (h:Hd) (H':Hp),A1t H H'->B7y H' v h->h.n=n->Gd hs most h->Q v H'
theorem B0g (i j:Int):(if j<i then j else i)=min i j:=by
 rw [Int.min_def];split <;> split <;> lia
theorem B1m (T:Txt K mg t):FO P w base T.bi 1 B1l:=by
 refine T.bi.F.ok A2r (by walk_at "ln") λ_ A _ s H _ Q E hr h=> ?_
 ·obtain ⟨l,xs,hs,rfl,hl,ha,ok,k⟩:=h;have le:=Paired.length ha
  refine ⟨_,(A0e (A0w (i:=1) A2r.nd rfl (.inl rfl) A0d)
   (A0e (A3t PassesOwn.never rfl (A5f (pv 0)) (A0o (i:=2) A2r.nd rfl (.inl rfl))
    (A0f (A2o (A0y A6d (A0t A1b (pv 2) A0d (λ_ _=>rfl)) (A4d A2t A0d) (A1e _))
     (A0f (A0w (i:=1) A2r.nd rfl (.inl rfl) (A0n A3r (pv 1) (A0t A1b (pv 2) A0d (λ_ _=>rfl)))))
     (A0f (A0w (i:=1) A2r.nd rfl (.inl rfl) (A0n A3r (pv 1) (A0k (A2u rfl) (by rfl) T.br PyProof.Rows.boot_min (A0a (A0t A1b (pv 2) A0d (λ_ _=>rfl)) (A0a (A0t A1b (pv 2) A0d (λ_ _=>rfl)) A0b)))))))))
   (A0f (A0x (pv 1))))),?_⟩
  refine ⟨_,rfl,l,rfl,⟨_,SqL.of hl⟩,A4r (K:=K) (a:=l) (xs:=xs) (λi σ H2=>H2=H/\∃o:Option V,σ=[Sro l,Sio (wo (hs.take i)),o]) ⟨rfl,none,rfl⟩ (λi σ H2 _ ⟨e,_⟩=>by rw [e];exact SqL.of hl) ?_ ?_⟩
  ·rintro i x σ H2 hx ⟨rfl,o,rfl⟩;obtain ⟨h,hh,b,rfl,hb⟩:=B3g ha hx
   have ew:wo (hs.take (i+1))=wo (hs.take i)*wth h:=by
    rw [Z14,hh];show wo (hs.take i++[h])=_;rw [B0p];show wo (hs.take i)*(wth h*1)=_;rw [Int.mul_one]
   have o1:=ok i;have o2:=ok (i+1);have q1:=o1.lo;have q2:=o1.hi;have cm:∀z,B9v (wo (hs.take i)) z:=λz=> .inl ⟨by lia,by lia⟩;refine ⟨_,rfl,b,_,_,_,rfl,rfl,SqT.of hb,A0q (j:=4) rfl,_,rfl,rfl,_,rfl,A7u (λe=> ?_) (λe=> ?_)⟩
   ·have e':h.out= -1:=by simpa using e
    have ev:wo (hs.take i)*h.sz=wo (hs.take (i+1)):=by rw [ew];unfold wth;rw [Z12 e']
    exact ⟨_,rfl,_,rfl,b,_,_,_,rfl,rfl,SqT.of hb,A0q (j:=2) rfl,_,_,rfl,rfl,cm _,rfl,_,by rw [<-ev];rfl⟩
   ·have e':¬h.out= -1:=λz=>e (by simpa using z);have ev:wo (hs.take i)*(if h.wd<h.sz then h.wd else h.sz)=wo (hs.take (i+1)):=by rw [ew,B0g];unfold wth;rw [Z0t e']
    exact ⟨_,rfl,_,rfl,b,_,_,_,rfl,rfl,SqT.of hb,A0q (j:=2) rfl,_,rfl,b,_,_,_,rfl,rfl,SqT.of hb,A0q (j:=3) rfl,_,_,rfl,_,_,rfl,rfl,cm _,rfl,_,by rw [<-ev];rfl⟩
  ·rintro σ H2 ⟨rfl,o,rfl⟩;rw [le,Z18];exact ⟨_,rfl,k⟩
theorem A7n (T:Txt K mg t):FO P w base T.ao 1 A8d:=by
 refine T.ao.F.ok A2p (by walk_at "ln") λ_ A _ s H _ Q E hr h=> ?_
 ·obtain ⟨c,n,most,l,xs,hs,rfl,hl,ha,sz,m1,m2,k⟩:=h;have le:=Paired.length ha
  refine ⟨_,(A0e (A0w (i:=4) A2p.nd rfl (.inl rfl) (A0n A1m (pv 0) A0d))
   (A0e (A2o (PW.pt (B0o (A0y A6d (A0n A1o (pv 4) A0d) A0d (A1e _)) (A6p (A0y (B0k hr.units) (pv 2) (A2j A0b) (A1e _)))))
    (A0e (A0w (i:=5) A2p.nd rfl (.inl rfl) (A0t A1d (pv 2) (A0n A1o (A0n A1m (pv 4) A0d) (A0k A0i (by rfl) T.ad Z0r (A0a (pv 2) A0b))) (λ_ _=>rfl)))
    (A0e (A0w (i:=6) A2p.nd rfl (.inl rfl) (A0n A2m A0d (A0n A1o (A0n A1m (pv 4) A0d) (A0k (A2u rfl) (by rfl) T.br PyProof.Rows.boot_min (A0a (pv 3) (A0a A0d A0b))))))
    (A0e (A2o (PW.pt (B0o (A0y A6d (A0t A1b (pv 5) A0d (λ_ _=>rfl)) A0d (A1e _)) (A6p (A0y A6d (A0n A1o (A0n A1m (pv 4) A0d) A0d) A0d (A1e _)))))
     (A0f (A0x (A1s (A0a A2k (A0a (pv 1) (A0a (pv 6) (A0a (A0n A2m (A0n A9y A0d A0d) (A0n A1o (pv 4) (A0n A9y A0d A0d))) (A0a (A0t A1b (pv 5) A0d (λ_ _=>rfl)) A0b))))))))
     A1h)
    (A0f (A0x (A1s (A0a A2k (A0a (pv 1) (A0a (A0n B6j (A0n A3r (A0t A1b (pv 5) A0d (λ_ _=>rfl)) (pv 6)) (A0n A1o (A0n A1m (pv 4) A0d) (pv 6))) (A0a (pv 6) (A0a (A0t A1b (pv 5) A0d (λ_ _=>rfl)) A0b)))))))))))
    A1h)
   (A0e (A2o (A0y A6d (A0n A1o (pv 4) A0d) A0d (A1e _))
    (A0f (A0x (A1s (A0a A2k (A0a (pv 1) (A0a (A0n A2m A0d (A0n A1o (A0n A1m (pv 4) A0d) (pv 3))) (A0a A0d (A0a (A4d A2t A0d) A0b))))))))
    A1h)
   (A0f (A0x (A1s (A0a A2k (A0a (pv 1) (A0a (A0n A2m A0d (A0n A1o (A0n A1m (pv 4) A0d) (A0k (A2u rfl) (by rfl) T.br PyProof.Rows.boot_min (A0a (pv 3) (A0a A0d A0b))))) (A0a A0d (A0a (A4d A2t A0d) A0b))))))))))),?_⟩
  have mm:0<min most 4/\min most 4<=4/\min most 4<=most:=by lia
  have mm5:0<min most 5/\min most 5<=most:=by lia
  have plain:∀H2 (z:Int),A1t H H2->1<=z->z<=most->∀p,H2 p=none->Q (.ref p) (upd H2 p (.tup [.str "loop",.int n,.int z,.int 0,.int (-1)])):=λH2 z s2 z1 z2 p hp =>
   k _ ⟨n,z,0,-1⟩ _ (s2.trans (A0j hp)) ⟨p,rfl,A0g⟩ rfl ⟨z1,z2,z1,.inl ⟨rfl,rfl⟩⟩
  refine ⟨_,rfl,_,_,rfl,rfl,⟨by decide,by decide⟩,?_⟩
  have md:∀(z m:Int),1<=m->1<=1+z%m/\1+z%m<=m:=λz m hm=>by
   have h1:=Z1v z (show m≠0 by lia);have h2:=Z1p z (show 0<m by lia)
   lia
  refine ⟨_,rfl,_,_,rfl,rfl,C0t,rfl,_,rfl,A7u (λ_=> ?_) (λ_=> ?_)⟩
  case' refine_1 =>
   refine ⟨_,rfl,A0s rfl,λz hz=> ?_⟩;obtain ⟨G,s1,hz1,eNH⟩:=nH (o:= .lst []) hz;rw [eNH];refine ⟨l,z,xs,rfl,rfl,s1 _ _ hl,hz1,_,rfl,?_⟩;refine A7u (λne=> ?_) (λ_=> ?_)
   ·have ln:0<xs.length:=by
     cases xs with
     | nil=>simp at ne
     | cons x xs=>simp
    have i0:=Z1v (c/5/3) (show (xs.length:Int)≠0 by lia);have i1:=Z1p (c/5/3) (show 0<(xs.length:Int) by lia);obtain ⟨x,hx,ex⟩:=B3w (xs:=xs) i0 i1;obtain ⟨o,ho,b,rfl,hb⟩:=B3g ha hx;have mo:=Z13 ho;have so:=sz o mo;have hm4:1<=(if 4<most then 4 else most)/\(if 4<most then 4 else most)<=most/\(if 4<most then 4 else most)<=4:=by split <;> lia
    have wd:=md (c/5/60) _ hm4.1;refine ⟨_,rfl,_,rfl,_,_,rfl,rfl,⟨by decide,by decide⟩,_,rfl,l,_,rfl,.inl (SqL.of (s1 _ _ hl)),_,_,rfl,rfl,(by show (0:Int)<(xs.length:Int);lia),l,_,_,_,rfl,rfl,SqL.of (s1 _ _ hl),ex,?_⟩;refine ⟨_,rfl,_,_,rfl,rfl,⟨by decide,by decide⟩,_,rfl,_,_,rfl,_,_,rfl,rfl,(by show (0:Int)<(if 4<most then 4 else most);lia),_,_,rfl,rfl,?_⟩;have hb1:=s1 _ _ hb
    have big:∀z:Int,1<=(10:Int)^(29:Int).toNat+z%(10:Int)^(29:Int).toNat/\4<=(10:Int)^(29:Int).toNat+z%(10:Int)^(29:Int).toNat:=λz=>by
     have:=Z1v z (show (10:Int)^(29:Int).toNat≠0 by decide +kernel);have:(4:Int)<=(10:Int)^(29:Int).toNat:=by decide +kernel
     lia
    refine ⟨_,rfl,b,_,_,_,rfl,rfl,SqT.of hb1,A0q (j:=2) rfl,rfl,_,rfl,A7u (λe1=> ?_) (λ_=> ?_)⟩
    case' refine_1 =>
     refine ⟨_,rfl,_,_,rfl,rfl,⟨by decide,by decide⟩,_,_,rfl,rfl,C1m,rfl,_,rfl,A7u (λ_=> ?_) (λ_=> ?_)⟩
     ·have e1':o.sz=1:=by simpa using e1
      refine ⟨_,rfl,_,rfl,_,_,rfl,rfl,⟨by decide,by decide,by decide⟩,_,rfl,_,_,rfl,rfl,⟨by decide,by decide,by decide⟩,_,_,rfl,rfl,(by show (0:Int)<(10:Int)^(29:Int).toNat;decide +kernel),_,_,rfl,rfl,_,rfl,b,_,_,_,rfl,rfl,SqT.of hb1,A0q (j:=1) rfl,A0s rfl,λp hp=> ?_⟩;refine k _ ⟨n,_,_,o.n⟩ _ (s1.trans (A0j hp)) ⟨p,rfl,A0g⟩ rfl ?_;exact gd_a mo e1' wd.1 (Int.le_trans wd.2 hm4.2.1) (Int.le_trans wd.2 hm4.2.2) (big _).2
    all_goals
     refine ⟨_,rfl,_,rfl,b,_,_,_,rfl,rfl,SqT.of hb1,A0q (j:=2) rfl,_,rfl,_,_,rfl,rfl,.inl ⟨by lia,by lia⟩,_,rfl,_,_,rfl,rfl,⟨by decide,by decide⟩,_,rfl,_,_,rfl,rfl,wd.1,_,_,rfl,rfl,_,rfl,_,rfl,b,_,_,_,rfl,rfl,SqT.of hb1,A0q (j:=1) rfl,A0s rfl,λp hp=> ?_⟩;refine k _ ⟨n,_,_,o.n⟩ _ (s1.trans (A0j hp)) ⟨p,rfl,A0g⟩ rfl ?_;exact gd_b mo so.2.2 so.1 wd.1 (Int.le_trans wd.2 hm4.2.1) (Z1v _ (Int.ne_of_gt wd.1)) (Z1p _ wd.1)
  case' refine_2=>have s1:A1t H H:=A1t.refl _
  all_goals
   refine ⟨_,rfl,_,_,rfl,rfl,z_90,rfl,_,rfl,A7u (λ_=> ?_) (λ_=> ?_)⟩
   ·refine ⟨_,rfl,_,rfl,_,_,rfl,rfl,⟨by decide,by decide⟩,_,rfl,_,_,rfl,rfl,(by show (0:Int)<most;lia),_,_,rfl,rfl,_,rfl,A0s rfl,λp hp=> ?_⟩;exact plain _ _ s1 (md _ _ m1).1 (md _ _ m1).2 p hp
   ·have hm5:1<=(if 5<most then 5 else most)/\(if 5<most then 5 else most)<=most:=by split <;> lia
    refine ⟨_,rfl,_,rfl,_,_,rfl,rfl,⟨by decide,by decide⟩,_,rfl,_,_,rfl,_,_,rfl,rfl,(by show (0:Int)<(if 5<most then 5 else most);lia),_,_,rfl,rfl,_,rfl,A0s rfl,λp hp=> ?_⟩;exact plain _ _ s1 (md _ _ hm5.1).1 (Int.le_trans (md _ _ hm5.1).2 hm5.2) p hp
def B9s (hs:List Hd) (cs:List Int):Prop:=cs.length<=4/\∀x∈cs,∃o∈hs,x=o.n
def A9w:Sp:=λvs H Q _=>∃(c m:Int) (l:Addr) (xs:List V) (hs:List Hd),vs=[.int c,.ref l,.int m]/\H l=some (.lst xs)/\A4l H xs hs/\0<=m/\m<=4/\
 ∀(q:Addr) (cs:List Int) (H':Hp),A1t H H'->H' q=some (.tup (cs.map V.int))->B9s hs cs->Q (.ref q) H'
def A8i:Sp:=λvs H Q _=>∃(c n:Int) (l:Addr) (xs:List V) (hs:List Hd),vs=[.int c,.int n,.ref l]/\H l=some (.lst xs)/\A4l H xs hs/\
 ∀(v:V) (k:Int) (w:Str) (cs us:List Int) (H':Hp),A1t H H'->A5y H' (.deed n k w cs us) v->PyData.strOk w=true->B9s hs cs->B9s hs us->Q v H'
theorem A9g (T:Txt K mg t):FO P w base T.aj 1 A9w:=by
 refine T.aj.F.ok A9c (by walk_at "ln") λ_ A _ s H _ Q E hr h=> ?_
 ·obtain ⟨c,m,l,xs,hs,rfl,hl,ha,m0,m4,k⟩:=h
  refine ⟨_,(A0e (A2o (A0y (B0u hr.units) (pv 1) (A2j A0b) (A1e _))
    (A0f (A0x (A1s A0b)))
    A1h)
   (A0f (A0x (A2l A1j (by rfl) T.ag Z0m (A0a (A5u (N':=["_law_k","_law_cell","_law_heads"]) (ix:=(List.replicate 1 none++[some 0,some 1])) rfl (B3n (cl:=[("_law_heads",_),("_law_cell",_)]) (xs:=["_law_heads","_law_cell"]) rfl ⟨rfl,rfl,trivial⟩ rfl rfl (by decide +kernel) (by decide +kernel)) (B1y (N0:=["_law_k"]) (xs:=["_law_cell","_law_heads"]) (js:=[0,1]) ⟨⟨rfl,Or.inl rfl,(by walk_at "ix")⟩,⟨rfl,Or.inl rfl,(by walk_at "ix")⟩,trivial⟩) (A5w rfl T.ak (A0a (pv 2) A0b)) (λ_ _ _ _=>(A0o (i:=0) B3i rfl (.inl rfl))) (λ_ _ _ _=>(A0t (B2c (K:=K) rfl) (A0t (B5j (K:=K) rfl) (pv 2) (A0n A1o (A0n A2m (pv 1) (A0n A3r (pv 0) (A0n A2m A0d (A0n A1o (A0n A1m (pv 1) A0d) A0d)))) (A0k (A6n (K:=K) rfl) (by rfl) T.ad Z0r (A0a (pv 2) A0b))) (λ_ _=>rfl)) A0d (λ_ _=>rfl)))) A0b))))),?_⟩
  refine ⟨_,rfl,A0s rfl,λz hz=> ?_⟩;obtain ⟨G,s1,hz1,eNH⟩:=nH (o:= .lst []) hz;rw [eNH];refine ⟨l,z,xs,rfl,rfl,s1 _ _ hl,hz1,_,rfl,A7u (λ_=> ?_) (λne=> ?_)⟩
  ·exact ⟨A0s rfl,λp hp=>k p [] _ (s1.trans (A0j hp)) A0g ⟨by simp,λx hx=>nomatch hx⟩⟩
  ·have ln:0<xs.length:=by
    cases xs with
    | nil=>simp at ne
    | cons x xs=>simp
   refine ⟨_,rfl,m,rfl,by lia,by lia,λD hD=> ?_⟩;refine B3t (D:=D) m.toNat (λi ys H3=>A1t G H3/\H3 D=some (.lst ys)/\∃cs:List Int,ys=cs.map V.int/\cs.length=i/\∀x∈cs,∃o∈hs,x=o.n) ⟨A0j hD,A0g,[],rfl,rfl,λx hx=>nomatch hx⟩ (λi ys H3 hi _=>hi) (λys H3 _=>Z09 _) ?_ ?_
   ·rintro i ys H3 hi ⟨s3,h3,cs,rfl,hc,nm⟩ x H4 ⟨rfl,rfl⟩;have i0:=Z1v (c+(0+(i:Int))*(1+c/7%3)) (show (xs.length:Int)≠0 by lia);have i1:=Z1p (c+(0+(i:Int))*(1+c/7%3)) (show 0<(xs.length:Int) by lia);obtain ⟨x,hx,ex⟩:=B3w (xs:=xs) i0 i1;obtain ⟨o,ho,b,rfl,hb⟩:=B3g ha hx;have s13:=s1.trans s3;refine ⟨⟨rfl,rfl,True.intro⟩,_,rfl,_,rfl,_,rfl,_,rfl,_,_,rfl,rfl,⟨by decide,by decide⟩,_,_,rfl,rfl,C0t,_,_,rfl,rfl,_,_,rfl,rfl,.inl ⟨by lia,by lia⟩,_,_,rfl,rfl,_,rfl,l,_,rfl,.inl (SqL.of (s13 _ _ hl)),_,_,rfl,rfl,(by show (0:Int)<(xs.length:Int);lia),l,_,_,_,rfl,rfl,SqL.of (s13 _ _ hl),ex,b,_,_,_,rfl,rfl,SqT.of (s13 _ _ hb),A0q (j:=1) rfl,?_⟩;refine ⟨h3,A1l (by simp;lia),A1i s3 hD,A0g,cs++[o.n],by simp,by simp [hc],λx hx=> ?_⟩;rcases Z07.mp hx with q | q
    ·exact nm x q
    ·exact ⟨o,Z13 ho,by simpa using q⟩
   ·rintro ys H3 ⟨s3,h3,cs,rfl,hc,nm⟩;exact ⟨D,_,rfl,.inl ⟨SqL.of h3,λp hp=>k p cs _ (s1.trans (s3.trans (A0j hp))) A0g ⟨by lia,nm⟩⟩⟩
theorem A7e (T:Txt K mg t):FO P w base T.aq 2 A8i:=by
 have Ga8:= @A9g P w K mg base t T;refine T.aq.F.ok A2d (by walk_at "ln") λ_ A _ s H _ Q E hr h=> ?_
 ·obtain ⟨c,n,l,xs,hs,rfl,hl,ha,k⟩:=h
  refine ⟨_,(A0e (A0w (i:=3) A2d.nd rfl (.inl rfl) (A0n A1m (pv 0) A0d))
   (A0e (A0w (i:=4) A2d.nd rfl (.inl rfl) (A0t A1d (A2j (A0a A2k (A0a A2k (A0a A2k A0b)))) (A0n A1o (pv 3) A0d) (λ_ _=>rfl)))
   (A0e (A0w (i:=5) A2d.nd rfl (.inl rfl) (pcl Ga8 hr T.aj (A0a (A0n A1m (pv 3) A0d) (A0a (pv 2) (A0a (A0n A1o (A0n A1m (pv 3) A0d) A0d) A0b)))))
   (A0e (A0w (i:=6) A2d.nd rfl (.inl rfl) (pcl Ga8 hr T.aj (A0a (A0n A1m (pv 3) A0d) (A0a (pv 2) (A0a (A0n A1o (A0n A1m (pv 3) A0d) A0d) A0b)))))
   (A0f (A0x (A1s (A0a A2k (A0a (pv 1) (A0a (A0n A1o (A0n A1m (pv 3) A0d) (A0n A2m (A0n A9y A0d A0d) A0d)) (A0a (pv 4) (A0a (pv 5) (A0a (pv 6) A0b))))))))))))),?_⟩
  have md:∀z:Int,0<=z%5/\z%5<=4:=λz=>by lia
  obtain ⟨wv,hw,ew⟩:=B3w (xs:=[V.str "set",V.str "start",V.str "add"]) (i:=c/5%3) (by lia) (by show c/5%3<3;lia)
  obtain ⟨w',rfl,ok⟩:∃w':Str,wv= .str w'/\PyData.strOk w'=true:=by
   have:=Z13 hw;simp only [Z0e,List.not_mem_nil,or_false] at this;rcases this with q | q | q
   ·exact ⟨_,q,by decide +kernel⟩
   ·exact ⟨_,q,by decide +kernel⟩
   ·exact ⟨_,q,by decide +kernel⟩
  refine ⟨_,rfl,_,_,rfl,rfl,⟨by decide,by decide⟩,?_⟩;refine ⟨A0s rfl,λz hz=> ?_⟩;have s1:=A0j (o:= .lst [V.str "set",V.str "start",V.str "add"]) hz;have hz1:upd H z (.lst [V.str "set",V.str "start",V.str "add"]) z=some (.lst [V.str "set",V.str "start",V.str "add"]):=A0g;generalize upd H z (.lst [V.str "set",V.str "start",V.str "add"])=G at s1 hz1⊢;refine ⟨_,rfl,_,_,rfl,rfl,C0t,z,_,_,_,rfl,rfl,SqL.of hz1,ew,?_⟩;refine ⟨_,rfl,_,_,rfl,rfl,⟨by decide,by decide⟩,_,rfl,_,rfl,_,_,rfl,rfl,⟨by decide,by decide⟩,_,_,rfl,rfl,C1b,_,_,l,xs,hs,rfl,s1 _ _ hl,ha.kt (KT.same s1),(md _).1,(md _).2,λq1 cs G1 s2 e1 n1=> ?_⟩;refine ⟨_,rfl,_,_,rfl,rfl,⟨by decide,by decide⟩,_,rfl,_,rfl,_,_,rfl,rfl,⟨by decide,by decide⟩,_,_,rfl,rfl,C1b,_,_,l,xs,hs,rfl,s2 _ _ (s1 _ _ hl),ha.kt (KT.same (s1.trans s2)),(md _).1,(md _).2,λq2 us G2 s3 e2 n2=> ?_⟩;refine ⟨_,rfl,_,rfl,_,_,rfl,rfl,⟨by decide,by decide⟩,_,_,rfl,rfl,⟨by decide,by decide,by decide⟩,_,_,rfl,rfl,_,_,rfl,rfl,(by show (0:Int)<(10:Int)^(9:Int).toNat+1;decide +kernel),_,rfl,_,rfl,_,rfl,A0s rfl,λp hp=> ?_⟩;refine k (.ref p) (c/5/2%((10:Int)^(9:Int).toNat+1)) w' cs us _ (s1.trans (s2.trans (s3.trans (A0j hp)))) ?_ ok n1 n2;rw [A5y];exact ⟨p,q1,q2,rfl,A0g,(A0j hp) _ _ (s3 _ _ e1),(A0j hp) _ _ e2⟩
def B9u (bd:Rd) (H:Hp) (v:V) (y:Way):Prop:=∃(b m d:Addr) (kvs:List (Key×V)),v= .ref b/\H b=some (.tup [.ref m,.ref d])/\H m=some (.tup (y.1.map V.int))/\H d=some (.dK kvs)/\y.2=ci kvs/\B5w kvs bd/\kvs.length<=bd.length/\y.1.length=2*bd.length
def KD (H H':Hp):Prop:=KT H H'/\∀p kvs,H p=some (.dK kvs)->H' p=some (.dK kvs)
theorem KD.same {H H':Hp} (s:A1t H H'):KD H H':=⟨KT.same s,λp kvs e=>s _ _ e⟩
theorem KD.trans {H H' H2:Hp} (a:KD H H') (b:KD H' H2):KD H H2:=⟨a.1.trans b.1,λp kvs e=>b.2 _ _ (a.2 _ _ e)⟩
theorem KD.lst {H:Hp} {l:Addr} {xs ys:List V} (e:H l=some (.lst xs)):KD H (upd H l (.lst ys)):=⟨KT.at e (by intro zs z;cases z),λp kvs q=>by rw [A0l (A9m q e (by intro z;cases z))];exact q⟩
theorem B9u.kd {bd:Rd} {H H':Hp} {v:V} {y:Way} (h:B9u bd H v y) (k:KD H H'):B9u bd H' v y:=by
 obtain ⟨b,m,d,kvs,e,h1,h2,h3,r⟩:=h;exact ⟨b,m,d,kvs,e,k.1 _ _ h1,k.1 _ _ h2,k.2 _ _ h3,r⟩
abbrev A6q (bd:Rd) (H:Hp) (xs:List V) (ws:List Way):Prop:=Paired (B9u bd H) xs ws
theorem A6q.kd {bd:Rd} {H H':Hp} {xs:List V} {ws:List Way} (h:A6q bd H xs ws) (k:KD H H'):A6q bd H' xs ws:=Paired.mapP h λ_ _ z=>z.kd k
structure B4z (bd:Rd) (h:Hd):Prop where
 out:h.out= -1\/∃s,(h.out,s)∈bd/\(s-1)*h.wd<h.sz/\1<=h.wd
 s1:1<=h.sz
 s2:h.sz<=24
 n0:0<=h.n
 nb:∀s,(h.n,s)∉bd
def A4i:Sp:=λvs H Q _=>∃(l:Addr) (p:Int) (v:V) (xs:List V) (ws:List Way) (bd:Rd) (h:Hd),vs=[.ref l,.int p,v]/\H l=some (.lst xs)/\A6q bd H xs ws/\B7y H v h/\B4z bd h/\bd.length<=40/\xs.length<=1000/\
 ∀(q:Addr) (zs:List V) (H':Hp),H q=none->A1t H H'->H' q=some (.lst zs)->A6q ((h.n,h.sz)::bd) H' zs (A2e ws p h.n h.sz h.wd h.out)->Q (.ref q) H'
theorem A4k (T:Txt K mg t):FO P w base T.af 1 A4i:=by
 refine T.af.F.ok A0m (by walk_at "ln") λ_ A _ s H _ Q E hr h=> ?_
 ·obtain ⟨l,p,v,xs,ws,bd,h,rfl,hl,wy,⟨hb,rfl,hh⟩,hi,lb,lx,k⟩:=h;have hu:=A9k hr;have lw:=Paired.length wy;have s1':=hi.s1;have s2':=hi.s2
  refine ⟨_,(A0e (A0w (i:=3) A0m.nd rfl (.inl rfl) (A2j A0b))
   (A0e (A3t PassesOwn.never rfl (A5f (pv 0)) (A7s (n:=2) rfl (A0z (A0o (i:=4) A0m.nd rfl (.inl rfl)) (A0z (A0o (i:=5) A0m.nd rfl (.inl rfl)) A5v)))
    (A0e (A0w (i:=6) A0m.nd rfl (.inl rfl) A0d)
    (A0e (A0w (i:=7) A0m.nd rfl (.inl rfl) (A0t A1b (pv 2) A0d (λ_ _=>rfl)))
    (B2q (A2o (A0y B2k (A0t A1b (pv 2) A0d (λ_ _=>rfl)) (A4d A2t A0d) (A1e _))
     (A0e (A0w (i:=6) A0m.nd rfl (.inl rfl) (A0n A3r (A5j hu (pv 5) (A0t A1b (pv 2) A0d (λ_ _=>rfl)) (λ_ _=>rfl)) (A0t A1b (pv 2) A0d (λ_ _=>rfl))))
     (A0f (A0w (i:=7) A0m.nd rfl (.inl rfl) (A0k (A2u rfl) (by rfl) T.br PyProof.Rows.boot_min (A0a (A0n A2m (pv 6) (A0t A1b (pv 2) A0d (λ_ _=>rfl))) (A0a (pv 7) A0b))))))
     A1h)
    (A0f (A3t PassesOwn.never rfl (A7i rfl T.ak (A0a (pv 6) (A0a (pv 7) A0b))) (A0o (i:=8) A0m.nd rfl (.inl rfl))
     (A0e (A0w (i:=9) A0m.nd rfl (.inl rfl) (A2l B1p (by rfl) T.cW PyProof.Rows.boot_dict (A0a (pv 5) A0b)))
     (A0e (B3a hu (pv 9) (A0t A1b (pv 2) A0d (λ_ _=>rfl)) (pv 8) rfl)
     (A0f (A1g (A6c Z0k Z0n Z0o A1n (pv 3) (A0a (A1s (A0a (A0n A6w (pv 4) (A1s (A0a (pv 1) (A0a (pv 8) A0b)))) (A0a (pv 9) A0b))) A0b))))))))))))
   (A0f (A0x (pv 3))))),?_⟩
  refine ⟨A0s rfl,λD hD=> ?_⟩;obtain ⟨G,s1,hD1,eNH⟩:=nH (o:= .lst []) hD;rw [eNH]
  refine ⟨_,rfl,l,rfl,⟨_,SqL.of (s1 _ _ hl)⟩,A4r (K:=K) (a:=l) (xs:=xs) (λi σ H2=>∃(o4 o5 o6 o7 o8 o9:Option V) (zs:List V),σ=[Sro l,Sio p,Sro hb,Sro D,o4,o5,o6,o7,o8,o9]/\A1t H H2/\H2 D=some (.lst zs)/\zs.length<=24*i/\A6q ((h.n,h.sz)::bd) H2 zs (A2e (ws.take i) p h.n h.sz h.wd h.out))
   ⟨none,none,none,none,none,none,[],rfl,s1,hD1,by simp,.nil⟩ (λi σ H2 _ zq=>by obtain ⟨_,_,_,_,_,_,_,_,s2,_⟩:=zq;exact SqL.of (s2 _ _ hl)) ?_ ?_⟩
  ·rintro i x σ H2 hx ⟨o4,o5,o6,o7,o8,o9,zs,rfl,s2,hD2,lz,wz⟩;obtain ⟨⟨mk,f⟩,hw,b,m,d,kvs,rfl,hb',hm,hd,ef,has,lk,lm⟩:=B3g wy hx;dsimp only at ef hm lm;subst ef;have lxi:=(Z03.mp hx).1;have hh2:=s2 _ _ hh;refine ⟨b,_,rfl,SqT.of (s2 _ _ hb'),rfl,_,_,rfl,_,_,rfl,rfl,?_⟩;refine ⟨_,rfl,hb,_,_,_,rfl,rfl,SqT.of hh2,A0q (j:=2) rfl,?_⟩;refine ⟨λσ' H3=>H3=H2/\∃lo hi:Int,σ'=[some (.ref l),some (.int p),some (.ref hb),some (.ref D),some (.ref m),some (.ref d),some (.int lo),some (.int hi),o8,o9]/\cts h.sz h.wd h.out (ci kvs)=iv lo hi/\0<=lo/\lo<=24/\hi<=24/\0<=hi,?_,?_⟩
   ·refine ⟨_,rfl,hb,_,_,_,rfl,rfl,SqT.of hh2,A0q (j:=4) rfl,_,rfl,rfl,_,rfl,A7u (λe=> ?_) (λe=> ?_)⟩
    ·have e':¬h.out= -1:=λz=>by rw [z] at e;simp at e
     obtain ⟨sz,hs,hlt,wd1⟩:=hi.out.resolve_left e';obtain ⟨hv,c0,c1⟩:=has _ _ hs;have g:=B4p.k (H:=H2) (a:=d) (k:=Sum.inl h.out) (s2 _ _ hd);rw [hv] at g;have q1:ci kvs h.out*h.wd<=(sz-1)*h.wd:=Int.mul_le_mul_of_nonneg_right (by lia) (by lia);have q2:0<=ci kvs h.out*h.wd:=Int.mul_nonneg c0 (by lia);have q3:ci kvs h.out*1<=ci kvs h.out*h.wd:=Z29 wd1 c0;refine ⟨_,rfl,_,rfl,hb,_,_,_,rfl,rfl,SqT.of hh2,A0q (j:=4) rfl,d,_,rfl,g,_,rfl,hb,_,_,_,rfl,rfl,SqT.of hh2,A0q (j:=3) rfl,_,_,rfl,rfl,.inl ⟨by lia,by lia⟩,?_⟩;refine ⟨_,rfl,_,rfl,hb,_,_,_,rfl,rfl,SqT.of hh2,A0q (j:=3) rfl,_,_,rfl,rfl,_,rfl,_,_,rfl,rfl,_,_,rfl,?_,q2,by lia,?_,?_⟩
     ·unfold cts;rw [Z0t e',B0g]
     ·rw [B0g]
      lia
     ·rw [B0g]
      lia
    ·have e':h.out= -1:=by
      by_cases z:h.out= -1
      ·exact z
      ·exact absurd (by simpa using z) e
     exact ⟨rfl,0,h.sz,rfl,by unfold cts;rw [Z12 e'],by lia,by lia,s2',by lia⟩
   ·rintro σ' H3 ⟨rfl,lo,hi',rfl,ec,l0,l1,l2,l3⟩
    have inC:∀c∈iv lo hi',0<=c/\c<h.sz:=λc hc=>by
     rw [<-ec] at hc;unfold cts at hc;by_cases ho:h.out= -1
     ·rw [Z12 ho] at hc;exact A6g.mp hc
     ·rw [Z0t ho] at hc;obtain ⟨s0,hs,hlt,wd1⟩:=hi.out.resolve_left ho;obtain ⟨_,c0,_⟩:=has _ _ hs;have m0:0<=ci kvs h.out*h.wd:=Int.mul_nonneg c0 (by lia);have:=A6g.mp hc
      lia
    have liv:(iv lo hi').length=(hi'-lo).toNat:=by unfold iv;simp
    refine ⟨_,rfl,_,rfl,lo,hi',rfl,⟨by lia,by lia,by lia,by lia⟩,A3v (lo:=lo) (n:=(hi'-lo).toNat) (λj σ H4=>∃(o8 o9:Option V) (zs2:List V),σ=[Sro l,Sio p,Sro hb,Sro D,Sro m,Sro d,Sio lo,Sio hi',o8,o9]/\A1t H H4/\H4 D=some (.lst (zs++zs2))/\zs2.length=j/\A6q ((h.n,h.sz)::bd) H4 (zs++zs2) (A2e (ws.take i) p h.n h.sz h.wd h.out++((iv lo hi').take j).map λc=>(mk++[p,c],A4j (ci kvs) h.n c)))
     ⟨o8,o9,[],rfl,s2,by rw [Z0u];exact hD2,rfl,by rw [Z0u,List.take_zero,List.map_nil,Z0u];exact wz⟩ ?_ ?_⟩
    ·rintro j σ H4 hj ⟨o8,o9,zs2,rfl,s4,hD4,l4,w4⟩
     have hc:(iv lo hi')[j]? =some (lo+j):=by
      unfold iv;rw [Z1z,List.getElem?_range hj];rfl
     have hcb:=inC _ (Z13 hc);refine ⟨_,rfl,d,kvs,rfl,.inl (s4 _ _ hd),λM hM=> ?_⟩;obtain ⟨H5,s5,hM5,eNH⟩:=nH (o:= .dK kvs) hM;have M0:H M=none:=s4.free hM;have MD:M≠D:=λz=>by rw [z,hD4] at hM;cases hM
     rw [eNH];have s45:=s4.trans s5;refine ⟨_,rfl,_,rfl,_,rfl,hb,_,_,_,rfl,rfl,SqT.of (s45 _ _ hh),A0q (j:=1) rfl,M,_,rfl,B7x.k (k:=Sum.inl h.n) hM5 (A1l (by lia)),?_⟩;have kd6:KD H4 (upd H5 M (.dK (A3f kvs (Sum.inl h.n) (.int (lo+j))))):=⟨λq ys e=>by rw [A0l (A0c e hM)];exact s5 _ _ e,λq ys e=>by rw [A0l (A0c e hM)];exact s5 _ _ e⟩;have s6:A1t H4 (upd H5 M (.dK (A3f kvs (Sum.inl h.n) (.int (lo+j))))):=λq o e=>by rw [A0l (A0c e hM)];exact s5 _ _ e
     have hM6:upd H5 M (.dK (A3f kvs (Sum.inl h.n) (.int (lo+j)))) M=some (.dK (A3f kvs (Sum.inl h.n) (.int (lo+j)))):=A0g;generalize upd H5 M (.dK (A3f kvs (Sum.inl h.n) (.int (lo+j))))=H6 at s6 hM6⊢;have s46:=s4.trans s6;have lp:(A3f kvs (Sum.inl h.n) (.int (lo+j))).length<=kvs.length+1:=A3j _ _ _;refine ⟨_,rfl,.inl ⟨rfl,_,SqL.of (s6 _ _ hD4)⟩,_,rfl,_,rfl,_,rfl,A0s rfl,λq hq=> ?_⟩;obtain ⟨H7,s7,hq7,eNH⟩:=nH (o:= .tup [.int p,.int (lo+j)]) hq;rw [eNH];refine ⟨m,q,_,_,rfl,rfl,s7 _ _ (s46 _ _ hm),hq7,A5x (by simp;lia),λq8 H8 s8 hq8=>⟨_,rfl,A0s rfl,λq9 hq9=> ?_⟩⟩;obtain ⟨H9,s9,hq99,eNH⟩:=nH (o:= .tup [.ref q8,.ref M]) hq9;rw [eNH];have s69:=s7.trans (s8.trans s9);have hD9:=s69 _ _ (s6 _ _ hD4);refine ⟨D,_,_,rfl,rfl,hD9,A1l (by rw [Z06];lia),_,_,zs2++[.ref q9],rfl,?_,by rw [A0g,Z0z],by simp [l4],?_⟩
     ·exact A1i (s4.trans (s6.trans s69)) hD
     ·have kd:KD H9 (upd H9 D (.lst (zs++zs2++[.ref q9]))):=KD.lst hD9;rw [Z14,hc,Z2f,Z0s,<-Z0z,<-Z0z];refine B4s (w4.kd ((KD.same (s6.trans s69)).trans kd)) (.cons ?_ .nil);refine ⟨q9,q8,M,_,rfl,kd.1 _ _ hq99,?_,kd.2 _ _ (s69 _ _ hM6),(B0r _ _ _).symm,?_,by simp only [Z0y];lia,by simp only [Z06,Z0y,Z2g];lia⟩
      ·have:=kd.1 _ _ (s9 _ _ hq8);rw [this];simp
      ·intro x s hx;rw [B0r,A4s];unfold A4j;by_cases z:x=h.n
       ·subst z;rcases Z0e.mp hx with hx | hx
        ·cases hx
         rw [Z12 rfl,Z12 rfl];exact ⟨rfl,hcb.1,hcb.2⟩
        ·exact absurd hx (hi.nb s)
       ·rw [Z0t (λy=>z (by injection y)),Z0t z];rcases Z0e.mp hx with hx | hx
        ·injection hx with e1 e2;exact absurd e1 z
        ·exact has x s hx
    ·rintro σ H4 ⟨o8,o9,zs2,rfl,s4,hD4,l4,w4⟩;rw [<-liv,Z18,<-ec] at w4;refine ⟨_,_,_,_,_,_,zs++zs2,rfl,s4,hD4,by rw [Z06];lia,?_⟩
     have et:A2e (ws.take (i+1)) p h.n h.sz h.wd h.out=A2e (ws.take i) p h.n h.sz h.wd h.out++(cts h.sz h.wd h.out (ci kvs)).map λc=>(mk++[p,c],A4j (ci kvs) h.n c):=by
      unfold A2e;rw [Z14,hw,Z2f,List.flatMap_append,List.flatMap_singleton]
     rw [et];exact w4
  ·rintro σ H2 ⟨o4,o5,o6,o7,o8,o9,zs,rfl,s2,hD2,lz,wz⟩;rw [lw,Z18] at wz;exact ⟨_,rfl,k D zs H2 hD s2 hD2 wz⟩
def B8e (H:Hp) (v:V) (y:List Int×Stp):Prop:=∃(b m:Addr) (r:V),v= .ref b/\H b=some (.tup [.ref m,r])/\H m=some (.tup (y.1.map V.int))/\B7a H r y.2
theorem B8e.kt {H H':Hp} {v:V} {y:List Int×Stp} (h:B8e H v y) (k:KT H H'):B8e H' v y:=by
 obtain ⟨b,m,r,e,h1,h2,h3⟩:=h;exact ⟨b,m,r,e,k _ _ h1,k _ _ h2,h3.kt k⟩
abbrev A6a (H:Hp) (xs:List V) (ys:List (List Int×Stp)):Prop:=Paired (B8e H) xs ys
theorem A6a.kt {H H':Hp} {xs:List V} {ys:List (List Int×Stp)} (h:A6a H xs ys) (k:KT H H'):A6a H' xs ys:=Paired.mapP h λ_ _ z=>z.kt k
def InB (bd:Rd) (cs:List Int):Prop:=cs.length<=4/\∀x∈cs,∃s,(x,s)∈bd
def A7l:Sp:=λvs H Q _=>∃(l:Addr) (p n k:Int) (w:Str) (cs us:List Int) (v:V) (xs:List V) (ws:List Way) (bd:Rd),vs=[.ref l,.int p,v]/\H l=some (.lst xs)/\A6q bd H xs ws/\A5y H (.deed n k w cs us) v/\InB bd cs/\InB bd us/\bd.length<=40/\xs.length<=1000/\
 ∀(q:Addr) (zs:List V) (H':Hp),H q=none->A1t H H'->H' q=some (.lst zs)->A6a H' zs (ws.map λy=>(y.1++[p],(k,w,cs.map y.2,us.map y.2)))->Q (.ref q) H'
theorem A8e (T:Txt K mg t):FO P w base T.am 1 A7l:=by
 refine T.am.F.ok A1r (by walk_at "ln") λ_ A _ s H _ Q E hr h=> ?_
 ·obtain ⟨l,p,n,k,w,cs,us,v,xs,ws,bd,rfl,hl,wy,nd,ic,iu,lb,lx,kk⟩:=h;rw [A5y] at nd;obtain ⟨eb,ec,eu,rfl,he,hc,hu'⟩:=nd;have hu:=A9k hr;have lw:=Paired.length wy
  refine ⟨_,(A0e (A0w (i:=3) A1r.nd rfl (.inl rfl) (A2j A0b))
   (A0e (A3t PassesOwn.never rfl (A5f (pv 0)) (A7s (n:=2) rfl (A0z (A0o (i:=4) A1r.nd rfl (.inl rfl)) (A0z (A0o (i:=5) A1r.nd rfl (.inr rfl)) A5v)))
    (A0e (A0w (i:=6) A1r.nd rfl (.inl rfl) (A2l A1j (by rfl) T.ag Z0m (A0a (A5u (N':=["_law_number","_law_counts"]) (ix:=(List.replicate 1 none++[some 5])) rfl (A6r (x:="_law_counts") rfl rfl rfl (by decide +kernel) (by decide +kernel)) (A5c (N0:=["_law_number"]) rfl (.inl rfl) (by walk_at "ix")) (B0x (A0t A1b (pv 2) A0d (λ_ _=>rfl))) (λ_ _ _ _=>(A0o (i:=0) B3h rfl (.inl rfl))) (λ_ _ _ _=>(A5j hu (pv 1) (pv 0) (λ_ _=>rfl)))) A0b)))
    (A0e (A0w (i:=7) A1r.nd rfl (.inl rfl) (A2l A1j (by rfl) T.ag Z0m (A0a (A5u (N':=["_law_number","_law_counts"]) (ix:=(List.replicate 1 none++[some 5])) rfl (A6r (x:="_law_counts") rfl rfl rfl (by decide +kernel) (by decide +kernel)) (A5c (N0:=["_law_number"]) rfl (.inl rfl) (by walk_at "ix")) (B0x (A0t A1b (pv 2) A0d (λ_ _=>rfl))) (λ_ _ _ _=>(A0o (i:=0) B2z rfl (.inl rfl))) (λ_ _ _ _=>(A5j hu (pv 1) (pv 0) (λ_ _=>rfl)))) A0b)))
    (A0f (A1g (A6c Z0k Z0n Z0o A1n (pv 3) (A0a (A1s (A0a (A0n A6w (pv 4) (A1s (A0a (pv 1) A0b))) (A0a (A1s (A0a (A0t A1b (pv 2) A0d (λ_ _=>rfl)) (A0a (A0t A1b (pv 2) A0d (λ_ _=>rfl)) (A0a (pv 6) (A0a (pv 7) A0b))))) A0b))) A0b)))))))
   (A0f (A0x (pv 3))))),?_⟩
  refine ⟨A0s rfl,λD hD=> ?_⟩;obtain ⟨G,s1,hD1,eNH⟩:=nH (o:= .lst []) hD;rw [eNH]
  refine ⟨_,rfl,l,rfl,⟨_,SqL.of (s1 _ _ hl)⟩,A4r (K:=K) (a:=l) (xs:=xs) (λi σ H2=>∃(o4 o5 o6 o7:Option V) (zs:List V),σ=[Sro l,Sio p,Sro eb,Sro D,o4,o5,o6,o7]/\A1t H H2/\H2 D=some (.lst zs)/\zs.length=i/\A6a H2 zs ((ws.take i).map λy=>(y.1++[p],(k,w,cs.map y.2,us.map y.2))))
   ⟨none,none,none,none,[],rfl,s1,hD1,rfl,.nil⟩ (λi σ H2 _ zq=>by obtain ⟨_,_,_,_,_,_,s2,_⟩:=zq;exact SqL.of (s2 _ _ hl)) ?_ ?_⟩
  ·rintro i x σ H2 hx ⟨o4,o5,o6,o7,zs,rfl,s2,hD2,lz,dz⟩;obtain ⟨⟨mk,f⟩,hw,b,m,d,kvs,rfl,hb',hm,hd,ef,has,lk,lm⟩:=B3g wy hx;dsimp only at ef hm lm;subst ef;have lxi:=(Z03.mp hx).1;refine ⟨b,_,rfl,SqT.of (s2 _ _ hb'),rfl,_,_,rfl,_,_,rfl,rfl,?_⟩;refine ⟨_,rfl,eb,_,_,_,rfl,rfl,SqT.of (s2 _ _ he),A0q (j:=4) rfl,ec,rfl,⟨_,SqT.of (s2 _ _ hc)⟩,λD1 hD1=> ?_⟩;refine A4x (K:=K) (a:=ec) (D:=D1) (xs:=cs.map V.int) (λj ys H3=>A1t H2 H3/\H3 D1=some (.lst ys)/\ys=((cs.take j).map (ci kvs)).map V.int) ⟨A0j hD1,A0g,rfl⟩ (λj ys H3 ⟨s3,_⟩=>SqT.of (s3 _ _ (s2 _ _ hc))) ?_ ?_
   ·rintro j x ys H3 hx ⟨s3,h3,rfl⟩;obtain ⟨z,hz,rfl⟩:=A6y hx;obtain ⟨sz,hs⟩:=ic.2 z (Z13 hz);have g:=B4p.k (H:=H3) (a:=d) (k:=Sum.inl z) (s3 _ _ (s2 _ _ hd));rw [(has z sz hs).1] at g;have hi:j<cs.length:=(Z03.mp hz).1;have:=ic.1;refine ⟨⟨rfl,True.intro⟩,_,rfl,_,rfl,d,_,rfl,g,h3,A1l (by simp;lia),A1i s3 hD1,A0g,?_⟩;rw [Z14,hz,Z2f,Z0s,Z0s];rfl
   ·rintro ys H3 ⟨s3,h3,rfl⟩;rw [Z08,Z18] at h3;refine ⟨D1,_,rfl,.inl ⟨SqL.of h3,λq1 hq1=> ?_⟩⟩;obtain ⟨H4,s4,e4,eNH⟩:=nH (o:= .tup ((cs.map (ci kvs)).map V.int)) hq1;rw [eNH];have s24:=s3.trans s4;refine ⟨_,rfl,eb,_,_,_,rfl,rfl,SqT.of (s24 _ _ (s2 _ _ he)),A0q (j:=5) rfl,eu,rfl,⟨_,SqT.of (s24 _ _ (s2 _ _ hu'))⟩,λD2 hD2'=> ?_⟩;refine A4x (K:=K) (a:=eu) (D:=D2) (xs:=us.map V.int) (λj ys H5=>A1t H4 H5/\H5 D2=some (.lst ys)/\ys=((us.take j).map (ci kvs)).map V.int) ⟨A0j hD2',A0g,rfl⟩ (λj ys H5 ⟨s5,_⟩=>SqT.of (s5 _ _ (s24 _ _ (s2 _ _ hu')))) ?_ ?_
    ·rintro j x ys H5 hx ⟨s5,h5,rfl⟩;obtain ⟨z,hz,rfl⟩:=A6y hx;obtain ⟨sz,hs⟩:=iu.2 z (Z13 hz);have g:=B4p.k (H:=H5) (a:=d) (k:=Sum.inl z) (s5 _ _ (s24 _ _ (s2 _ _ hd)));rw [(has z sz hs).1] at g;have hi:j<us.length:=(Z03.mp hz).1;have:=iu.1;refine ⟨⟨rfl,True.intro⟩,_,rfl,_,rfl,d,_,rfl,g,h5,A1l (by simp;lia),A1i s5 hD2',A0g,?_⟩;rw [Z14,hz,Z2f,Z0s,Z0s];rfl
    ·rintro ys H5 ⟨s5,h5,rfl⟩;rw [Z08,Z18] at h5;refine ⟨D2,_,rfl,.inl ⟨SqL.of h5,λq2 hq2=> ?_⟩⟩;obtain ⟨H6,s6,e6,eNH⟩:=nH (o:= .tup ((us.map (ci kvs)).map V.int)) hq2;rw [eNH];have s46:=s5.trans s6;have s26:=s24.trans s46;refine ⟨_,rfl,.inl ⟨rfl,_,SqL.of (s26 _ _ hD2)⟩,_,rfl,_,rfl,A0s rfl,λq hq=> ?_⟩;obtain ⟨H7,s7,hq7,eNH⟩:=nH (o:= .tup [.int p]) hq;rw [eNH];have s27:=s26.trans s7;refine ⟨m,q,_,_,rfl,rfl,s27 _ _ (s2 _ _ hm),hq7,A5x (by simp;lia),λq8 H8 s8 hq8=> ?_⟩;have s28:=s27.trans s8;refine ⟨_,rfl,eb,_,_,_,rfl,rfl,SqT.of (s28 _ _ (s2 _ _ he)),A0q (j:=2) rfl,_,rfl,eb,_,_,_,rfl,rfl,SqT.of (s28 _ _ (s2 _ _ he)),A0q (j:=3) rfl,_,rfl,_,rfl,A0s rfl,λr hr'=>⟨A0s rfl,λq9 hq9=> ?_⟩⟩;have s9:A1t H8 (upd H8 r (.tup [.int k,.str w,.ref q1,.ref q2])):=A0j hr';have hr9:upd H8 r (.tup [.int k,.str w,.ref q1,.ref q2]) r=some (.tup [.int k,.str w,.ref q1,.ref q2]):=A0g;generalize upd H8 r (.tup [.int k,.str w,.ref q1,.ref q2])=H9 at s9 hr9 hq9⊢;obtain ⟨HA,sA,hqA,eNH⟩:=nH (o:= .tup [.ref q8,.ref r]) hq9;rw [eNH];have s2A:=s28.trans (s9.trans sA);have hDA:=s2A _ _ hD2;refine ⟨D,_,_,rfl,rfl,hDA,A1l (by lia),_,_,_,_,zs++[.ref q9],rfl,A1i (s2.trans s2A) hD,A0g,by simp [lz],?_⟩;have kt:KT HA (upd HA D (.lst (zs++[.ref q9]))):=KT.at hDA (by intro zs z;cases z);rw [Z14,hw,Z2f,Z0s];refine B4s (dz.kt ((KT.same s2A).trans kt)) (.cons ⟨q9,q8,.ref r,rfl,kt _ _ hqA,?_,r,q1,q2,rfl,kt _ _ (sA _ _ hr9),kt _ _ (sA _ _ (s9 _ _ (s8 _ _ (s7 _ _ (s46 _ _ e4))))),kt _ _ (sA _ _ (s9 _ _ (s8 _ _ (s7 _ _ e6))))⟩ .nil);have:=kt _ _ (sA _ _ (s9 _ _ hq8));rw [this];simp
  ·rintro σ H2 ⟨o4,o5,o6,o7,zs,rfl,s2,hD2,lz,dz⟩;rw [lw,Z18] at dz;exact ⟨_,rfl,kk D zs H2 hD s2 hD2 dz⟩
structure Lv where
 b:Addr
 y:Addr
 B:List Nd
 ws:List Way
 bd:Rd
structure B8o (H:Hp) (v:Lv):Prop where
 b:∃xs,H v.b=some (.lst xs)/\A2g H v.B xs
 y:∃ys,H v.y=some (.lst ys)/\A6q v.bd H ys v.ws
structure StA (H:Hp) (hl bl wl dl:Addr) (hs:List Hd) (L:List Lv) (due:List (List Int×Stp)):Prop where
 h:∃xs,H hl=some (.lst xs)/\A4l H xs hs
 b:H bl=some (.lst (L.map λv=>V.ref v.b))
 w:H wl=some (.lst (L.map λv=>V.ref v.y))
 d:∃xs,H dl=some (.lst xs)/\A6a H xs due
 lv:∀v∈L,B8o H v
 nd:(L.map Lv.b).Nodup
 db:∀v∈L,v.b≠hl/\v.b≠bl/\v.b≠wl/\v.b≠dl/\∀u∈L,v.b≠u.y
 dy:∀v∈L,v.y≠hl/\v.y≠bl/\v.y≠wl/\v.y≠dl
 ne:hl≠bl/\hl≠wl/\hl≠dl/\bl≠wl/\bl≠dl/\wl≠dl
theorem B8o.mono {H H':Hp} {v:Lv} (h:B8o H v) (k:KD H H') (e1:∀o,H v.b=some o->H' v.b=some o) (e2:∀o,H v.y=some o->H' v.y=some o):B8o H' v:=by
 obtain ⟨⟨xs,h1,h2⟩,ys,h3,h4⟩:=h;exact ⟨⟨xs,e1 _ h1,h2.kt k.1⟩,ys,e2 _ h3,h4.kd k⟩
theorem StA.same {H H':Hp} {hl bl wl dl:Addr} {hs:List Hd} {L:List Lv} {due:List (List Int×Stp)} (h:StA H hl bl wl dl hs L due) (s:A1t H H'):StA H' hl bl wl dl hs L due:=by
 obtain ⟨xs,h1,h2⟩:=h.h;obtain ⟨ys,h3,h4⟩:=h.d;exact ⟨⟨xs,s _ _ h1,h2.kt (KT.same s)⟩,s _ _ h.b,s _ _ h.w,⟨ys,s _ _ h3,h4.kt (KT.same s)⟩,λv hv=>(h.lv v hv).mono (KD.same s) (λo e=>s _ _ e) (λo e=>s _ _ e),h.nd,h.db,h.dy,h.ne⟩
theorem StA.due {H:Hp} {hl bl wl dl:Addr} {hs:List Hd} {L:List Lv} {due more:List (List Int×Stp)} {xs zs:List V} (h:StA H hl bl wl dl hs L due) (e:H dl=some (.lst xs)) (m:A6a H zs more):StA (upd H dl (.lst (xs++zs))) hl bl wl dl hs L (due++more):=by
 obtain ⟨us,h1,h2⟩:=h.h;obtain ⟨ys,h3,h4⟩:=h.d;rw [e] at h3;cases h3;have kd:KD H (upd H dl (.lst (xs++zs))):=KD.lst e;have st:∀{a:Addr} {o:HO},a≠dl->H a=some o->upd H dl (.lst (xs++zs)) a=some o:=λhn q=>by rw [A0l hn];exact q
 exact ⟨⟨us,st h.ne.2.2.1 h1,h2.kt kd.1⟩,st h.ne.2.2.2.2.1 h.b,st h.ne.2.2.2.2.2 h.w,⟨xs++zs,A0g,B4s (h4.kt kd.1) (m.kt kd.1)⟩,
  λv hv=>(h.lv v hv).mono kd (λo q=>st (h.db v hv).2.2.2.1 q) (λo q=>st (h.dy v hv).2.2.2 q),h.nd,h.db,h.dy,h.ne⟩
theorem StA.node {H:Hp} {hl bl wl dl:Addr} {hs:List Hd} {L:List Lv} {v:Lv} {due:List (List Int×Stp)} {xs:List V} {z:V} {x:Nd} (h:StA H hl bl wl dl hs (L++[v]) due) (e:H v.b=some (.lst xs)) (m:A5y H x z) :
  StA (upd H v.b (.lst (xs++[z]))) hl bl wl dl hs (L++[{ v with B:=v.B++[x] }]) due:=by
 obtain ⟨us,h1,h2⟩:=h.h;obtain ⟨ys,h3,h4⟩:=h.d;have kd:KD H (upd H v.b (.lst (xs++[z]))):=KD.lst e;have mv:v∈L++[v]:=by simp
 have dv:=h.db v mv;have st:∀{a:Addr} {o:HO},a≠v.b->H a=some o->upd H v.b (.lst (xs++[z])) a=some o:=λhn q=>by rw [A0l hn];exact q
 have nd:=h.nd;rw [Z0s,Z0l] at nd;refine ⟨⟨us,st dv.1.symm h1,h2.kt kd.1⟩,?_,?_,⟨ys,st dv.2.2.2.1.symm h3,h4.kt kd.1⟩,λu hu=> ?_,?_,λu hu=> ?_,λu hu=> ?_,h.ne⟩
 ·have:=st dv.2.1.symm h.b;rw [this];simp
 ·have:=st dv.2.2.1.symm h.w;rw [this];simp
 ·rcases Z07.mp hu with q | q
  ·have mu:u∈L++[v]:=Z05 _ q;refine (h.lv u mu).mono kd (λo r=>st (λz=> ?_) r) (λo r=>st (λz=>dv.2.2.2.2 u mu z.symm) r);exact nd.2.2 u.b (Z2c.mpr ⟨u,q,rfl⟩) v.b (by simp) z
  ·rw [Z0w.mp q];obtain ⟨⟨xs',q1,q2⟩,ys',q3,q4⟩:=h.lv v mv;rw [e] at q1;cases q1;refine ⟨⟨xs++[z],A0g,?_⟩,ys',st (λz=>dv.2.2.2.2 v mv z.symm) q3,q4.kd kd⟩;rw [A3q] at q2⊢;exact B4s (Paired.mapP q2 λ_ _ r=>r.kt kd.1) (.cons (m.kt kd.1) .nil)
 ·have en:(L++[({ v with B:=v.B++[x] }:Lv)]).map Lv.b=(L++[v]).map Lv.b:=by simp
  rw [en];exact h.nd
 ·rcases Z07.mp hu with q | q
  ·have:=h.db u (Z05 _ q);refine ⟨this.1,this.2.1,this.2.2.1,this.2.2.2.1,λw hw=> ?_⟩;rcases Z07.mp hw with r | r
   ·exact this.2.2.2.2 w (Z05 _ r)
   ·rw [Z0w.mp r];exact this.2.2.2.2 v mv
  ·rw [Z0w.mp q];refine ⟨dv.1,dv.2.1,dv.2.2.1,dv.2.2.2.1,λw hw=> ?_⟩;rcases Z07.mp hw with r | r
   ·exact dv.2.2.2.2 w (Z05 _ r)
   ·rw [Z0w.mp r];exact dv.2.2.2.2 v mv
 ·rcases Z07.mp hu with q | q
  ·exact h.dy u (Z05 _ q)
  ·rw [Z0w.mp q];exact h.dy v mv
def KL (hl bl wl dl:Addr) (L:List Lv) (H H':Hp):Prop:=∀a o,H a=some o->a≠hl->a≠bl->a≠wl->a≠dl->(∀u∈L,a≠u.b)->H' a=some o
theorem KL.same {hl bl wl dl:Addr} {L:List Lv} {H H':Hp} (s:A1t H H'):KL hl bl wl dl L H H':=λa o e _ _ _ _ _=>s _ _ e
theorem KL.trans {hl bl wl dl:Addr} {L:List Lv} {H H' H2:Hp} (a:KL hl bl wl dl L H H') (b:KL hl bl wl dl L H' H2):KL hl bl wl dl L H H2:=λx o e h1 h2 h3 h4 h5=>b x o (a x o e h1 h2 h3 h4 h5) h1 h2 h3 h4 h5
def B4i (v:Lv) (k:Int) (w:Str) (cs us:List Int):List (List Int×Stp):=v.ws.map λy=>(y.1++[(v.B.length:Int)],(k,w,cs.map y.2,us.map y.2))
structure B5o (hs:List Hd) (L:List Lv) (v:Lv) (due:List (List Int×Stp)):Prop where
 nm:∀o∈hs,∃s,(o.n,s)∈v.bd
 l1:v.bd.length<=40
 l2:v.ws.length<=1000
 l3:due.length<=100000
 l4:v.B.length<=1000
def B5g:Sp:=λvs H Q _=>∃(c n:Int) (hl bl wl dl:Addr) (hs:List Hd) (L:List Lv) (v:Lv) (due:List (List Int×Stp)),vs=[.int c,.int n,.ref hl,.ref bl,.ref wl,.ref dl]/\StA H hl bl wl dl hs (L++[v]) due/\B5o hs L v due/\
 ∀(k:Int) (w:Str) (cs us:List Int) (H':Hp),PyData.strOk w=true->InB v.bd cs->InB v.bd us->StA H' hl bl wl dl hs (L++[{ v with B:=v.B++[.deed n k w cs us] }]) (due++B4i v k w cs us)->KL hl bl wl dl (L++[v]) H H'->Q .non H'
theorem B0w (T:Txt K mg t):FO P w base T.bp 3 B5g:=by
 have Ga9:= @A7e P w K mg base t T;have Gb0:= @A8e P w K mg base t T;refine T.bp.F.ok B0e (by walk_at "ln") λ_ A _ s H _ Q E hr h=> ?_
 ·obtain ⟨c,n,hl,bl,wl,dl,hs,L,v,due,rfl,st,pi,k⟩:=h;obtain ⟨hx,hh,hd⟩:=st.h;have mv:v∈L++[v]:=by simp
  refine ⟨_,(A0e (A0w (i:=6) B0e.nd rfl (.inl rfl) (pcl Ga9 hr T.aq (A0a (pv 0) (A0a (pv 1) (A0a (pv 2) A0b)))))
   (A0e (A1g (A6c Z0k PySem.F.slot_list_extend PySem.F.type_list_extend B4b (pv 5) (A0a (pcl Gb0 hr T.am (A0a (A0t A1d (pv 4) (A4d A2t A0d) (λ_ _=>rfl)) (A0a (A0k A0i (by rfl) T.ad Z0r (A0a (A0t A1d (pv 3) (A4d A2t A0d) (λ_ _=>rfl)) A0b)) (A0a (pv 6) A0b)))) A0b)))
   (A0f (A1g (A6c Z0k Z0n Z0o A1n (A0t A1d (pv 3) (A4d A2t A0d) (λ_ _=>rfl)) (A0a (pv 6) A0b)))))),?_⟩
  refine ⟨_,rfl,_,rfl,_,rfl,c,n,hl,hx,hs,rfl,hh,hd,λx k' w' cs us H1 s1 nd ok n1 n2=> ?_⟩;have st1:=st.same s1
  have inb:∀{zs:List Int},B9s hs zs->InB v.bd zs:=λh=>⟨h.1,λx hx=>by
   obtain ⟨o,ho,e⟩:=h.2 x hx;rw [e]
   exact pi.nm o ho⟩
  obtain ⟨⟨bx,hb1,hb2⟩,yx,hy1,hy2⟩:=st1.lv v mv;obtain ⟨dx,hd1,hd2⟩:=st1.d;have lb:=A2g.len hb2;have ly:=Paired.length hy2;have ldx:=Paired.length hd2;have p1:=pi.l1;have p2:=pi.l2;have p3:=pi.l3;have p4:=pi.l4;have lastW:atI ((L++[v]).map λu=>V.ref u.y) (-1)=some (.ref v.y):=by rw [Z0s];exact A2w _ _
  have lastB:atI ((L++[v]).map λu=>V.ref u.b) (-1)=some (.ref v.b):=by rw [Z0s];exact A2w _ _
  refine ⟨_,rfl,.inl ⟨rfl,_,SqL.of hd1⟩,_,rfl,_,rfl,wl,_,_,_,rfl,rfl,SqL.of st1.w,lastW,_,rfl,_,rfl,bl,_,_,_,rfl,rfl,SqL.of st1.b,lastB,v.b,_,rfl,.inl (SqL.of hb1),_,rfl,v.y,_,n,k',w',cs,us,x,yx,v.ws,v.bd,rfl,hy1,hy2,nd,inb n1,inb n2,p1,by lia,λq zs H2 hq s2 e2 dz=> ?_⟩;have lz:=Paired.length dz;rw [Z08] at lz;rw [lb] at dz;have st2:=st1.same s2;refine ⟨dl,q,dx,zs,rfl,rfl,s2 _ _ hd1,e2,A5x (by lia),?_⟩;have st3:=st2.due (s2 _ _ hd1) dz;have hb3:upd H2 dl (.lst (dx++zs)) v.b=some (.lst bx):=by rw [A0l (st.db v mv).2.2.2.1];exact s2 _ _ hb1
  have nd3:A5y (upd H2 dl (.lst (dx++zs))) (.deed n k' w' cs us) x:=(nd.kt (KT.same s2)).kt (KD.lst (s2 _ _ hd1)).1;have kl3:KL hl bl wl dl (L++[v]) H (upd H2 dl (.lst (dx++zs))):=λa o e _ _ _ h4 _=>by rw [A0l h4];exact s2 _ _ (s1 _ _ e)
  generalize upd H2 dl (.lst (dx++zs))=H3 at st3 hb3 nd3 kl3⊢;refine ⟨_,rfl,_,rfl,bl,_,_,_,rfl,rfl,SqL.of st3.b,lastB,.inl ⟨rfl,_,SqL.of hb3⟩,_,rfl,v.b,_,_,rfl,rfl,hb3,A1l (by lia),?_⟩;exact k k' w' cs us _ ok (inb n1) (inb n2) (st3.node hb3 nd3) λa o e h1 h2 h3 h4 h5=>by rw [A0l (h5 v mv)];exact kl3 a o e h1 h2 h3 h4 h5
theorem StA.cut {H H':Hp} {hl bl wl dl:Addr} {hs hs':List Hd} {L M:List Lv} {due:List (List Int×Stp)} (st:StA H hl bl wl dl hs (L++M) due) (kd:KD H H') (kl:∀a o,H a=some o->a≠hl->a≠bl->a≠wl->H' a=some o)
  (h:∃xs,H' hl=some (.lst xs)/\A4l H' xs hs') (b:H' bl=some (.lst (L.map λv=>V.ref v.b))) (w:H' wl=some (.lst (L.map λv=>V.ref v.y))):StA H' hl bl wl dl hs' L due:=by
 obtain ⟨ys,h3,h4⟩:=st.d;have nd:=st.nd;rw [Z0s,Z0l] at nd;refine ⟨h,b,w,⟨ys,kl _ _ h3 st.ne.2.2.1.symm st.ne.2.2.2.2.1.symm st.ne.2.2.2.2.2.symm,h4.kt kd.1⟩,λv hv=> ?_,nd.1,λv hv=> ?_,λv hv=>st.dy v (Z05 _ hv),st.ne⟩
 ·have mv:=Z05 M hv;have d1:=st.db v mv;have d2:=st.dy v mv;exact (st.lv v mv).mono kd (λo e=>kl _ _ e d1.1 d1.2.1 d1.2.2.1) (λo e=>kl _ _ e d2.1 d2.2.1 d2.2.2.1)
 ·have d1:=st.db v (Z05 M hv);exact ⟨d1.1,d1.2.1,d1.2.2.1,d1.2.2.2.1,λu hu=>d1.2.2.2.2 u (Z05 _ hu)⟩
theorem A7g {α β:Type} {F:α->β->Prop}:∀{ys:List β} {y:β} {xs:List α},Paired F xs (ys++[y])->∃xs' x,xs=xs'++[x]/\Paired F xs' ys/\F x y
 | [],y,_,.cons r .nil=>⟨[],_,rfl,.nil,r⟩
 | z::ys,y,_,.cons r t=>by
  obtain ⟨xs',x,rfl,a,b⟩:=A7g t;exact ⟨_::xs',x,rfl,.cons r a,b⟩
theorem A6m {α:Type} (xs:List α) (x:α):(xs++[x])[(xs++[x]).length-1]? =some x:=by simp
def C1p (u u':Lv) (n:Int) (due due':List (List Int×Stp)):Prop:=(u'=u/\due'=due/\u.B≠[])\/∃k w cs us,PyData.strOk w=true/\InB u.bd cs/\InB u.bd us/\u'={ u with B:=u.B++[.deed n k w cs us] }/\due'=due++B4i u k w cs us
def B5m:Sp:=λvs H Q _=>∃(c n:Int) (hl bl wl dl:Addr) (hs:List Hd) (h:Hd) (L:List Lv) (v u:Lv) (due:List (List Int×Stp)),vs=[.int c,.int n,.ref hl,.ref bl,.ref wl,.ref dl]/\StA H hl bl wl dl (hs++[h]) (L++[v]++[u]) due/\B5o (hs++[h]) (L++[v]) u due/\v.B.length<=1000/\L.length<=100/\
 ∀(u':Lv) (due':List (List Int×Stp)) (H':Hp),C1p u u' n due due'->StA H' hl bl wl dl hs (L++[{ v with B:=v.B++[.loop h.n h.sz h.wd h.out u'.B] }]) due'->KL hl bl wl dl (L++[v]++[u]) H H'->Q .non H'
theorem B5r (T:Txt K mg t):FO P w base T.bq 4 B5m:=by
 have Gb1:= @B0w P w K mg base t T;refine T.bq.F.ok A9z (by walk_at "ln") λ_ A _ s H _ Q E hr h=> ?_
 ·obtain ⟨c,n,hl,bl,wl,dl,hs,h,L,v,u,due,rfl,st,pi,lv,ll,k⟩:=h;have mu:u∈L++[v]++[u]:=by simp
  have lastB:∀(M:List Lv) (x:Lv),atI ((M++[x]).map λu=>V.ref u.b) (-1)=some (.ref x.b):=λM x=>by rw [Z0s];exact A2w _ _
  refine ⟨_,(B2q (A2o (A0y (B0u hr.units) (A0t A1d (pv 3) (A4d A2t A0d) (λ_ _=>rfl)) (A2j A0b) (A1e _))
    (A0f (A1g (pcl Gb1 hr T.bp (A0a (pv 0) (A0a (pv 1) (A0a (pv 2) (A0a (pv 3) (A0a (pv 4) (A0a (pv 5) A0b)))))))))
    A1h)
   (A0e (A1g (B2v Z0k PySem.F.slot_list_pop PySem.F.type_list_pop B3c (pv 4)))
   (A0e (A0w (i:=6) A9z.nd rfl (.inl rfl) (A2l A1j (by rfl) T.ag Z0m (A0a (B2v Z0k PySem.F.slot_list_pop PySem.F.type_list_pop B3c (pv 3)) A0b)))
   (A0f (A1g (A6c Z0k Z0n Z0o A1n (A0t A1d (pv 3) (A4d A2t A0d) (λ_ _=>rfl)) (A0a (A0n A6w (B2v Z0k PySem.F.slot_list_pop PySem.F.type_list_pop B3c (pv 2)) (A1s (A0a (pv 6) A0b))) A0b))))))),?_⟩
  refine ⟨λσ H1=>∃(u':Lv) (due':List (List Int×Stp)),σ=[Sio c,Sio n,Sro hl,Sro bl,Sro wl,Sro dl,none]/\C1p u u' n due due'/\u'.b=u.b/\u'.y=u.y/\StA H1 hl bl wl dl (hs++[h]) (L++[v]++[u']) due'/\KL hl bl wl dl (L++[v]++[u]) H H1,?_,?_⟩
  ·obtain ⟨⟨bx,hb1,hb2⟩,_⟩:=st.lv u mu;refine ⟨_,rfl,_,rfl,bl,_,_,_,rfl,rfl,SqL.of st.b,lastB _ _,A0s rfl,λz hz=> ?_⟩;obtain ⟨G,s1,hz1,eNH⟩:=nH (o:= .lst []) hz;rw [eNH];refine ⟨u.b,z,bx,rfl,rfl,s1 _ _ hb1,hz1,_,rfl,A7u (λ_=> ?_) (λne=> ?_)⟩
   ·refine ⟨_,rfl,_,rfl,_,rfl,_,rfl,_,rfl,_,rfl,c,n,hl,bl,wl,dl,hs++[h],L++[v],u,due,rfl,st.same s1,pi,λk' w' cs us H1 ok i1 i2 st1 kl1=> ?_⟩;exact ⟨_,_,rfl,.inr ⟨k',w',cs,us,ok,i1,i2,rfl,rfl⟩,rfl,rfl,st1,(KL.same s1).trans kl1⟩
   ·refine ⟨u,due,rfl,.inl ⟨rfl,rfl,λe=>ne ?_⟩,rfl,rfl,st.same s1,KL.same s1⟩;rw [e,A2g] at hb2;rw [hb2];rfl
  ·rintro σ H1 ⟨u',due',rfl,eb,e1,e2,st1,kl1⟩;have mu1:u'∈L++[v]++[u']:=by simp
   have mv1:v∈L++[v]++[u']:=by simp
   obtain ⟨⟨bx,hb1,hb2⟩,_⟩:=st1.lv u' mu1;obtain ⟨⟨vx,hv1,hv2⟩,_⟩:=st1.lv v mv1;obtain ⟨hx,hh1,hh2⟩:=st1.h;obtain ⟨hx',z,rfl,hp,hbq,rfl,hbh⟩:=A7g hh2;have lvx:=A2g.len hv2;have du:=st1.db u' mu1;have dv:=st1.db v mv1
   have uv:u'.b≠v.b:=λe=>by
    have:=st1.nd;simp only [Z0s,Z0p,List.map_nil,Z0l] at this;exact this.2.2 v.b (by simp) u'.b (by simp) e.symm
   obtain ⟨n1,n2,n3,n4,n5,n6⟩:=st1.ne;have w1:H1 wl=some (.lst ((L++[v]).map (λu=>V.ref u.y)++[V.ref u'.y])):=by rw [st1.w,Z0s];rfl
   have b1:H1 bl=some (.lst ((L++[v]).map (λu=>V.ref u.b)++[V.ref u'.b])):=by rw [st1.b,Z0s];rfl
   refine ⟨_,rfl,.inl ⟨rfl,_,SqL.of st1.w⟩,wl,_,_,rfl,rfl,w1,A6m _ _,?_⟩;rw [List.dropLast_concat];have kd2:KD H1 (upd H1 wl (.lst ((L++[v]).map λu=>V.ref u.y))):=KD.lst w1;have k2:∀a o,a≠wl->H1 a=some o->upd H1 wl (.lst ((L++[v]).map λu=>V.ref u.y)) a=some o:=λa o h e=>by rw [A0l h];exact e
   have w2:upd H1 wl (.lst ((L++[v]).map λu=>V.ref u.y)) wl=some (.lst ((L++[v]).map λu=>V.ref u.y)):=A0g;generalize upd H1 wl (.lst ((L++[v]).map λu=>V.ref u.y))=H2 at kd2 k2 w2⊢;have b2:=k2 _ _ n4 b1;refine ⟨_,rfl,.inl ⟨rfl,_,SqL.of b2⟩,bl,_,_,rfl,rfl,b2,A6m _ _,?_⟩;rw [List.dropLast_concat];have kd3:KD H2 (upd H2 bl (.lst ((L++[v]).map λu=>V.ref u.b))):=KD.lst b2;have k3:∀a o,a≠wl->a≠bl->H1 a=some o->upd H2 bl (.lst ((L++[v]).map λu=>V.ref u.b)) a=some o:=λa o h h' e=>by rw [A0l h'];exact k2 a o h e
   have w3:upd H2 bl (.lst ((L++[v]).map λu=>V.ref u.b)) wl=some (.lst ((L++[v]).map λu=>V.ref u.y)):=by rw [A0l n4.symm];exact w2
   have b3:upd H2 bl (.lst ((L++[v]).map λu=>V.ref u.b)) bl=some (.lst ((L++[v]).map λu=>V.ref u.b)):=A0g;generalize upd H2 bl (.lst ((L++[v]).map λu=>V.ref u.b))=H3 at kd3 k3 w3 b3⊢;have kd13:=kd2.trans kd3;refine ⟨u'.b,_,rfl,.inl ⟨SqL.of (k3 _ _ du.2.2.1 du.2.1 hb1),λp hp'=> ?_⟩⟩;have s4:A1t H3 (upd H3 p (.tup bx)):=A0j hp';have p4:upd H3 p (.tup bx) p=some (.tup bx):=A0g;generalize upd H3 p (.tup bx)=H4 at s4 p4⊢;have hv4:=s4 _ _ (k3 _ _ dv.2.2.1 dv.2.1 hv1);have hh4:=s4 _ _ (k3 _ _ n2 n1 hh1);refine ⟨_,rfl,_,rfl,bl,_,_,_,rfl,rfl,SqL.of (s4 _ _ b3),lastB _ _,.inl ⟨rfl,_,SqL.of hv4⟩,?_⟩;refine ⟨_,rfl,.inl ⟨rfl,_,SqL.of hh4⟩,hl,_,_,rfl,rfl,hh4,A6m _ _,?_⟩;rw [List.dropLast_concat];have kd5:KD H4 (upd H4 hl (.lst hx')):=KD.lst hh4;have k5:∀a o,a≠hl->H4 a=some o->upd H4 hl (.lst hx') a=some o:=λa o h e=>by rw [A0l h];exact e
   have h5:upd H4 hl (.lst hx') hl=some (.lst hx'):=A0g;generalize upd H4 hl (.lst hx')=H5 at kd5 k5 h5⊢;refine ⟨_,rfl,A0s rfl,λq hq=> ?_⟩;obtain ⟨H6,s6,q6,eNH⟩:=nH (o:= .tup [.ref p]) hq;rw [eNH];have kd16:KD H1 H6:=kd13.trans ((KD.same s4).trans (kd5.trans (KD.same s6)));refine ⟨hbq,q,_,_,rfl,rfl,kd16.1 _ _ hbh,q6,A0s rfl,λr H7 s7 hr7=> ?_⟩;have kd17:=kd16.trans (KD.same s7);have all7:∀a o,H1 a=some o->a≠hl->a≠bl->a≠wl->H7 a=some o:=λa o e h1 h2 h3=>s7 _ _ (s6 _ _ (k5 _ _ h1 (s4 _ _ (k3 _ _ h3 h2 e))));have hv7:=all7 _ _ hv1 dv.1 dv.2.1 dv.2.2.1;have st7:StA H7 hl bl wl dl hs (L++[v]) due':=st1.cut kd17 all7 ⟨hx',s7 _ _ (s6 _ _ h5),A4l.kt hp kd17.1⟩ (s7 _ _ (s6 _ _ (k5 _ _ n1.symm (s4 _ _ b3)))) (s7 _ _ (s6 _ _ (k5 _ _ n2.symm (s4 _ _ w3))))
   have nd7:A5y H7 (.loop h.n h.sz h.wd h.out u'.B) (.ref r):=by
    rw [A5y];exact ⟨r,p,bx,rfl,hr7,s7 _ _ (s6 _ _ (kd5.1 _ _ p4)),hb2.kt kd17.1⟩
   refine ⟨v.b,_,_,rfl,rfl,hv7,A1l (by lia),?_⟩;refine k u' due' _ eb (st7.node hv7 nd7) λa o e h1 h2 h3 h4 h5=> ?_;rw [A0l (h5 v (by simp))];exact all7 a o (kl1 a o e h1 h2 h3 h4 h5) h1 h2 h3
inductive Zip:List Hd->List Lv->Prop
 | one {v:Lv}:v.bd=[]->v.ws=[([],ci [])]->wbL [] v.B->Zip [] [v]
 | snoc {hs:List Hd} {L:List Lv} {v u:Lv} {h:Hd}:Zip hs (L++[v])->B4z v.bd h->Gd hs (24/wo hs) h->u.bd=(h.n,h.sz)::v.bd->u.ws=A2e v.ws v.B.length h.n h.sz h.wd h.out->wbL u.bd u.B->Zip (hs++[h]) (L++[v]++[u])
theorem A2x {α:Type} {L M:List α} {x y:α} (h:L++[x]=M++[y]):L=M/\x=y:=by
 have:=List.append_inj' h rfl;exact ⟨this.1,by simpa using this.2⟩
theorem Zip.put {x:Nd} {hs:List Hd} {M:List Lv} (z:Zip hs M):∀{L:List Lv} {v:Lv},M=L++[v]->wbN v.bd x->Zip hs (L++[{ v with B:=v.B++[x] }]):=by
 cases z with
 | @one v0 e1 e2 e3 =>
  intro L v e w;have:=A2x (L:=[]) (x:=v0) e;obtain ⟨rfl,rfl⟩:=this;exact .one e1 e2 (A8s.mpr ⟨e3,by rw [e1] at w;exact ⟨w,trivial⟩⟩)
 | @snoc hs' L' v' u' h' z0 a b c d f =>
  intro L v e w;obtain ⟨rfl,rfl⟩:=A2x e;exact .snoc z0 a b c d (A8s.mpr ⟨f,⟨w,trivial⟩⟩)
theorem Zip.fin {hs:List Hd} {M:List Lv} {hs0:List Hd} (z:Zip hs0 M):∀{h:Hd} {L:List Lv} {v u:Lv},hs0=hs++[h]->M=L++[v]++[u]->Zip hs (L++[v])/\B4z v.bd h/\u.bd=(h.n,h.sz)::v.bd/\u.ws=A2e v.ws v.B.length h.n h.sz h.wd h.out/\wbL u.bd u.B:=by
 cases z with
 | one=>intro h L v u e;simp at e
 | @snoc hs' L' v' u' h' z0 a b c d f =>
  intro h L v u e e';obtain ⟨rfl,rfl⟩:=A2x e;obtain ⟨e1,rfl⟩:=A2x e';obtain ⟨rfl,rfl⟩:=A2x e1;exact ⟨z0,a,c,d,f⟩
def B9b (bd:Rd) (y:Way):Prop:=∀x s,(x,s)∈bd->0<=y.2 x/\y.2 x<s
theorem B6d (lo hi:Int):(iv lo hi).length=(hi-lo).toNat:=by unfold iv;simp
theorem B6e {bd:Rd} {h:Hd} {y:Way} (hi:B4z bd h) (ok:B9b bd y):((cts h.sz h.wd h.out y.2).length:Int)<=wth h/\∀c∈cts h.sz h.wd h.out y.2,0<=c/\c<h.sz:=by
 have s1:=hi.s1;unfold cts wth;by_cases ho:h.out= -1
 ·rw [Z12 ho,Z12 ho];refine ⟨by rw [B6d];lia,λc hc=> ?_⟩;exact A6g.mp hc
 ·rw [Z0t ho,Z0t ho];obtain ⟨s0,hs,hlt,wd1⟩:=hi.out.resolve_left ho;obtain ⟨c0,c1⟩:=ok _ _ hs;have m0:0<=y.2 h.out*h.wd:=Int.mul_nonneg c0 (by lia);have q1:y.2 h.out*h.wd<=(s0-1)*h.wd:=Int.mul_le_mul_of_nonneg_right (by lia) (by lia);refine ⟨by rw [B6d];lia,λc hc=> ?_⟩;have:=A6g.mp hc
  lia
theorem B0d {bd:Rd} {h:Hd} (hi:B4z bd h) (w1:1<=wth h) (p:Int):∀{ws:List Way},(∀y∈ws,B9b bd y)->((A2e ws p h.n h.sz h.wd h.out).length:Int)<=ws.length*wth h
 | [],_=>by simp [A2e]
 | y::ws,ok=>by
  have ih:=B0d hi w1 p (ws:=ws) λz hz=>ok z (Z1f _ hz);have a:=(B6e hi (ok y Z27)).1;unfold A2e at ih⊢;rw [List.flatMap_cons,Z06,Z08,Z0y]
  have e:((ws.length+1:Nat):Int)*wth h=ws.length*wth h+wth h:=by
   rw [Int.natCast_add,Int.add_mul];simp
  rw [e]
  lia
theorem B7g {bd:Rd} {h:Hd} (hi:B4z bd h) (p:Int) {ws:List Way} (ok:∀y∈ws,B9b bd y):∀y∈A2e ws p h.n h.sz h.wd h.out,B9b ((h.n,h.sz)::bd) y:=λy hy=>by
 unfold A2e at hy;obtain ⟨z,hz,hy⟩:=List.mem_flatMap.mp hy;obtain ⟨c,hc,rfl⟩:=Z2c.mp hy;have:=(B6e hi (ok z hz)).2 c hc;intro x s hx;show 0<=A4j z.2 h.n c x/\A4j z.2 h.n c x<s;unfold A4j;by_cases e:x=h.n
 ·rw [Z12 e];rcases Z0e.mp hx with q | q
  ·injection q with q1 q2;rw [q2];exact this
  ·rw [e] at q;exact absurd q (hi.nb s)
 ·rw [Z0t e];rcases Z0e.mp hx with q | q
  ·injection q with q1 q2;exact absurd q1 e
  ·exact ok z hz x s q
structure ZF (hs:List Hd) (v:Lv):Prop where
 ok:∀i,A9f (hs.take i)
 lb:v.bd.length=hs.length
 i1:∀o∈hs,(o.n,o.sz)∈v.bd
 i2:∀q∈v.bd,∃o∈hs,q=(o.n,o.sz)
 lw:(v.ws.length:Int)<=wo hs
 wy:∀y∈v.ws,B9b v.bd y
 wb:wbL v.bd v.B
theorem Zip.facts {hs:List Hd} {M:List Lv} (z:Zip hs M):∀{L:List Lv} {v:Lv},M=L++[v]->ZF hs v/\L.length=hs.length:=by
 induction z with
 | @one v0 e1 e2 e3 =>
  intro L v e;obtain ⟨rfl,rfl⟩:=A2x (L:=[]) (x:=v0) e;refine ⟨⟨λi=>by rw [List.take_nil];exact A9f.nil,by rw [e1];rfl,λo ho=>(nomatch ho),λq hq=>(by rw [e1] at hq;cases hq),by rw [e2];decide,λy hy x s hx=>(by rw [e1] at hx;cases hx),by rw [e1];exact e3⟩,rfl⟩
 | @snoc hs' L' v' u' h' z0 a b c d f ih =>
  intro L v e;obtain ⟨rfl,rfl⟩:=A2x e;obtain ⟨g,ll⟩:=ih rfl
  have okh:A9f hs':=by
   have:=g.ok hs'.length
   rwa [Z18] at this
  have ok':=okh.snoc b;refine ⟨⟨λi=> ?_,by rw [c,Z0y,g.lb];simp,λo ho=> ?_,λq hq=> ?_,?_,by rw [c,d];exact B7g a _ g.wy,f⟩,by simp [ll]⟩
  ·by_cases hi:i<=hs'.length
   ·rw [List.take_append_of_le_length hi];exact g.ok i
   ·rw [Z2l (by simp;lia)];exact ok'
  ·rw [c];rcases Z07.mp ho with q | q
   ·exact Z1f _ (g.i1 o q)
   ·rw [Z0w.mp q];exact Z27
  ·rw [c] at hq;rcases Z0e.mp hq with q' | q'
   ·exact ⟨h',by simp,q'⟩
   ·obtain ⟨o,ho,e⟩:=g.i2 q q';exact ⟨o,Z05 _ ho,e⟩
  ·have ew:wo (hs'++[h'])=wo hs'*wth h':=by
    rw [B0p];show wo hs'*(wth h'*1)=_;rw [Int.mul_one]
   rw [ew,d];have w1:=b.w1;have q:=B0d a w1 v'.B.length g.wy;have q2:=Int.mul_le_mul_of_nonneg_right g.lw (show 0<=wth h' by lia)
   lia
theorem A1z {α:Type} (f:α->Nat) (a b:List α):((a++b).map f).sum=(a.map f).sum+(b.map f).sum:=by rw [Z0s,List.sum_append_nat]
theorem A9o:∀(a b:List Nd),dpL (a++b)=max (dpL a) (dpL b)
 | [],b=>by simp [dpL]
 | x::a,b=>by rw [Z17,dpL,dpL,A9o a b];lia
structure Bu (num:Nat->Int) (k:Nat) (hs:List Hd) (L:List Lv) (due:List (List Int×Stp)):Prop where
 z:Zip hs L
 nm:∀o∈hs,∃j,j<k/\o.n=num j
 pm:due.Perm (L.flatMap λv=>A2f v.ws v.B)
 sz:(L.map λv=>v.B.length).sum<=k
 ln:due.length<=24*k
 ok:∀y∈due,StK y.2
 dp:∀(i:Nat) (v:Lv),L[i]? =some v->dpL v.B+i<=20
 nn:(L.map λv=>(nmL v.B).length).sum+hs.length<=k
theorem Bu.put {num:Nat->Int} {k:Nat} {hs:List Hd} {L:List Lv} {v:Lv} {due:List (List Int×Stp)} {n k':Int} {w:Str} {cs us:List Int} (b:Bu num k hs (L++[v]) due) (ok:PyData.strOk w=true) (i1:InB v.bd cs) (i2:InB v.bd us):Bu num (k+1) hs (L++[{ v with B:=v.B++[.deed n k' w cs us] }]) (due++B4i v k' w cs us):=by
 obtain ⟨f,ll⟩:=b.z.facts rfl
 have okh:A9f hs:=by
  have:=f.ok hs.length
  rwa [Z18] at this
 have lw:=f.lw;have hi:=okh.hi;have l1:=i1.1;have l2:=i2.1;refine ⟨b.z.put rfl ?_,λo ho=> ?_,?_,?_,?_,λy hy=> ?_,λi u hu=> ?_,?_⟩
 ·rw [wbN];exact ⟨i1.2,i2.2,by lia,by lia⟩
 ·obtain ⟨j,hj,e⟩:=b.nm o ho;exact ⟨j,by lia,e⟩
 ·rw [List.flatMap_append,List.flatMap_singleton];have h1:=b.pm;rw [List.flatMap_append,List.flatMap_singleton] at h1;have h2:=B5c v.ws v.B n k' w cs us;refine (h1.append_right _).trans ?_;rw [Z0z];exact List.Perm.append_left _ h2.symm
 ·have:=b.sz;rw [A1z] at this⊢;simp only [Z0p,List.map_nil,List.sum_cons,List.sum_nil,Z06,Z0y,Z2g] at this⊢
  lia
 ·have:=b.ln;rw [Z06];unfold B4i;rw [Z08]
  lia
 ·rcases Z07.mp hy with q | q
  ·exact b.ok y q
  ·unfold B4i at q;obtain ⟨z,_,rfl⟩:=Z2c.mp q;refine ⟨ok,?_,?_⟩
   ·show (cs.map z.2).length<=100;rw [Z08];lia
   ·show (us.map z.2).length<=100;rw [Z08];lia
 ·rcases Nat.lt_or_ge i L.length with q | q
  ·rw [Z26 q] at hu;exact b.dp i u (by rw [Z26 q];exact hu)
  ·rw [Z1l q] at hu
   have e0:i-L.length=0:=by
    have:=(Z03.mp hu).1;simp at this
    lia
   rw [e0] at hu;cases hu;have:=b.dp i v (by rw [Z1l q,e0];rfl);show dpL (v.B++[.deed n k' w cs us])+i<=20;rw [A9o];have ed:dpL [Nd.deed n k' w cs us]=0:=by simp [dpL,dpN]
   lia
 ·have:=b.nn;rw [A1z] at this⊢;simp only [Z0p,List.map_nil,List.sum_cons,List.sum_nil] at this⊢;have e:nmL (v.B++[.deed n k' w cs us])=nmL v.B:=by rw [A6z];simp [nmL,nmN]
  rw [e]
  lia
theorem Bu.fin {num:Nat->Int} {k:Nat} {hs:List Hd} {h:Hd} {L:List Lv} {v u:Lv} {due:List (List Int×Stp)} (b:Bu num k (hs++[h]) (L++[v]++[u]) due) (ne:u.B≠[]) (k100:k<=100):Bu num k hs (L++[{ v with B:=v.B++[.loop h.n h.sz h.wd h.out u.B] }]) due:=by
 obtain ⟨z,hin,e1,e2,wb⟩:=b.z.fin rfl rfl;obtain ⟨f,ll⟩:=z.facts rfl;have lne:=List.length_pos_iff.mpr ne;have sz:=b.sz;rw [A1z,A1z] at sz;simp only [Z0p,List.map_nil,List.sum_cons,List.sum_nil] at sz;refine ⟨z.put rfl ?_,λo ho=>b.nm o (Z05 _ ho),?_,?_,b.ln,b.ok,λi x hx=> ?_,?_⟩
 ·rw [wbN];exact ⟨hin.out,hin.s1,by have:=hin.s2;lia,hin.n0,hin.nb,by rw [<-e1];exact wb,by lia⟩
 ·have h1:=b.pm;rw [List.flatMap_append,List.flatMap_append,List.flatMap_singleton,List.flatMap_singleton] at h1;rw [List.flatMap_append,List.flatMap_singleton];have h2:=B2a v.ws v.B h.n h.sz h.wd h.out u.B;rw [<-e2] at h2;refine h1.trans ?_;rw [Z0z];exact List.Perm.append_left _ h2.symm
 ·rw [A1z];simp only [Z0p,List.map_nil,List.sum_cons,List.sum_nil,Z06,Z0y,Z2g]
  lia
 ·rcases Nat.lt_or_ge i L.length with q | q
  ·rw [Z26 q] at hx;exact b.dp i x (by rw [Z0z,Z26 q];exact hx)
  ·rw [Z1l q] at hx
   have e0:i-L.length=0:=by
    have:=(Z03.mp hx).1;simp at this
    lia
   rw [e0] at hx;cases hx;have hi:i=L.length:=by lia
   have d1:=b.dp i v (by rw [Z0z,Z1l q,e0];rfl);have d2:=b.dp (i+1) u (by rw [Z1l (by simp;lia)];simp [hi]);show dpL (v.B++[.loop h.n h.sz h.wd h.out u.B])+i<=20;rw [A9o];have ed:dpL [Nd.loop h.n h.sz h.wd h.out u.B]=dpL u.B+1:=by simp [dpL,dpN]
   lia
 ·have:=b.nn;rw [A1z,A1z] at this;rw [A1z];simp only [Z0p,List.map_nil,List.sum_cons,List.sum_nil,Z06,Z0y,Z2g] at this⊢
  have e:(nmL (v.B++[.loop h.n h.sz h.wd h.out u.B])).length=(nmL v.B).length+((nmL u.B).length+1):=by
   rw [A6z,Z06];simp [nmL,nmN]
  rw [e]
  lia
theorem Bu.opn {num:Nat->Int} {k:Nat} {hs:List Hd} {h:Hd} {L:List Lv} {v u:Lv} {due:List (List Int×Stp)} (b:Bu num k hs (L++[v]) due) (hin:B4z v.bd h) (g:Gd hs (24/wo hs) h) (hn:h.n=num k) (l20:hs.length<20) (e1:u.bd=(h.n,h.sz)::v.bd) (e2:u.ws=A2e v.ws v.B.length h.n h.sz h.wd h.out) (e3:u.B=[]):Bu num (k+1) (hs++[h]) (L++[v]++[u]) due:=by
 obtain ⟨f,ll⟩:=b.z.facts rfl;refine ⟨.snoc b.z hin g e1 e2 (by rw [e3];trivial),λo ho=> ?_,?_,?_,by have:=b.ln;lia,b.ok,λi x hx=> ?_,?_⟩
 ·rcases Z07.mp ho with q | q
  ·obtain ⟨j,hj,e⟩:=b.nm o q;exact ⟨j,by lia,e⟩
  ·rw [Z0w.mp q];exact ⟨k,by lia,hn⟩
 ·rw [List.flatMap_append,List.flatMap_singleton]
  have e:A2f u.ws u.B=[]:=by
   rw [e3];unfold A2f;simp [mdL]
  rw [e,Z0u];exact b.pm
 ·have:=b.sz;rw [A1z];simp only [Z0p,List.map_nil,List.sum_cons,List.sum_nil,e3,Z2g]
  lia
 ·rcases Nat.lt_or_ge i (L++[v]).length with q | q
  ·rw [Z26 q] at hx;exact b.dp i x hx
  ·rw [Z1l q] at hx;have l0:=(Z03.mp hx).1;simp only [Z06,Z0y,Z2g] at l0 q;have e0:i-(L++[v]).length=0:=by simp;lia
   rw [e0] at hx;cases hx;rw [e3];simp [dpL]
   lia
 ·have:=b.nn;rw [A1z];simp only [Z0p,List.map_nil,List.sum_cons,List.sum_nil,e3,nmL,Z06,Z0y,Z2g]
  lia
theorem B8m {st sp bh:Int} (hs:sp=1\/sp= -1) (hb:100<=bh) {i j:Nat} (h1:i<j) (h2:j<100):(st+sp*(j:Int))%bh≠(st+sp*(i:Int))%bh:=λe=>by
 have d:bh ∣ (st+sp*(j:Int))-(st+sp*(i:Int)):=Int.dvd_of_emod_eq_zero (Int.emod_eq_emod_iff_emod_sub_eq_zero.mp e);obtain ⟨q,hq⟩:=d;have e2:(st+sp*(j:Int))-(st+sp*(i:Int))=sp*((j:Int)-i):=by rw [Int.mul_sub];lia
 rw [e2] at hq;have hd:1<=(j:Int)-i/\(j:Int)-i<100:=by lia
 generalize (j:Int)-i=d at hq hd;rcases Int.lt_trichotomy q 0 with c | c | c
 ·have:bh*q<=bh*(-1):=Z29 (by lia) (by lia);rcases hs with rfl | rfl <;> lia
 ·subst c;rcases hs with rfl | rfl <;> lia
 ·have:bh*1<=bh*q:=Z29 (by lia) (by lia);rcases hs with rfl | rfl <;> lia
theorem Bu.up {num:Nat->Int} {k k':Nat} {hs:List Hd} {L:List Lv} {due:List (List Int×Stp)} (b:Bu num k hs L due) (h:k<=k'):Bu num k' hs L due :=
 ⟨b.z,λo ho=>by obtain ⟨j,hj,e⟩:=b.nm o ho;exact ⟨j,by lia,e⟩,b.pm,by have:=b.sz;lia,by have:=b.ln;lia,b.ok,b.dp,by have:=b.nn;lia⟩
theorem A6t {α:Type} {xs:List α} (h:0<xs.length):∃ys y,xs=ys++[y]:=⟨xs.dropLast,xs.getLast (List.ne_nil_of_length_pos h),(List.dropLast_concat_getLast _).symm⟩
structure BuF (hs:List Hd) (L:List Lv) (v:Lv) (due:List (List Int×Stp)) (k:Nat):Prop where
 zf:ZF hs v
 ll:L.length=hs.length
 ok:A9f hs
 pi:B5o hs L v due
 nl:hs.length<=20
 vb:v.B.length<=k
 vs:∀(L':List Lv) (v':Lv),L=L'++[v']->v'.B.length<=k
theorem Bu.facts {num:Nat->Int} {k:Nat} {hs:List Hd} {L:List Lv} {v:Lv} {due:List (List Int×Stp)} (b:Bu num k hs (L++[v]) due) (hk:k<=100):BuF hs L v due k:=by
 obtain ⟨zf,ll⟩:=b.z.facts rfl
 have okh:A9f hs:=by
  have:=zf.ok hs.length
  rwa [Z18] at this
 have q1:=okh.lo;have q2:=okh.hi;have lw:=zf.lw;have szs:=b.sz;rw [A1z] at szs;simp only [Z0p,List.map_nil,List.sum_cons,List.sum_nil] at szs
 have nlen:hs.length<=20:=by
  have:=b.dp L.length v (by rw [Z1l (Z09 _),Nat.sub_self];rfl)
  lia
 refine ⟨zf,ll,okh,⟨λo ho=>⟨_,zf.i1 o ho⟩,by rw [zf.lb];lia,by lia,by have:=b.ln;lia,by lia⟩,nlen,by lia,λL' v' e=> ?_⟩;rw [e,A1z] at szs;simp only [Z0p,List.map_nil,List.sum_cons,List.sum_nil] at szs
 lia
theorem StA.opn {H H':Hp} {hl bl wl dl:Addr} {hs hs':List Hd} {M:List Lv} {u:Lv} {due:List (List Int×Stp)} (st:StA H hl bl wl dl hs M due) (kd:KD H H') (kl:∀a o,H a=some o->a≠hl->a≠bl->a≠wl->H' a=some o)
  (h:∃xs,H' hl=some (.lst xs)/\A4l H' xs hs') (b:H' bl=some (.lst ((M++[u]).map λv=>V.ref v.b))) (w:H' wl=some (.lst ((M++[u]).map λv=>V.ref v.y))) (lu:B8o H' u) (f1:H u.b=none) (f2:H u.y=none) (n12:u.b≠u.y):StA H' hl bl wl dl hs' (M++[u]) due:=by
 obtain ⟨ys,h3,h4⟩:=st.d;obtain ⟨xs,h5,h6⟩:=st.h
 have ab:∀v∈M,v.b≠u.b/\v.b≠u.y/\v.y≠u.b/\v.y≠u.y:=λv hv=>by
  obtain ⟨⟨_,q1,_⟩,_,q2,_⟩:=st.lv v hv;exact ⟨A0c q1 f1,A0c q1 f2,A0c q2 f1,A0c q2 f2⟩
 refine ⟨h,b,w,⟨ys,kl _ _ h3 st.ne.2.2.1.symm st.ne.2.2.2.2.1.symm st.ne.2.2.2.2.2.symm,h4.kt kd.1⟩,λv hv=> ?_,?_,λv hv=> ?_,λv hv=> ?_,st.ne⟩
 ·rcases Z07.mp hv with q | q
  ·have d1:=st.db v q;have d2:=st.dy v q;exact (st.lv v q).mono kd (λo e=>kl _ _ e d1.1 d1.2.1 d1.2.2.1) (λo e=>kl _ _ e d2.1 d2.2.1 d2.2.2.1)
  ·rw [Z0w.mp q];exact lu
 ·rw [Z0s,Z0l];refine ⟨st.nd,by simp,λa ha c hc=> ?_⟩;obtain ⟨v,hv,rfl⟩:=Z2c.mp ha;have:c=u.b:=by simpa using hc
  rw [this];exact (ab v hv).1
 ·rcases Z07.mp hv with q | q
  ·have d1:=st.db v q;refine ⟨d1.1,d1.2.1,d1.2.2.1,d1.2.2.2.1,λz hz=> ?_⟩;rcases Z07.mp hz with r | r
   ·exact d1.2.2.2.2 z r
   ·rw [Z0w.mp r];exact (ab v q).2.1
  ·rw [Z0w.mp q];refine ⟨(A0c h5 f1).symm,(A0c st.b f1).symm,(A0c st.w f1).symm,(A0c h3 f1).symm,λz hz=> ?_⟩;rcases Z07.mp hz with r | r
   ·exact (ab z r).2.2.1.symm
   ·rw [Z0w.mp r];exact n12
 ·rcases Z07.mp hv with q | q
  ·exact st.dy v q
  ·rw [Z0w.mp q];exact ⟨(A0c h5 f2).symm,(A0c st.b f2).symm,(A0c st.w f2).symm,(A0c h3 f2).symm⟩
theorem B7p {st sp bh:Int} (hsp:sp=1\/sp= -1) (hb:100<=bh) {k:Nat} {hs:List Hd} {L:List Lv} {v:Lv} {h:Hd} {due:List (List Int×Stp)} (b:Bu (λj=>(st+sp*(j:Int))%bh) k hs (L++[v]) due) (hk:k<100) (g:Gd hs (24/wo hs) h) (hn:h.n=(st+sp*(k:Int))%bh):B4z v.bd h:=by
 have f:=b.facts (by lia);have ok:=f.ok.snoc g;have sz:=ok.sz h (by simp);have hi:=ok.hi;refine ⟨?_,g.s1,by lia,by rw [hn];exact Z1v _ (by lia),λs hm=> ?_⟩
 ·rcases g.by' with q | ⟨o,ho,e,q1,q2,_⟩
  ·exact .inl q.1
  ·exact .inr ⟨o.sz,by rw [e];exact f.zf.i1 o ho,q1,q2⟩
 ·obtain ⟨o,ho,e⟩:=f.zf.i2 _ hm;injection e with e1 e2;obtain ⟨j,hj,ej⟩:=b.nm o ho;rw [e1,ej] at hn;exact B8m hsp hb hj hk hn.symm
def kfH (H:Hp):V->V
 | .ref b=>(match H b with | some (.tup (x::_))=>x | _=> .non)
 | _=> .non
def toI:V->Int
 | .int n=>n
 | _=>0
def kIH (H:Hp) (y:V):List Int:=match kfH H y with
 | .ref c=>(match H c with | some (.tup xs)=>xs.map toI | _=>[])
 | _=>[]
theorem B3o:∀ns:List Int,(ns.map V.int).map toI=ns
 | []=>rfl
 | n::r=>by rw [Z0p,Z0p,B3o r];rfl
theorem C0k {H:Hp} {b:Addr} {x:V} {r:List V} (h:H b=some (.tup (x::r))):kfH H (.ref b)=x:=by
 show (match H b with | some (.tup (x::_))=>x | _=> .non)=x
 rw [h]
theorem B8e.key {H:Hp} {v:V} {y:List Int×Stp} (h:B8e H v y):∃(b m:Addr) (r:V),v= .ref b/\H b=some (.tup [.ref m,r])/\kfH H v= .ref m/\H m=some (.tup (y.1.map V.int))/\kIH H v=y.1/\B7a H r y.2:=by
 obtain ⟨b,m,r,rfl,h1,h2,h3⟩:=h;have e:kfH H (.ref b)= .ref m:=C0k h1;refine ⟨b,m,r,rfl,h1,e,h2,?_,h3⟩;unfold kIH;rw [e];simp only [h2];exact B3o _
theorem A8p {α β:Type} {F:α->β->Prop} {zs xs:List α} (p:zs.Perm xs):∀{ys:List β},Paired F xs ys->∃ys',Paired F zs ys'/\ys'.Perm ys:=by
 induction p with
 | nil=>intro ys h;cases h;exact ⟨[],.nil,.refl _⟩
 | cons x _ ih =>
  intro ys h
  cases h with
  | cons r t =>
   obtain ⟨ys',a,b⟩:=ih t;exact ⟨_::ys',.cons r a,b.cons _⟩
 | swap x y l =>
  intro ys h
  cases h with
  | cons r t =>
   cases t with
   | cons r' t'=>exact ⟨_,.cons r' (.cons r t'),List.Perm.swap _ _ _⟩
 | trans _ _ ih1 ih2 =>
  intro ys h;obtain ⟨y1,a,b⟩:=ih2 h;obtain ⟨y2,c,d⟩:=ih1 a;exact ⟨y2,c,d.trans b⟩
theorem B6g {H:Hp}:∀{zs:List V} {ys:List (List Int×Stp)},A6a H zs ys->zs.map (kIH H)=ys.map (·.1)
 | _,_,.nil=>rfl
 | _,_,.cons r t=>by
  obtain ⟨_,_,_,_,_,_,_,e,_⟩:=r.key;rw [Z0p,Z0p,e,B6g t]
theorem Bu.done {num:Nat->Int} {k:Nat} {v:Lv} {due:List (List Int×Stp)} (b:Bu num k [] [v] due):wbL [] v.B/\dpL v.B<=20/\(nmL v.B).length<=k/\due.Perm (A2f [([],ci [])] v.B)/\∀y∈due,∃n ns,y.1=n::ns:=by
 have hz:v.ws=[([],ci [])]/\wbL [] v.B:=by
  have z:=b.z;generalize eh:([]:List Hd)=hs at z;generalize eL:[v]=L at z
  cases z with
  | one e1 e2 e3=>cases eL;exact ⟨e2,e3⟩
  | snoc=>simp at eh
 have pm:=b.pm;rw [List.flatMap_singleton,hz.1] at pm;refine ⟨hz.2,?_,?_,pm,λy hy=> ?_⟩
 ·have:=b.dp 0 v rfl
  lia
 ·have:=b.nn
  simpa using this
 ·have m:=pm.mem_iff.mp hy;unfold A2f at m;rw [List.flatMap_singleton] at m;obtain ⟨j,t,e,_⟩:=(A4y _ _ _ _).1 y m;exact ⟨j,t,e⟩
theorem B5h {num:Nat->Int} {k:Nat} {v:Lv} {due ds:List (List Int×Stp)} (b:Bu num k [] [v] due) {H:Hp} {zs:List V} (p:ds.Perm due) (d:A6a H zs ds) (s:zs.Pairwise (λx y=>A2z (kIH H y) (kIH H x)=false)):ds.map (·.2)=doL v.B (ci []):=by
 have e:=B6g d;have s':(zs.map (kIH H)).Pairwise (λx y=>A2z y x=false):=by rw [List.pairwise_map];exact s
 rw [e,List.pairwise_map] at s';exact B9g b.done.2.2.2.1 p s'
structure B7s (H H':Hp) (bh:Int) (q:Addr) (l:List Nd):Prop where
 ex:∃(r p D:Addr) (xs zs:List V),H' q=some (.tup [.ref r,.ref D])/\H' r=some (.tup [.int bh,.ref p])/\H' p=some (.tup xs)/\A2g H' l xs/\H D=none/\H' D=some (.lst zs)/\A4w H' zs (doL l λ_=>0)
 wb:wbL [] l
 dp:dpL l<=40
 nn:(nmL l).length<=900000
 ln:(doL l λ_=>0).length<=900000
 ok:∀s∈doL l λ_=>0,StK s
def B1d (K:Frag):Sp:=λvs H Q _=>∃(a:Addr) (ns:List Int) (bh:Int),vs=[.ref a,.int bh]/\SqL K H a (ns.map V.int)/\100<=bh/\∀(q:Addr) (l:List Nd) (H':Hp),A1t H H'->B7s H H' bh q l->Q (.ref q) H'
theorem B1e (T:Txt K mg t):FO P w base T.bg 5 (B1d K):=by
 have Gb2:= @B5f P w K mg base t T;have Gb3:= @A4g P w K mg base t T;have Gb4:= @B5r P w K mg base t T;have Gb5:= @A7n P w K mg base t T;have Gb6:= @B2s P w K mg base t T;have Gb1:= @B0w P w K mg base t T;have Gb7:= @A4k P w K mg base t T;have Gb8:= @B1m P w K mg base t T;refine T.bg.F.ok A1f (by walk_at "ln") λ_ A _ s H _ Q E hr h=> ?_
 ·obtain ⟨a,ns,bh,rfl,hS,hb,k⟩:=h;have hu:=A9k hr
  refine ⟨_,(A0e (A0w (i:=2) A1f.nd rfl (.inl rfl) (A0n A1o (A0n A1m (pcl Gb3 hr T.ae (A0a (pv 0) (A0a A0d A0b))) A0d) (pv 1)))
   (A0e (A0w (i:=3) A1f.nd rfl (.inl rfl) (A0n B6j A0d (A0n A3r A0d (A0n A1o (pcl Gb3 hr T.ae (A0a (pv 0) (A0a A0d A0b))) A0d))))
   (A0e (A0w (i:=4) A1f.nd rfl (.inl rfl) (A2j A0b))
   (A0e (A0w (i:=5) A1f.nd rfl (.inl rfl) (A2j (A0a (A2j A0b) A0b)))
   (A0e (A0w (i:=6) A1f.nd rfl (.inl rfl) (A2j (A0a (A2j (A0a (A1s (A0a (A1s A0b) (A0a B0h A0b))) A0b)) A0b)))
   (A0e (A0w (i:=7) A1f.nd rfl (.inl rfl) (A2j A0b))
   (A0e (A3t PassesOwn.never rfl (A7i rfl T.ak (A0a A0d (A0a (A0k (A2u rfl) (by rfl) T.br PyProof.Rows.boot_min (A0a (A0k A0i (by rfl) T.ad Z0r (A0a (pv 0) A0b)) (A0a A0d A0b))) A0b))) (A0o (i:=8) A1f.nd rfl (.inl rfl))
    (A0e (A0w (i:=9) A1f.nd rfl (.inl rfl) (A0n A1o (A0n A2m (pv 2) (A0n A3r (pv 3) (pv 8))) (pv 1)))
    (A0e (A0w (i:=10) A1f.nd rfl (.inl rfl) (pcl Gb2 hr T.bu (A0a (A0t A1d (pv 0) (pv 8) (λ_ _=>rfl)) (A0a (A0k A0i (by rfl) T.ad Z0r (A0a (pv 4) A0b)) A0b))))
    (A0f (A2o (A0y A6d (pv 10) A2k (A1e _))
     (A0e (A1g (A6c Z0k Z0n Z0o A1n (pv 4) (A0a (pcl Gb5 hr T.ao (A0a (A0t A1d (pv 0) (pv 8) (λ_ _=>rfl)) (A0a (pv 9) (A0a (pv 4) (A0a (A0n A1m A0d (pcl Gb8 hr T.bi (A0a (pv 4) A0b))) A0b))))) A0b)))
     (A0e (A1g (A6c Z0k Z0n Z0o A1n (pv 6) (A0a (pcl Gb7 hr T.af (A0a (A0t A1d (pv 6) (A4d A2t A0d) (λ_ _=>rfl)) (A0a (A0k A0i (by rfl) T.ad Z0r (A0a (A0t A1d (pv 5) (A4d A2t A0d) (λ_ _=>rfl)) A0b)) (A0a (A0t A1d (pv 4) (A4d A2t A0d) (λ_ _=>rfl)) A0b)))) A0b)))
     (A0f (A1g (A6c Z0k Z0n Z0o A1n (pv 5) (A0a (A2j A0b) A0b))))))
     (A0f (A2o (A0y A6d (pv 10) A2k (A1e _))
      (A0f (A1g (pcl Gb4 hr T.bq (A0a (A0t A1d (pv 0) (pv 8) (λ_ _=>rfl)) (A0a (pv 9) (A0a (pv 4) (A0a (pv 5) (A0a (pv 6) (A0a (pv 7) A0b)))))))))
      (A0f (A2o (A0y C0n (A0n A2m (A0k A0i (by rfl) T.ad Z0r (A0a (pv 7) A0b)) (A0k A0i (by rfl) T.ad Z0r (A0a (A0t A1d (pv 6) (A4d A2t A0d) (λ_ _=>rfl)) A0b))) A0d (A1e _))
       (A0f (A1g (pcl Gb1 hr T.bp (A0a (A0t A1d (pv 0) (pv 8) (λ_ _=>rfl)) (A0a (pv 9) (A0a (pv 4) (A0a (pv 5) (A0a (pv 6) (A0a (pv 7) A0b)))))))))
       A1h)))))))))
   (A0e (B4r PassesOwn.never (A0y (B0k hr.units) (pv 4) (A2j A0b) (A1e _))
    (A0f (A1g (pcl Gb4 hr T.bq (A0a (pv 2) (A0a (A0n A1o (A0n A2m (pv 2) (A0n A3r (pv 3) (A0n A2m A0d (A0k A0i (by rfl) T.ad Z0r (A0a (pv 4) A0b))))) (pv 1)) (A0a (pv 4) (A0a (pv 5) (A0a (pv 6) (A0a (pv 7) A0b))))))))))
   (A0f (A0x (A1s (A0a (A1s (A0a (pv 1) (A0a (A2l A1j (by rfl) T.ag Z0m (A0a (A0t A1d (pv 5) A0d (λ_ _=>rfl)) A0b)) A0b))) (A0a (A5u (N':=["_law_row"]) (ix:=(List.replicate 1 none)) rfl (B4h rfl (by decide +kernel) (by decide +kernel)) (B3z rfl) (A5f (B1c Gb6 (hr.mono (by lia)) T.aw.b (by rfl) T.cN rfl T.aw.m (A0a (pv 7) A0b))) (λ_ _ _ _=>(A0o (i:=0) B4f rfl (.inl rfl))) (λ_ _ _ _=>(A0t (B2c (K:=K) rfl) (pv 0) A0d (λ_ _=>rfl)))) A0b))))))))))))),?_⟩
  refine ⟨_,rfl,a,ns,_,rfl,hS,by lia,λz0=> ?_⟩;refine ⟨_,_,rfl,rfl,⟨by decide,by decide⟩,_,rfl,_,_,rfl,rfl,(by show (0:Int)<bh;lia),?_⟩;refine ⟨_,rfl,a,ns,_,rfl,hS,by lia,λz1=> ?_⟩;refine ⟨_,_,rfl,rfl,C1m,_,_,rfl,rfl,.inl ⟨by decide,by decide⟩,_,_,rfl,rfl,?_⟩;have hst:(1-2*(z1%2)=1\/1-2*(z1%2)= -1):=by lia
  obtain ⟨st,est⟩:∃st,st=z0/2%bh:=⟨_,rfl⟩;obtain ⟨sp,esp⟩:∃sp,sp=1-2*(z1%2):=⟨_,rfl⟩;rw [<-esp] at hst;refine ⟨A0s rfl,λhl ehl=> ?_⟩;obtain ⟨G1,c1,o1,eNH⟩:=nH (o:= .lst []) ehl;rw [eNH];refine ⟨A0s rfl,λb0 eb0=> ?_⟩;obtain ⟨G2,c2,o2,eNH⟩:=nH (o:= .lst []) eb0;rw [eNH];refine ⟨A0s rfl,λbl ebl=> ?_⟩;obtain ⟨G3,c3,o3,eNH⟩:=nH (o:= .lst [.ref b0]) ebl;rw [eNH];refine ⟨A0s rfl,λm0 em0=> ?_⟩;obtain ⟨G4,c4,o4,eNH⟩:=nH (o:= .tup []) em0;rw [eNH];refine λd0 ed0=> ?_;obtain ⟨G5,c5,o5,eNH⟩:=nH (o:= .dK []) ed0;rw [eNH];refine ⟨A0s rfl,λt0 et0=> ?_⟩;obtain ⟨G6,c6,o6,eNH⟩:=nH (o:= .tup [.ref m0,.ref d0]) et0;rw [eNH];refine ⟨A0s rfl,λy0 ey0=> ?_⟩;obtain ⟨G7,c7,o7,eNH⟩:=nH (o:= .lst [.ref t0]) ey0;rw [eNH];refine ⟨A0s rfl,λwl ewl=> ?_⟩;obtain ⟨G8,c8,o8,eNH⟩:=nH (o:= .lst [.ref y0]) ewl;rw [eNH];refine ⟨A0s rfl,λdl edl=> ?_⟩;obtain ⟨G9,c9,o9,eNH⟩:=nH (o:= .lst []) edl;rw [eNH];have d3:=c4.trans (c5.trans (c6.trans c7));have d7:=c8.trans c9;have n1:hl≠bl:=A0c (c2 _ _ o1) ebl;have n2:hl≠wl:=A0c (d3 _ _ (c3 _ _ (c2 _ _ o1))) ewl;have n3:hl≠dl:=A0c (c8 _ _ (d3 _ _ (c3 _ _ (c2 _ _ o1)))) edl;have n4:bl≠wl:=A0c (d3 _ _ o3) ewl;have n5:bl≠dl:=A0c (c8 _ _ (d3 _ _ o3)) edl;have n6:wl≠dl:=A0c o8 edl;have b1:b0≠hl:=(A0c o1 eb0).symm;have b2:b0≠bl:=A0c o2 ebl;have b3:b0≠wl:=A0c (d3 _ _ (c3 _ _ o2)) ewl;have b4:b0≠dl:=A0c (c8 _ _ (d3 _ _ (c3 _ _ o2))) edl;have b5:b0≠y0:=A0c (c6 _ _ (c5 _ _ (c4 _ _ (c3 _ _ o2)))) ey0;have y1:y0≠hl:=(A0c (c6 _ _ (c5 _ _ (c4 _ _ (c3 _ _ (c2 _ _ o1))))) ey0).symm;have y2:y0≠bl:=(A0c (c6 _ _ (c5 _ _ (c4 _ _ o3))) ey0).symm;have y3:y0≠wl:=A0c o7 ewl;have y4:y0≠dl:=A0c (c8 _ _ o7) edl;have sG:A1t H G9:=c1.trans (c2.trans (c3.trans (d3.trans d7)))
  let v0:Lv:=⟨b0,y0,[],[([],ci [])],[]⟩
  have sta:StA G9 hl bl wl dl [] ([]++[v0]) []:=by
   refine ⟨⟨[],d7 _ _ (d3 _ _ (c3 _ _ (c2 _ _ o1))),.nil⟩,d7 _ _ (d3 _ _ o3),c9 _ _ o8,⟨[],o9,.nil⟩,λv hv=> ?_,by simp,λv hv=> ?_,λv hv=> ?_,⟨n1,n2,n3,n4,n5,n6⟩⟩
   ·have e:v=v0:=by simpa using hv
    subst e;refine ⟨⟨[],d7 _ _ (d3 _ _ (c3 _ _ o2)),by rw [A2g]⟩,[.ref t0],d7 _ _ o7,.cons ⟨t0,m0,d0,[],rfl,d7 _ _ (c7 _ _ o6),d7 _ _ (c7 _ _ (c6 _ _ (c5 _ _ o4))),d7 _ _ (c7 _ _ (c6 _ _ o5)),rfl,λx s hx=>(by cases hx),by simp,rfl⟩ .nil⟩
   ·have e:v=v0:=by simpa using hv
    subst e;exact ⟨b1,b2,b3,b4,λu hu=>by rw [show u=v0 from by simpa using hu];exact b5⟩
   ·have e:v=v0:=by simpa using hv
    subst e;exact ⟨y1,y2,y3,y4⟩
  have bu0:Bu (λj=>(st+sp*(j:Int))%bh) 1 [] ([]++[v0]) []:=by
   refine ⟨.one rfl rfl trivial,λo ho=>(nomatch ho),?_,by simp [v0],by simp,λy hy=>(nomatch hy),λi v hv=> ?_,by simp [v0,nmL]⟩
   ·simp [A2f,v0,mdL]
   ·have hi:=(Z03.mp hv).1;simp at hi;subst hi;cases hv;simp [v0,dpL]
  have l63:(if (63:Int)<((ns.map V.int).length:Int) then 63 else ((ns.map V.int).length:Int))<=63/\0<=(if (63:Int)<((ns.map V.int).length:Int) then 63 else ((ns.map V.int).length:Int))/\(if (63:Int)<((ns.map V.int).length:Int) then 63 else ((ns.map V.int).length:Int))<=ns.length:=by
   rw [Z08];split <;> lia
  generalize hm:(if (63:Int)<((ns.map V.int).length:Int) then 63 else ((ns.map V.int).length:Int))=m at l63
  have sS:∀{H2:Hp},A1t H H2->SqL K H2 a (ns.map V.int):=λ{H2} s2=>by
   rcases hS with (q | ⟨o,q⟩) | q
   ·exact .inl (.inl (s2 _ _ q))
   ·exact .inl (.inr ⟨o,s2 _ _ q⟩)
   ·exact .inr q
  refine ⟨_,rfl,a,_,rfl,.inl (sS sG),_,_,rfl,1,m,by rw [<-hm],⟨by lia,by lia,by lia,by lia⟩,?_⟩;have f0:H b0=none:=c1.free eb0;have fhl:H hl=none:=ehl;have fbl:H bl=none:=(c1.trans c2).free ebl;have fwl:H wl=none:=(c1.trans (c2.trans (c3.trans d3))).free ewl;have fdl:H dl=none:=(c1.trans (c2.trans (c3.trans (d3.trans c8)))).free edl;have stay:∀{H1 H2:Hp} {M:List Lv},A1t H H1->KL hl bl wl dl M H1 H2->(∀u∈M,H u.b=none)->A1t H H2:=λ{H1 H2 M} s1 kl fr x o e=>kl x o (s1 _ _ e) (A0c e fhl) (A0c e fbl) (A0c e fwl) (A0c e fdl) λu hu=>A0c e (fr u hu)
  refine A3v (lo:=1) (n:=(m-1).toNat) (λi σ H2=>∃(o8 o9 o10:Option V) (hs:List Hd) (L:List Lv) (v:Lv) (due:List (List Int×Stp)),σ=[Sro a,Sio bh,Sio (z0/2%bh),Sio (1-2*(z1%2)),Sro hl,Sro bl,Sro wl,Sro dl,o8,o9,o10]/\A1t H H2/\StA H2 hl bl wl dl hs (L++[v]) due/\Bu (λj=>(st+sp*(j:Int))%bh) (1+i) hs (L++[v]) due/\∀u∈L++[v],H u.b=none)
   ⟨none,none,none,[],[],v0,[],rfl,sG,sta,bu0,λu hu=>by rw [show u=v0 from by simpa using hu];exact f0⟩ ?_ ?_
  ·rintro i σ H2 hi ⟨o8,o9,o10,hs,L,v,due,rfl,s2,st2,bu2,fr⟩;obtain ⟨zf,ll⟩:=bu2.z.facts rfl;obtain ⟨hx,hh,hds⟩:=st2.h;have lh:=Paired.length hds
   have okh:A9f hs:=by
    have:=zf.ok hs.length
    rwa [Z18] at this
   have q1:=okh.lo;have q2:=okh.hi;have lw:=zf.lw;have szs:=bu2.sz;rw [A1z] at szs;simp only [Z0p,List.map_nil,List.sum_cons,List.sum_nil] at szs;have i63:i<62:=by lia
   have nlen:hs.length<=20:=by
    have:=bu2.dp L.length v (by rw [Z1l (Z09 _),Nat.sub_self];rfl)
    lia
   obtain ⟨cell,_,ec⟩:=B2x (f:=V.int) (xs:=ns) (i:=1+(i:Int)) (by lia) (by lia);have pi:B5o hs L v due:=⟨λo ho=>⟨_,zf.i1 o ho⟩,by rw [zf.lb];lia,by lia,by have:=bu2.ln;lia,by lia⟩;have nu:(z0/2%bh+(1-2*(z1%2))*(1+(i:Int)))%bh=(st+sp*((1+i:Nat):Int))%bh:=by rw [est,esp];congr 2
   refine ⟨_,rfl,_,rfl,_,rfl,_,_,rfl,rfl,.inl ⟨by lia,by lia⟩,_,_,rfl,rfl,_,rfl,_,_,rfl,rfl,(by show (0:Int)<bh;lia),?_⟩;refine ⟨_,rfl,_,rfl,a,_,_,_,rfl,rfl,sS s2,ec,_,rfl,hl,_,rfl,.inl (SqL.of hh),_,_,rfl,λd20=> ?_,λd0=> ?_,?_⟩
   ·refine ⟨_,rfl,rfl,_,rfl,A7u (λ_=> ?_) (λn=>absurd rfl n)⟩;have mst:=okh.most
    have nn0:∀o∈hs,1<=o.sz/\o.sz<=24/\0<=o.n:=λo ho=>by
     have a1:=okh.sz o ho;obtain ⟨j,_,ej⟩:=bu2.nm o ho;exact ⟨a1.1,by lia,by rw [ej];exact Z1v _ (by lia)⟩
    refine ⟨_,rfl,.inl ⟨rfl,_,SqL.of hh⟩,_,rfl,_,rfl,a,_,_,_,rfl,rfl,sS s2,ec,_,rfl,_,rfl,_,rfl,hl,hx,hs,rfl,hh,hds,zf.ok,_,_,rfl,rfl,⟨by lia,by lia⟩,_,_,_,hl,hx,hs,rfl,hh,hds,nn0,mst.1,mst.2.1,λhv h H3 s3 hat hn g=> ?_⟩;have hn':h.n=(st+sp*((1+i:Nat):Int))%bh:=hn.trans nu;have hin:B4z v.bd h:=B7p hst hb bu2 (by lia) g hn';have l20:hs.length<20:=by lia
    refine ⟨hl,_,_,rfl,rfl,s3 _ _ hh,A1l (by lia),?_⟩;have kd4:KD H3 (upd H3 hl (.lst (hx++[hv]))):=KD.lst (s3 _ _ hh);have k4:∀p o,H2 p=some o->p≠hl->upd H3 hl (.lst (hx++[hv])) p=some o:=λp o e ne=>by rw [A0l ne];exact s3 _ _ e
    have h4:upd H3 hl (.lst (hx++[hv])) hl=some (.lst (hx++[hv])):=A0g;have hat4:=hat.kt kd4.1;have kd24:=(KD.same s3).trans kd4
    have free4:∀p,upd H3 hl (.lst (hx++[hv])) p=none->H2 p=none:=λp e=>by
     cases e2:H2 p with
     | none=>rfl
     | some o =>
      by_cases ep:p=hl
      ·rw [ep,h4] at e;cases e
      ·rw [k4 _ _ e2 ep] at e;cases e
    generalize upd H3 hl (.lst (hx++[hv]))=H4 at kd4 k4 h4 hat4 kd24 free4⊢;obtain ⟨n1,n2,n3,n4,n5,n6⟩:=st2.ne;obtain ⟨⟨bx,hb1,hb2⟩,yx,hy1,hy2⟩:=st2.lv v (by simp);have dvb:=st2.db v (by simp);have dvy:=st2.dy v (by simp);have w4:=k4 _ _ st2.w n2.symm;have b4:=k4 _ _ st2.b n1.symm;have lastW:atI ((L++[v]).map λu=>V.ref u.y) (-1)=some (.ref v.y):=by rw [Z0s];exact A2w _ _
    have lastB:atI ((L++[v]).map λu=>V.ref u.b) (-1)=some (.ref v.b):=by rw [Z0s];exact A2w _ _
    have lyx:=Paired.length hy2;have lbx:=A2g.len hb2;refine ⟨_,rfl,.inl ⟨rfl,_,SqL.of w4⟩,_,rfl,_,rfl,wl,_,_,_,rfl,rfl,SqL.of w4,lastW,_,rfl,_,rfl,bl,_,_,_,rfl,rfl,SqL.of b4,lastB,v.b,_,rfl,.inl (SqL.of (k4 _ _ hb1 dvb.1)),_,rfl,_,rfl,hl,_,_,_,rfl,rfl,SqL.of h4,A2w _ _,v.y,_,hv,yx,v.ws,v.bd,h,rfl,k4 _ _ hy1 dvy.1,hy2.kd kd24,hat4,hin,pi.l1,by have:=pi.l2;lia,λq zs H5 hq s5 e5 wz=> ?_⟩;rw [lbx] at wz;have w5:=s5 _ _ w4;refine ⟨wl,_,_,rfl,rfl,w5,A1l (by simp;lia),?_⟩;have kd6:KD H5 (upd H5 wl (.lst (((L++[v]).map λu=>V.ref u.y)++[.ref q]))):=KD.lst w5;have k6:∀p o,H4 p=some o->p≠wl->upd H5 wl (.lst (((L++[v]).map λu=>V.ref u.y)++[.ref q])) p=some o:=λp o e ne=>by rw [A0l ne];exact s5 _ _ e
    have w6:upd H5 wl (.lst (((L++[v]).map λu=>V.ref u.y)++[.ref q])) wl=some (.lst (((L++[v]).map λu=>V.ref u.y)++[.ref q])):=A0g;have qw:q≠wl:=λe=>by rw [e,w4] at hq;cases hq
    have q6:upd H5 wl (.lst (((L++[v]).map λu=>V.ref u.y)++[.ref q])) q=some (.lst zs):=by rw [A0l qw];exact e5
    have wz6:=wz.kd kd6;have kd46:=(KD.same s5).trans kd6;generalize upd H5 wl (.lst (((L++[v]).map λu=>V.ref u.y)++[.ref q]))=H6 at kd6 k6 w6 q6 wz6 kd46⊢;refine ⟨_,rfl,.inl ⟨rfl,_,SqL.of (k6 _ _ b4 n4)⟩,A0s rfl,λz hz=> ?_⟩;obtain ⟨H7,s7,z7,eNH⟩:=nH (o:= .lst []) hz;rw [eNH];have b7:=s7 _ _ (k6 _ _ b4 n4);refine ⟨bl,_,_,rfl,rfl,b7,A1l (by simp;lia),?_⟩;have kd8:KD H7 (upd H7 bl (.lst (((L++[v]).map λu=>V.ref u.b)++[.ref z]))):=KD.lst b7;have k8:∀p o,H7 p=some o->p≠bl->upd H7 bl (.lst (((L++[v]).map λu=>V.ref u.b)++[.ref z])) p=some o:=λp o e ne=>by rw [A0l ne];exact e
    have b8:upd H7 bl (.lst (((L++[v]).map λu=>V.ref u.b)++[.ref z])) bl=some (.lst (((L++[v]).map λu=>V.ref u.b)++[.ref z])):=A0g;generalize upd H7 bl (.lst (((L++[v]).map λu=>V.ref u.b)++[.ref z]))=H8 at kd8 k8 b8⊢;have kd28:KD H2 H8:=kd24.trans (kd46.trans ((KD.same s7).trans kd8));have k28:∀p o,H2 p=some o->p≠hl->p≠bl->p≠wl->H8 p=some o:=λp o e e1 e2 e3=>k8 _ _ (s7 _ _ (k6 _ _ (k4 _ _ e e1) e3)) e2;have qb:q≠bl:=λe=>by rw [e,b4] at hq;cases hq
    have qh:q≠hl:=λe=>by rw [e,h4] at hq;cases hq
    have zb:z≠bl:=λe=>by rw [e,k6 _ _ b4 n4] at hz;cases hz
    have zq:z≠q:=λe=>by rw [e,q6] at hz;cases hz
    have fz:H2 z=none:=by
     have e4:H4 z=none:=by
      cases e4:H4 z with
      | none=>rfl
      | some o =>
       by_cases ep:z=wl
       ·rw [ep,w6] at hz;cases hz
       ·rw [k6 _ _ e4 ep] at hz;cases hz
     exact free4 _ e4
    let u:Lv:=⟨z,q,[],A2e v.ws v.B.length h.n h.sz h.wd h.out,(h.n,h.sz)::v.bd⟩
    have st8:StA H8 hl bl wl dl (hs++[h]) (L++[v]++[u]) due:=by
     refine st2.opn (u:=u) kd28 k28 ⟨_,k8 _ _ (s7 _ _ (k6 _ _ h4 n2)) n1,?_⟩ ?_ ?_ ⟨⟨[],k8 _ _ z7 zb,by rw [A2g]⟩,zs,k8 _ _ (s7 _ _ q6) qb,(wz6.kd (KD.same s7)).kd kd8⟩ fz (free4 _ hq) zq
     ·exact B4s (A4l.kt hds kd28.1) (.cons (hat4.kt (kd46.trans ((KD.same s7).trans kd8)).1) .nil)
     ·rw [b8];simp [u]
     ·rw [k8 _ _ (s7 _ _ w6) n4.symm];simp [u]
    refine ⟨_,_,_,hs++[h],L++[v],u,due,rfl,λp o e=> ?_,st8,bu2.opn hin g hn' l20 rfl rfl rfl,λx hx=> ?_⟩
    ·exact k28 p o (s2 _ _ e) (A0c e fhl) (A0c e fbl) (A0c e fwl)
    ·rcases Z07.mp hx with q | q
     ·exact fr x q
     ·rw [Z0w.mp q];exact s2.free fz
   ·refine ⟨_,rfl,rfl,_,rfl,A7u (λe=>absurd e (by decide +kernel)) (λ_=> ?_)⟩;refine ⟨_,rfl,rfl,_,rfl,A7u (λ_=> ?_) (λn=>absurd rfl n)⟩;have l0:0<hs.length:=by lia
    obtain ⟨hs',h,rfl⟩:=A6t l0;obtain ⟨L',v',rfl⟩:=A6t (show 0<L.length by lia);rw [A1z] at szs;simp only [Z0p,List.map_nil,List.sum_cons,List.sum_nil,Z06,Z0y,Z2g] at szs ll nlen;refine ⟨_,rfl,_,rfl,a,_,_,_,rfl,rfl,sS s2,ec,_,rfl,_,rfl,_,rfl,_,rfl,_,rfl,_,_,hl,bl,wl,dl,hs',h,L',v',v,due,rfl,st2,pi,by lia,by lia,λu' due' H3 eb st3 kl3=> ?_⟩
    have b3:Bu (λj=>(st+sp*(j:Int))%bh) (1+(i+1)) hs' (L'++[{ v' with B:=v'.B++[.loop h.n h.sz h.wd h.out u'.B] }]) due':=by
     rcases eb with ⟨rfl,rfl,ne⟩ | ⟨k',w',cs,us,ok,i1,i2,rfl,rfl⟩
     ·exact (bu2.fin ne (by lia)).up (by lia)
     ·exact ((bu2.put (n:=_) ok i1 i2).fin (by simp) (by lia)).up (by lia)
    refine ⟨_,_,_,hs',L',_,_,rfl,stay s2 kl3 fr,st3,b3,λu hu=> ?_⟩;rcases Z07.mp hu with q | q
    ·exact fr u (by simp [q])
    ·rw [Z0w.mp q];exact fr v' (by simp)
   ·refine ⟨_,rfl,rfl,_,rfl,A7u (λe=>absurd e (by decide +kernel)) (λ_=> ?_)⟩;refine ⟨_,rfl,rfl,_,rfl,A7u (λe=>absurd e (by decide +kernel)) (λ_=> ?_)⟩;obtain ⟨dx,hd1,_⟩:=st2.d;obtain ⟨_,yx,hy1,_⟩:=st2.lv v (by simp);have lastW:atI ((L++[v]).map λu=>V.ref u.y) (-1)=some (.ref v.y):=by rw [Z0s];exact A2w _ _
    refine ⟨_,rfl,dl,_,rfl,.inl (SqL.of hd1),_,rfl,_,rfl,wl,_,_,_,rfl,rfl,SqL.of st2.w,lastW,v.y,_,rfl,.inl (SqL.of hy1),_,_,rfl,rfl,_,_,rfl,rfl,_,rfl,B8a (λ_=> ?_) (λ_=> ?_)⟩
    ·refine ⟨_,rfl,_,rfl,a,_,_,_,rfl,rfl,sS s2,ec,_,rfl,_,rfl,_,rfl,_,rfl,_,rfl,_,_,hl,bl,wl,dl,hs,L,v,due,rfl,st2,pi,λk' w' cs us H3 ok i1 i2 st3 kl3=> ?_⟩;refine ⟨_,_,_,hs,L,_,_,rfl,stay s2 kl3 fr,st3,(bu2.put ok i1 i2).up (by lia),λu hu=> ?_⟩;rcases Z07.mp hu with q | q
     ·exact fr u (Z05 _ q)
     ·rw [Z0w.mp q];exact fr v (by simp)
    ·exact ⟨_,_,_,hs,L,v,due,rfl,s2,st2,bu2.up (by lia),fr⟩
  ·rintro σ H2 ⟨o8,o9,o10,hs,L,v,due,rfl,s2,st2,bu2,fr⟩;have hk0:1+(m-1).toNat<=63:=by lia
   have n20:=(bu2.facts (by lia)).nl;refine ⟨λn σ H3=>∃(hs:List Hd) (L:List Lv) (v:Lv) (due:List (List Int×Stp)),n=hs.length/\σ=[Sro a,Sio bh,Sio (z0/2%bh),Sio (1-2*(z1%2)),Sro hl,Sro bl,Sro wl,Sro dl,o8,o9,o10]/\A1t H H3/\StA H3 hl bl wl dl hs (L++[v]) due/\Bu (λj=>(st+sp*(j:Int))%bh) (84-n) hs (L++[v]) due/\∀u∈L++[v],H u.b=none,⟨_,hs,L,v,due,rfl,rfl,s2,st2,bu2.up (by lia),fr⟩,?_⟩;clear st2 bu2 fr s2 n20 hk0 hs L v due H2;rintro n σ H3 ⟨hs,L,v,due,rfl,rfl,s3,st3,bu3,fr⟩;have f3:=bu3.facts (by lia);obtain ⟨hx,hh,hds⟩:=st3.h;have lh:=Paired.length hds;refine ⟨_,rfl,A0s rfl,λz hz=> ?_⟩;obtain ⟨H4,s4,z4,eNH⟩:=nH (o:= .lst []) hz;rw [eNH];have st4:=st3.same s4;have hh4:=s4 _ _ hh;refine ⟨hl,z,hx,rfl,rfl,hh4,z4,_,rfl,A7u (λne=> ?_) (λe=> ?_)⟩
   ·have l0:0<hs.length:=by
     rw [<-lh]
     cases hx with
     | nil=>simp at ne
     | cons x xs=>simp
    obtain ⟨hs',h,rfl⟩:=A6t l0;have ll:=f3.ll;obtain ⟨L',v',rfl⟩:=A6t (show 0<L.length by lia);have lv':=f3.vs L' v' rfl;have nl:=f3.nl;rw [Z06,Z06] at ll;simp only [Z0y,Z2g,Z06] at ll nl lv' bu3;refine ⟨λσ H5=>∃(L:List Lv) (v:Lv) (due:List (List Int×Stp)),σ=[Sro a,Sio bh,Sio (z0/2%bh),Sio (1-2*(z1%2)),Sro hl,Sro bl,Sro wl,Sro dl,o8,o9,o10]/\A1t H H5/\StA H5 hl bl wl dl hs' (L++[v]) due/\Bu (λj=>(st+sp*(j:Int))%bh) (84-hs'.length) hs' (L++[v]) due/\∀u∈L++[v],H u.b=none,?_,?_⟩
    ·rintro σ' H5 ⟨L,v,due,q⟩;exact ⟨hs'.length,by simp,hs',L,v,due,rfl,q⟩
    ·refine ⟨_,rfl,_,rfl,_,rfl,_,rfl,hl,_,rfl,.inl (SqL.of hh4),_,_,rfl,rfl,_,_,rfl,rfl,.inl ?_,_,_,rfl,rfl,_,rfl,_,_,rfl,rfl,(by show (0:Int)<bh;lia),?_⟩
     ·show -18446744073709551616<1-2*(z1%2)/\1-2*(z1%2)<18446744073709551616
      lia
     ·refine ⟨_,rfl,_,rfl,_,rfl,_,rfl,_,_,hl,bl,wl,dl,hs',h,L',v',v,due,rfl,st4,f3.pi,by lia,by lia,λu' due' H5 eb st5 kl5=> ?_⟩
      have b5:Bu (λj=>(st+sp*(j:Int))%bh) (84-hs'.length) hs' (L'++[{ v' with B:=v'.B++[.loop h.n h.sz h.wd h.out u'.B] }]) due':=by
       rcases eb with ⟨rfl,rfl,ne⟩ | ⟨k',w',cs,us,ok,i1,i2,rfl,rfl⟩
       ·exact (bu3.fin ne (by lia)).up (by lia)
       ·exact ((bu3.put (n:=_) ok i1 i2).fin (by simp) (by lia)).up (by lia)
      refine ⟨L',_,_,rfl,stay (s3.trans s4) kl5 fr,st5,b5,λu hu=> ?_⟩;rcases Z07.mp hu with q | q
      ·exact fr u (by simp [q])
      ·rw [Z0w.mp q];exact fr v' (by simp)
   ·have e0:hs=[]:=by
     cases hx with
     | nil=>exact List.eq_nil_of_length_eq_zero (by rw [<-lh];rfl)
     | cons x xs=>simp at e
    subst e0;have ll:=f3.ll;have eL:L=[]:=List.eq_nil_of_length_eq_zero (by rw [ll];rfl);subst eL;simp only [List.nil_append,Z2g] at bu3 st4;obtain ⟨wb,dp,nn,pm,nem⟩:=bu3.done;have ldu:=bu3.ln;obtain ⟨dx,hd1,hd2⟩:=st4.d;have ldx:=Paired.length hd2;obtain ⟨⟨bx,hb1,hb2⟩,_⟩:=st4.lv v (by simp);have s34:=s3.trans s4;refine ⟨_,rfl,_,rfl,bl,_,_,_,rfl,rfl,SqL.of st4.b,A0q (j:=0) rfl,v.b,_,rfl,.inl ⟨SqL.of hb1,λp hp=> ?_⟩⟩;obtain ⟨H5,s5,p5,eNH⟩:=nH (o:= .tup bx) hp;rw [eNH];refine ⟨A0s rfl,λr hr'=> ?_⟩;have s6:A1t H5 (upd H5 r (.tup [.int bh,.ref p])):=A0j hr';have r6:upd H5 r (.tup [.int bh,.ref p]) r=some (.tup [.int bh,.ref p]):=A0g;generalize upd H5 r (.tup [.int bh,.ref p])=H6 at s6 r6⊢;have s46:=s5.trans s6;have d6:=hd2.kt (KT.same s46)
    have ky:∀y∈dx,∃(b m:Addr) (r:V) (n:Int) (ns:List Int),y= .ref b/\H6 b=some (.tup [.ref m,r])/\kfH H6 y= .ref m/\kIH H6 y=n::ns/\H6 m=some (.tup ((n::ns).map V.int)):=λy hy=>by
     obtain ⟨i,hi⟩:=List.getElem?_of_mem hy;obtain ⟨yy,hyy,du⟩:=B3g d6 hi;obtain ⟨b,m,r,q1,q2,q3,q4,q5,_⟩:=du.key;obtain ⟨n,ns,en⟩:=nem yy (Z13 hyy);rw [en] at q4 q5;exact ⟨b,m,r,n,ns,q1,q2,q3,q5,q4⟩
    refine ⟨_,rfl,dl,dx,kfH H6,kIH H6,rfl,SqL.of (s46 _ _ hd1),λy hy Q hQ=> ?_,λy hy=> ?_,λzs pz sz l hl'=> ?_⟩
    ·obtain ⟨b,m,r,n,ns,rfl,q2,q3,_⟩:=ky y hy;rw [q3] at hQ;exact ⟨b,_,_,rfl,q2,hQ⟩
    ·obtain ⟨b,m,r,n,ns,q1,q2,q3,q4,q5⟩:=ky y hy;exact ⟨m,n,ns,q3,q4,q5⟩
    ·obtain ⟨ds,d7,pd⟩:=A8p pz d6;have eds:=B5h bu3 pd d7 sz;have s7:A1t H6 (upd H6 l (.lst zs)):=A0j hl';have l7:upd H6 l (.lst zs) l=some (.lst zs):=A0g;have d8:=A6a.kt d7 (KT.same s7);generalize upd H6 l (.lst zs)=H7 at s7 l7 d8⊢;have lzs:=pz.length_eq;refine ⟨l,rfl,⟨_,SqL.of l7⟩,λD hD=> ?_⟩;have sH7:A1t H H7:=s34.trans (s46.trans s7);refine B1t (K:=K) (a:=l) (xs:=zs) (D:=D) (λi ys H8=>A1t H7 H8/\H8 D=some (.lst ys)/\ys.length=i/\A4w H8 ys ((ds.map (·.2)).take i)) ⟨A0j hD,A0g,rfl,.nil⟩ (λi ys H8 q=>SqL.of (q.1 _ _ l7)) ?_ ?_
     ·rintro i x ys H8 hx' ⟨s8,h8,ly,t8⟩;have lxi:=(Z03.mp hx').1;obtain ⟨yy,hyy,du⟩:=B3g d8 hx';obtain ⟨b,m',r',rfl,q2,q3,q4⟩:=du;refine ⟨True.intro,_,rfl,b,_,_,_,rfl,rfl,SqT.of (s8 _ _ q2),A0q (j:=1) rfl,h8,A1l (by lia),A1i s8 hD,A0g,by simp [ly],?_⟩;have kt9:KT H8 (upd H8 D (.lst (ys++[r']))):=KT.at h8 (by intro xs z;cases z);rw [Z14,Z1z,hyy];exact B4s (A4w.kt t8 kt9) (.cons ((q4.kt (KT.same s8)).kt kt9) .nil)
     ·rintro ys H8 ⟨s8,h8,ly,t8⟩;have lds:=Paired.length d8;rw [Z2l (by rw [Z08];lia),eds] at t8;refine ⟨A0s rfl,λq hq=> ?_⟩;obtain ⟨H9,s9,q9,eNH⟩:=nH (o:= .tup [.ref r,.ref D]) hq;rw [eNH];have t9:=s7.trans (s8.trans s9)
      have ldo:(doL v.B λ_=>0).length=due.length:=by
       have:(ds.map (·.2)).length=(doL v.B (ci [])).length:=by rw [eds]
       rw [Z08,pd.length_eq] at this;exact this.symm
      refine k q v.B H9 (sH7.trans (s8.trans s9)) ⟨⟨r,p,D,bx,ys,q9,t9 _ _ r6,t9 _ _ (s6 _ _ p5),((hb2.kt (KT.same s46)).kt (KT.same t9)),sH7.free hD,s9 _ _ h8,A4w.kt t8 (KT.same s9)⟩,wb,by lia,by lia,by lia,λs hs=> ?_⟩;have hs':s∈ds.map (·.2):=by rw [eds];exact hs
      obtain ⟨y,hy,rfl⟩:=Z2c.mp hs';exact bu3.ok y (pd.mem_iff.mp hy)
def B5l (K:Frag):Sp:=λvs H Q _=>∃(a:Addr) (ns:List Int),vs=[.ref a]/\SqL K H a (ns.map V.int)/\ns.length<=63/\(∀m∈ns,m.natAbs.log2<2^20)/\∀H',Q (.bl true) H'
theorem B9h (T:Txt K mg t):FO P w base T.cV 85 (B5l K):=by
 have Gb9:= @B1e P w K mg base t T;have Gb3:= @A4g P w K mg base t T;have Gc0:= @B3k P w K mg base t T;have Gc1:= @A8n P w K mg base t T;refine T.cV.F.ok A9x (by walk_at "ln") λ_ A _ s H _ Q E hr h=> ?_
 ·obtain ⟨a,ns,rfl,hS,l63,_,k⟩:=h;have hu:=A9k hr
  refine ⟨_,(A0e (B4c (pcl Gb9 hr T.bg (A0a (pv 0) (A0a (A0n A2m A0d (A0n A1o (pcl Gb3 hr T.ae (A0a (pv 0) (A0a A0d A0b))) (A0n A2m (A0n A9y A0d A0d) A0d))) A0b))) (A7s (n:=2) rfl (A0z (A0o (i:=1) A9x.nd rfl (.inl rfl)) (A0z (A0o (i:=2) A9x.nd rfl (.inl rfl)) A5v))))
   (A0e (A0w (i:=3) A9x.nd rfl (.inl rfl) (pcl Gc1 hr T.al (A0a (pv 1) A0b)))
   (A0e (A2o (A3s (A3g (pcl Gc0 hr T.az (A0a (pv 3) (A0a (pv 2) A0b)))))
    (A0f (A0x A6v))
    A1h)
   (A0e (A1g (A6c Z0k Z0n Z0o A1n (pv 3) (A0a (A1s (A0a A0d (A0a A2k (A0a (A1s A0b) (A0a (A1s A0b) A0b))))) A0b)))
   (A0f (A0x (pcl Gc0 hr T.az (A0a (pcl Gc1 hr T.al (A0a (pv 1) A0b)) (A0a (pv 2) A0b))))))))),?_⟩
  refine ⟨_,rfl,_,rfl,a,ns,_,rfl,hS,by lia,λz=> ?_⟩;have b30:(0:Int)<(10:Int)^(30:Int).toNat+1:=by decide +kernel
  refine ⟨_,_,rfl,rfl,⟨by decide,by decide,by decide⟩,_,_,rfl,rfl,_,_,rfl,rfl,b30,_,_,rfl,rfl,a,ns,_,rfl,hS,?_,λq l H1 s1 B=> ?_⟩
  ·have:=Z1v z (show (10:Int)^(30:Int).toNat+1≠0 by lia);show (100:Int)<=100+z%((10:Int)^(30:Int).toNat+1)
   lia
  obtain ⟨⟨r,p,D,xs,zs,hq,hr1,hp,nds,fD,hD,sts⟩,wb,dp,nn,ln,ok⟩:=B;refine ⟨q,_,rfl,SqT.of hq,rfl,_,_,rfl,_,_,rfl,rfl,?_⟩;refine ⟨_,rfl,r,p,_,xs,l,rfl,hr1,hp,nds,wb,dp,nn,ln,λF fs H2 hF s2 f2 st2=> ?_⟩;have lf:=Paired.length st2;refine ⟨_,rfl,_,rfl,F,D,fs,zs,_,rfl,f2,s2 _ _ hD,st2,sts.kt (KT.same s2),ok,by lia,λH3 s3=>⟨true,rfl,B2f ?_⟩⟩;have s13:=s2.trans s3;refine ⟨_,rfl,.inl ⟨rfl,_,SqL.of (s3 _ _ f2)⟩,A0s rfl,λe1 h1=>⟨A0s rfl,λe2 h2=>⟨A0s rfl,λe3 h3=> ?_⟩⟩⟩;have s4:=(A0j (o:=HO.tup []) h1).trans ((A0j (o:=HO.tup []) h2).trans (A0j (o:=HO.tup [.int 0,.str "set",.ref e1,.ref e2]) h3));generalize upd (upd (upd H3 e1 (.tup [])) e2 (.tup [])) e3 (.tup [.int 0,.str "set",.ref e1,.ref e2])=H4 at s4⊢;have f4:=s4 _ _ (s3 _ _ f2);have s14:=s13.trans s4;refine ⟨F,_,_,rfl,rfl,f4,A1l (by lia),?_⟩;have nDF:D≠F:=A0c hD hF;have s5:A1t H1 (upd H4 F (.lst (fs++[.ref e3]))):=A1i s14 hF;generalize upd H4 F (.lst (fs++[.ref e3]))=H5 at s5⊢;refine ⟨_,rfl,r,p,_,xs,l,rfl,s5 _ _ hr1,s5 _ _ hp,nds.kt (KT.same s5),wb,dp,nn,ln,λF2 fs2 H6 hF2 s6 f6 st6=> ?_⟩;exact ⟨_,rfl,F2,D,fs2,zs,_,rfl,f6,s6 _ _ (s5 _ _ hD),st6,(sts.kt (KT.same s5)).kt (KT.same s6),ok,by lia,λH7 s7=>k _⟩
end My
namespace PySem.W.Fast
def tw1867893717917705087:=()
def tw13705853519195325758:=()
def tw16823319396376427226:=()
def tw10107724254755824905:=()
def tw16113890391490526282:=()
def tw17817179383519671267:=()
def tw1087371181848278846:=()
def tw3410424286553813950:=()
def tw2986444107794856717:=()
def tw5244630176695052737:=()
def tw13815968265395526948:=()
def tw760346209782034188:=()
def tw8013931419906890903:=()
def tw3354551310867492551:=()
def tw10312687570008406040:=()
def tw9771438767027540404:=()
def tw8117436064303249268:=()
def tw8845273193567295194:=()
def tw16661430759276655799:=()
def tw198610265712936867:=()
def tw15624061046802311773:=()
def tw4124516315868543569:=()
def tw15370933652525583941:=()
def tw5323555151411891561:=()
def tw2546377181288324863:=()
def tw6550194969472994029:=()
def tw7648530617159330057:=()
def tw15882654263408163129:=()
def tw13297111100723234255:=()
def tw4992619119463554702:=()
def tw3735037016383666281:=()
def tw17898870481416813454:=()
def tw4131157328695835424:=()
def tw2766320700626913482:=()
def tw18261720876045381940:=()
def tw9262359787069381257:=()
def tw13550438922400318425:=()
def tw18317916246176970986:=()
def tw18213885001023362555:=()
def tw93754244665345633:=()
def tw12088705940217961447:=()
def tw9877946144820905593:=()
def tw17635873203678945442:=()
def tw11234732056786918552:=()
def tw8374085504129469058:=()
def tw8346030022039803492:=()
def tw272217109939150025:=()
def tw11058879878223117805:=()
def tw9106159322673295655:=()
def tw10465277226100730276:=()
def tw14856477006876524984:=()
def tw16981766024226787394:=()
def tw12109014214438076059:=()
def tw13989215702757681757:=()
def tw12689924847238579626:=()
def tw7480489446495978038:=()
def tw16147388776951887906:=()
def tw13380906674533260731:=()
def tw16076042591144247946:=()
def tw10112842656720726639:=()
def tw4491975175147862494:=()
def tw1836612271086136807:=()
def tw12927679349730337270:=()
def tw16824672621490273250:=()
end PySem.W.Fast
namespace My
open PySem L2
abbrev LkF (K:Frag) (x q:Str) (st:Stmt) (f:Addr):Prop:=∃(oc:Value) (od:Option Addr) (kV dc pm:Value) (an:Option Addr) (cd ct:Value) (sl:Array (Option Value)),K.lookup f=some ⟨oc,od,.func (fnOf x q (A3o st) (A3a st) (A0h st) .none kV dc pm an cd ct),sl⟩/\codeIn K cd q=true/\keepIn K (.ref f)=true
theorem B9q {K:Frag} {x q:Str} {st:Stmt} {f:Addr} {oc:Value} {od:Option Addr} {kV dc pm:Value} {an:Option Addr} {cd ct:Value} {sl:Array (Option Value)} (l:K.lookup f=some ⟨oc,od,.func (fnOf x q (A3o st) (A3a st) (A0h st) .none kV dc pm an cd ct),sl⟩) (c:codeIn K cd q=true) (k:keepIn K (.ref f)=true):LkF K x q st f:=⟨_,_,_,_,_,_,_,_,_,l,c,k⟩
theorem A2n {K:Frag} {x q:Str} {st:Stmt} {f:Addr} {ps:List Str} (l:LkF K x q st f) (h:∀(kV doc pm:Value) (an:Option Addr) (cdv ct:Value) (us:List Value),us.length=ps.length->bindArgs (fnOf x q (A3o st) (A3a st) (A0h st) .none kV doc pm an cdv ct) ⟨us,[]⟩=pure (ps.zip us)):∃d,Fun K x q st f d/\A4o K d ps []/\keepIn K (.ref f)=true:=by
 obtain ⟨_,_,_,_,_,_,_,_,_,l,c,k⟩:=l;have F:=B6h (st:=st) l c k;exact ⟨_,F,F.binds h,k⟩
theorem len0 {p:List Value->Prop} (h:p []):∀us:List Value,us.length=0->p us:=λus e=>by rw [Z2n.mp e];exact h
theorem lenS {n:Nat} {p:List Value->Prop} (h:∀(a:Value) (us:List Value),us.length=n->p (a::us)):∀us:List Value,us.length=n+1->p us
 | a::r,e=>h a r (Nat.succ.inj e)
local macro_rules | `(tactic| walk_at "le") => `(tactic| (intro _ _ _ _ _ _; (repeat (refine lenS fun _ => ?_)); exact len0 rfl))
theorem B9m {l:PySem.W.OpenLaw} {w:World} {K:Frag} {h:Heap} {mg:Str->Option Value} {fa:Addr} (X:K.In h) (G:h.Ns mainGlobals mg) (hfa:mg "law"=some (.ref fa))
  {f0:Addr}
  (a0:nsIn K mainGlobals "is_loop"=some (some (.ref f0)))
  (l0:LkF K "is_loop" "is_loop" A4u f0)
  {f1:Addr}
  (a1:nsIn K mainGlobals "steps_of"=some (some (.ref f1)))
  (l1:LkF K "steps_of" "steps_of" A4b f1)
  {f2:Addr}
  (a2:nsIn K mainGlobals "do_body"=some (some (.ref f2)))
  (l2:LkF K "do_body" "do_body" A5s f2)
  {f3:Addr}
  (a3:nsIn K mainGlobals "do_loop"=some (some (.ref f3)))
  (l3:LkF K "do_loop" "do_loop" A5a f3)
  {f4:Addr}
  (a4:nsIn K mainGlobals "counts_of"=some (some (.ref f4)))
  (l4:LkF K "counts_of" "counts_of" A3p f4)
  {f5:Addr}
  (a5:nsIn K mainGlobals "step_of"=some (some (.ref f5)))
  (l5:LkF K "step_of" "step_of" A5o f5)
  {f6:Addr}
  (a6:nsIn K mainGlobals "counts_at"=some (some (.ref f6)))
  (l6:LkF K "counts_at" "counts_at" A3k f6)
  {f7:Addr}
  (a7:nsIn K mainGlobals "_law_cell_at"=some (some (.ref f7)))
  (l7:LkF K "_law_cell_at" "_law_cell_at" A3l f7)
  {f8:Addr}
  (a8:nsIn K mainGlobals "_law_whole"=some (some (.ref f8)))
  (l8:LkF K "_law_whole" "_law_whole" A5p f8)
  {f9:Addr}
  (a9:nsIn K mainGlobals "_law_act"=some (some (.ref f9)))
  (l9:LkF K "_law_act" "_law_act" A9i f9)
  {bN:Addr}
  (aP:nsIn K mainGlobals "_law_head_by"=some (some (.ref bN)))
  (aQ:LkF K "_law_head_by" "_law_head_by" A3n bN)
  {bO:Addr}
  (aR:nsIn K mainGlobals "_law_picked"=some (some (.ref bO)))
  (aS:LkF K "_law_picked" "_law_picked" A4c bO)
  {bP:Addr}
  (aT:nsIn K mainGlobals "_law_deed_by"=some (some (.ref bP)))
  (aU:LkF K "_law_deed_by" "_law_deed_by" A3m bP)
  {bQ:Addr}
  (aV:nsIn K mainGlobals "_law_ways_within"=some (some (.ref bQ)))
  (aW:LkF K "_law_ways_within" "_law_ways_within" A2i bQ)
  {bR:Addr}
  (aX:nsIn K mainGlobals "_law_rows_of"=some (some (.ref bR)))
  (aY:LkF K "_law_rows_of" "_law_rows_of" A3i bR)
  {bS:Addr}
  (aZ:nsIn K mainGlobals "_law_worth"=some (some (.ref bS)))
  (bA:LkF K "_law_worth" "_law_worth" A5t bS)
  {bT:Addr}
  (bB:nsIn K mainGlobals "_law_put"=some (some (.ref bT)))
  (bC:LkF K "_law_put" "_law_put" A8m bT)
  {bU:Addr}
  (bD:nsIn K mainGlobals "_law_end"=some (some (.ref bU)))
  (bE:LkF K "_law_end" "_law_end" A8u bU)
  {bV:Addr}
  (bF:nsIn K mainGlobals "_law_mark"=some (some (.ref bV)))
  (bG:LkF K "_law_mark" "_law_mark" A7a bV)
  {bW:Addr}
  (bH:nsIn K mainGlobals "_law_built"=some (some (.ref bW)))
  (bI:LkF K "_law_built" "_law_built" A5i bW)
  {bX:Addr}
  (bJ:nsIn K mainGlobals "_law_wholes"=some (some (.ref bX)))
  (bK:LkF K "_law_wholes" "_law_wholes" A4a bX)
  {bY:Addr}
  (bL:nsIn K mainGlobals "_law_same"=some (some (.ref bY)))
  (bM:LkF K "_law_same" "_law_same" A6u bY)
  {bZ:Addr}
  (aO:nsIn K mainGlobals "law"=some (some (.ref bZ)))
  (aN:LkF K "law" "law" B5u bZ)
  {aF:Tok}
  (aB:nsIn K mainGlobals "NO_OUTER"=some (some (.int (-1) aF)))
  (aG:nsIn K mainGlobals "list"=some none)
  (aD:nsIn K mainGlobals "range"=some none)
  (aJ:nsIn K mainGlobals "min"=some none)
  (aE:nsIn K mainGlobals "tuple"=some none)
  (aK:nsIn K mainGlobals "len"=some none)
  (aA:nsIn K mainGlobals "isinstance"=some none)
  (aH:nsIn K mainGlobals "bool"=some none)
  (aL:nsIn K mainGlobals "int"=some none)
  (aI:nsIn K mainGlobals "dict"=some none)
  (aC:nsIn K mainGlobals "sorted"=some none)
  (aM:nsIn K mainGlobals "str"=some none)
  :∃fd:FuncData,(∀(s:Shared) (v:Value),BindsTo s fd ⟨[v],[]⟩ [("_law_script",v)])/\∀base:Heap,K.In base->base.Ns mainGlobals mg->A5r l.prog w K mg base CX0 85 fa fd ["_law_script"] (B5l K):=by
 have e:=hfa.symm.trans (Z0f X G aO);cases e;obtain ⟨d0,F0,b0,k0⟩:=A2n (ps:=["node"]) l0 (by walk_at "le");obtain ⟨d1,F1,b1,k1⟩:=A2n (ps:=["nest"]) l1 (by walk_at "le");obtain ⟨d2,F2,b2,k2⟩:=A2n (ps:=B8b) l2 (by walk_at "le");obtain ⟨d3,F3,b3,k3⟩:=A2n (ps:=B9r) l3 (by walk_at "le");obtain ⟨d4,F4,b4,k4⟩:=A2n (ps:=B9x) l4 (by walk_at "le");obtain ⟨d5,F5,b5,k5⟩:=A2n (ps:=["deed","counts"]) l5 (by walk_at "le");obtain ⟨d6,F6,b6,k6⟩:=A2n (ps:=C1a) l6 (by walk_at "le");obtain ⟨d7,F7,b7,k7⟩:=A2n (ps:=C1g) l7 (by walk_at "le");obtain ⟨d8,F8,b8,k8⟩:=A2n (ps:=["_law_found"]) l8 (by walk_at "le");obtain ⟨d9,F9,b9,k9⟩:=A2n (ps:=["_law_cell","_law_deep"]) l9 (by walk_at "le");obtain ⟨d10,F10,b10,k10⟩:=A2n (ps:=C0v) aQ (by walk_at "le");obtain ⟨d11,F11,b11,k11⟩:=A2n (ps:=B9y) aS (by walk_at "le");obtain ⟨d12,F12,b12,k12⟩:=A2n (ps:=C1c) aU (by walk_at "le");obtain ⟨d13,F13,b13,k13⟩:=A2n (ps:=C0a) aW (by walk_at "le");obtain ⟨d14,F14,b14,k14⟩:=A2n (ps:=C0g) aY (by walk_at "le");obtain ⟨d15,F15,b15,k15⟩:=A2n (ps:=["_law_heads"]) bA (by walk_at "le");obtain ⟨d16,F16,b16,k16⟩:=A2n (ps:=B1n) bC (by walk_at "le");obtain ⟨d17,F17,b17,k17⟩:=A2n (ps:=B1n) bE (by walk_at "le");obtain ⟨d18,F18,b18,k18⟩:=A2n (ps:=["_law_row"]) bG (by walk_at "le");obtain ⟨d19,F19,b19,k19⟩:=A2n (ps:=B7r) bI (by walk_at "le");obtain ⟨d20,F20,b20,k20⟩:=A2n (ps:=B1j) bK (by walk_at "le");obtain ⟨d21,F21,b21,k21⟩:=A2n (ps:=B1j) bM (by walk_at "le");obtain ⟨_,_,_,_,_,_,_,_,_,aN,c,k22⟩:=aN;have F22:=B6h (st:=B5u) aN c k22;have b22:=F22.binds (ps:=["_law_script"]) (by walk_at "le");exact ⟨_,λs v=> .of_eq rfl,λbase _ _=>B9h (t:=⟨f0,_,f1,_,f2,_,f3,_,f4,_,f5,_,f6,_,f7,_,f8,_,f9,_,bN,_,bO,_,bP,_,bQ,_,bR,_,bS,_,bT,_,bU,_,bV,_,bW,_,bX,_,bY,_,fa,_⟩) ⟨⟨F0,Z0f X G a0,b0⟩,⟨F1,Z0f X G a1,b1⟩,⟨F2,Z0f X G a2,b2⟩,⟨F3,Z0f X G a3,b3⟩,⟨F4,Z0f X G a4,b4⟩,⟨F5,Z0f X G a5,b5⟩,⟨F6,Z0f X G a6,b6⟩,⟨F7,Z0f X G a7,b7⟩,⟨F8,Z0f X G a8,b8⟩,⟨F9,Z0f X G a9,b9⟩,⟨F10,Z0f X G aP,b10⟩,⟨F11,Z0f X G aR,b11⟩,⟨F12,Z0f X G aT,b12⟩,⟨F13,Z0f X G aV,b13⟩,⟨F14,Z0f X G aX,b14⟩,⟨F15,Z0f X G aZ,b15⟩,⟨F16,Z0f X G bB,b16⟩,⟨F17,Z0f X G bD,b17⟩,⟨F18,Z0f X G bF,b18⟩,⟨F19,Z0f X G bH,b19⟩,⟨F20,Z0f X G bJ,b20⟩,⟨F21,Z0f X G bL,b21⟩,⟨F22,Z0f X G aO,b22⟩,⟨_,Z0f X G aB,⟨_,rfl⟩⟩,Z1c X G aG,Z1c X G aD,Z1c X G aJ,Z1c X G aE,Z1c X G aK,Z1c X G aA,Z1c X G aH,Z1c X G aL,Z1c X G aI,Z1c X G aC,Z1c X G aM⟩⟩
theorem walk {l:PySem.W.OpenLaw} {q:Program} {loose:List Str} {XP:(Str->Option Value)->Heap->Prop} {YP:World->Heap->Prop} {d:DefRec} {K:Params->Frag} (hn:l.most=some 63) (hdf:d.params.defaults=[])
  (hY:∀(w:World) (h:Heap),YP w h->(K w.params).In h)
  (F:∀(w:World) (mg:Str->Option Value) (fa:Addr) (h:Heap),(K w.params).In h->h.Ns mainGlobals mg->mg d.name=some (.ref fa)->
   ∃fd:FuncData,(∀(s:Shared) (u:Value),BindsTo s fd ⟨[u],[]⟩ [("_law_script",u)])/\∀base:Heap,(K w.params).In base->base.Ns mainGlobals mg->A5r l.prog w (K w.params) mg base CX0 85 fa fd ["_law_script"] (B5l (K w.params))) :
  PySem.W.WalkO q loose XP YP l.row.toRowW d [] (λf vs=>PySem.call f vs) :=
 L2.B5t (n:=63) (k:=85) (x:="_law_script") (CX:=λ_=>CX0) (sp:=λw=>B5l (K w.params)) hn (by decide) hdf ⟨rfl,by decide,by decide,rfl⟩ hY F (λ_ _ a ns hl hb hS=>⟨a,ns,rfl,hS,hl,hb,λ_=>rfl⟩) λ_ _ _ _ _ z=>z
end My
local macro_rules | `(tactic| walk_at "kf") => `(tactic| (refine' My.B9q ?l ?c ?k; (case l => k_is); (case c => k_is); (case k => k_is)))
open PySem PySem.W PyProof.Rows
set_option maxRecDepth 100000 in
set_option maxHeartbeats 0 in
theorem PySem.Challenge.cw_arrayloom_k43_the_order_of_a_nest_holds : PySem.Challenge.rw_arrayloom_k43_the_order_of_a_nest.Holds := by
 w_on;o_law;k_head;(case hw=>w_witness2)
 k_fill
 refine My.walk (l:=PySem.Challenge.rw_arrayloom_k43_the_order_of_a_nest) rfl rfl (λw h Y=>PySem.W.kIn_of Y) ?F
 case F =>
  intro w mg fa h KX G hmg;refine' My.B9m KX G hmg ?a0 ?l0 ?a1 ?l1 ?a2 ?l2 ?a3 ?l3 ?a4 ?l4 ?a5 ?l5 ?a6 ?l6 ?a7 ?l7 ?a8 ?l8 ?a9 ?l9 ?aP ?aQ ?aR ?aS ?aT ?aU ?aV ?aW ?aX ?aY ?aZ ?bA ?bB ?bC ?bD ?bE ?bF ?bG ?bH ?bI ?bJ ?bK ?bL ?bM ?aO ?aN ?aB ?aG ?aD ?aJ ?aE ?aK ?aA ?aH ?aL ?aI ?aC ?aM
  (case a0=>k_is);(case l0=>walk_at "kf")
  (case a1=>k_is);(case l1=>walk_at "kf")
  (case a2=>k_is);(case l2=>walk_at "kf")
  (case a3=>k_is);(case l3=>walk_at "kf")
  (case a4=>k_is);(case l4=>walk_at "kf")
  (case a5=>k_is);(case l5=>walk_at "kf")
  (case a6=>k_is);(case l6=>walk_at "kf")
  (case a7=>k_is);(case l7=>walk_at "kf")
  (case a8=>k_is);(case l8=>walk_at "kf")
  (case a9=>k_is);(case l9=>walk_at "kf")
  (case aP=>k_is);(case aQ=>walk_at "kf")
  (case aR=>k_is);(case aS=>walk_at "kf")
  (case aT=>k_is);(case aU=>walk_at "kf")
  (case aV=>k_is);(case aW=>walk_at "kf")
  (case aX=>k_is);(case aY=>walk_at "kf")
  (case aZ=>k_is);(case bA=>walk_at "kf")
  (case bB=>k_is);(case bC=>walk_at "kf")
  (case bD=>k_is);(case bE=>walk_at "kf")
  (case bF=>k_is);(case bG=>walk_at "kf")
  (case bH=>k_is);(case bI=>walk_at "kf")
  (case bJ=>k_is);(case bK=>walk_at "kf")
  (case bL=>k_is);(case bM=>walk_at "kf")
  (case aO=>k_is);(case aN=>walk_at "kf")
  (case aB | aG | aD | aJ | aE | aK | aA | aH | aL | aI | aC=>k_is)
  (case aM=>k_is)
