import PyProof.Rows.All
import Wide.All
import OpenK.AllK
import Wide.FinOn
import Lean
import PyProof.EqAt
import PyProof.EqKinds
import PyProof.TupleCall
import KE.KDictLaws
import KE.KDictList
import KE.KDictOf
import KE.KEqDict
import KE.KIntText
import KE.KTabLook
import KE.KTryMore
import KE.KUnpack
import PyProof.AttrMissHeap
import PyProof.AutoListH
import PyProof.CollectWalk
import PyProof.CompUse
import PyProof.ConsumeWalk
import PyProof.Conv_int_bool
import PyProof.DictItems
import PyProof.DictValues
import PyProof.DictWalks
import PyProof.Draws
import PyProof.EnumFor
import PyProof.EnumMake
import PyProof.EnumStmt
import PyProof.ExcClass3
import PyProof.ExcInit
import PyProof.FString4
import PyProof.FString5
import PyProof.FactsAll.list_3
import PyProof.FactsAll.set
import PyProof.FactsAll.subtypes_5
import PyProof.FactsAll.zip
import PyProof.NeKinds
import PyProof.P3Eq
import PyProof.RangeIter
import PyProof.ReprHeads
import PyProof.ReprLen
import PyProof.Rows.CatFin
import PyProof.Rows.ReprOcc
import PyProof.Rows.SeqMore2
import PyProof.Rows.SetFrom
import PyProof.Rows.SortKeyStr
import PyProof.Rows.SortRev
import PyProof.Rows.StrClose3
import PyProof.Rows.StrInSeq3
import PyProof.Rows.StrNews
import PyProof.Rows.StrNews2
import PyProof.Rows.StrPartPair
import PyProof.Rows.TupIter
import PyProof.SetKind
import PyProof.SetRoads
import PyProof.StrLawsIn
import PyProof.StrLawsLast
import PyProof.StrLawsRepr
import PyProof.StrLawsTight
import PyProof.StrWalks
import PyProof.SumAny
import PyProof.TupleKey
import PyProof.WalkInts
import PyProof.Walks
import PySem.Challenge.RW_arrayloom_k82_no_programs
set_option compiler.extract_closed false
section
open PySem PySem.Spec PyProof.Rows PySem.Calls
abbrev Z00:=@wpAny_bind
abbrev Z01:=@Heap.get?_push_of_some
abbrev Z02:=@List.mem_append_right
abbrev Z03:=@List.getElem?_eq_some_iff
abbrev Z04:=@wpAny_pure
abbrev Z05:=@List.mem_append_left
abbrev Z06:=@List.length_append
abbrev Z07:=@List.mem_append
abbrev Z08:=@List.length_map
abbrev Z09:=@Nat.le_refl
abbrev Z0a:=@Heap.lt_size
abbrev Z0b:=@List.getElem?_eq_getElem
abbrev Z0c:=@Heap.get?_push_size
abbrev Z0d:=@PyProof.Rows.boot_isinstance
abbrev Z0e:=@List.mem_cons
abbrev Z0f:=@PySem.W.mg_of
abbrev Z0g:=@List.size_toArray
abbrev Z0h:=@Nat.ne_of_lt
abbrev Z0i:=@Option.map_eq_some_iff
abbrev Z0j:=@List.length_singleton
abbrev Z0k:=@PySem.F.plainAttrs_list
abbrev Z0m:=@PyProof.Rows.boot_tuple
abbrev Z0n:=@PySem.F.slot_list_append
abbrev Z0o:=@PySem.F.type_list_append
abbrev Z0p:=@List.map_cons
abbrev Z0q:=@Nat.lt_of_lt_of_le
abbrev Z0r:=@PySem.boot_len
abbrev Z0s:=@List.map_append
abbrev Z0t:=@if_neg
abbrev Z0u:=@List.append_nil
abbrev Z0v:=@Bool.false_ne_true
abbrev Z0w:=@List.mem_singleton
abbrev Z0x:=@List.length_take
abbrev Z0y:=@List.length_cons
abbrev Z0z:=@List.append_assoc
abbrev Z10:=@wpAny_mono
abbrev Z11:=@wpAny_field
abbrev Z12:=@if_pos
abbrev Z13:=@List.mem_of_getElem?
abbrev Z14:=@List.take_add_one
abbrev Z15:=@List.nodup_cons
abbrev Z16:=@wpAny_newObj_type
abbrev Z17:=@List.cons_append
abbrev Z18:=@List.take_length
abbrev Z19:=@List.length_drop
abbrev Z1a:=@Option.some.inj
abbrev Z1b:=@wpAny_callSpecial?_slot
abbrev Z1c:=@PySem.W.mg_none_of
abbrev Z1d:=@Heap.get?_update_other
abbrev Z1e:=@Nat.zero_le
abbrev Z1f:=@List.mem_cons_of_mem
abbrev Z1i:=@List.not_mem_nil
abbrev Z1j:=@decide_eq_false
abbrev Z1k:=@wpAny_loadPart_at
abbrev Z1l:=@List.getElem?_append_right
abbrev Z1m:=@Array.getElem?_eq_some_iff
abbrev Z1n:=@Nat.le_trans
abbrev Z1o:=@PyProof.Rows.boot_list
abbrev Z1p:=@Int.emod_lt_of_pos
abbrev Z1r:=@Heap.get?_update_self
abbrev Z1s:=@Heap.size_push
abbrev Z1u:=@List.drop_eq_getElem_cons
abbrev Z1v:=@Int.emod_nonneg
abbrev Z1w:=@wpAny_holding
abbrev Z1x:=@Bool.and_eq_true
abbrev Z1y:=@wpAny_standAt
abbrev Z1z:=@List.getElem?_map
abbrev Z20:=@decide_eq_true
abbrev Z22:=@beq_eq_false_iff_ne
abbrev Z23:=@List.getElem?_set_self
abbrev Z26:=@List.getElem?_append_left
abbrev Z27:=@List.mem_cons_self
abbrev Z28:=@List.lookup_cons
abbrev Z2a:=@List.getElem?_set_ne
abbrev Z2b:=@wpAny_execs_nil
abbrev Z2c:=@List.mem_map
abbrev Z2d:=@Nat.lt_of_le_of_lt
abbrev Z2e:=@List.take_append_drop
abbrev Z2f:=@Option.toList_some
abbrev Z2g:=@List.length_nil
abbrev Z2h:=@List.find?_cons
abbrev Z2k:=@PyProof.Rows.slot_tuple_getitem
abbrev Z2l:=@List.take_of_length_le
abbrev Z2n:=@List.length_eq_zero_iff
abbrev Z2p:=@List.mem_of_mem_take
abbrev Z2q:=@PyProof.Rows.boot_dict
end
noncomputable section
open PySem.W (Frag findIn nsIn mroIn kitOne keepIn typeIn hideAll isFn plainGet isClsIn hasDictIn exmOne plainOver makesIn clsIn fnOf emptyDict instObj excIn kitAny takesIn specialIn subIn codeIn)
set_option Elab.async false
set_option bootstrap.genMatcherCode false
set_option linter.all false
set_option maxRecDepth 100000
set_option maxHeartbeats 4000000
namespace L2
open PySem PySem.Spec PyProof.Rows
abbrev Key:=Sum Int Str
def C1t:Key->Value->Bool
 | .inl k,v=>Value.isInt k v
 | .inr x,v=>Value.isStrOf x v
def keyH (w:World):Key->Int
 | .inl k=>hashInt k
 | .inr x=>hashStr w x
theorem A2m:∀{k:Key} {v:Value},C1t k v=true->(∃i t,k=Sum.inl i/\v=Value.int i t)\/(∃x t,k=Sum.inr x/\v=Value.str x t)
 | .inl i,v,h=>by
  obtain ⟨t,e⟩:=Value.isInt_shape (k:=i) (v:=v) h;exact .inl ⟨i,t,rfl,e⟩
 | .inr x,v,h=>by
  obtain ⟨t,e⟩:=Value.isStrOf_shape (x:=x) (v:=v) h;exact .inr ⟨x,t,rfl,e⟩
theorem C4s (i:Int) (t:Tok):C1t (.inl i) (.int i t)=true:=by simp [C1t,Value.isInt]
theorem C3a (x:Str) (t:Tok):C1t (.inr x) (.str x t)=true:=by simp [C1t,Value.isStrOf]
theorem D6z (a b:Int):decide ((Sum.inl a:Key)=Sum.inl b)=(a == b):=by
 by_cases e:a=b
 ·subst e;simp
 ·have h:¬(Sum.inl a:Key)=Sum.inl b:=λq=>e (Sum.inl.inj q);rw [Z1j h];exact (Z22.mpr e).symm
theorem D4c (a b:Str):decide ((Sum.inr a:Key)=Sum.inr b)=decide (a=b):=by
 by_cases e:a=b
 ·subst e;simp
 ·have h:¬(Sum.inr a:Key)=Sum.inr b:=λq=>e (Sum.inr.inj q);rw [Z1j h,Z1j e]
theorem D6e (a:Int) (b:Str):decide ((Sum.inl a:Key)=Sum.inr b)=false:=Z1j (λq=>nomatch q)
theorem D5f (a:Str) (b:Int):decide ((Sum.inr a:Key)=Sum.inl b)=false:=Z1j (λq=>nomatch q)
def A3o (prog:Program) (w:World):PySem.KeyKind prog w Key where
 is:=C1t
 hash:=keyH w
 inj:=λv a b ha hb=>by
  rcases A2m ha with ⟨i,t,rfl,rfl⟩ | ⟨x,t,rfl,rfl⟩
  ·rcases A2m hb with ⟨j,u,rfl,e⟩ | ⟨y,u,rfl,e⟩
   ·injection e with e1 _;rw [e1]
   ·exact nomatch e
  ·rcases A2m hb with ⟨j,u,rfl,e⟩ | ⟨y,u,rfl,e⟩
   ·exact nomatch e
   ·injection e with e1 _;rw [e1]
 byValue:=λk v h=>by
  rcases A2m h with ⟨i,t,rfl,rfl⟩ | ⟨x,t,rfl,rfl⟩ <;> rfl
 pyHash:=λhv h=>by
  rcases A2m hv with ⟨i,t,rfl,rfl⟩ | ⟨x,t,rfl,rfl⟩
  ·exact wpAny_pyHash_int h
  ·exact wpAny_pyHash_str h
 eqBool:=λhu hv h=>by
  rcases A2m hu with ⟨i,t,rfl,rfl⟩ | ⟨x,t,rfl,rfl⟩
  ·rcases A2m hv with ⟨j,u,rfl,rfl⟩ | ⟨y,u,rfl,rfl⟩
   ·rw [D6z] at h;exact wpAny_eqBool_int h
   ·rw [D6e] at h;exact SeqAt.EqAt.int_str i t y u _ _ _ _ h
  ·rcases A2m hv with ⟨j,u,rfl,rfl⟩ | ⟨y,u,rfl,rfl⟩
   ·rw [D5f] at h;exact SeqAt.EqAt.str_int x t j u _ _ _ _ h
   ·rw [D4c] at h;exact wpAny_eqBool_str h
 «strs»:=λk x t v h=>by
  rcases A2m h with ⟨i,u,rfl,e⟩ | ⟨y,u,rfl,e⟩
  ·exact nomatch e
  ·injection e with e1 _;subst e1;cases v <;> rfl
theorem B8o (prog:Program) (w:World) (i:Int) (t:Tok):(A3o prog w).is (.inl i) (.int i t)=true:=C4s i t
theorem B8i (prog:Program) (w:World) (x:Str) (t:Tok):(A3o prog w).is (.inr x) (.str x t)=true:=C3a x t
inductive V where
 | non | bl (b:Bool) | int (i:Int) | str (x:Str) | byt (b:Array UInt8) | flt (b:UInt64) | ref (a:Addr) | ty (n:String)
 deriving DecidableEq
def A2v:V->Value->Prop
 | .non,u=>u=Value.none
 | .bl b,u=>u=Value.bool b
 | .int i,u=>∃t,u=Value.int i t
 | .str x,u=>∃t,u=Value.str x t
 | .byt b,u=>∃t,u=Value.bytes b t
 | .flt b,u=>∃t,u=Value.float b t
 | .ref a,u=>u=Value.ref a
 | .ty n,u=>u=Value.type n
abbrev A3c:List V->List Value->Prop:=Paired A2v
theorem A3c.length {xs:List V} {us:List Value} (r:A3c xs us):xs.length=us.length:=Paired.length r
theorem A3c.get:∀{xs:List V} {us:List Value} {i:Nat} {x:V},A3c xs us->xs[i]? =some x->∃u,us[i]? =some u/\A2v x u
 | _,_,_,_,.nil,e=>by simp at e
 | _,_,0,_,.cons r _,e=>by simp at e;subst e;exact ⟨_,rfl,r⟩
 | _,_,i+1,x,.cons _ t,e=>by
  obtain ⟨u,h1,h2⟩:=A3c.get (i:=i) (x:=x) t (by simpa using e);exact ⟨u,by simpa using h1,h2⟩
theorem A3c.set {x:V} {u:Value} (r:A2v x u):∀{xs:List V} {us:List Value} (i:Nat),A3c xs us->A3c (xs.set i x) (us.set i u)
 | _,_,_,.nil=> .nil
 | _,_,0,.cons _ t=> .cons r t
 | _,_,i+1,.cons q t=> .cons q (A3c.set r i t)
theorem A3c.append:∀{xs ys:List V} {us ws:List Value},A3c xs us->A3c ys ws->A3c (xs++ys) (us++ws)
 | _,_,_,_,.nil,s=>s
 | _,_,_,_,.cons r t,s=> .cons r (A3c.append t s)
theorem A3c.take:∀{xs:List V} {us:List Value} (n:Nat),A3c xs us->A3c (xs.take n) (us.take n)
 | _,_,0,_=> .nil
 | _,_,_+1,.nil=> .nil
 | _,_,n+1,.cons r t=> .cons r (A3c.take n t)
theorem A3c.drop:∀{xs:List V} {us:List Value} (n:Nat),A3c xs us->A3c (xs.drop n) (us.drop n)
 | _,_,0,r=>r
 | _,_,_+1,.nil=> .nil
 | _,_,n+1,.cons _ t=>A3c.drop n t
def B7v:Option V->Option Value->Prop
 | some v,some u=>A2v v u
 | none,none=>True
 | _,_=>False
def KV {κ:Type}:List (κ×V)->List (κ×Value)->Prop:=Paired λ(p:κ×V) (q:κ×Value)=>p.1=q.1/\A2v p.2 q.2
def kV:Key->V
 | .inl i=> .int i
 | .inr x=> .str x
inductive HO where
 | lst (xs:List V)
 | tup (xs:List V)
 | dK (kvs:List (Key×V)) | dT (kvs:List (List Key×V))
 | set (S:Int->Bool) (n:Nat)
 | ins (C dx:Addr) (fs:List (Str×V))
 | own (x:Addr)
 | xd (fs:List (Str×V))
 | met (f x:Addr)
 | rng (lo hi:Int)
 | frz (o:Obj) (u:HO)
 | tbl (ps:Array Value)
 | ext (φ:Heap->Prop)
abbrev Hp:=Addr->Option HO
def upd (H:Hp) (a:Addr) (o:HO):Hp:=λb=>if b=a then some o else H b
theorem A0c {H:Hp} {a:Addr} {o:HO}:upd H a o a=some o:=by unfold upd;rw [Z12 rfl]
theorem A0l {H:Hp} {a b:Addr} {o:HO} (h:b≠a):upd H a o b=H b:=by unfold upd;rw [Z0t h]
theorem A7a {H:Hp} {a:Addr} {o u:HO}:upd (upd H a o) a u=upd H a u:=by
 funext b;unfold upd;split <;> rfl
theorem A3q {H:Hp} {a b:Addr} {o u:HO} (h:H a=some o) (h':H b=some u) (d:o≠u):a≠b:=by
 intro e;subst e;rw [h] at h';exact d (Z1a h')
theorem A0r {H:Hp} {a b:Addr} {o:HO} (h:H a=some o) (h':H b=none):a≠b:=by
 intro e;subst e;rw [h] at h';cases h'
section
variable (P:Program) (w:World)
def A3m (H:Hp) (h:Heap) (a:Addr):HO->Prop
 | .lst xs=>xs.length<=sizeLine/\∃(its:List Value) (n:Nat),A3c xs its/\h.get? a=some { cls:= .type "list",data:= .seq its.toArray n }
 | .tup xs=>xs.length<=sizeLine/\∃its:List Value,A3c xs its/\IsTup h a its.toArray
 | .dK kvs=>kvs.length<=sizeLine/\(a == sysModules)=false/\∃vs,KV kvs vs/\h.DictOf (A3o P w) a vs
 | .dT kvs=>kvs.length<=sizeLine/\(a == sysModules)=false/\∃xs:List (List Key×Addr×Value),
   Paired (λ(p:List Key×V) (q:List Key×Addr×Value)=>p.1=q.1/\H q.2.1=some (.tup (p.1.map kV))/\A2v p.2 q.2.2) kvs xs/\
   ∃o es ep,h.get? a=some o/\o.ExactDict/\o.data= .dict es ep/\es.toList=xs.map (entryOfKey (tupleKind (A3o P w)))/\(xs.map (·.1)).Nodup
 | .set S n=>h.SetOf (intKind P w) a S n
 | .ins C dx fs=>H dx=some (.own a)/\fs.length<=1000/\dx≠a/\h.get? a=some (instObj C dx)/\
   ∃mA,h.Ns1 dx mA/\(∀f,B7v (fs.lookup f) (mA f))/\PySem.Within mA (fs.map (·.1))
 | .own _=>∃o,h.get? a=some o
 | .xd fs=>∃mA,h.Ns1 a mA/\∀f,B7v (fs.lookup f) (mA f)
 | .rng lo hi=>∃t u v,h.get? a=some { cls:= .type "range",data:= .fields #[.int lo t,.int hi u,.int 1 v] }
 | .frz o u=>h.get? a=some o/\A3m H h a u
 | .tbl ps=>h.get? a=some { cls:= .none,data:= .fields ps }
 | .met f x=>h.get? a=some (PySem.W.methodObj (.ref f) (.ref x))
 | .ext φ=>φ h/\(∃o,h.get? a=some o)/\∀h1 h2:Heap,φ h1->(∀o,h1.get? a=some o->h2.get? a=some o)->φ h2
def HOk (H:Hp) (h:Heap):Prop:=∀a o,H a=some o->A3m P w H h a o
end
section
variable {P:Program} {w:World} {H H':Hp} {h h':Heap} {a:Addr} {o:HO}
theorem A3m.lt (x:A3m P w H h a o):a<h.objs.size:=by
 cases o with
 | lst xs=>obtain ⟨_,_,_,_,e⟩:=x;exact Z0a e
 | tup xs=>obtain ⟨_,_,_,p⟩:=x;exact p.lt
 | dK kvs=>obtain ⟨_,_,_,_,o,_,_,e,_⟩:=x;exact Z0a e
 | dT kvs=>obtain ⟨_,_,_,_,o,_,_,e,_⟩:=x;exact Z0a e
 | set S n=>obtain ⟨o,_,_,_,e,_⟩:=x;exact Z0a e
 | ins C dx fs=>obtain ⟨_,_,_,e,_⟩:=x;exact Z0a e
 | own y=>obtain ⟨_,e⟩:=x;exact Z0a e
 | xd fs=>obtain ⟨_,⟨_,_,_,e,_⟩,_⟩:=x;exact Z0a e
 | rng lo hi=>obtain ⟨_,_,_,e⟩:=x;exact Z0a e
 | frz ob u=>obtain ⟨e,_⟩:=x;exact Z0a e
 | tbl ps=>exact Z0a (show h.get? a=some _ from x)
 | met f y=>exact Z0a (show h.get? a=some _ from x)
 | ext φ=>obtain ⟨_,⟨_,e⟩,_⟩:=x;exact Z0a e
theorem Paired.mapP {α β:Type} {F G:α->β->Prop}:∀{l₁:List α} {l₂:List β},Paired F l₁ l₂->(∀a b,F a b->G a b)->Paired G l₁ l₂
 | _,_,.nil,_=> .nil
 | _,_,.cons r t,f=> .cons (f _ _ r) (Paired.mapP t f)
theorem A3m.stay (x:A3m P w H h a o) (k:∀b u,(b=a\/H b=some (.own a))->h.get? b=some u->h'.get? b=some u)
  (ho:∀b,H b=some (.own a)->H' b=some (.own a)) (ht:∀b xs,H b=some (.tup xs)->H' b=some (.tup xs)):A3m P w H' h' a o:=by
 induction o with
 | lst xs=>obtain ⟨z,its,n,r,e⟩:=x;exact ⟨z,its,n,r,k _ _ (.inl rfl) e⟩
 | tup xs=>obtain ⟨z,its,r,ob,e,c⟩:=x;exact ⟨z,its,r,ob,k _ _ (.inl rfl) e,c⟩
 | dK kvs=>obtain ⟨z,y,vs,r,ob,es,ep,e,c⟩:=x;exact ⟨z,y,vs,r,ob,es,ep,k _ _ (.inl rfl) e,c⟩
 | dT kvs =>
  obtain ⟨z,y,xs,r,ob,es,ep,e,c⟩:=x;exact ⟨z,y,xs,Paired.mapP r λp q z=>⟨z.1,ht _ _ z.2.1,z.2.2⟩,ob,es,ep,k _ _ (.inl rfl) e,c⟩
 | set S n=>obtain ⟨ob,es,ep,t,e,c⟩:=x;exact ⟨ob,es,ep,t,k _ _ (.inl rfl) e,c⟩
 | ins C dx fs =>
  obtain ⟨d,z,ne,e,mA,⟨od,es,ep,e2,c⟩,r⟩:=x;exact ⟨ho _ d,z,ne,k _ _ (.inl rfl) e,mA,⟨od,es,ep,k _ _ (.inr d) e2,c⟩,r⟩
 | own y=>obtain ⟨ob,e⟩:=x;exact ⟨ob,k _ _ (.inl rfl) e⟩
 | xd fs=>obtain ⟨mA,⟨od,es,ep,e,c⟩,r⟩:=x;exact ⟨mA,⟨od,es,ep,k _ _ (.inl rfl) e,c⟩,r⟩
 | rng lo hi=>obtain ⟨t,u,v,e⟩:=x;exact ⟨t,u,v,k _ _ (.inl rfl) e⟩
 | frz ob u ih=>obtain ⟨e,q⟩:=x;exact ⟨k _ _ (.inl rfl) e,ih q⟩
 | tbl ps =>
  have e:h.get? a=some { cls:= .none,data:= .fields ps }:=x;show h'.get? a=some { cls:= .none,data:= .fields ps };exact k a _ (.inl rfl) e
 | met f y =>
  have e:h.get? a=some (PySem.W.methodObj (.ref f) (.ref y)):=x;show h'.get? a=some (PySem.W.methodObj (.ref f) (.ref y));exact k a _ (.inl rfl) e
 | ext φ=>obtain ⟨p,⟨o,e⟩,st⟩:=x;exact ⟨st _ _ p λo q=>k _ _ (.inl rfl) q,⟨o,k _ _ (.inl rfl) e⟩,st⟩
theorem HOk.lt (x:HOk P w H h) (e:H a=some o):a<h.objs.size:=(x a o e).lt
theorem HOk.fresh (x:HOk P w H h) (e:h.objs.size<=a):H a=none:=by
 cases q:H a with
 | none=>rfl
 | some u=>exact absurd (Z0q (x.lt q) e) (Nat.lt_irrefl _)
theorem HOk.kept (x:HOk P w H h) (k:∀b u,h.get? b=some u->h'.get? b=some u):HOk P w H h':=λa o e =>
 (x a o e).stay (λb u _ q=>k b u q) (λ_ q=>q) λ_ _ q=>q
theorem HOk.laid (x:HOk P w H h) (k:∀b u,h.get? b=some u->h'.get? b=some u) (hp:h.objs.size<=a) (new:A3m P w (upd H a o) h' a o):HOk P w (upd H a o) h':=λb u e=>by
 have hn:=x.fresh hp;by_cases hb:b=a
 ·subst hb;rw [A0c] at e;cases e;exact new
 ·rw [A0l hb] at e;exact (x b u e).stay (λc v _ q=>k c v q) (λc q=>by rw [A0l (A0r q hn)];exact q) λc xs q=>by rw [A0l (A0r q hn)];exact q
end
def Rd (H:Hp) (a:Addr) (u:HO):Prop:=H a=some u\/∃o,H a=some (.frz o u)
theorem Rd.ok {P:Program} {w:World} {H:Hp} {h:Heap} {a:Addr} {u:HO} (r:Rd H a u) (x:HOk P w H h):A3m P w H h a u:=by
 rcases r with r | ⟨o,r⟩
 ·exact x a u r
 ·obtain ⟨_,q⟩:=x a _ r;exact q
def Mut:Option HO->Prop
 | some (.lst _)=>True
 | some (.dK _)=>True
 | some (.dT _)=>True
 | some (.set _ _)=>True
 | some (.ins _ _ _)=>True
 | some (.ext _)=>True
 | _=>False
section
variable {P:Program} {w:World} {H:Hp} {h h':Heap} {x e:Addr} {o':HO}
theorem HOk.write (ok:HOk P w H h) (mu:Mut (H x)) (he:e=x\/H e=some (.own x)) (k:∀b u,b≠e->h.get? b=some u->h'.get? b=some u) (heo:∃u,h'.get? e=some u)
  (new:A3m P w (upd H x o') h' x o'):HOk P w (upd H x o') h':=λb u q=>by
 have nown:∀c y,H c=some (.own y)->c≠x:=λc y r z=>by subst z;rw [r] at mu;exact mu
 have ntup:∀c xs,H c=some (.tup xs)->c≠x:=λc xs r z=>by subst z;rw [r] at mu;exact mu
 by_cases hb:b=x
 ·subst hb;rw [A0c] at q;cases q;exact new
 ·rw [A0l hb] at q;by_cases hbe:b=e
  ·have q':H b=some (.own x):=by
    rcases he with z | z
    ·exact absurd (hbe.trans z) hb
    ·rw [hbe];exact z
   rw [q] at q';cases q';obtain ⟨v,hv⟩:=heo;exact ⟨v,by rw [hbe];exact hv⟩
  ·refine (ok b u q).stay (λc v hc r=>k c v ?_ r) (λc r=>by rw [A0l (nown c b r)];exact r) λc xs r=>by rw [A0l (ntup c xs r)];exact r
   rcases hc with rfl | hc
   ·exact hbe
   ·rintro rfl;rcases he with z | z
    ·exact nown c b hc z
    ·rw [hc] at z;cases z;exact hb rfl
end
structure Un (fs ex:List Addr) (H H':Hp) (h h':Heap):Prop where
 keep:∀b o,h.get? b=some o->H b=none->b∉fs->b∉ex->h'.get? b=some o
 slot:∀b o,h.get? b=some o->H b=none->b∈fs->b∉ex->∃sl,h'.get? b=some { o with slots:=sl }
 free:∀b o,h.get? b=some o->H b=none->b∉ex->H' b=none
 there:∀b o,h.get? b=some o->b∉ex->∃o',h'.get? b=some o'
 tups:∀b xs,H b=some (.tup xs)->H' b=some (.tup xs)
 frzs:∀b o u,H b=some (.frz o u)->H' b=some (.frz o u)
 tbls:∀b ps,H b=some (.tbl ps)->∃more,H' b=some (.tbl (ps++more))
section
variable {fs fs' ex ex':List Addr} {H H1 H2:Hp} {h h1 h2 h':Heap} {a x e:Addr} {o:HO}
theorem Un.any (u:Un fs ex H H1 h h1) {b:Addr} {ob:Obj} (q:h.get? b=some ob) (n:H b=none) (hx:b∉ex):∃sl,h1.get? b=some { ob with slots:=sl }:=by
 by_cases hb:b∈fs
 ·exact u.slot b ob q n hb hx
 ·exact ⟨ob.slots,u.keep b ob q n hb hx⟩
theorem Un.kept (k:∀b u,h.get? b=some u->h'.get? b=some u):Un fs ex H H h h' :=
 ⟨λb ob q _ _ _=>k b ob q,λb ob q _ _ _=>⟨ob.slots,k b ob q⟩,λ_ _ _ n _=>n,λb ob q _=>⟨ob,k b ob q⟩,λ_ _ q=>q,λ_ _ _ q=>q,λ_ ps q=>⟨#[],by rw [q];simp⟩⟩
theorem Un.refl:Un fs ex H H h h:=Un.kept λ_ _ q=>q
theorem Un.laid (k:∀b u,h.get? b=some u->h'.get? b=some u) (hp:h.objs.size<=a) (hn:H a=none):Un fs ex H (upd H a o) h h' where
 keep:=λb u q _ _ _=>k b u q
 slot:=λb u q _ _ _=>⟨u.slots,k b u q⟩
 free:=λb u q n _=>by rw [A0l (Z0h (Z0q (Z0a q) hp))];exact n
 there:=λb u q _=>⟨u,k b u q⟩
 tups:=λb xs q=>by rw [A0l (A0r q hn)];exact q
 frzs:=λb u xs q=>by rw [A0l (A0r q hn)];exact q
 tbls:=λb ps q=>⟨#[],by rw [A0l (A0r q hn),q];simp⟩
theorem Un.write (mu:Mut (H x)) (he:e=x\/H e=some (.own x)) (k:∀b u,b≠e->h.get? b=some u->h'.get? b=some u) (heo:∃u,h'.get? e=some u):Un fs ex H (upd H x o) h h':=by
 have hx:∀b,H b=none->b≠x:=λb n z=>by subst z;rw [n] at mu;exact mu
 have hb:∀b,H b=none->b≠e:=λb n z=>by
  subst z;rcases he with r | r
  ·exact hx b n r
  ·rw [n] at r;cases r
 have hm:∀b u,H b=some u->¬Mut (some u)->b≠x:=λb u q nm z=>by subst z;rw [q] at mu;exact nm mu
 refine ⟨λb u q n _ _=>k b u (hb b n) q,λb u q n _ _=>⟨u.slots,k b u (hb b n) q⟩,λb u q n _=>by rw [A0l (hx b n)];exact n,λb u q _=> ?_,
  λb xs q=>by rw [A0l (hm b _ q λz=>z)];exact q,λb u xs q=>by rw [A0l (hm b _ q λz=>z)];exact q,λb ps q=>⟨#[],by rw [A0l (hm b _ q λz=>z),q];simp⟩⟩
 by_cases hbe:b=e
 ·subst hbe;exact heo
 ·exact ⟨u,k b u hbe q⟩
end
def trk (h:Heap) (H:Hp):List Addr:=(List.range h.objs.size).filter λa=>(H a).isSome
def C7v (h:Heap) (H:Hp):Heap:=hideAll h (trk h H)
theorem C5s (h:Heap) (H:Hp):(C7v h H).objs.size=h.objs.size:=PySem.W.hideAll_size _ _
theorem C6q {h:Heap} {H:Hp} {b:Addr} {o:Obj} (e:h.get? b=some o) (n:H b=none):(C7v h H).get? b=some o :=
 PySem.W.hideAll_get _ e λhm=>by
  have q:(H b).isSome=true:=(List.mem_filter.mp hm).2;rw [n] at q;simp at q
theorem D0y {h:Heap} {H:Hp} {b:Addr} {o:Obj} (e:(C7v h H).get? b=some o):h.get? b=some o/\H b=none:=by
 have e':h.get? b=some o:=PySem.W.of_hideAll (trk h H) e;refine ⟨e',?_⟩
 cases q:H b with
 | none=>rfl
 | some x =>
  have hm:b∈trk h H:=List.mem_filter.mpr ⟨List.mem_range.mpr (Z0a e'),by simp [q]⟩;have z:(C7v h H).get? b=none:=PySem.W.hideAll_none (trk h H) hm;rw [z] at e;cases e
structure Mod (K:Frag) (mg:Str->Option Value) (base:Heap):Prop where
 kin:K.In base
 glob:base.Ns mainGlobals mg
 blt:∃mb,base.Ns builtinsNs mb/\∀x:Str,x≠"__name__"->mb x=bootBuiltins x
 nolimit:base.NoLimit
structure Cx where
 prog:Program
 w:World
 K:Frag
 mg:Str->Option Value
 base:Heap
 A:Around
 N:List Str
 s₀:Shared
 H₀:Hp
 env:Env
 outer:List Env
 stack:List Env
 ex:List Addr
 fn:Str->Bool
 calm:Bool
 pn:List (Addr×Obj)
 xe:Value->Shared->Prop
def frs (l:List Env):List Addr:=l.filterMap (·.frame)
abbrev Cx.fs (X:Cx):List Addr:=frs X.outer
def Vis (sc:Scope) (x:Str):Prop:=sc.names.lookup x=some .local\/sc.names.lookup x=some .cell\/sc.names.lookup x=some .free
def Loc (sc:Scope) (x:Str):Prop:=sc.names.lookup x=some .local\/sc.names.lookup x=some .cell
def Look (env:Env) (h:Heap) (m:Str->Option Value) (x:Str) (u:Value):Prop :=
 (env.kindOf x=some .local/\m x=some u)\/((env.kindOf x=some .cell\/env.kindOf x=some .free)/\∃c,env.cells.lookup x=some c/\h.IsCell c (some u))
structure Cx.Ok (X:Cx):Prop where
 mod:Mod X.K X.mg X.base
 kind:X.env.scope.kind= .function
 glob:X.env.globals=mainGlobals
 blt:X.env.builtins=builtinsNs
 above:X.s₀.heap.objs.size<=X.env.locals
 inj:∀x y c,X.env.cells.lookup x=some c->X.env.cells.lookup y=some c->x=y
 has:∀x,(X.env.kindOf x=some .cell\/X.env.kindOf x=some .free)->∃c,X.env.cells.lookup x=some c
 cab:∀x c,X.fn x=true->X.env.cells.lookup x=some c->X.s₀.heap.objs.size<=c
 hd:X.calm=true->X.A.handled=none
 frames:X.A.frames=some X.stack
 stk:X.stack=X.outer\/(X.stack=X.env::X.outer/\X.env.frame=some X.env.locals)
 exf:∀b∈X.ex,b≠X.env.locals/\∀x c,X.env.cells.lookup x=some c->c≠b
 bs:∀b o,X.base.get? b=some o->X.s₀.heap.get? b=some o/\X.H₀ b=none
 bsz:X.base.objs.size<=X.s₀.heap.objs.size
 noex:∀b o,X.base.get? b=some o->b∉X.ex
 exfs:∀b∈X.ex,b∉X.fs
 funs:X.s₀.heap.FunFrames X.base X.outer
 frf:∀b∈X.fs,X.H₀ b=none
structure Inv (X:Cx) (pins:List (Addr×Obj)) (σ:List (Option V)) (H:Hp) (s:Shared):Prop where
 ok:X.Ok
 os:s.os=X.s₀.os
 bare:AllBare s.gens
 base:Un X.fs X.ex X.H₀ H X.s₀.heap s.heap
 loc:∃m,s.heap.Ns X.env.locals m/\∀(i:Nat) (x:Str) (v:V),X.N[i]? =some x->σ[i]? =some (some v)->Vis X.env.scope x->∃u,A2v v u/\Look X.env s.heap m x u
 cell:∀x c,X.env.cells.lookup x=some c->∃v,s.heap.IsCell c v
 free:H X.env.locals=none
 freeC:∀x c,X.env.cells.lookup x=some c->H c=none
 pin:∀p∈X.pn++pins,s.heap.get? p.1=some p.2/\H p.1=none/\p.1≠X.env.locals/\p.1∉X.fs/\∀v,p.2.data≠.cell v
 hok:HOk X.prog X.w H s.heap
 len:σ.length=X.N.length
section
variable {X:Cx} {pins:List (Addr×Obj)} {σ:List (Option V)} {H H':Hp} {s:Shared} {h':Heap}
theorem Cx.Ok.nofr (ok:X.Ok) {b:Addr} {o:Obj} (e:X.base.get? b=some o):b∉X.fs:=λhb=>by
 have:=(ok.funs.mem hb).1;rw [e] at this;cases this
theorem Inv.bs (I:Inv X pins σ H s):∀b o,X.base.get? b=some o->s.heap.get? b=some o/\H b=none:=λb o e =>
 ⟨I.base.keep b o (I.ok.bs b o e).1 (I.ok.bs b o e).2 (I.ok.nofr e) (I.ok.noex b o e),I.base.free b o (I.ok.bs b o e).1 (I.ok.bs b o e).2 (I.ok.noex b o e)⟩
theorem Inv.bk (I:Inv X pins σ H s):∀b o,X.base.get? b=some o->s.heap.get? b=some o:=λb o e=>(I.bs b o e).1
theorem Inv.mod (I:Inv X pins σ H s):Mod X.K X.mg X.base:=I.ok.mod
theorem Inv.kIn (I:Inv X pins σ H s):X.K.In s.heap:=I.ok.mod.kin.keeps I.bk
theorem Inv.lt (I:Inv X pins σ H s):X.env.locals<s.heap.objs.size:=let ⟨_,hn,_⟩:=I.loc;hn.lt
theorem Inv.sz (I:Inv X pins σ H s):X.s₀.heap.objs.size<=s.heap.objs.size:=Z1n I.ok.above (Nat.le_of_lt I.lt)
theorem Inv.nofs (I:Inv X pins σ H s) {a:Addr} (h:s.heap.objs.size<=a):a∉X.fs:=λhb=>by
 obtain ⟨_,o,ho,_⟩:=I.ok.funs.mem hb;exact absurd (Z0q (Z0a ho) (Z1n I.sz h)) (Nat.lt_irrefl _)
theorem Inv.cne (I:Inv X pins σ H s):∀x c,X.env.cells.lookup x=some c->c≠X.env.locals:=λx c e z=>by
 obtain ⟨v,o,ho,hd⟩:=I.cell x c e;obtain ⟨m,⟨o',es,ep,ho',hd',_⟩,_⟩:=I.loc;rw [z,ho'] at ho;cases ho;rw [hd'] at hd;cases hd
theorem Inv.funs (I:Inv X pins σ H s):s.heap.FunFrames X.base X.outer:=by
 have all:∀(l:List Env),(∀b∈frs l,b∈X.fs)->X.s₀.heap.FunFrames X.base l->s.heap.FunFrames X.base l:=by
  intro l
  induction l with
  | nil=>intro _ _;trivial
  | cons env r ih =>
   intro hs hl;obtain ⟨hk,⟨L,o,hf,hn,ho,hd⟩,hr⟩:=hl;have hL:L∈X.fs:=hs L (by unfold frs;rw [List.filterMap_cons,hf];exact Z27);obtain ⟨sl,e⟩:=I.base.slot L o ho (I.ok.frf L hL) hL λz=>I.ok.exfs L z hL;exact ⟨hk,⟨L,_,hf,hn,e,hd⟩,ih (λb hb=>hs b (by unfold frs;rw [List.filterMap_cons,hf];exact Z1f _ hb)) hr⟩
 exact all X.outer (λ_ hb=>hb) I.ok.funs
theorem Inv.stack (I:Inv X pins σ H s):s.heap.FunFrames X.base X.stack:=by
 rcases I.ok.stk with e | ⟨e,hf⟩
 ·rw [e];exact I.funs
 ·rw [e];obtain ⟨m,hn,_⟩:=I.loc;refine .cons (by rw [I.ok.kind];decide) hf hn ?_ I.funs;exact Heap.get?_none_of_le (Z1n I.ok.bsz I.ok.above)
theorem Inv.stkSub (I:Inv X pins σ H s):∀b∈frs X.stack,b∈X.env.locals::X.fs:=λb hb=>by
 rcases I.ok.stk with e | ⟨e,hf⟩
 ·rw [e] at hb;exact Z1f _ hb
 ·rw [e] at hb;unfold frs at hb;rw [List.filterMap_cons,hf] at hb;exact hb
theorem Inv.stkFree (I:Inv X pins σ H s):∀b∈frs X.stack,H b=none:=λb hb=>by
 rcases Z0e.mp (I.stkSub b hb) with e | hb
 ·rw [e];exact I.free
 ·obtain ⟨_,o,ho,_⟩:=I.ok.funs.mem hb;exact I.base.free b o ho (I.ok.frf b hb) λz=>I.ok.exfs b z hb
theorem Inv.step {g':Array GenState} {t':Nat} {d':Drawn} {ch:List Addr} (I:Inv X pins σ H s)
  (hch:∀b∈ch,(b∈X.ex\/X.s₀.heap.objs.size<=b)/\b≠X.env.locals/\(∀x c,X.env.cells.lookup x=some c->c≠b)/\∀p∈X.pn++pins,p.1≠b)
  (keep:∀b o,b≠X.env.locals->b∉X.fs->b∉ch->s.heap.get? b=some o->H b=none->h'.get? b=some o)
  (slot:∀b o,b≠X.env.locals->b∈X.fs->b∉ch->s.heap.get? b=some o->H b=none->∃sl,h'.get? b=some { o with slots:=sl }) (free:∀b o,b∉ch->s.heap.get? b=some o->H b=none->H' b=none)
  (there:∀b o,b∉ch->s.heap.get? b=some o->∃o',h'.get? b=some o')
  (tups:∀b xs,H b=some (.tup xs)->H' b=some (.tup xs)) (frzs:∀b o u,H b=some (.frz o u)->H' b=some (.frz o u)) (tbls:∀b ps,H b=some (.tbl ps)->∃more,H' b=some (.tbl (ps++more)))
  (ns:∀m,s.heap.Ns X.env.locals m->h'.Ns X.env.locals m) (hok:HOk X.prog X.w H' h') (hg:AllBare g') :
  Inv X pins σ H' { s with heap:=h',gens:=g',drawn:=d',toks:=t' }:=by
 have neL:∀b o,X.s₀.heap.get? b=some o->b≠X.env.locals:=λb o e=>Z0h (Z0q (Z0a e) I.ok.above)
 have neC:∀b o,X.s₀.heap.get? b=some o->b∉X.ex->b∉ch:=λb o e hx hb=>by
  rcases (hch b hb).1 with z | z
  ·exact hx z
  ·exact absurd (Z0q (Z0a e) z) (Nat.lt_irrefl _)
 have cellK:∀x c,X.env.cells.lookup x=some c->∀v,s.heap.IsCell c v->h'.IsCell c v:=λx c e v ⟨o,ho,hd⟩=>by
  have nch:c∉ch:=λz=>(hch c z).2.2.1 x c e rfl;by_cases hc:c∈X.fs
  ·obtain ⟨sl,q⟩:=slot c o (I.cne x c e) hc nch ho (I.freeC x c e);exact ⟨_,q,hd⟩
  ·exact ⟨o,keep c o (I.cne x c e) hc nch ho (I.freeC x c e),hd⟩
 refine ⟨I.ok,I.os,hg,⟨λb o e n hb hx=> ?_,λb o e n hb hx=> ?_,λb o e n hx=> ?_,λb o e hx=> ?_,λb xs e=>tups b xs (I.base.tups b xs e),λb o xs e=>frzs b o xs (I.base.frzs b o xs e),λb ps e=> ?_⟩,?_,λx c e=> ?_,?_,λx c e=> ?_,λp hp=> ?_,hok,I.len⟩
 ·exact keep b o (neL b o e) hb (neC b o e hx) (I.base.keep b o e n hb hx) (I.base.free b o e n hx)
 ·obtain ⟨sl,e1⟩:=I.base.slot b o e n hb hx;obtain ⟨sl',e2⟩:=slot b _ (neL b o e) hb (neC b o e hx) e1 (I.base.free b o e n hx);exact ⟨sl',e2⟩
 ·obtain ⟨o',e1⟩:=I.base.there b o e hx;exact free b o' (neC b o e hx) e1 (I.base.free b o e n hx)
 ·obtain ⟨o',e1⟩:=I.base.there b o e hx;exact there b o' (neC b o e hx) e1
 ·obtain ⟨m1,e1⟩:=I.base.tbls b ps e;obtain ⟨m2,e2⟩:=tbls b _ e1;exact ⟨m1++m2,by rw [e2,Array.append_assoc]⟩
 ·obtain ⟨m,hn,hl⟩:=I.loc;refine ⟨m,ns m hn,λi x v e1 e2 e3=> ?_⟩;obtain ⟨u,r,l⟩:=hl i x v e1 e2 e3;refine ⟨u,r,?_⟩;rcases l with l | ⟨k,c,e,z⟩
  ·exact .inl l
  ·exact .inr ⟨k,c,e,cellK x c e _ z⟩
 ·obtain ⟨v,z⟩:=I.cell x c e;exact ⟨v,cellK x c e v z⟩
 ·obtain ⟨m,⟨o,_,_,ho,_⟩,_⟩:=I.loc;exact free _ o (λz=>(hch _ z).2.1 rfl) ho I.free
 ·obtain ⟨v,o,ho,hd⟩:=I.cell x c e;exact free c o (λz=>(hch c z).2.2.1 x c e rfl) ho (I.freeC x c e)
 ·obtain ⟨e,n,ne,nf,d⟩:=I.pin p hp;have nch:p.1∉ch:=λz=>(hch p.1 z).2.2.2 p hp rfl;exact ⟨keep p.1 p.2 ne nf nch e n,free p.1 p.2 nch e n,ne,nf,d⟩
theorem Inv.un {t':Nat} (I:Inv X pins σ H s) (u:Un X.fs [] H H' s.heap h') (hok:HOk X.prog X.w H' h'):Inv X pins σ H' { s with heap:=h',toks:=t' }:=by
 obtain ⟨m,⟨o,es,ep,ho,r⟩,_⟩:=id I.loc;obtain ⟨sl,hL⟩:=u.any ho I.free (by simp)
 exact I.step (g':=s.gens) (d':=s.drawn) (ch:=[]) (λ_ z=>nomatch z) (λb o _ hb _ e n=>u.keep b o e n hb (by simp)) (λb o _ hb _ e n=>u.slot b o e n hb (by simp)) (λb o _ e n=>u.free b o e n (by simp)) (λb o _ e=>u.there b o e (by simp)) u.tups u.frzs u.tbls (λm' hm=>by
  obtain ⟨o',es',ep',ho',r'⟩:=hm;rw [ho] at ho';cases ho'
  exact ⟨_,es',ep',hL,r'⟩) hok I.bare
theorem Inv.call {g':Array GenState} {t':Nat} {d':Drawn} {ch:List Addr} (I:Inv X pins σ H s) (u:Un (frs X.stack) ch H H' s.heap h') (hok:HOk X.prog X.w H' h') (hg:AllBare g')
  (hch:∀b∈ch,(b∈X.ex\/X.s₀.heap.objs.size<=b)/\b≠X.env.locals/\(∀x c,X.env.cells.lookup x=some c->c≠b)/\∀p∈X.pn++pins,p.1≠b) :
  Inv X pins σ H' { s with heap:=h',gens:=g',drawn:=d',toks:=t' }:=by
 obtain ⟨m,⟨o,es,ep,ho,r⟩,_⟩:=id I.loc;obtain ⟨sl,hL⟩:=u.any ho I.free λz=>(hch _ z).2.1 rfl
 exact I.step (ch:=ch) hch (λb o hL hb hc e n=>u.keep b o e n (λz=>(Z0e.mp (I.stkSub b z)).elim hL hb) hc) (λb o _ _ hc e n=>u.any e n hc) (λb o hc e n=>u.free b o e n hc) (λb o hc e=>u.there b o e hc) u.tups u.frzs u.tbls (λm' hm=>by
  obtain ⟨o',es',ep',ho',r'⟩:=hm;rw [ho] at ho';cases ho'
  exact ⟨_,es',ep',hL,r'⟩) hok hg
theorem Inv.turned {t':Nat} {it:Addr} (I:Inv X pins σ H s) (k:∀b o,b≠it->s.heap.get? b=some o->h'.get? b=some o) (hn:H it=none) (hL:it≠X.env.locals)
  (h1:it∈X.ex\/X.s₀.heap.objs.size<=it) (h2:∀x c,X.env.cells.lookup x=some c->c≠it) (h3:∀p∈X.pn++pins,p.1≠it):Inv X pins σ H { s with heap:=h',toks:=t' }:=by
 have nit:∀b u,H b=some u->b≠it:=λb u e z=>by rw [z,hn] at e;cases e
 refine I.step (g':=s.gens) (d':=s.drawn) (ch:=[it]) (λb hb=> ?_) (λb o _ _ hc e _=>k b o (λz=>hc (by simp [z])) e) (λb o _ _ hc e _=>⟨o.slots,k b o (λz=>hc (by simp [z])) e⟩) (λ_ _ _ _ n=>n)
  (λb o hc e=>⟨o,k b o (λz=>hc (by simp [z])) e⟩) (λ_ _ e=>e) (λ_ _ _ e=>e) (λb ps e=>⟨#[],by rw [e];simp⟩) (λm hm=> ?_) (λb u e=> ?_) I.bare
 ·have e:b=it:=by simpa using hb
  subst e;exact ⟨h1,hL,h2,h3⟩
 ·obtain ⟨o,es,ep,ho,r⟩:=hm;exact ⟨o,es,ep,k _ o (Ne.symm hL) ho,r⟩
 ·refine (I.hok b u e).stay (λc v hc q=>k c v ?_ q) (λ_ q=>q) λ_ _ q=>q;rcases hc with z | z
  ·rw [z];exact nit b u e
  ·exact nit c _ z
theorem Inv.tok (I:Inv X pins σ H s) (t:Nat):Inv X pins σ H { s with toks:=t }:=I.un (h':=s.heap) (t':=t) Un.refl I.hok
theorem Inv.kept {t':Nat} (I:Inv X pins σ H s) (k:∀b u,s.heap.get? b=some u->h'.get? b=some u):Inv X pins σ H { s with heap:=h',toks:=t' }:=I.un (Un.kept k) (I.hok.kept k)
theorem Inv.laid {a:Addr} {o:HO} {t':Nat} (I:Inv X pins σ H s) (k:∀b u,s.heap.get? b=some u->h'.get? b=some u) (hp:s.heap.objs.size<=a) (new:A3m X.prog X.w (upd H a o) h' a o) :
  Inv X pins σ (upd H a o) { s with heap:=h',toks:=t' }:=I.un (Un.laid k hp (I.hok.fresh hp)) (I.hok.laid k hp new)
theorem Inv.write {x e:Addr} {o:HO} {t':Nat} (I:Inv X pins σ H s) (mu:Mut (H x)) (he:e=x\/H e=some (.own x)) (k:∀b u,b≠e->s.heap.get? b=some u->h'.get? b=some u) (heo:∃u,h'.get? e=some u)
  (new:A3m X.prog X.w (upd H x o) h' x o):Inv X pins σ (upd H x o) { s with heap:=h',toks:=t' }:=I.un (Un.write mu he k heo) (I.hok.write mu he k heo new)
theorem Inv.weak {σ':List (Option V)} (I:Inv X pins σ H s) (hl:σ'.length=σ.length) (w:∀(i:Nat) v,σ'[i]? =some (some v)->σ[i]? =some (some v)):Inv X pins σ' H s :=
 ⟨I.ok,I.os,I.bare,I.base,let ⟨m,hn,hl'⟩:=I.loc;⟨m,hn,λi x v e1 e2 e3=>hl' i x v e1 (w i v e2) e3⟩,I.cell,I.free,I.freeC,I.pin,I.hok,hl.trans I.len⟩
theorem Inv.pins_of {pins':List (Addr×Obj)} (I:Inv X pins σ H s) (h:∀p∈pins',s.heap.get? p.1=some p.2/\H p.1=none/\p.1≠X.env.locals/\p.1∉X.fs/\∀v,p.2.data≠.cell v):Inv X pins' σ H s :=
 ⟨I.ok,I.os,I.bare,I.base,I.loc,I.cell,I.free,I.freeC,λp hp=>(Z07.mp hp).elim (λz=>I.pin p (Z05 _ z)) (h p),I.hok,I.len⟩
theorem B4o {N:List Str} (hN:N.Nodup) {i j:Nat} {x:Str} (a:N[i]? =some x) (b:N[j]? =some x):i=j:=by
 obtain ⟨h1,e1⟩:=Z03.mp a;obtain ⟨h2,e2⟩:=Z03.mp b;exact (List.getElem_inj hN).mp (e1.trans e2.symm)
theorem B1y {M:Model} {A:Around} {E:Value->Shared->Prop} {i:Nat} {x:Str} {v:V} {u:Value} {Q:Unit->Shared->Prop} (I:Inv X pins σ H s) (hN:X.N.Nodup) (hi:X.N[i]? =some x) (hx:Loc X.env.scope x) (r:A2v v u)
  (h:∀s',Inv X pins (σ.set i (some v)) H s'->(∃a,Heap.SameBut a s.heap s'.heap/\(a=X.env.locals\/X.env.cells.lookup x=some a))->Q () s') (hf:X.fn x=true\/X.env.scope.names.lookup x=some .local:=by first | exact .inl rfl | exact .inr rfl | assumption):wpAny M A (storeName X.env x u) Q E s:=by
 obtain ⟨m,hn,hl⟩:=id I.loc;have hcls:(X.env.scope.kind == .class||(X.env.scope.kind == .module&&X.env.locals != X.env.globals))=false:=by rw [I.ok.kind];rfl
 have hiσ:i<σ.length:=by rw [I.len];exact (Z03.mp hi).1
 have cne:=I.cne
 have tracked:∀{a:Addr} {h':Heap},(∃o,s.heap.get? a=some o/\H a=none)->Heap.SameBut a s.heap h'->HOk X.prog X.w H h':=λ{a h'} ha hs b ob e=>by
  obtain ⟨_,_,hfree⟩:=ha;refine (I.hok b ob e).stay (λc w' hc q=>(hs.2 c ?_).trans q) (λ_ q=>q) λ_ _ q=>q;rintro rfl;rcases hc with rfl | hc
  ·rw [hfree] at e;cases e
  ·rw [hfree] at hc;cases hc
 rcases hx with hk | hk
 ·refine wpAny_storeName_local hk hn (λh' hn' hs=> ?_) hcls;obtain ⟨oL,_,_,hoL,_⟩:=id hn;refine h _ ⟨I.ok,I.os,I.bare,⟨λb o e n hb hx=> ?_,λb o e n hb hx=> ?_,I.base.free,λb o e hx=> ?_,I.base.tups,I.base.frzs,I.base.tbls⟩,⟨_,hn',λj y v' e1 e2 e3=> ?_⟩,λy c e=> ?_,I.free,I.freeC,λp hp=> ?_,tracked ⟨oL,hoL,I.free⟩ hs,by simpa using I.len⟩ ⟨_,hs,.inl rfl⟩
  ·exact (hs.2 b (Z0h (Z0q (Z0a e) I.ok.above))).trans (I.base.keep b o e n hb hx)
  ·obtain ⟨sl,e1⟩:=I.base.slot b o e n hb hx;exact ⟨sl,(hs.2 b (Z0h (Z0q (Z0a e) I.ok.above))).trans e1⟩
  ·obtain ⟨o',e1⟩:=I.base.there b o e hx;exact ⟨o',(hs.2 b (Z0h (Z0q (Z0a e) I.ok.above))).trans e1⟩
  ·by_cases hj:j=i
   ·subst hj;rw [hi] at e1;cases e1;rw [Z23 hiσ] at e2;cases e2;exact ⟨u,r,.inl ⟨hk,by simp⟩⟩
   ·rw [Z2a (Ne.symm hj)] at e2;obtain ⟨u',r',q⟩:=hl j y v' e1 e2 e3;refine ⟨u',r',?_⟩;rcases q with ⟨k,e⟩ | ⟨k,c,e,z⟩
    ·refine .inl ⟨k,?_⟩;have:y≠x:=λe=>hj (B4o hN e1 (e▸hi));simp [this,e]
    ·exact .inr ⟨k,c,e,z.sameBut hs (cne y c e)⟩
  ·obtain ⟨w',z⟩:=I.cell y c e;exact ⟨w',z.sameBut hs (cne y c e)⟩
  ·obtain ⟨e,n,ne,nf,d⟩:=I.pin p hp;exact ⟨(hs.2 p.1 ne).trans e,n,ne,nf,d⟩
 ·have hfn:X.fn x=true:=by
   rcases hf with z | z
   ·exact z
   ·rw [z] at hk;cases hk
  obtain ⟨c,hc⟩:=I.ok.has x (.inl hk);obtain ⟨w',z⟩:=I.cell x c hc;refine wpAny_storeName_cell I.ok.kind hk hc z (λh' hc' hs=> ?_);obtain ⟨oc,hoc,hocd⟩:=id z;refine h { s with heap:=h' } ⟨I.ok,I.os,I.bare,⟨λb o e n hb hx=> ?_,λb o e n hb hx=> ?_,I.base.free,λb o e hx=> ?_,I.base.tups,I.base.frzs,I.base.tbls⟩,⟨m,hn.sameBut hs (Ne.symm (cne x c hc)),λj y v' e1 e2 e3=> ?_⟩,λy c' e=> ?_,I.free,I.freeC,λp hp=> ?_,tracked ⟨oc,hoc,I.freeC x c hc⟩ hs,by simpa using I.len⟩ ⟨c,hs,.inr hc⟩
  ·exact (hs.2 b (Z0h (Z0q (Z0a e) (I.ok.cab x c hfn hc)))).trans (I.base.keep b o e n hb hx)
  ·obtain ⟨sl,e1⟩:=I.base.slot b o e n hb hx;exact ⟨sl,(hs.2 b (Z0h (Z0q (Z0a e) (I.ok.cab x c hfn hc)))).trans e1⟩
  ·obtain ⟨o',e1⟩:=I.base.there b o e hx;exact ⟨o',(hs.2 b (Z0h (Z0q (Z0a e) (I.ok.cab x c hfn hc)))).trans e1⟩
  ·by_cases hj:j=i
   ·subst hj;rw [hi] at e1;cases e1;rw [Z23 hiσ] at e2;cases e2;exact ⟨u,r,.inr ⟨.inl hk,c,hc,hc'⟩⟩
   ·rw [Z2a (Ne.symm hj)] at e2;obtain ⟨u',r',q⟩:=hl j y v' e1 e2 e3;refine ⟨u',r',?_⟩;rcases q with q | ⟨k,c',e,z'⟩
    ·exact .inl q
    ·refine .inr ⟨k,c',e,z'.sameBut hs ?_⟩;rintro rfl;exact hj (B4o hN e1 (I.ok.inj _ _ _ e hc▸hi))
  ·by_cases hcc:c'=c
   ·subst hcc;exact ⟨_,hc'⟩
   ·obtain ⟨w2,z2⟩:=I.cell y c' e;exact ⟨w2,z2.sameBut hs hcc⟩
  ·obtain ⟨e,n,ne,nf,d⟩:=I.pin p hp;refine ⟨(hs.2 p.1 ?_).trans e,n,ne,nf,d⟩;intro q;rw [q,hoc] at e;have q':oc=p.2:=Z1a e;exact d w' (by rw [<-q'];exact hocd)
theorem B1m {M:Model} {A:Around} {E:Value->Shared->Prop} {i:Nat} {x:Str} {v:V} {u:Value} {Q:Unit->Shared->Prop} (I:Inv X pins σ H s) (hN:X.N.Nodup) (hi:X.N[i]? =some x) (hx:Loc X.env.scope x) (r:A2v v u)
  (h:∀s',Inv X pins (σ.set i (some v)) H s'->Q () s') (hf:X.fn x=true\/X.env.scope.names.lookup x=some .local:=by first | exact .inl rfl | exact .inr rfl | assumption):wpAny M A (storeName X.env x u) Q E s :=
 B1y I hN hi hx r (λs' I' _=>h s' I') hf
theorem Inv.call' {s':Shared} {ch:List Addr} (I:Inv X pins σ H s) (ho:s'.os=s.os) (u:Un (frs X.stack) ch H H' s.heap s'.heap) (hok:HOk X.prog X.w H' s'.heap) (hg:AllBare s'.gens)
  (hch:∀b∈ch,(b∈X.ex\/X.s₀.heap.objs.size<=b)/\b≠X.env.locals/\(∀x c,X.env.cells.lookup x=some c->c≠b)/\∀p∈X.pn++pins,p.1≠b):Inv X pins σ H' s':=by
 obtain ⟨h',g',d',t',o'⟩:=s';have e:o'=s.os:=ho;subst e;exact I.call (g':=g') (t':=t') (d':=d') u hok hg hch
end
abbrev XK:=Value->Option Addr->Hp->Prop
abbrev St:=List (Option V)
abbrev VK:=V->Hp->Prop
abbrev TE:=St->Hp->VK->Prop
abbrev TT:=St->Hp->(Bool->Hp->Prop)->Prop
abbrev TA:=St->Hp->(List V->Hp->Prop)->Prop
structure B9t where
 nx:St->Hp->Prop
 rt:VK
 bk:St->Hp->Prop:=λ_ _=>False
 ct:St->Hp->Prop:=λ_ _=>False
abbrev TS:=B9t->St->Hp->Prop
def EP (X:Cx) (pins:List (Addr×Obj)) (σ:St) (Q:VK) (u:Value) (s':Shared):Prop:=∃v H',Inv X pins σ H' s'/\A2v v u/\Q v H'
def TP (X:Cx) (pins:List (Addr×Obj)) (σ:St) (Q:Bool->Hp->Prop) (b:Bool) (s':Shared):Prop:=∃H',Inv X pins σ H' s'/\Q b H'
def AP (X:Cx) (pins:List (Addr×Obj)) (σ:St) (Q:List V->Hp->Prop) (us:List Value) (s':Shared):Prop:=∃vs H',Inv X pins σ H' s'/\A3c vs us/\Q vs H'
def SP (X:Cx) (pins:List (Addr×Obj)) (D:B9t) (f:Flow) (s':Shared):Prop :=
 match f with
 | .next=>∃σ' H',Inv X pins σ' H' s'/\D.nx σ' H'
 | .brk=>∃σ' H',Inv X pins σ' H' s'/\D.bk σ' H'
 | .cont=>∃σ' H',Inv X pins σ' H' s'/\D.ct σ' H'
 | .ret u=>∃v σ' H',Inv X pins σ' H' s'/\A2v v u/\D.rt v H'
def PE (X:Cx) (e:Expr) (t:TE):Prop :=
 ∀(pins:List (Addr×Obj)) (s:Shared) (σ:St) (H:Hp) (Q:VK),Inv X pins σ H s->t σ H Q->wpAny (model X.prog X.w) X.A (eval e X.env) (EP X pins σ Q) X.xe s
def PT (X:Cx) (e:Expr) (t:TT):Prop :=
 ∀(pins:List (Addr×Obj)) (s:Shared) (σ:St) (H:Hp) (Q:Bool->Hp->Prop),Inv X pins σ H s->t σ H Q->wpAny (model X.prog X.w) X.A (isTrue e X.env (eval e X.env)) (TP X pins σ Q) X.xe s
def PW (X:Cx) (e:Expr) (t:TT):Prop :=
 ∀(whole:Sem Value) (pins:List (Addr×Obj)) (s:Shared) (σ:St) (H:Hp) (Q:Bool->Hp->Prop),Inv X pins σ H s->t σ H Q->wpAny (model X.prog X.w) X.A (isTrue e X.env whole) (TP X pins σ Q) X.xe s
theorem PW.pt {X:Cx} {e:Expr} {t:TT} (h:PW X e t):PT X e t:=h _
def PA (X:Cx) (es:List Expr) (t:TA):Prop :=
 ∀(pos:Pos) (pins:List (Addr×Obj)) (s:Shared) (σ:St) (H:Hp) (Q:List V->Hp->Prop),Inv X pins σ H s->t σ H Q->wpAny (model X.prog X.w) X.A (spliced (backTo pos (starEach es X.env))) (AP X pins σ Q) X.xe s
def PS (X:Cx) (st:Stmt) (t:TS):Prop :=
 ∀(pins:List (Addr×Obj)) (s:Shared) (σ:St) (H:Hp) (D:B9t),Inv X pins σ H s->t D σ H->wpAny (model X.prog X.w) X.A (exec st X.env) (SP X pins D) X.xe s
def PSs (X:Cx) (st:List Stmt) (t:TS):Prop :=
 ∀(pins:List (Addr×Obj)) (s:Shared) (σ:St) (H:Hp) (D:B9t),Inv X pins σ H s->t D σ H->wpAny (model X.prog X.w) X.A (execs st X.env) (SP X pins D) X.xe s
theorem thn {α:Type} {t:Sem α} {Q Q':α->Shared->Prop} {M:Model} {A:Around} {E:Value->Shared->Prop} {s:Shared} (h:wpAny M A t Q E s) (hQ:∀a s,Q a s->Q' a s):wpAny M A t Q' E s:=Z10 h hQ λ_ _ x=>x
section
variable {X:Cx}
def E1d (i:Nat):TE:=λσ H Q=>∃v,σ[i]? =some (some v)/\Q v H
def tC (v:V):TE:=λ_ H Q=>Q v H
theorem D5m {i:Nat} {x:Str} {pos:Pos} (hN:X.N[i]? =some x) (hv:Vis X.env.scope x) (hd:(x == ("__debug__":Str))=false:=by decide) (hcd:(x == ("__classdict__":Str))=false:=by decide):PE X (.Name x pos) (E1d i):=by
 intro pins s σ H Q I h;obtain ⟨v,e,h⟩:=h;obtain ⟨m,hn,hl⟩:=I.loc;obtain ⟨u,r,l⟩:=hl i x v hN e hv;have fin:EP X pins σ Q u s:=⟨v,H,I,r,h⟩;rcases l with ⟨hk,hm⟩ | ⟨hk,c,hc,hcell⟩
 ·exact wpAny_Name (wpAny_loadName_local I.ok.kind hk hn hm fin) hd
 ·rcases hk with hk | hk
  ·exact wpAny_Name (wpAny_loadName_cell I.ok.kind hk hc hcell fin) hd
  ·exact wpAny_Name (wpAny_loadName_free I.ok.kind hk hc hcell fin hcd) hd
theorem A0e {i j pos}:PE X (.Constant (.int i) j pos) (tC (.int i)):=λ_ _ _ H _ I h=>wpAny_Constant_int ⟨.int i,H,I.tok _,⟨_,rfl⟩,h⟩
theorem D6d {b j pos}:PE X (.Constant (.bool b) j pos) (tC (.bl b)):=λ_ _ _ H _ I h=>Constant_bool ⟨.bl b,H,I,rfl,h⟩
theorem A0g {x j pos}:PE X (.Constant (.str x) j pos) (tC (.str x)):=λ_ _ _ H _ I h=>Calls.Constant_str ⟨.str x,H,I.tok _,⟨_,rfl⟩,h⟩
def Gl (X:Cx) (x:Str):Prop:=X.env.kindOf x=some .globalImplicit
theorem A8h {E:Value->Shared->Prop} {pins:List (Addr×Obj)} {s:Shared} {σ:St} {H:Hp} {x:Str} {u:Value} {pos:Pos} {Q:Value->Shared->Prop} (I:Inv X pins σ H s) (hg:Gl X x) (hm:X.mg x=some u) (h:Q u s)
  (hd:(x == ("__debug__":Str))=false:=by decide):wpAny (model X.prog X.w) X.A (eval (.Name x pos) X.env) Q E s :=
 Calls.Name_function_global I.ok.kind hg (Calls.loadGlobal_global (by rw [I.ok.glob];exact I.mod.glob.keeps I.bk) hm h) hd
theorem B9s {E:Value->Shared->Prop} {pins:List (Addr×Obj)} {s:Shared} {σ:St} {H:Hp} {x:Str} {u:Value} {pos:Pos} {Q:Value->Shared->Prop} (I:Inv X pins σ H s) (hg:Gl X x) (hm:X.mg x=none) (hv:bootBuiltins x=some u) (h:Q u s)
  (hn:x≠"__name__":=by decide) (hd:(x == ("__debug__":Str))=false:=by decide):wpAny (model X.prog X.w) X.A (eval (.Name x pos) X.env) Q E s:=by
 obtain ⟨mb,h1,h2⟩:=I.mod.blt;exact Calls.Name_function_global I.ok.kind hg (Calls.loadGlobal_builtin (by rw [I.ok.glob];exact I.mod.glob.keeps I.bk) hm (by rw [I.ok.blt];exact h1.keeps I.bk) ((h2 x hn).trans hv) h) hd
theorem B8q {x:Str} {v:V} {u:Value} {pos:Pos} (hg:Gl X x) (hm:X.mg x=some u) (r:A2v v u) (hd:(x == ("__debug__":Str))=false:=by decide):PE X (.Name x pos) (tC v) :=
 λ_ _ _ H _ I h=>A8h I hg hm ⟨v,H,I,r,h⟩ hd
theorem A4x {x:Str} {v:V} {u:Value} {pos:Pos} (hg:Gl X x) (hm:X.mg x=none) (hv:bootBuiltins x=some u) (r:A2v v u) (hn:x≠"__name__":=by decide) (hd:(x == ("__debug__":Str))=false:=by decide):PE X (.Name x pos) (tC v) :=
 λ_ _ _ H _ I h=>B9s I hg hm hv ⟨v,H,I,r,h⟩ hn hd
variable {a b:Expr} {ta tb:TE} {pos:Pos}
def tB (t:TE):TT:=λσ H Q=>t σ H λx H1=>∃c,x= .bl c/\Q c H1
theorem A4e {e:Expr} {t:TE} (h:PE X e t) (he:∀whole,isTrue e X.env whole=(do let v<-whole;standAt e.pos;holding [v] (truthy v)):=by intro _;rfl):PT X e (tB t):=by
 intro pins s σ H Q I hw;refine isTrue_plain (thn (h pins s σ H _ I hw) ?_) (he _);rintro v s1 ⟨x,H1,I1,r1,q1⟩;obtain ⟨d,rfl,q⟩:=q1;cases r1;exact wpAny_truthy_bool ⟨H1,I1,q⟩
variable {tA tB':TT} {rest:List Expr}
def tAnd (t u:TT):TT:=λσ H Q=>t σ H λc H1=>if c=true then u σ H1 Q else Q false H1
def tOr (t u:TT):TT:=λσ H Q=>t σ H λc H1=>if c=true then Q true H1 else u σ H1 Q
def tNot (t:TT):TT:=λσ H Q=>t σ H λc H1=>Q (! c) H1
theorem A9w (ha:PT X a tA):PW X (.BoolOp .And [a] pos) tA:=by
 intro wh pins s σ H Q I h;refine isTrue_and (thn (ha pins s σ H Q I h) λc s1 e=> ?_)
 cases c with
 | true=>exact isTrue_and_nil e
 | false=>exact e
theorem B6i (ha:PT X a tA):PW X (.BoolOp .Or [a] pos) tA:=by
 intro wh pins s σ H Q I h;refine isTrue_or (thn (ha pins s σ H Q I h) λc s1 e=> ?_)
 cases c with
 | false=>exact isTrue_or_nil e
 | true=>exact e
theorem B1w (ha:PT X a tA) (hb:PW X (.BoolOp .And (b::rest) pos) tB'):PW X (.BoolOp .And (a::b::rest) pos) (tAnd tA tB'):=by
 intro wh pins s σ H Q I h;refine isTrue_and (thn (ha pins s σ H _ I h) ?_);rintro c s1 ⟨H1,I1,q1⟩
 cases c with
 | true=>exact hb wh pins s1 σ H1 Q I1 q1
 | false=>exact ⟨H1,I1,q1⟩
theorem C3u (ha:PT X a tA) (hb:PW X (.BoolOp .Or (b::rest) pos) tB'):PW X (.BoolOp .Or (a::b::rest) pos) (tOr tA tB'):=by
 intro wh pins s σ H Q I h;refine isTrue_or (thn (ha pins s σ H _ I h) ?_);rintro c s1 ⟨H1,I1,q1⟩
 cases c with
 | true=>exact ⟨H1,I1,q1⟩
 | false=>exact hb wh pins s1 σ H1 Q I1 q1
theorem B3l (ha:PT X a tA):PT X (.UnaryOp .Not a pos) (tNot tA):=by
 intro pins s σ H Q I h;exact isTrue_not (ha pins s σ H (λc H1=>Q (! c) H1) I h)
def E0m (ta tb:TE):TE:=λσ H Q=>ta σ H λx H1=>∃c,x= .bl c/\if c=true then tb σ H1 Q else Q (.bl false) H1
def tOrV (ta tb:TE):TE:=λσ H Q=>ta σ H λx H1=>∃c,x= .bl c/\if c=true then Q (.bl true) H1 else tb σ H1 Q
def D9p (ta:TE):TE:=λσ H Q=>ta σ H λx H1=>∃c,x= .bl c/\Q (.bl (! c)) H1
theorem B6x {op} {t:TE} (h:PE X a t):PE X (.BoolOp op [a] pos) t:=λpins s σ H Q I hw=>BoolOp_one (h pins s σ H Q I hw)
theorem B6o (ha:PE X a ta) (hb:PE X (.BoolOp .And (b::rest) pos) tb):PE X (.BoolOp .And (a::b::rest) pos) (E0m ta tb):=by
 intro pins s σ H Q I h;refine BoolOp_and (thn (ha pins s σ H _ I h) ?_);rintro v s1 ⟨x,H1,I1,r1,q1⟩;obtain ⟨c,rfl,q1⟩:=q1;cases r1;refine wpAny_truthy_bool ?_
 cases c with
 | true=>exact hb pins s1 σ H1 Q I1 q1
 | false=>exact ⟨.bl false,H1,I1,rfl,q1⟩
theorem D9g (ha:PE X a ta) (hb:PE X (.BoolOp .Or (b::rest) pos) tb):PE X (.BoolOp .Or (a::b::rest) pos) (tOrV ta tb):=by
 intro pins s σ H Q I h;refine BoolOp_or (thn (ha pins s σ H _ I h) ?_);rintro v s1 ⟨x,H1,I1,r1,q1⟩;obtain ⟨c,rfl,q1⟩:=q1;cases r1;refine wpAny_truthy_bool ?_
 cases c with
 | false=>exact hb pins s1 σ H1 Q I1 q1
 | true=>exact ⟨.bl true,H1,I1,rfl,q1⟩
theorem C9j (ha:PE X a ta):PE X (.UnaryOp .Not a pos) (D9p ta):=by
 intro pins s σ H Q I h;refine UnaryOp_ (thn (ha pins s σ H _ I h) ?_);rintro v s1 ⟨x,H1,I1,r1,q1⟩;obtain ⟨c,rfl,q1⟩:=q1;cases r1;exact not_of (wpAny_truthy_bool ⟨.bl (! c),H1,I1,rfl,q1⟩)
end
def SqL (K:Frag) (H:Hp) (a:Addr) (xs:List V):Prop :=
 Rd H a (.lst xs)\/
  ∃(o:Obj) (its:Array Value) (n:Nat),K.lookup a=some o/\o.cls= .type "list"/\o.dict=none/\o.data= .seq its n/\its.size<=sizeLine/\A3c xs its.toList
def SqT (K:Frag) (H:Hp) (a:Addr) (xs:List V):Prop :=
 Rd H a (.tup xs)\/
  ∃(o:Obj) (its:Array Value) (n:Nat),K.lookup a=some o/\o.cls= .type "tuple"/\o.data= .seq its n/\its.size<=sizeLine/\A3c xs its.toList
noncomputable def absV:Value->Option V
 | .none=>some .non
 | .bool b=>some (.bl b)
 | .int i _=>some (.int i)
 | .str x _=>some (.str x)
 | .bytes b _=>some (.byt b)
 | .float b _=>some (.flt b)
 | .ref a=>some (.ref a)
 | .type n=>some (.ty n)
 | _=>none
theorem A2v.abs {x:V} {u:Value} (r:A2v x u):absV u=some x:=by
 cases x with
 | non=>cases r;rfl
 | bl _=>cases r;rfl
 | int _=>obtain ⟨t,rfl⟩:=r;rfl
 | str _=>obtain ⟨t,rfl⟩:=r;rfl
 | byt _=>obtain ⟨t,rfl⟩:=r;rfl
 | flt _=>obtain ⟨t,rfl⟩:=r;rfl
 | ref _=>cases r;rfl
 | ty _=>cases r;rfl
theorem A2v.inj {x y:V} {u:Value} (r:A2v x u) (q:A2v y u):x=y:=Z1a (r.abs.symm.trans q.abs)
theorem A3c.inj:∀{xs ys:List V} {us:List Value},A3c xs us->A3c ys us->xs=ys
 | _,_,_,.nil,.nil=>rfl
 | _,_,_,.cons r t,.cons r' t'=>by rw [r.inj r',A3c.inj t t']
section
variable {X:Cx} {pins:List (Addr×Obj)} {σ:St} {H:Hp} {s:Shared} {a:Addr} {xs ys:List V}
theorem SqL.of {K:Frag} (h:H a=some (.lst xs)):SqL K H a xs:= .inl (.inl h)
theorem SqT.of {K:Frag} (h:H a=some (.tup xs)):SqT K H a xs:= .inl (.inl h)
theorem Inv.list (I:Inv X pins σ H s) (h:SqL X.K H a xs):∃its:List Value,A3c xs its/\PlainL s.heap a its.toArray/\xs.length<=sizeLine:=by
 rcases h with h | ⟨o,its,n,hk,hc,hd,hs,hz,r⟩
 ·obtain ⟨z,its,n,r,e⟩:=h.ok I.hok;exact ⟨its,r,⟨_,n,e,rfl,rfl,rfl⟩,z⟩
 ·refine ⟨its.toList,r,⟨o,n,I.kIn a o hk,hc,hd,by simpa using hs⟩,?_⟩;have e:=r.length;simp only [Array.length_toList] at e
  lia
theorem Inv.tuple (I:Inv X pins σ H s) (h:SqT X.K H a xs):∃its:List Value,A3c xs its/\IsTup s.heap a its.toArray/\xs.length<=sizeLine:=by
 rcases h with h | ⟨o,its,n,hk,hc,hs,hz,r⟩
 ·obtain ⟨z,its,r,p⟩:=h.ok I.hok;exact ⟨its,r,p,z⟩
 ·refine ⟨its.toList,r,⟨o,I.kIn a o hk,hc,n,by simpa using hs⟩,?_⟩;have e:=r.length;simp only [Array.length_toList] at e
  lia
theorem Inv.list_inj (I:Inv X pins σ H s) (h:SqL X.K H a xs) (h':SqL X.K H a ys):xs=ys:=by
 obtain ⟨its,r,⟨o,n,e,_,_,d⟩,_⟩:=I.list h;obtain ⟨its',r',⟨o',n',e',_,_,d'⟩,_⟩:=I.list h';rw [e] at e';cases e';rw [d] at d';injection d' with d1 _;have:its=its':=by simpa using congrArg Array.toList d1
 subst this;exact r.inj r'
theorem Inv.tuple_inj (I:Inv X pins σ H s) (h:SqT X.K H a xs) (h':SqT X.K H a ys):xs=ys:=by
 obtain ⟨its,r,⟨o,e,_,n,d⟩,_⟩:=I.tuple h;obtain ⟨its',r',⟨o',e',_,n',d'⟩,_⟩:=I.tuple h';rw [e] at e';cases e';rw [d] at d';injection d' with d1 _;have:its=its':=by simpa using congrArg Array.toList d1
 subst this;exact r.inj r'
end
abbrev Cx.wish (X:Cx) (E:Value->Shared->Prop):Cx:={ X with xe:=E }
abbrev Cx.nox (X:Cx):Cx:=X.wish λ_ _=>False
theorem Cx.Ok.wish {X:Cx} (ok:X.Ok) (E:Value->Shared->Prop):(X.wish E).Ok :=
 ⟨ok.mod,ok.kind,ok.glob,ok.blt,ok.above,ok.inj,ok.has,ok.cab,ok.hd,ok.frames,ok.stk,ok.exf,ok.bs,ok.bsz,ok.noex,ok.exfs,ok.funs,ok.frf⟩
theorem Cx.Ok.unwish {X:Cx} {E:Value->Shared->Prop} (ok:(X.wish E).Ok):X.Ok :=
 ⟨ok.mod,ok.kind,ok.glob,ok.blt,ok.above,ok.inj,ok.has,ok.cab,ok.hd,ok.frames,ok.stk,ok.exf,ok.bs,ok.bsz,ok.noex,ok.exfs,ok.funs,ok.frf⟩
section
variable {X:Cx} {pins:List (Addr×Obj)} {σ:St} {H:Hp} {s:Shared} {E:Value->Shared->Prop}
theorem Inv.wish (I:Inv X pins σ H s) (E:Value->Shared->Prop):Inv (X.wish E) pins σ H s:=⟨I.ok.wish E,I.os,I.bare,I.base,I.loc,I.cell,I.free,I.freeC,I.pin,I.hok,I.len⟩
theorem Inv.unwish (I:Inv (X.wish E) pins σ H s):Inv X pins σ H s:=⟨I.ok.unwish,I.os,I.bare,I.base,I.loc,I.cell,I.free,I.freeC,I.pin,I.hok,I.len⟩
theorem SP.unwish {D:B9t} {f:Flow} {s':Shared} (h:SP (X.wish E) pins D f s'):SP X pins D f s':=by
 cases f with
 | next=>obtain ⟨σ',H',I,q⟩:=h;exact ⟨σ',H',I.unwish,q⟩
 | brk=>obtain ⟨σ',H',I,q⟩:=h;exact ⟨σ',H',I.unwish,q⟩
 | cont=>obtain ⟨σ',H',I,q⟩:=h;exact ⟨σ',H',I.unwish,q⟩
 | ret u=>obtain ⟨v,σ',H',I,r,q⟩:=h;exact ⟨v,σ',H',I.unwish,r,q⟩
theorem PSs.nox {st:List Stmt} {t:TS} (h:PSs X.nox st t):PSs X st t:=λpins s σ H D I hw =>
 Z10 (h pins s σ H D (I.wish _) hw) (λ_ _ q=>q.unwish) λ_ _ z=>False.elim z
end
section
variable {X:Cx} {st:Stmt} {rest:List Stmt} {t u:TS} {e:Expr} {te:TE} {pos:Pos}
def D8f:TS:=λD σ H=>D.nx σ H
def E0z (t u:TS):TS:=λD σ H=>t { D with nx:=u D } σ H
theorem A0m:PSs X [] D8f:=λ_ _ σ H _ I h=>Z2b ⟨σ,H,I,h⟩
theorem A0d (h1:PS X st t) (h2:PSs X rest u):PSs X (st::rest) (E0z t u):=by
 intro pins s σ H D I h;refine wpAny_execs_cons (thn (h1 pins s σ H { D with nx:=u D } I h) λf s1 q=> ?_)
 cases f with
 | next =>
  obtain ⟨σ',H',I',q⟩:=q;exact h2 pins s1 σ' H' D I' q
 | ret v=>exact q
 | brk=>exact q
 | cont=>exact q
theorem A0h (h1:PS X st t):PSs X [st] t:=by
 intro pins s σ H D I h;refine wpAny_execs_cons (thn (h1 pins s σ H D I h) λf s1 q=> ?_)
 cases f with
 | next=>exact Z2b q
 | ret v=>exact q
 | brk=>exact q
 | cont=>exact q
theorem Inv.quiet {pins:List (Addr×Obj)} {σ:St} {H:Hp} {s:Shared} (I:Inv X pins σ H s):interactive X.env=false:=by simp [interactive,I.ok.kind]
def D9n (te:TE):TS:=λD σ H=>te σ H λ_ H1=>D.nx σ H1
theorem A2z (he:PE X e te) (hs:swapsWith e none pos.line X.env=pure false:=by rfl):PS X (.Expr e pos) (D9n te):=by
 intro pins s σ H D I h;exact wpAny_Expr_any (thn (he pins s σ H _ I h) (by rintro v s1 ⟨x,H1,I1,r1,q1⟩;exact ⟨σ,H1,I1,q1⟩)) I.quiet hs
def E1e (te:TE):TS:=λD σ H=>te σ H D.rt
theorem A0u (he:PE X e te):PS X (.Return (some e) pos) (E1e te):=by
 intro pins s σ H D I h;exact wpAny_Return_some (thn (he pins s σ H _ I h) (by rintro v s1 ⟨x,H1,I1,r1,q1⟩;exact ⟨x,σ,H1,I1,r1,q1⟩))
def E0s (c:TT) (t u:TS):TS:=λD σ H=>c σ H λb H1=>if b=true then t D σ H1 else u D σ H1
theorem A1w {c:Expr} {a b:List Stmt} {tc:TT} (hc:PT X c tc) (ha:PSs X a t) (hb:PSs X b u):PS X (.If c a b pos) (E0s tc t u):=by
 intro pins s σ H D I h;refine wpAny_If (thn (hc pins s σ H _ I h) ?_);rintro d s1 ⟨H1,I1,q1⟩
 cases d with
 | true=>exact ha pins s1 σ H1 D I1 q1
 | false=>exact hb pins s1 σ H1 D I1 q1
def D6r:TS:=λ_ _ _=>False
theorem B5h:PS X st D6r:=λ_ _ _ _ _ _ h=>h.elim
end
abbrev TG:=V->St->Hp->(St->Hp->Prop)->Prop
abbrev TGs:=List V->St->Hp->(St->Hp->Prop)->Prop
def PG (X:Cx) (target:Expr) (t:TG):Prop :=
 ∀(pins:List (Addr×Obj)) (s:Shared) (σ:St) (H:Hp) (v:V) (u:Value) (Q:St->Hp->Prop),Inv X pins σ H s->A2v v u->t v σ H Q->
  wpAny (model X.prog X.w) X.A (assign target X.env u) (λ_ s'=>∃σ' H',Inv X pins σ' H' s'/\Q σ' H') X.xe s
def PGs (X:Cx) (ts:List Expr) (t:TGs):Prop :=
 ∀(pins:List (Addr×Obj)) (s:Shared) (σ:St) (H:Hp) (vs:List V) (us:List Value) (Q:St->Hp->Prop),Inv X pins σ H s->A3c vs us->t vs σ H Q->
  wpAny (model X.prog X.w) X.A (assignInOrder ((assignEach ts X.env).map (·.2)) us) (λ_ s'=>∃σ' H',Inv X pins σ' H' s'/\Q σ' H') X.xe s
abbrev E0p:=V->V->V->Hp->(Hp->Prop)->Prop
def E0y (X:Cx) (t:E0p):Prop :=
 ∀(pins:List (Addr×Obj)) (s:Shared) (σ:St) (H:Hp) (o i v:V) (ov iv u:Value) (Q:Hp->Prop),Inv X pins σ H s->A2v o ov->A2v i iv->A2v v u->t o i v H Q->
  wpAny (model X.prog X.w) X.A (setItem ov iv u) (λ_ s'=>∃H',Inv X pins σ H' s'/\Q H') X.xe s
section
variable {X:Cx} {pos:Pos}
def B8n (i:Nat):TG:=λv σ H Q=>Q (σ.set i (some v)) H
theorem A0p {i:Nat} {x:Str} (hN:X.N.Nodup) (hi:X.N[i]? =some x) (hx:Loc X.env.scope x) (hf:X.fn x=true\/X.env.scope.names.lookup x=some .local:=by first | exact .inl rfl | exact .inr rfl | assumption):PG X (.Name x pos) (B8n i):=by
 intro pins s σ H v u Q I r h;exact wpAny_assign_Name (B1m I hN hi hx r (λs' I'=>⟨_,H,I',h⟩) hf)
def gNil:TGs:=λvs σ H Q=>vs=[]/\Q σ H
def D8r (t:TG) (u:TGs):TGs:=λvs σ H Q=>∃v r,vs=v::r/\t v σ H λσ' H'=>u r σ' H' Q
theorem A5c:PGs X [] gNil:=by
 intro pins s σ H vs us Q I r h;obtain ⟨e,h⟩:=h;subst e;cases r;exact assignInOrder_nil ⟨σ,H,I,h⟩
theorem A1c {e:Expr} {es:List Expr} {t:TG} {u:TGs} (h1:PG X e t) (h2:PGs X es u)
  (hs:(assignEach (e::es) X.env).map (·.2)=assign e X.env::(assignEach es X.env).map (·.2):=by rfl):PGs X (e::es) (D8r t u):=by
 intro pins s σ H vs us Q I r h;obtain ⟨v,vr,e1,h⟩:=h;subst e1
 cases r with
 | cons r rr =>
  rw [hs];refine assignInOrder_cons (thn (h1 pins s σ H _ _ _ I r h) ?_);rintro _ s1 ⟨σ1,H1,I1,q1⟩;exact h2 pins s1 σ1 H1 _ _ Q I1 rr q1
def gTup (K:Frag) (n:Nat) (t:TGs):TG:=λv σ H Q=>∃a xs,v= .ref a/\SqT K H a xs/\xs.length=n/\t xs σ H Q
theorem A7r {es:List Expr} {k:Nat} {t:TGs} {n:Nat} (hc:X.calm=true) (h:PGs X es t)
  (hn:(assignEach es X.env).length=n:=by rfl) (hst:(assignEach es X.env).findIdx? (·.1)=none:=by rfl):PG X (.Tuple es k pos) (gTup X.K n t):=by
 intro pins s σ H v u Q I r hw;obtain ⟨a,xs,e1,hq,hl,hw⟩:=hw;subst e1;cases r;obtain ⟨its,rv,ht,hz⟩:=I.tuple hq;refine assign_Tuple_tuple (I.ok.hd hc) ht (by simp [hn,<-hl,rv.length]) hst λh' hx=> ?_;have I1:Inv X pins σ H { s with heap:=h' }:=I.kept (t':=s.toks) λb o e=>hx b o (Z0h (Z0a e)) e
 exact h pins _ σ H xs _ Q I1 (by simpa using rv) hw
def gSub (to ti:TE) (t:E0p):TG:=λv σ H Q=>to σ H λo H1=>ti σ H1 λi H2=>t o i v H2 λH3=>Q σ H3
theorem B3p {o i:Expr} {to ti:TE} {t:E0p} (ho:PE X o to) (hi:PE X i ti) (hs:E0y X t)
  (ha:∀v,assign (.Subscript o i pos) X.env v=(do
   let ov<-holding [v] (eval o X.env)
   let iv<-holding [v,ov] (eval i X.env)
   standAt pos
   holding [v,ov,iv] (setItem ov iv v)
   release [v,ov,iv] []):=by intro _;rfl):PG X (.Subscript o i pos) (gSub to ti t):=by
 intro pins s σ H v u Q I r h;rw [ha];refine Z00 (Z1w (thn (ho pins s σ H _ I h) ?_));rintro ov s1 ⟨x,H1,I1,r1,q1⟩;refine Z00 (Z1w (thn (hi pins s1 σ H1 _ I1 q1) ?_));rintro iv s2 ⟨y,H2,I2,r2,q2⟩;refine Z00 (Z1y (Z00 (Z1w (thn (hs pins s2 σ H2 x y v ov iv u _ I2 r1 r2 r q2) ?_))));rintro _ s3 ⟨H3,I3,q3⟩;exact wpAny_release ⟨σ,H3,I3,q3⟩
def D6p (te:TE) (g:TG):TS:=λD σ H=>te σ H λx H1=>g x σ H1 D.nx
theorem A5k {tg e:Expr} {te:TE} {g:TG} (he:PE X e te) (hg:PG X tg g) (hs:swapsWithSole [tg] e pos.line X.env=pure false:=by rfl) (hw:swappedStores [tg] e X.env=pure none:=by rfl)
  (h1:(assignEach [tg] X.env).map (·.2)=[assign tg X.env]:=by rfl):PS X (.Assign [tg] e pos) (D6p te g):=by
 intro pins s σ H D I h;refine wpAny_Assign_stores (thn (he pins s σ H _ I h) ?_) hs hw;rintro v s1 ⟨x,H1,I1,r1,q1⟩;rw [h1];exact thn (hg pins s1 σ H1 x v _ I1 r1 q1) λ_ s2 q=>q
theorem A0x {i:Nat} {x:Str} {e:Expr} {te:TE} {pos':Pos} (hN:X.N.Nodup) (hi:X.N[i]? =some x) (hx:Loc X.env.scope x) (he:PE X e te) (hs:swapsWith e (some (.Name x pos')) pos.line X.env=pure false:=by rfl) (hf:X.fn x=true\/X.env.scope.names.lookup x=some .local:=by first | exact .inl rfl | exact .inr rfl | assumption) :
  PS X (.Assign [.Name x pos'] e pos) (D6p te (B8n i)):=by
 intro pins s σ H D I h;refine wpAny_Assign_Name (thn (he pins s σ H _ I h) ?_) hs;rintro v s1 ⟨y,H1,I1,r1,q1⟩;exact B1m I1 hN hi hx r1 (λs2 I2=>⟨_,H1,I2,q1⟩) hf
def C5d (c:TT) (tb:TS):TS:=λD σ H=>∃W:Nat->St->Hp->Prop,(∃m,W m σ H)/\∀m σ H,W m σ H->
 c σ H λb H1=>if b=true then∃N:St->Hp->Prop,(∀σ' H',N σ' H'->∃m',m'<m/\W m' σ' H')/\tb { D with nx:=N,ct:=N,bk:=D.nx } σ H1 else D.nx σ H1
theorem C0h {c:Expr} {body:List Stmt} {tc:TT} {tb:TS} (hp:PassesOwn (model X.prog X.w) X.A X.env X.xe) (hc:PT X c tc) (hb:PSs X body tb):PS X (.While c body [] pos) (C5d tc tb):=by
 intro pins s σ H D I h;obtain ⟨W,⟨m0,w0⟩,turn⟩:=h;refine wpAny_While (codeAny_whileLoop (λn s'=>∃σ' H',Inv X pins σ' H' s'/\W n σ' H') ?_ m0 ⟨σ,H,I,w0⟩);rintro n s1 ⟨σ1,H1,I1,w1⟩;refine wpAny_passesOwn hp (thn (hc pins s1 σ1 H1 _ I1 (turn n σ1 H1 w1)) ?_);rintro b s2 ⟨H2,I2,q2⟩
 cases b with
 | true =>
  obtain ⟨N,hN,q2⟩:=q2;rw [Z12 rfl];refine wpAny_passesOwn hp (thn (hb pins s2 σ1 H2 _ I2 q2) λf s3 q3=> ?_)
  cases f with
  | next =>
   obtain ⟨σ3,H3,I3,n3⟩:=q3;obtain ⟨m',hm,w3⟩:=hN σ3 H3 n3;exact ⟨m',hm,σ3,H3,I3,w3⟩
  | cont =>
   obtain ⟨σ3,H3,I3,n3⟩:=q3;obtain ⟨m',hm,w3⟩:=hN σ3 H3 n3;exact ⟨m',hm,σ3,H3,I3,w3⟩
  | brk=>exact q3
  | ret v=>exact q3
 | false =>
  rw [Z0t Z0v];exact Z2b ⟨σ1,H2,I2,q2⟩
end
structure It where
 go:Nat->Hp->Prop
 yld:Nat->Hp->V->Hp->Prop
 stop:Nat->Hp->Prop
def B3c (X:Cx) (pins:List (Addr×Obj)) (H:Hp) (b:Addr):Prop :=
 H b=none/\b≠X.env.locals/\b∉X.fs/\(b∈X.ex\/X.s₀.heap.objs.size<=b)/\(∀x c,X.env.cells.lookup x=some c->c≠b)/\∀p∈X.pn++pins,p.1≠b
theorem Inv.fpOk {X:Cx} {pins:List (Addr×Obj)} {σ:St} {H H':Hp} {s:Shared} {b:Addr} (I:Inv X pins σ H s) (hb:s.heap.objs.size<=b) (hn:H' b=none):B3c X pins H' b:=by
 refine ⟨hn,Nat.ne_of_gt (Z0q I.lt hb),I.nofs hb,.inr (Z1n I.sz hb),λx c e z=> ?_,λp hp z=> ?_⟩
 ·obtain ⟨v,q⟩:=I.cell x c e;exact absurd (Z0q q.lt (by rw [z];exact hb)) (Nat.lt_irrefl _)
 ·exact absurd (Z0q (Z0a (I.pin p hp).1) (by rw [z];exact hb)) (Nat.lt_irrefl _)
structure D3w (P:Program) (w:World) (K:Frag) (tg:Expr) (J:It) (fp:List Addr) (it:Addr) (tn:Nat->Heap->Prop):Prop where
 mem:it∈fp
 obj:∀i h,tn i h->∀b∈fp,∃o,h.get? b=some o/\∀v,o.data≠.cell v
 keep:∀i h h',tn i h->(∀b∈fp,∀o,h.get? b=some o->h'.get? b=some o)->tn i h'
 item:∀(X:Cx),X.prog=P->X.w=w->X.K=K->X.calm=true->∀(i:Nat) (pins:List (Addr×Obj)) (s:Shared) (σ:St) (H:Hp) (E:Value->Shared->Prop),Inv X pins σ H s->(∀b∈fp,B3c X pins H b)->tn i s.heap->J.go i H->
  wpAny (model P w) X.A (pyNext (.ref it)) (λr s1=>∃u,r=some u/\
   wpAny (model P w) X.A (letOwnedTupleGo tg (.ref it) u) (λ_ s2=>∃x H',Inv X pins σ H' s2/\A2v x u/\J.yld i H x H'/\tn (i+1) s2.heap/\∀b∈fp,H' b=none) E s1) E s
 done:∀(X:Cx),X.prog=P->X.w=w->X.K=K->X.calm=true->∀(i:Nat) (pins:List (Addr×Obj)) (s:Shared) (σ:St) (H:Hp) (E:Value->Shared->Prop),Inv X pins σ H s->(∀b∈fp,B3c X pins H b)->tn i s.heap->J.stop i H->
  wpAny (model P w) X.A (pyNext (.ref it)) (λr s1=>r=none/\Inv X pins σ H s1) E s
 self:∀(A:Around) (i:Nat) (s:Shared) (Q:Value->Shared->Prop) (E:Value->Shared->Prop),tn i s.heap->Q (.ref it) s->wpAny (model P w) A (pyIter (.ref it)) Q E s
abbrev TI:=St->Hp->(It->Hp->Prop)->Prop
def PIE (X:Cx) (pins:List (Addr×Obj)) (σ:St) (tg:Expr) (R:It->Hp->Prop) (itv:Value) (s2:Shared):Prop :=
 ∃(it:Addr) (fp:List Addr) (tn:Nat->Heap->Prop) (J:It) (H':Hp),itv= .ref it/\Inv X pins σ H' s2/\D3w X.prog X.w X.K tg J fp it tn/\tn 0 s2.heap/\(∀b∈fp,B3c X pins H' b)/\R J H'
def PI (X:Cx) (tg iter:Expr) (wi:TI):Prop :=
 ∀(pins:List (Addr×Obj)) (s:Shared) (σ:St) (H:Hp) (R:It->Hp->Prop),Inv X pins σ H s->wi σ H R->
  wpAny (model X.prog X.w) X.A (eval iter X.env) (λv s1=>wpAny (model X.prog X.w) X.A (pyIter v) (PIE X pins σ tg R) X.xe s1) X.xe s
theorem C7r {M:Model} {A:Around} {E:Value->Shared->Prop} {s:Shared} {tg:Expr} {it:Addr} {u:Value} {o:Obj} {n:String} {vs:Array Value} {Q:Unit->Shared->Prop} (ho:s.heap.get? it=some o) (hc:o.cls= .type n) (hd:o.data= .fields vs)
  (hn:["enumerate","zip","dict_itemiterator","dict_reverseitemiterator","odict_iterator","itertools.zip_longest","itertools.pairwise"].contains n=false) (hQ:Q () s):wpAny M A (letOwnedTupleGo tg (.ref it) u) Q E s:=by
 unfold letOwnedTupleGo
 cases tg <;> first
  | exact Z04 hQ
  | (cases u <;> first
    | exact Z04 hQ
    | (refine Z00 (wpAny_load ho ?_);rw [hc,hd];show wpAny M A (if (["enumerate","zip","dict_itemiterator","dict_reverseitemiterator","odict_iterator","itertools.zip_longest","itertools.pairwise"].contains n&&vs[0]? == some (rawInt _))=true then _ else _) Q E s;rw [Z0t (by intro h;rw [hn,Bool.false_and] at h;cases h)];exact Z04 hQ))
def Itl (K:Frag) (a:Addr):It :=
 ⟨λi H=>∃xs x,SqL K H a xs/\xs[i]? =some x,λi H x H'=>H'=H/\∀xs,SqL K H a xs->xs[i]? =some x,λi H=>∃xs,SqL K H a xs/\xs.length<=i⟩
def Itt (K:Frag) (a:Addr):It :=
 ⟨λi H=>∃xs x,SqT K H a xs/\xs[i]? =some x,λi H x H'=>H'=H/\∀xs,SqT K H a xs->xs[i]? =some x,λi H=>∃xs,SqT K H a xs/\xs.length<=i⟩
def Itr (lo:Int) (n:Nat):It:=⟨λi _=>i<n,λi H x H'=>H'=H/\x= .int (lo+i),λi _=>n<=i⟩
theorem C2u {P:Program} {w:World} {K:Frag} {tg:Expr} (a it:Addr):D3w P w K tg (Itl K a) [it] it (λi h=>h.IsListIter it a i) where
 mem:=by simp
 obj:=λi h st b hb=>by
  have e:b=it:=by simpa using hb
  subst e;obtain ⟨o,e,c,d⟩:=st;exact ⟨o,e,λv z=>by rw [d] at z;cases z⟩
 keep:=λi h h' st k=>st.at λo e=>k it (by simp) o e
 item:=by
  intro X hP hw hK hc i pins s σ H E I hf st hg;subst hP hw hK;obtain ⟨xs,x,hq,hx⟩:=hg;obtain ⟨its,rv,p,hz⟩:=I.list hq;obtain ⟨u,hu,ru⟩:=rv.get hx;obtain ⟨f0,f1,f2,f3,f4,f5⟩:=hf it (by simp);refine wpAny_pyNext_list_item st p.isList (x:=u) (by simpa using hu) λh' st' sb=> ?_;have I1:Inv X pins σ H { s with heap:=h' }:=I.turned (t':=s.toks) (λb o hb e=>(sb.2 b hb).trans e) f0 f1 f3 f4 f5
  obtain ⟨o,e,c,d⟩:=id st';exact ⟨u,rfl,C7r (s:={ s with heap:=h' }) e c d (by decide) ⟨x,H,I1,ru,⟨rfl,λys hy=>by rw [I.list_inj hy hq];exact hx⟩,st',λb hb=>(hf b hb).1⟩⟩
 done:=by
  intro X hP hw hK hc i pins s σ H E I hf st hg;subst hP hw hK;obtain ⟨xs,hq,hx⟩:=hg;obtain ⟨its,rv,p,hz⟩:=I.list hq;obtain ⟨f0,f1,f2,f3,f4,f5⟩:=hf it (by simp);have hl:=rv.length;exact wpAny_pyNext_list_end (I.ok.hd hc) st p.isList (by simp;lia) λh' eb=>⟨rfl,I.turned (t':=s.toks) (λb o hb e=>eb b o hb e) f0 f1 f3 f4 f5⟩
 self:=λ_ _ _ _ _ st h=>wpAny_pyIter_listiter st h
theorem C1p {P:Program} {w:World} {K:Frag} {tg:Expr} (a it:Addr):D3w P w K tg (Itt K a) [it] it (λi h=>h.IsTupleIter it a i) where
 mem:=by simp
 obj:=λi h st b hb=>by
  have e:b=it:=by simpa using hb
  subst e;obtain ⟨o,e,c,d⟩:=st;exact ⟨o,e,λv z=>by rw [d] at z;cases z⟩
 keep:=λi h h' st k=>st.at λo e=>k it (by simp) o e
 item:=by
  intro X hP hw hK hc i pins s σ H E I hf st hg;subst hP hw hK;obtain ⟨xs,x,hq,hx⟩:=hg;obtain ⟨its,rv,p,hz⟩:=I.tuple hq;obtain ⟨u,hu,ru⟩:=rv.get hx;obtain ⟨f0,f1,f2,f3,f4,f5⟩:=hf it (by simp);refine wpAny_pyNext_tuple_item st (show s.heap.IsTuple a its.toArray from p) (x:=u) (by simpa using hu) λh' st' sb=> ?_;have I1:Inv X pins σ H { s with heap:=h' }:=I.turned (t':=s.toks) (λb o hb e=>(sb.2 b hb).trans e) f0 f1 f3 f4 f5
  obtain ⟨o,e,c,d⟩:=id st';exact ⟨u,rfl,C7r (s:={ s with heap:=h' }) e c d (by decide) ⟨x,H,I1,ru,⟨rfl,λys hy=>by rw [I.tuple_inj hy hq];exact hx⟩,st',λb hb=>(hf b hb).1⟩⟩
 done:=by
  intro X hP hw hK hc i pins s σ H E I hf st hg;subst hP hw hK;obtain ⟨xs,hq,hx⟩:=hg;obtain ⟨its,rv,p,hz⟩:=I.tuple hq;obtain ⟨f0,f1,f2,f3,f4,f5⟩:=hf it (by simp);have hl:=rv.length;exact wpAny_pyNext_tuple_end (I.ok.hd hc) st (show s.heap.IsTuple a its.toArray from p) (by simp;lia) λh' eb=>⟨rfl,I.turned (t':=s.toks) (λb o hb e=>eb b o hb e) f0 f1 f3 f4 f5⟩
 self:=λ_ _ _ _ _ st h=>wpAny_pyIter_tupleiter st h
theorem C1k {P:Program} {w:World} {K:Frag} {tg:Expr} (it:Addr) (lo:Int) (n:Nat):D3w P w K tg (Itr lo n) [it] it (λi h=>IsRangeIter h it (lo+(i:Nat)*1) ((n:Int)-(i:Nat)) 1) where
 mem:=by simp
 obj:=λi h st b hb=>by
  have e:b=it:=by simpa using hb
  subst e
  exact ⟨_,st,λv z=>by
   have z':Data.fields _=Data.cell v:=z
   cases z'⟩
 keep:=λi h h' st k=>k it (by simp) _ st
 item:=by
  intro X hP hw hK hc i pins s σ H E I hf st hg;subst hP hw hK;obtain ⟨f0,f1,f2,f3,f4,f5⟩:=hf it (by simp);have W:=Walks.range (prog:=X.prog) (w:=X.w) (I.ok.hd hc) it lo 1 n;refine W.item i s _ _ hg st λv h' tk hv st' kk=> ?_;obtain ⟨t,rfl⟩:=hv;have I1:Inv X pins σ H { s with heap:=h',toks:=tk }:=I.turned (λb o hb e=>kk b o (by simpa using hb) e) f0 f1 f3 f4 f5
  refine ⟨_,rfl,C7r (s:={ s with heap:=h',toks:=tk }) (n:="range_iterator") st' rfl rfl (by decide) ⟨.int (lo+i),H,I1,⟨t,?_⟩,⟨rfl,rfl⟩,st',λb hb=>(hf b hb).1⟩⟩
  rw [Int.mul_one]
 done:=by
  intro X hP hw hK hc i pins s σ H E I hf st hg;subst hP hw hK;obtain ⟨f0,f1,f2,f3,f4,f5⟩:=hf it (by simp);exact wpAny_pyNext_range_end (I.ok.hd hc) st (by have:n<=i:=hg;lia) λh' eb=>⟨rfl,I.turned (t':=s.toks) (λb o hb e=>eb b o hb e) f0 f1 f3 f4 f5⟩
 self:=λ_ _ _ _ _ st h=>wpAny_pyIter_rangeiter st h
section
variable {X:Cx} {tg:Expr}
def D3a (K:Frag) (tl:TE):TI:=λσ H R=>tl σ H λx H1=>∃a,x= .ref a/\(∃xs,SqL K H1 a xs)/\R (Itl K a) H1
def E1f (K:Frag) (tl:TE):TI:=λσ H R=>tl σ H λx H1=>∃a,x= .ref a/\(∃xs,SqT K H1 a xs)/\R (Itt K a) H1
theorem A3f {l:Expr} {tl:TE} (hl:PE X l tl):PI X tg l (D3a X.K tl):=by
 intro pins s σ H R I h;refine thn (hl pins s σ H _ I h) ?_;rintro v s1 ⟨x,H1,I1,r1,q1⟩;obtain ⟨a,e,⟨xs,hq⟩,q⟩:=q1;subst e;cases r1;obtain ⟨its,rv,p,hz⟩:=I1.list hq;refine wpAny_pyIter_list p.isList ?_;refine ⟨s1.heap.objs.size,[s1.heap.objs.size],_,_,H1,rfl,I1.kept (t':=s1.toks) λb o e=>Z01 _ e,C2u a _,⟨_,Z0c _ rfl,rfl,rfl⟩,λb hb=> ?_,q⟩;have e:b=s1.heap.objs.size:=by simpa using hb
 subst e;exact I1.fpOk (Z09 _) (I1.hok.fresh (Z09 _))
theorem C9k {l:Expr} {tl:TE} (hl:PE X l tl):PI X tg l (E1f X.K tl):=by
 intro pins s σ H R I h;refine thn (hl pins s σ H _ I h) ?_;rintro v s1 ⟨x,H1,I1,r1,q1⟩;obtain ⟨a,e,⟨xs,hq⟩,q⟩:=q1;subst e;cases r1;obtain ⟨its,rv,p,hz⟩:=I1.tuple hq;refine wpAny_pyIter_tuple (show s1.heap.IsTuple a its.toArray from p) ?_;refine ⟨s1.heap.objs.size,[s1.heap.objs.size],_,_,H1,rfl,I1.kept (t':=s1.toks) λb o e=>Z01 _ e,C1p a _,⟨_,Z0c _ rfl,rfl,rfl⟩,λb hb=> ?_,q⟩;have e:b=s1.heap.objs.size:=by simpa using hb
 subst e;exact I1.fpOk (Z09 _) (I1.hok.fresh (Z09 _))
theorem C8h {pins:List (Addr×Obj)} {σ:St} {H:Hp} {s:Shared} {R:It->Hp->Prop} {E:Value->Shared->Prop} {lo hi:Int} {t u v:Tok} {tk:Nat} (I:Inv X pins σ H s) (h1: -(2^62)<=lo) (h2:lo<2^62) (h3: -(2^62)<=hi) (h4:hi<2^62)
  (q:R (Itr lo (hi-lo).toNat) H):wpAny (model X.prog X.w) X.A (pyIter (.ref s.heap.objs.size)) (PIE X pins σ tg R) E { s with heap:=s.heap.push { cls:= .type "range",data:= .fields #[.int lo t,.int hi u,.int 1 v] },toks:=tk }:=by
 refine wpAny_pyIter_range (IsRange.new ..) (small_one h1 h2 h3 h4) ?_;have I1:Inv X pins σ H { s with heap:=s.heap.push { cls:= .type "range",data:= .fields #[.int lo t,.int hi u,.int 1 v] },toks:=tk }:=I.kept λb o e=>Z01 _ e
 refine ⟨(s.heap.push { cls:= .type "range",data:= .fields #[.int lo t,.int hi u,.int 1 v] }).objs.size,[(s.heap.push { cls:= .type "range",data:= .fields #[.int lo t,.int hi u,.int 1 v] }).objs.size],_,_,H,rfl,
  I1.kept (t':=tk) λb o e=>Z01 _ e,C1k _ lo (hi-lo).toNat,?_,λb hb=> ?_,q⟩
 ·have e1:lo+((0:Nat):Int)*1=lo:=by simp
  have e2:(((hi-lo).toNat:Nat):Int)-((0:Nat):Int)=Builtin.Range.rangeSize lo hi 1:=by rw [rangeSize_one];split <;> lia
  show IsRangeIter _ _ (lo+((0:Nat):Int)*1) ((((hi-lo).toNat:Nat):Int)-((0:Nat):Int)) 1;rw [e1,e2];exact Z0c _ rfl
 ·have e:b=(s.heap.push { cls:= .type "range",data:= .fields #[.int lo t,.int hi u,.int 1 v] }).objs.size:=by simpa using hb
  subst e;exact I1.fpOk (Z09 _) (I1.hok.fresh (Z09 _))
def D8e (ta:TA):TI:=λσ H R=>ta σ H λvs H1=>∃j:Int,vs=[.int j]/\-(2^62)<=j/\j<2^62/\R (Itr 0 j.toNat) H1
theorem A4i {a:Expr} {ta:TA} {p pos:Pos} (hg:Gl X "range") (hm:X.mg "range"=none) (ha:PA X [a] ta) (hs:starEach [a] X.env=[(false,eval a X.env)]:=by rfl):PI X tg (.Call (.Name "range" p) [a] [] pos) (D8e ta):=by
 intro pins s σ H R I h;refine Call_ (B9s I hg hm boot_range (PyProof.Rows.callWith_type1 (thn (ha pos pins s σ H _ I h) ?_) hs rfl));rintro us s1 ⟨vs,H1,I1,r1,q1⟩;obtain ⟨j,e,q1,q2,q⟩:=q1;subst e
 cases r1 with
 | cons r rr =>
  cases rr
  obtain ⟨t,rfl⟩:=r;exact call_range_1 (C8h I1 (by lia) (by lia) q1 q2 (by simpa using q))
def E1b (wi:TI) (g:TG) (tb:TS):TS:=λD σ H=>wi σ H λJ H1=>∃W:Nat->Nat->St->Hp->Prop,(∃m,W 0 m σ H1)/\∀i m σ H,W i m σ H->
 (J.stop i H/\D.nx σ H)\/(J.go i H/\∃N:St->Hp->Prop,(∀σ' H',N σ' H'->∃m',m'<m/\W (i+1) m' σ' H')/\∀x H',J.yld i H x H'->g x σ H' λσ2 H2=>tb { D with nx:=N,ct:=N,bk:=D.nx } σ2 H2)
def B3r (fp:List Addr) (h:Heap):List (Addr×Obj):=fp.filterMap λb=>(h.get? b).map λo=>(b,o)
theorem A2q {fp:List Addr} {h:Heap} {b:Addr} {o:Obj} (hb:b∈fp) (e:h.get? b=some o):(b,o)∈B3r fp h:=List.mem_filterMap.mpr ⟨b,hb,by rw [e];rfl⟩
theorem C3z {fp:List Addr} {h:Heap} {p:Addr×Obj} (hp:p∈B3r fp h):p.1∈fp/\h.get? p.1=some p.2:=by
 obtain ⟨b,hb,e⟩:=List.mem_filterMap.mp hp
 cases q:h.get? b with
 | none=>rw [q] at e;cases e
 | some o =>
  rw [q] at e;have e':(b,o)=p:=Z1a e;subst e';exact ⟨hb,q⟩
theorem Inv.pinned {pins:List (Addr×Obj)} {σ:St} {H:Hp} {s:Shared} {fp:List Addr} (I:Inv X pins σ H s) (hf:∀b∈fp,B3c X pins H b) (ho:∀b∈fp,∃o,s.heap.get? b=some o/\∀v,o.data≠.cell v):Inv X (pins++B3r fp s.heap) σ H s :=
 I.pins_of λp hp=>(Z07.mp hp).elim (λz=>I.pin p (Z02 _ z)) λz=>by
  obtain ⟨hb,e⟩:=C3z z;obtain ⟨f0,f1,f2,_⟩:=hf p.1 hb;obtain ⟨o,e',d⟩:=ho p.1 hb;rw [e] at e';cases e';exact ⟨e,f0,f1,f2,d⟩
theorem Inv.unpinned {pins pl:List (Addr×Obj)} {σ:St} {H:Hp} {s:Shared} (I:Inv X (pins++pl) σ H s):Inv X pins σ H s:=I.pins_of λp hp=>I.pin p (Z02 _ (Z05 _ hp))
theorem A5l {iter:Expr} {body:List Stmt} {wi:TI} {g:TG} {tb:TS} {pos:Pos} (hp:PassesOwn (model X.prog X.w) X.A X.env X.xe) (hc:X.calm=true) (hi:PI X tg iter wi) (hg:PG X tg g) (hb:PSs X body tb)
  (hs:∀x,foldedSetIterable iter X.env x=pure x:=by intro _;rfl):PS X (.For tg iter body [] pos) (E1b wi g tb):=by
 intro pins s σ H D I h;refine wpAny_For (thn (hi pins s σ H _ I h) λv s1 h1=>thn h1 λitv s2 h2=> ?_) hs;obtain ⟨it,fp,tn,J,H2,e,I2,T,st2,f2,W,⟨m0,w0⟩,turn⟩:=h2;subst e;have stat:∀{H':Hp},(∀b∈fp,H' b=none)->∀b∈fp,B3c X pins H' b:=λhn b hb=>⟨hn b hb,(f2 b hb).2⟩;refine codeAny_forLoop_any (λn s'=>∃i σ' H',Inv X pins σ' H' s'/\tn i s'.heap/\(∀b∈fp,H' b=none)/\W i n σ' H') ?_ m0 ⟨0,σ,H2,I2,st2,λb hb=>(f2 b hb).1,w0⟩;rintro n s3 ⟨i,σ3,H3,I3,st3,fr3,w3⟩;rcases turn i n σ3 H3 w3 with ⟨stop,qn⟩ | ⟨go,N,hN,step⟩
 ·refine wpAny_passesOwn hp (thn (T.done X rfl rfl rfl hc i pins s3 σ3 H3 X.xe I3 (stat fr3) st3 stop) ?_);rintro r s4 ⟨hr,I4⟩;subst hr;exact Z2b ⟨σ3,H3,I4,qn⟩
 ·refine wpAny_passesOwn hp (thn (T.item X rfl rfl rfl hc i pins s3 σ3 H3 X.xe I3 (stat fr3) st3 go) ?_);rintro r s4 ⟨u,hr,h4⟩;subst hr;refine wpAny_passesOwn hp (thn h4 ?_);rintro _ s5 ⟨x,H5,I5,r5,y5,st5,fr5⟩;have I5':=I5.pinned (stat fr5) (T.obj _ _ st5);refine wpAny_passesOwn hp (thn (hg _ s5 σ3 H5 x u _ I5' r5 (step x H5 y5)) ?_);rintro _ s6 ⟨σ6,H6,I6,q6⟩;refine wpAny_passesOwn hp (thn (hb _ s6 σ6 H6 _ I6 q6) λf s7 q7=> ?_)
  have again:∀{σ7:St} {H7:Hp},Inv X (pins++B3r fp s5.heap) σ7 H7 s7->N σ7 H7->∃m,m<n/\∃i σ' H',Inv X pins σ' H' s7/\tn i s7.heap/\(∀b∈fp,H' b=none)/\W i m σ' H':=λ{σ7 H7} I7 n7=>by
   obtain ⟨m',hm,w7⟩:=hN σ7 H7 n7;refine ⟨m',hm,i+1,σ7,H7,I7.unpinned,T.keep _ _ _ st5 λb hb o e=>(I7.pin (b,o) (Z02 _ (Z02 _ (A2q hb e)))).1,λb hb=> ?_,w7⟩;obtain ⟨o,e,d⟩:=T.obj _ _ st5 b hb;exact (I7.pin (b,o) (Z02 _ (Z02 _ (A2q hb e)))).2.1
  cases f with
  | next=>obtain ⟨σ7,H7,I7,n7⟩:=q7;exact again I7 n7
  | cont=>obtain ⟨σ7,H7,I7,n7⟩:=q7;exact again I7 n7
  | brk=>obtain ⟨σ7,H7,I7,q7⟩:=q7;exact ⟨σ7,H7,I7.unpinned,q7⟩
  | ret v=>obtain ⟨x7,σ7,H7,I7,r7,q7⟩:=q7;exact ⟨x7,σ7,H7,I7.unpinned,r7,q7⟩
end
theorem A9f {K:Frag} {a:Addr} {xs:List V} {g:TG} {tb:TS} {D:B9t} {σ:St} {H:Hp} (Pv:Nat->St->Hp->Prop) (h0:Pv 0 σ H) (hl:∀i σ H,i<=xs.length->Pv i σ H->SqL K H a xs)
  (hs:∀i x σ H,xs[i]? =some x->Pv i σ H->g x σ H λσ2 H2=>tb { D with nx:=Pv (i+1),ct:=Pv (i+1),bk:=D.nx } σ2 H2) (hd:∀σ H,Pv xs.length σ H->D.nx σ H) :
  ∃W:Nat->Nat->St->Hp->Prop,(∃m,W 0 m σ H)/\∀i m σ H,W i m σ H->
   ((Itl K a).stop i H/\D.nx σ H)\/((Itl K a).go i H/\∃N:St->Hp->Prop,(∀σ' H',N σ' H'->∃m',m'<m/\W (i+1) m' σ' H')/\∀x H',(Itl K a).yld i H x H'->g x σ H' λσ2 H2=>tb { D with nx:=N,ct:=N,bk:=D.nx } σ2 H2):=by
 refine ⟨λi m σ H=>m=xs.length-i/\i<=xs.length/\Pv i σ H,⟨xs.length,by simp,Z1e _,h0⟩,?_⟩;rintro i m σ H ⟨rfl,hi,p⟩;have q:=hl i σ H hi p;by_cases hlt:i<xs.length
 ·refine .inr ⟨⟨xs,xs[i],q,by simp [hlt]⟩,Pv (i+1),λσ' H' p'=>⟨xs.length-(i+1),by lia,rfl,hlt,p'⟩,λx H' y=> ?_⟩;obtain ⟨e,y⟩:=y;subst e;exact hs i x σ _ (y xs q) p
 ·have e:i=xs.length:=by lia
  subst e;exact .inl ⟨⟨xs,q,Z09 _⟩,hd σ H p⟩
theorem D2f {K:Frag} {a:Addr} {xs:List V} {g:TG} {tb:TS} {D:B9t} {σ:St} {H:Hp} (Pv:Nat->St->Hp->Prop) (h0:Pv 0 σ H) (hl:∀i σ H,i<=xs.length->Pv i σ H->SqT K H a xs)
  (hs:∀i x σ H,xs[i]? =some x->Pv i σ H->g x σ H λσ2 H2=>tb { D with nx:=Pv (i+1),ct:=Pv (i+1),bk:=D.nx } σ2 H2) (hd:∀σ H,Pv xs.length σ H->D.nx σ H) :
  ∃W:Nat->Nat->St->Hp->Prop,(∃m,W 0 m σ H)/\∀i m σ H,W i m σ H->
   ((Itt K a).stop i H/\D.nx σ H)\/((Itt K a).go i H/\∃N:St->Hp->Prop,(∀σ' H',N σ' H'->∃m',m'<m/\W (i+1) m' σ' H')/\∀x H',(Itt K a).yld i H x H'->g x σ H' λσ2 H2=>tb { D with nx:=N,ct:=N,bk:=D.nx } σ2 H2):=by
 refine ⟨λi m σ H=>m=xs.length-i/\i<=xs.length/\Pv i σ H,⟨xs.length,by simp,Z1e _,h0⟩,?_⟩;rintro i m σ H ⟨rfl,hi,p⟩;have q:=hl i σ H hi p;by_cases hlt:i<xs.length
 ·refine .inr ⟨⟨xs,xs[i],q,by simp [hlt]⟩,Pv (i+1),λσ' H' p'=>⟨xs.length-(i+1),by lia,rfl,hlt,p'⟩,λx H' y=> ?_⟩;obtain ⟨e,y⟩:=y;subst e;exact hs i x σ _ (y xs q) p
 ·have e:i=xs.length:=by lia
  subst e;exact .inl ⟨⟨xs,q,Z09 _⟩,hd σ H p⟩
theorem A4k {lo:Int} {n:Nat} {g:TG} {tb:TS} {D:B9t} {σ:St} {H:Hp} (Pv:Nat->St->Hp->Prop) (h0:Pv 0 σ H)
  (hs:∀i σ H,i<n->Pv i σ H->g (.int (lo+i)) σ H λσ2 H2=>tb { D with nx:=Pv (i+1),ct:=Pv (i+1),bk:=D.nx } σ2 H2) (hd:∀σ H,Pv n σ H->D.nx σ H) :
  ∃W:Nat->Nat->St->Hp->Prop,(∃m,W 0 m σ H)/\∀i m σ H,W i m σ H->
   ((Itr lo n).stop i H/\D.nx σ H)\/((Itr lo n).go i H/\∃N:St->Hp->Prop,(∀σ' H',N σ' H'->∃m',m'<m/\W (i+1) m' σ' H')/\∀x H',(Itr lo n).yld i H x H'->g x σ H' λσ2 H2=>tb { D with nx:=N,ct:=N,bk:=D.nx } σ2 H2):=by
 refine ⟨λi m σ H=>m=n-i/\i<=n/\Pv i σ H,⟨n,by simp,Z1e _,h0⟩,?_⟩;rintro i m σ H ⟨rfl,hi,p⟩;by_cases hlt:i<n
 ·refine .inr ⟨hlt,Pv (i+1),λσ' H' p'=>⟨n-(i+1),by lia,rfl,hlt,p'⟩,λx H' y=> ?_⟩;obtain ⟨e,y⟩:=y;subst e y;exact hs i σ _ hlt p
 ·have e:i=n:=by lia
  subst e;exact .inl ⟨Z09 _,hd σ H p⟩
theorem C5z {c:TT} {tb:TS} {D:B9t} {σ:St} {H:Hp} (Pv:St->Hp->Prop) (μ:St->Hp->Nat) (h0:Pv σ H)
  (hs:∀σ H,Pv σ H->c σ H λb H1=>if b=true then tb { D with nx:=λσ' H'=>Pv σ' H'/\μ σ' H'<μ σ H,ct:=λσ' H'=>Pv σ' H'/\μ σ' H'<μ σ H,bk:=D.nx } σ H1 else D.nx σ H1)
  (mono:∀σ H Q Q',(∀b H1,Q b H1->Q' b H1)->c σ H Q->c σ H Q'):C5d c tb D σ H:=by
 refine ⟨λm σ H=>m=μ σ H/\Pv σ H,⟨_,rfl,h0⟩,?_⟩;rintro m σ H ⟨rfl,p⟩;refine mono σ H _ _ (λb H1 q=> ?_) (hs σ H p)
 cases b with
 | true=>exact ⟨_,(by rintro σ' H' ⟨p',l⟩;exact ⟨_,l,rfl,p'⟩),q⟩
 | false=>exact q
abbrev R2:=V->V->Hp->VK->Prop
def OpR (X:Cx) (f:Value->Value->Sem Value) (r:R2):Prop :=
 ∀(pins:List (Addr×Obj)) (s:Shared) (σ:St) (H:Hp) (x y:V) (v u:Value) (Q:VK),Inv X pins σ H s->A2v x v->A2v y u->r x y H Q->
  wpAny (model X.prog X.w) X.A (f v u) (EP X pins σ Q) X.xe s
def UnR (X:Cx) (f:Value->Sem Value) (r:V->Hp->VK->Prop):Prop :=
 ∀(pins:List (Addr×Obj)) (s:Shared) (σ:St) (H:Hp) (x:V) (v:Value) (Q:VK),Inv X pins σ H s->A2v x v->r x H Q->
  wpAny (model X.prog X.w) X.A (f v) (EP X pins σ Q) X.xe s
def B1b (X:Cx) (f:Value) (r:List V->Hp->VK->Prop):Prop :=
 ∀(pins:List (Addr×Obj)) (s:Shared) (σ:St) (H:Hp) (xs:List V) (us:List Value) (Q:VK),Inv X pins σ H s->A3c xs us->r xs H Q->
  wpAny (model X.prog X.w) X.A (call f us) (EP X pins σ Q) X.xe s
def tOp (r:R2) (ta tb:TE):TE:=λσ H Q=>ta σ H λx H1=>tb σ H1 λy H2=>r x y H2 Q
def tUn (r:V->Hp->VK->Prop) (ta:TE):TE:=λσ H Q=>ta σ H λx H1=>r x H1 Q
def rI (C:Int->Int->Prop) (g:Int->Int->V):R2:=λx y H Q=>∃i j,x= .int i/\y= .int j/\C i j/\Q (g i j) H
def rI0 (g:Int->Int->V):R2:=λx y H Q=>∃i j,x= .int i/\y= .int j/\Q (g i j) H
def rU (g:Int->V):V->Hp->VK->Prop:=λx H Q=>∃i,x= .int i/\Q (g i) H
section
variable {X:Cx} {a b c:Expr} {ta tb tc:TE} {pos:Pos}
theorem D8m (ha:PE X a ta) (hb:PE X b tb) {pins:List (Addr×Obj)} {s:Shared} {σ:St} {H:Hp} {R:V->V->Hp->Prop} (I:Inv X pins σ H s)
  (h:ta σ H λx H1=>tb σ H1 λy H2=>R x y H2) {Q:Value->Shared->Prop} {f:Value->Value->Sem Value}
  (hf:∀v u s2 x y H2,Inv X pins σ H2 s2->A2v x v->A2v y u->R x y H2->wpAny (model X.prog X.w) X.A (f v u) Q X.xe s2) :
  wpAny (model X.prog X.w) X.A (eval a X.env) (λv s₁=>wpAny (model X.prog X.w) X.A (eval b X.env) (λu s₂=>wpAny (model X.prog X.w) X.A (f v u) Q X.xe s₂) X.xe s₁) X.xe s:=by
 refine thn (ha pins s σ H _ I h) ?_;rintro v s1 ⟨x,H1,I1,r1,q1⟩;refine thn (hb pins s1 σ H1 _ I1 q1) ?_;rintro u s2 ⟨y,H2,I2,r2,q2⟩;exact hf v u s2 x y H2 I2 r1 r2 q2
theorem A0k {op:Operator} {r:R2} (ho:OpR X (binaryOp op) r) (ha:PE X a ta) (hb:PE X b tb):PE X (.BinOp a op b pos) (tOp r ta tb):=by
 intro pins s σ H Q I h;exact wpAny_BinOp (D8m ha hb I h λv u s2 x y H2 I2 rx ry q=>ho pins s2 σ H2 x y v u Q I2 rx ry q)
theorem D0u {op:UnaryOp} {r:V->Hp->VK->Prop} (ho:UnR X (unaryOp op) r) (ha:PE X a ta):PE X (.UnaryOp op a pos) (tUn r ta):=by
 intro pins s σ H Q I h;exact UnaryOp_ (thn (ha pins s σ H _ I h) (by rintro v s1 ⟨x,H1,I1,r1,q1⟩;exact ho pins s1 σ H1 x v Q I1 r1 q1))
theorem opI {f:Value->Value->Sem Value} {C:Int->Int->Prop} {g:Int->Int->Int}
  (rule:∀(i j:Int) (t u:Tok) (s:Shared) (Q:Value->Shared->Prop) (E:Value->Shared->Prop),C i j->Q (.int (g i j) s.toks) { s with toks:=s.toks+1 }->wpAny (model X.prog X.w) X.A (f (.int i t) (.int j u)) Q E s) :
  OpR X f (rI C λi j=> .int (g i j)):=by
 intro pins s σ H x y v u Q I rx ry h;obtain ⟨i,j,rfl,rfl,hc,q⟩:=h;obtain ⟨t,rfl⟩:=rx;obtain ⟨t',rfl⟩:=ry;exact rule i j t t' s _ _ hc ⟨.int (g i j),H,I.tok _,⟨_,rfl⟩,q⟩
theorem E1h {f:Value->Value->Sem Value} {g:Int->Int->Int}
  (rule:∀(i j:Int) (t u:Tok) (s:Shared) (Q:Value->Shared->Prop) (E:Value->Shared->Prop),Q (.int (g i j) s.toks) { s with toks:=s.toks+1 }->wpAny (model X.prog X.w) X.A (f (.int i t) (.int j u)) Q E s) :
  OpR X f (rI0 λi j=> .int (g i j)):=by
 intro pins s σ H x y v u Q I rx ry h;obtain ⟨i,j,rfl,rfl,q⟩:=h;obtain ⟨t,rfl⟩:=rx;obtain ⟨t',rfl⟩:=ry;exact rule i j t t' s _ _ ⟨.int (g i j),H,I.tok _,⟨_,rfl⟩,q⟩
theorem D8k {f:Value->Value->Sem Value} {g:Int->Int->Bool}
  (rule:∀(i j:Int) (t u:Tok) (s:Shared) (Q:Value->Shared->Prop) (E:Value->Shared->Prop),Q (.bool (g i j)) s->wpAny (model X.prog X.w) X.A (f (.int i t) (.int j u)) Q E s) :
  OpR X f (rI0 λi j=> .bl (g i j)):=by
 intro pins s σ H x y v u Q I rx ry h;obtain ⟨i,j,rfl,rfl,q⟩:=h;obtain ⟨t,rfl⟩:=rx;obtain ⟨t',rfl⟩:=ry;exact rule i j t t' s _ _ ⟨.bl (g i j),H,I,rfl,q⟩
def CDiv (i j:Int):Prop:=0<j/\j<1073741824
def CPow (i j:Int):Prop:=0<=j/\j<=1000000/\i.natAbs<2^64
def D9a (i j:Int):Prop:=(-(2^64)<i/\i<2^64)\/(-(2^64)<j/\j<2^64)
theorem D9a.ok {i j:Int} (h:D9a i j):IntMulOk i j:=by
 rcases h with ⟨h1,h2⟩ | ⟨h1,h2⟩
 ·exact .of_left (intBits_le_64 h1 h2)
 ·exact .of_right (intBits_le_64 h1 h2)
theorem A2w:OpR X (binaryOp .Add) (rI0 λi j=> .int (i+j)):=E1h λ_ _ _ _ _ _ _ q=>add_int q
theorem A7q:OpR X (binaryOp .Sub) (rI0 λi j=> .int (i-j)):=E1h λ_ _ _ _ _ _ _ q=>sub_int q
theorem C0m:OpR X (binaryOp .Mult) (rI D9a λi j=> .int (i*j)):=opI λ_ _ _ _ _ _ _ hc q=>mul_int q hc.ok
theorem A1k:OpR X (binaryOp .FloorDiv) (rI CDiv λi j=> .int (i/j)):=opI λi j _ _ _ _ _ hc q=>by
 have h1:(0:Int)<j:=hc.1;have h2:j<1073741824:=hc.2;exact floordiv_int (by lia) (by rw [Int.fdiv_eq_ediv_of_nonneg i (by lia)];exact q) (.inl (PyProof.noPylong_small (by lia)))
theorem A1g:OpR X (binaryOp .Mod) (rI (λ_ j=>0<j) λi j=> .int (i%j)):=opI λi j _ _ _ _ _ hc q=>by
 have h1:(0:Int)<j:=hc;exact mod_int' (by lia) (by rw [Int.fmod_eq_emod_of_nonneg i (by lia)];exact q)
theorem A7v:OpR X (binaryOp .Pow) (rI CPow λi j=> .int (i^j.toNat)):=opI λ_ _ _ _ _ _ _ hc q=>pow_int_small hc.1 hc.2.1 hc.2.2 q
theorem unI {f:Value->Sem Value} {g:Int->Int}
  (rule:∀(i:Int) (t:Tok) (s:Shared) (Q:Value->Shared->Prop) (E:Value->Shared->Prop),Q (.int (g i) s.toks) { s with toks:=s.toks+1 }->wpAny (model X.prog X.w) X.A (f (.int i t)) Q E s) :
  UnR X f (rU λi=> .int (g i)):=by
 intro pins s σ H x v Q I rx h;obtain ⟨i,rfl,q⟩:=h;obtain ⟨t,rfl⟩:=rx;exact rule i t s _ _ ⟨.int (g i),H,I.tok _,⟨_,rfl⟩,q⟩
theorem C3x:UnR X (unaryOp .USub) (rU λi=> .int (-i)):=unI λ_ _ _ _ _ q=>neg_int q
end
def E1c:V->V->Bool
 | .non,.non=>true | .non,.int _=>true | .int _,.non=>true | .non,.bl _=>true | .bl _,.non=>true | .non,.str _=>true | .str _,.non=>true
 | .int _,.int _=>true | .bl _,.bl _=>true | .str _,.str _=>true | .byt _,.byt _=>true
 | .int _,.str _=>true | .str _,.int _=>true | .bl _,.str _=>true | .str _,.bl _=>true
 | _,_=>false
def rEq:R2:=λx y H Q=>E1c x y=true/\Q (.bl (decide (x=y))) H
def rNe:R2:=λx y H Q=>E1c x y=true/\Q (.bl (! decide (x=y))) H
theorem C2i {i j:Int}:decide (V.int i=V.int j)=(i == j):=by
 rw [Bool.eq_iff_iff];simp
theorem C9i {i j:Bool}:decide (V.bl i=V.bl j)=(i == j):=by
 rw [Bool.eq_iff_iff];simp
theorem C4p {i j:Str}:decide (V.str i=V.str j)=(i == j):=by
 rw [Bool.eq_iff_iff];simp
theorem C5c {i j:Array UInt8}:decide (V.byt i=V.byt j)=(i.toList == j.toList):=by
 rw [Bool.eq_iff_iff];cases i;cases j;simp
section
variable {X:Cx} {a b c:Expr} {ta tb tc:TE} {pos:Pos}
theorem A1y {pins:List (Addr×Obj)} {σ:St} {H:Hp} {s:Shared} {Q:VK} {k k':Bool} (I:Inv X pins σ H s) (q:Q (.bl k) H) (e:k=k'):EP X pins σ Q (.bool k') s:=by
 subst e;exact ⟨.bl k,H,I,rfl,q⟩
theorem A2s:OpR X (compareOp .Eq) rEq:=by
 intro pins s σ H x y v u Q I rx ry h;obtain ⟨hs,q⟩:=h
 cases x with
 | non =>
  cases rx
  cases y with
  | non=>cases ry;exact PySem.EqNone.eq_none_none (A1y I q (by simp))
  | bl j=>cases ry;exact PySem.EqNone.eq_none_bool (A1y I q (by simp))
  | int j=>obtain ⟨t',rfl⟩:=ry;exact PySem.EqNone.eq_none_int (A1y I q (by simp))
  | str j=>obtain ⟨t',rfl⟩:=ry;exact PySem.EqNone.eq_none_str (A1y I q (by simp))
  | _=>exact absurd (show false=true from hs) Z0v
 | bl i =>
  cases rx
  cases y with
  | non=>cases ry;exact PySem.EqNone.eq_bool_none (A1y I q (by simp))
  | bl j=>cases ry;exact eq_bool (A1y I q C9i)
  | str j=>obtain ⟨t',rfl⟩:=ry;exact PySem.EqMixed.eq_bool_str (A1y I q (by simp))
  | _=>exact absurd (show false=true from hs) Z0v
 | int i =>
  obtain ⟨t,rfl⟩:=rx
  cases y with
  | non=>cases ry;exact PySem.EqNone.eq_int_none (A1y I q (by simp))
  | int j=>obtain ⟨t',rfl⟩:=ry;exact eq_int (A1y I q C2i)
  | str j=>obtain ⟨t',rfl⟩:=ry;exact PySem.EqMixed.eq_int_str (A1y I q (by simp))
  | _=>exact absurd (show false=true from hs) Z0v
 | str i =>
  obtain ⟨t,rfl⟩:=rx
  cases y with
  | non=>cases ry;exact PySem.EqNone.eq_str_none (A1y I q (by simp))
  | bl j=>cases ry;exact PySem.EqMixed.eq_str_bool (A1y I q (by simp))
  | int j=>obtain ⟨t',rfl⟩:=ry;exact PySem.EqMixed.eq_str_int (A1y I q (by simp))
  | str j=>obtain ⟨t',rfl⟩:=ry;exact eq_str (A1y I q C4p)
  | _=>exact absurd (show false=true from hs) Z0v
 | byt i =>
  obtain ⟨t,rfl⟩:=rx
  cases y with
  | byt j=>obtain ⟨t',rfl⟩:=ry;exact PySem.W.eq_bytes (A1y I q C5c)
  | _=>exact absurd (show false=true from hs) Z0v
 | _=>cases y <;> exact absurd (show false=true from hs) Z0v
theorem C2q:OpR X (compareOp .NotEq) rNe:=by
 intro pins s σ H x y v u Q I rx ry h;obtain ⟨hs,q⟩:=h
 cases x with
 | non =>
  cases rx
  cases y with
  | non=>cases ry;exact PySem.EqNone.ne_none_none (A1y I q (by simp))
  | bl j=>cases ry;exact PySem.EqNone.ne_none_bool (A1y I q (by simp))
  | int j=>obtain ⟨t',rfl⟩:=ry;exact PySem.EqNone.ne_none_int (A1y I q (by simp))
  | str j=>obtain ⟨t',rfl⟩:=ry;exact PySem.EqNone.ne_none_str (A1y I q (by simp))
  | _=>exact absurd (show false=true from hs) Z0v
 | bl i =>
  cases rx
  cases y with
  | non=>cases ry;exact PySem.EqNone.ne_bool_none (A1y I q (by simp))
  | bl j=>cases ry;exact ne_bool (A1y I q (congrArg not C9i))
  | str j=>obtain ⟨t',rfl⟩:=ry;exact PySem.EqMixed.ne_bool_str (A1y I q (by simp))
  | _=>exact absurd (show false=true from hs) Z0v
 | int i =>
  obtain ⟨t,rfl⟩:=rx
  cases y with
  | non=>cases ry;exact PySem.EqNone.ne_int_none (A1y I q (by simp))
  | int j=>obtain ⟨t',rfl⟩:=ry;exact ne_int (A1y I q (congrArg not C2i))
  | str j=>obtain ⟨t',rfl⟩:=ry;exact PySem.EqMixed.ne_int_str (A1y I q (by simp))
  | _=>exact absurd (show false=true from hs) Z0v
 | str i =>
  obtain ⟨t,rfl⟩:=rx
  cases y with
  | non=>cases ry;exact PySem.EqNone.ne_str_none (A1y I q (by simp))
  | bl j=>cases ry;exact PySem.EqMixed.ne_str_bool (A1y I q (by simp))
  | int j=>obtain ⟨t',rfl⟩:=ry;exact PySem.EqMixed.ne_str_int (A1y I q (by simp))
  | str j=>obtain ⟨t',rfl⟩:=ry;exact ne_str (A1y I q (congrArg not C4p))
  | _=>exact absurd (show false=true from hs) Z0v
 | byt i =>
  obtain ⟨t,rfl⟩:=rx
  cases y with
  | byt j=>obtain ⟨t',rfl⟩:=ry;exact PySem.W.ne_bytes (A1y I q (congrArg not C5c))
  | _=>exact absurd (show false=true from hs) Z0v
 | _=>cases y <;> exact absurd (show false=true from hs) Z0v
theorem C1l:OpR X (compareOp .Lt) (rI0 λi j=> .bl (decide (i<j))):=D8k λ_ _ _ _ _ _ _ q=>lt_int q
theorem C6x:OpR X (compareOp .LtE) (rI0 λi j=> .bl (decide (i<=j))):=D8k λ_ _ _ _ _ _ _ q=>le_int q
theorem C1h:OpR X (compareOp .Gt) (rI0 λi j=> .bl (decide (j<i))):=D8k λ_ _ _ _ _ _ _ q=>gt_int q
theorem A9h:OpR X (compareOp .In) (λx y H Q=>∃i j,x= .str i/\y= .str j/\Q (.bl (!(Builtin.Str.occurrences j i 0 j.length 1).isEmpty)) H):=by
 intro pins s σ H x y v u Q I rx ry h;obtain ⟨i,j,rfl,rfl,q⟩:=h;obtain ⟨t,rfl⟩:=rx;obtain ⟨t',rfl⟩:=ry;exact in_str (A1y I q rfl)
theorem A0z (b:Expr) {op:CmpOp} (h:op≠.In:=by decide) (h2:op≠.NotIn:=by decide):behindInMarks op b=false:=by
 have e1:(op == CmpOp.In)=false:=by cases op <;> first | rfl | exact absurd rfl h
 have e2:(op == CmpOp.NotIn)=false:=by cases op <;> first | rfl | exact absurd rfl h2
 cases b <;> simp [behindInMarks,e1,e2]
theorem C2n {op:CmpOp} {r:R2} (ho:OpR X (compareOp op) r) (ha:PE X a ta) (hb:PE X b tb) (hm:behindInMarks op b=false):PE X (.Compare a [op] [b] pos) (tOp r ta tb):=by
 intro pins s σ H Q I h;exact wpAny_Compare1 (D8m ha hb I h λv u s2 x y H2 I2 rx ry q=>ho pins s2 σ H2 x y v u Q I2 rx ry q) hm
def D6t (t:TE):TT:=λσ H Q=>t σ H λx H'=>∃k,x= .bl k/\Q k H'
theorem A0n {op:CmpOp} {r:R2} (ho:OpR X (compareOp op) r) (ha:PE X a ta) (hb:PE X b tb) (hm:behindInMarks op b=false):PT X (.Compare a [op] [b] pos) (D6t (tOp r ta tb)):=by
 intro pins s σ H Q I h
 refine wpAny_isTrue_Compare1 (thn (ha pins s σ H _ I h) λv s1 ⟨x,H1,I1,r1,q1⟩=>thn (hb pins s1 σ H1 _ I1 q1) λu s2 ⟨y,H2,I2,r2,q2⟩ =>
  thn (ho pins s2 σ H2 x y v u _ I2 r1 r2 q2) λc s3 ⟨z,H3,I3,r3,k,e,q3⟩=> ?_) hm
 subst e;cases r3;exact wpAny_truthy_bool ⟨H3,I3,q3⟩
def C9m (r r':R2) (ta tb tc:TE):TE:=λσ H Q=>ta σ H λx H1=>tb σ H1 λy H2=>r x y H2 λz H3=>∃k,z= .bl k/\
 (if k=true then tc σ H3 λw' H4=>r' y w' H4 Q else Q (.bl false) H3)
theorem B4n {op op':CmpOp} {r r':R2} (ho:OpR X (compareOp op) r) (ho':OpR X (compareOp op') r') (ha:PE X a ta) (hb:PE X b tb) (hc:PE X c tc)
  (hm:lastMarks [op,op'] [b,c]=false:=by with_unfolding_all rfl):PE X (.Compare a [op,op'] [b,c] pos) (C9m r r' ta tb tc):=by
 intro pins s σ H Q I h
 refine Compare_chain (thn (ha pins s σ H _ I h) λv s1 ⟨x,H1,I1,r1,q1⟩=>chain_link (thn (hb pins s1 σ H1 _ I1 q1) λu s2 ⟨y,H2,I2,r2,q2⟩ =>
  thn (ho pins s2 σ H2 x y v u _ I2 r1 r2 q2) λd s3 ⟨z,H3,I3,r3,k,e,q3⟩=> ?_)) hm
 subst e;cases r3;refine wpAny_truthy_bool ?_
 cases k with
 | false=>exact ite_ff ⟨.bl false,H3,I3,rfl,q3⟩
 | true=>exact ite_tt (chain_last (thn (hc pins s3 σ H3 _ I3 q3) (by rintro w' s4 ⟨z',H4,I4,r4,q4⟩;exact ho' pins s4 σ H4 y z' u w' Q I4 r2 r4 q4)))
theorem C0t {op op':CmpOp} {r r':R2} (ho:OpR X (compareOp op) r) (ho':OpR X (compareOp op') r') (ha:PE X a ta) (hb:PE X b tb) (hc:PE X c tc)
  (hm:lastMarks [op,op'] [b,c]=false:=by with_unfolding_all rfl):PT X (.Compare a [op,op'] [b,c] pos) (D6t (C9m r r' ta tb tc)):=by
 intro pins s σ H Q I h
 refine isTrue_chain (thn (ha pins s σ H _ I h) λv s1 ⟨x,H1,I1,r1,q1⟩=>test_link (thn (hb pins s1 σ H1 _ I1 q1) λu s2 ⟨y,H2,I2,r2,q2⟩ =>
  thn (ho pins s2 σ H2 x y v u _ I2 r1 r2 q2) λd s3 ⟨z,H3,I3,r3,k,e,q3⟩=> ?_)) hm
 subst e;cases r3;refine wpAny_truthy_bool ?_
 cases k with
 | false =>
  obtain ⟨k',e',q'⟩:=q3;cases e';exact ite_ff ⟨H3,I3,q'⟩
 | true =>
  refine ite_tt (test_last (thn (hc pins s3 σ H3 _ I3 q3) ?_));rintro w' s4 ⟨z',H4,I4,r4,q4⟩;refine thn (ho' pins s4 σ H4 y z' u w' _ I4 r2 r4 q4) ?_;rintro d' s5 ⟨z2,H5,I5,r5,k2,e2,q5⟩;subst e2;cases r5;exact wpAny_truthy_bool ⟨H5,I5,q5⟩
theorem B3u:(sizeLine:Nat)<2^63:=by rw [sizeLine_eq];decide
theorem A0q:OpR X (binaryOp .Add) (λx y H Q=>∃i j,x= .str i/\y= .str j/\i.length+j.length<=sizeLine/\Q (.str (i++j)) H):=by
 intro pins s σ H x y v u Q I rx ry h;obtain ⟨i,j,rfl,rfl,hz,q⟩:=h;obtain ⟨t,rfl⟩:=rx;obtain ⟨t',rfl⟩:=ry;exact add_str (λt' tk=>⟨.str (i++j),H,I.tok _,⟨_,rfl⟩,q⟩) hz
theorem A7i {x:V} {us:List Value} (r:A3c [x] us):∃u,us=[u]/\A2v x u:=by
 cases r with
 | cons r1 r2=>cases r2;exact ⟨_,rfl,r1⟩
theorem D6g {x y:V} {us:List Value} (r:A3c [x,y] us):∃u w',us=[u,w']/\A2v x u/\A2v y w':=by
 cases r with
 | cons r1 r2 =>
  cases r2 with
  | cons r3 r4=>cases r4;exact ⟨_,_,rfl,r1,r3⟩
theorem A2k:B1b X (.type "str") (λxs H Q=>∃i,xs=[.int i]/\i.natAbs.log2<1920/\Q (.str (toString i)) H):=by
 intro pins s σ H xs us Q I r h;obtain ⟨i,rfl,hz,q⟩:=h;obtain ⟨u,rfl,t,rfl⟩:=A7i r;exact PySem.P.str_of_int hz ⟨.str _,H,I.tok _,⟨_,rfl⟩,q⟩
end
structure D1w (h:Heap) (x dx C:Addr) (mA:Str->Option Value):Prop where
 obj:h.get? x=some (instObj C dx)
 ns:h.Ns1 dx mA
 ne:dx≠x
theorem C3y {h:Heap} {dx:Addr} {mA:Str->Option Value} (n:h.Ns1 dx mA):∃od,h.get? dx=some od/\∀name,PySem.W.lookIn name od=some (mA name):=by
 obtain ⟨o,es,ep,ho,hd,hk,_,hm⟩:=n;refine ⟨o,ho,λname=> ?_⟩;have e:=hm name;unfold nsFind findBy at e;rw [<-Array.find?_toList] at e;unfold PySem.W.lookIn;rw [hd];dsimp only;split
 ·rename_i y q;rw [q] at e;exact congrArg some e
 ·rename_i q;rw [q] at e
  have a:es.toList.any (·.refKey)=false:=by
   rw [List.any_eq_false];intro y hy;obtain ⟨z,t,hkey⟩:=hk y (Array.mem_toList_iff.mp hy);simp [DictEntry.refKey,hkey]
  have a':¬es.toList.any (·.refKey)=true:=by rw [a];exact Z0v
  rw [Z0t a'];exact congrArg some e
theorem D1w.look {h:Heap} {x dx C:Addr} {mA:Str->Option Value} (I:D1w h x dx C mA):∃od,PySem.W.InstAt h x (instObj C dx) C (some od)/\∀name,PySem.W.lookIn name od=some (mA name) :=
 let ⟨od,ho,hl⟩:=C3y I.ns
 ⟨od,⟨I.obj,rfl,rfl,ho⟩,hl⟩
section
variable {prog:Program} {w:World} {A:Around} {E:Value->Shared->Prop} {s:Shared} {K:Frag} {x dx C f:Addr} {mA:Str->Option Value} {name:Str} {v:Value}
theorem C9x {expr:Bool} {Q:Value->Shared->Prop} (X:K.In s.heap) (I:D1w s.heap x dx C mA) (hg:plainGet K C name=true) (hh:hasDictIn K C=true)
  (ha:findIn K (.ref C) name=some none) (hv:mA name=some v) (hv':PySem.W.handedIn v=true) (h:Q v { s with toks:=s.toks+1 }) :
  wpAny (model prog w) A (getAttr (.ref x) name expr) Q E s:=by
 obtain ⟨od,J,hl⟩:=I.look;exact PySem.W.get_value X J (PySem.W.plainGet_of hg).1 (PySem.W.findObj_own hh ha rfl (by rw [hl,hv])) hv' h
theorem C6a {pl:Sem Bool} {Q:Value×List Value->Shared->Prop} (X:K.In s.heap) (I:D1w s.heap x dx C mA) (hg:plainGet K C name=true)
  (hf:findIn K (.ref C) name=some (some (.ref f))) (ht:isFn K (.ref f)=true) (hv:mA name=none) (h:Q (.ref f,[.ref x]) s) :
  wpAny (model prog w) A (getMethod (.ref x) name pl) Q E s:=by
 obtain ⟨od,J,hl⟩:=I.look;exact PySem.W.method_fn X J (PySem.W.plainGet_of hg).1 (PySem.W.plainGet_of hg).2 hf (beq_iff_eq.mp ht) (by show (PySem.W.lookIn name od).map (·.isSome)=some false;rw [hl,hv];rfl) h
theorem D1f {ns:List Str} {Q:Unit->Shared->Prop} (X:K.In s.heap) (I:D1w s.heap x dx C mA)
  (hs:findIn K (.ref C) "__setattr__"=some (some (.builtin "object.__setattr__"))) (hp:plainOver K C=true) (ht:PySem.W.takerIn K C name=some none) (hh:hasDictIn K C=true)
  (hw:PySem.Within mA ns) (hsz:ns.length<=sizeLine)
  (h:∀h',D1w h' x dx C (λy=>if y=name then some v else mA y)->Heap.SameBut dx s.heap h'->Q () { s with heap:=h',toks:=s.toks+2 }) :
  wpAny (model prog w) A (setAttr (.ref x) name v) Q E s:=by
 obtain ⟨od,J,hl⟩:=I.look;refine PySem.W.set_plain X J hs (PySem.W.osa_open (s:={ s with toks:=s.toks+1 }) (r:=none) X J hp ht λb=> ?_)
 obtain ⟨cd,hc,hd'⟩:=PySem.W.any_some hh;have hx:s.heap.get? x=some ⟨.ref C,some dx,.plain,#[]⟩:=I.obj;refine Z00 (Z04 (Z00 (Z00 (wpAny_loadPart hx (Z00 (PySem.W.Looks.here (s:={ s with toks:=s.toks+1 }) (PySem.W.looks_clsIn X hc) ?_))))));rw [hd'];refine Z04 (a:=some dx) (Z00 (Z04 (Z00 ?_)));refine wpAny_nsSet1 (s:={ s with toks:=s.toks+1 }) I.ns λh' hn2 hs2=> ?_
 obtain ⟨oD,esD,epD,hoD,hdD,hcD⟩:=hn2.count (PySem.Within.cons name v hw);refine Z00 (wpAny_lookBehind hoD (by rw [hdD];exact pastItsLine_dict (Z1n hcD (by rw [Z0y];lia))) ?_);exact Z04 (h _ ⟨(hs2.2 _ (Ne.symm I.ne)).trans I.obj,hn2,I.ne⟩ hs2)
theorem C7d {R:Result->Shared->Prop} {vs:List Value} {kw:List (Str×Value)} (X:K.In s.heap) (hm:makesIn K C=true)
  (hi:findIn K (.ref C) "__init__"=some (some (.ref f))) (hf:typeIn K (.ref f)=some (.type "function"))
  (h:codeAny (model prog w) (A.under (.builtin "type.__call__" ⟨.ref C::vs,kw⟩)) (.call (.ref f) ⟨.ref (s.heap.objs.size+1)::vs,kw⟩) (PySem.W.InitBack (s.heap.objs.size+1) R)
   { s with heap:=(s.heap.push emptyDict).push (instObj C s.heap.objs.size) }) :
  codeAny (model prog w) A (.call (.ref C) ⟨vs,kw⟩) R s:=by
 obtain ⟨hh,g,d,t,os⟩:=s;exact PySem.W.make_core (PySem.W.makes_of X hm) (PySem.W.looks_findIn X hi) (λself=>PySem.W.bind_fn X self hf) (.inl rfl) h
end
def A4s (f:Str) (v:V):List (Str×V)->List (Str×V)
 | []=>[(f,v)]
 | (g,x)::r=>if g=f then (g,v)::r else (g,x)::A4s f v r
theorem B2n (f g:Str) (v:V):∀fs:List (Str×V),(A4s f v fs).lookup g=if g=f then some v else fs.lookup g
 | []=>by
  show List.lookup g [(f,v)]=_;by_cases h:g=f
  ·have hb:(g == f)=true:=beq_iff_eq.mpr h;simp only [List.lookup,hb,Z12 h]
  ·have hb:(g == f)=false:=Z22.mpr h;simp only [List.lookup,hb,Z0t h]
 | (k,x)::r=>by
  have ih:=B2n f g v r;rw [show A4s f v ((k,x)::r)=(if k=f then (k,v)::r else (k,x)::A4s f v r) from rfl];by_cases hk:k=f
  ·rw [Z12 hk];by_cases h:g=k
   ·have hb:(g == k)=true:=beq_iff_eq.mpr h;simp only [List.lookup,hb,Z12 (h.trans hk)]
   ·have hb:(g == k)=false:=Z22.mpr h;simp only [List.lookup,hb,Z0t (λe:g=f=>h (e.trans hk.symm))]
  ·rw [Z0t hk];by_cases h:g=k
   ·have hb:(g == k)=true:=beq_iff_eq.mpr h;simp only [List.lookup,hb,Z0t (λe:g=f=>hk (h.symm.trans e))]
   ·have hb:(g == k)=false:=Z22.mpr h;simp only [List.lookup,hb];exact ih
theorem B2s (f:Str) (v:V):∀fs:List (Str×V),f∈(A4s f v fs).map (·.1)/\∀g,g∈fs.map (·.1)->g∈(A4s f v fs).map (·.1)
 | []=>⟨by simp [A4s],λg h=>by simp at h⟩
 | (k,x)::r=>by
  obtain ⟨i1,i2⟩:=B2s f v r;rw [show A4s f v ((k,x)::r)=(if k=f then (k,v)::r else (k,x)::A4s f v r) from rfl];by_cases hk:k=f
  ·rw [Z12 hk];subst hk;exact ⟨by simp,λg h=>by simpa using h⟩
  ·rw [Z0t hk];refine ⟨?_,λg h=> ?_⟩
   ·rw [Z0p];exact Z1f _ i1
   ·rw [Z0p] at h⊢;rcases Z0e.mp h with e | e
    ·exact Z0e.mpr (.inl e)
    ·exact Z1f _ (i2 g e)
theorem B2e (f:Str) (v:V):∀fs:List (Str×V),(A4s f v fs).length<=fs.length+1
 | []=>by simp [A4s]
 | (k,x)::r=>by
  have ih:=B2e f v r;rw [show A4s f v ((k,x)::r)=(if k=f then (k,v)::r else (k,x)::A4s f v r) from rfl];by_cases hk:k=f
  ·rw [Z12 hk,Z0y,Z0y];lia
  ·rw [Z0t hk,Z0y,Z0y];lia
theorem B7v.some_of {v:V} {o:Option Value} (r:B7v (some v) o):∃u,o=some u/\A2v v u:=by
 cases o with
 | none=>exact (show False from r).elim
 | some u=>exact ⟨u,rfl,r⟩
theorem B7v.none_of {o:Option Value} (r:B7v none o):o=none:=by
 cases o with
 | none=>rfl
 | some u=>exact (show False from r).elim
theorem C2l {v:V} {u:Value} (r:A2v v u):PySem.W.handedIn u=true:=by
 cases v with
 | non=>cases (show u=Value.none from r);rfl
 | bl b=>cases (show u=Value.bool b from r);rfl
 | int i=>obtain ⟨t,e⟩:=(show∃t,u=Value.int i t from r);cases e;rfl
 | str x=>obtain ⟨t,e⟩:=(show∃t,u=Value.str x t from r);cases e;rfl
 | byt b=>obtain ⟨t,e⟩:=(show∃t,u=Value.bytes b t from r);cases e;rfl
 | flt b=>obtain ⟨t,e⟩:=(show∃t,u=Value.float b t from r);cases e;rfl
 | ref a=>cases (show u=Value.ref a from r);rfl
 | ty n=>cases (show u=Value.type n from r);rfl
section
variable {P:Program} {w:World} {H H':Hp} {h h':Heap} {a C dx:Addr} {fs fs':List (Str×V)}
theorem B5i (hok:HOk P w H h) (e:H a=some (.ins C dx fs)):∃mA,D1w h a dx C mA/\(∀f,B7v (fs.lookup f) (mA f))/\PySem.Within mA (fs.map (·.1))/\fs.length<=1000/\H dx=some (.own a):=by
 obtain ⟨d,z,ne,ob,mA,n,r,q⟩:=(show A3m P w H h a (.ins C dx fs) from hok a _ e);exact ⟨mA,⟨ob,n,ne⟩,r,q,z,d⟩
end
structure Cls (K:Frag) (C:Addr):Prop where
 pg:plainGet K C Str.empty=true
 hd:hasDictIn K C=true
 po:plainOver K C=true
 sa:findIn K (.ref C) "__setattr__"=some (some (.builtin "object.__setattr__"))
theorem Cls.get {K:Frag} {C:Addr} (c:Cls K C) (f:Str):plainGet K C f=true:=c.pg
def A1l (K:Frag) (C:Addr) (f:Str):Prop:=findIn K (.ref C) f=some none
theorem A1l.taker {K:Frag} {C:Addr} {f:Str} (n:A1l K C f):PySem.W.takerIn K C f=some none:=by
 unfold PySem.W.takerIn;rw [show findIn K (.ref C) f=some none from n];rfl
structure C0c (K:Frag) (C:Addr) (m:Str) (f:Addr):Prop where
 at_:findIn K (.ref C) m=some (some (.ref f))
 fn:isFn K (.ref f)=true
 kp:keepIn K (.ref f)=true
section
variable {X:Cx} {pins:List (Addr×Obj)} {σ:St} {H:Hp} {s:Shared} {a C dx:Addr} {fs:List (Str×V)} {f:Str} {v:V} {A:Around} {E:Value->Shared->Prop}
theorem C1c {b:Bool} {Q:Value->Shared->Prop} (I:Inv X pins σ H s) (e:H a=some (.ins C dx fs)) (c:Cls X.K C) (n:A1l X.K C f) (l:fs.lookup f=some v)
  (h:∀u s',Inv X pins σ H s'->A2v v u->Q u s'):wpAny (model X.prog X.w) A (getAttr (.ref a) f b) Q E s:=by
 obtain ⟨mA,O,r,_,_,_⟩:=B5i I.hok e;obtain ⟨u,hu,ru⟩:=B7v.some_of (v:=v) (o:=mA f) (by rw [<-l];exact r f);exact C9x I.kIn O (c.get f) c.hd n hu (C2l ru) (h u _ (I.tok _) ru)
theorem C1d {m:Str} {g:Addr} {pl:Sem Bool} {Q:Value×List Value->Shared->Prop} (I:Inv X pins σ H s) (e:H a=some (.ins C dx fs)) (c:Cls X.K C) (k:C0c X.K C m g) (l:fs.lookup m=none)
  (h:Q (.ref g,[.ref a]) s):wpAny (model X.prog X.w) A (getMethod (.ref a) m pl) Q E s:=by
 obtain ⟨mA,O,r,_,_,_⟩:=B5i I.hok e;have hn:mA m=none:=B7v.none_of (by rw [<-l];exact r m);exact C6a I.kIn O (c.get m) k.at_ k.fn hn h
theorem C2b {y:V} {u:Value} {Q:Unit->Shared->Prop} (I:Inv X pins σ H s) (e:H a=some (.ins C dx fs)) (c:Cls X.K C) (n:A1l X.K C f) (hl:fs.length<1000) (ry:A2v y u)
  (h:∀s',Inv X pins σ (upd H a (.ins C dx (A4s f y fs))) s'->Q () s'):wpAny (model X.prog X.w) A (setAttr (.ref a) f u) Q E s:=by
 obtain ⟨mA,O,r,wi,_,ho⟩:=B5i I.hok e;have hz:(fs.map (·.1)).length<=sizeLine:=by rw [Z08,sizeLine_eq];lia
 refine D1f I.kIn O c.sa c.po n.taker c.hd wi hz λh' O' sb=>h _ ?_;have hd:∃o,h'.get? dx=some o:=let ⟨o,_,_,e',_⟩:=O'.ns;⟨o,e'⟩;refine I.write (x:=a) (e:=dx) (by rw [e];exact True.intro) (.inr ho) (λb q hb z=>(sb.2 b hb).trans z) hd ?_;refine ⟨by rw [A0l O.ne];exact ho,?_,O.ne,O'.obj,_,O'.ns,λg=> ?_,λg hg=> ?_⟩
 ·have:=B2e f y fs;lia
 ·show B7v ((A4s f y fs).lookup g) (if g=f then some u else mA g);rw [B2n];by_cases q:g=f
  ·rw [Z12 q,Z12 q];exact ry
  ·rw [Z0t q,Z0t q];exact r g
 ·by_cases q:g=f
  ·rw [q];exact (B2s f y fs).1
  ·refine (B2s f y fs).2 g (wi g λz=>hg ?_);show (if g=f then some u else mA g)=none;rw [Z0t q];exact z
theorem Inv.made (I:Inv X pins σ H s):Inv X pins σ (upd (upd H s.heap.objs.size (.own (s.heap.objs.size+1))) (s.heap.objs.size+1) (.ins C s.heap.objs.size []))
  { s with heap:=(s.heap.push emptyDict).push (instObj C s.heap.objs.size) }:=by
 have e1:(s.heap.push emptyDict).get? s.heap.objs.size=some emptyDict:=Z0c s.heap rfl
 have e2:((s.heap.push emptyDict).push (instObj C s.heap.objs.size)).get? (s.heap.objs.size+1)=some (instObj C s.heap.objs.size):=by
  have:=Z0c (s.heap.push emptyDict) (o:=instObj C s.heap.objs.size) rfl
  rwa [Z1s] at this
 have e3:(s.heap.push emptyDict).Ns s.heap.objs.size (λ_=>none):=⟨emptyDict,#[],_,e1,rfl,(λe he=>absurd he (by simp)),λ_=>rfl⟩;have I1:=I.laid (a:=s.heap.objs.size) (o:= .own (s.heap.objs.size+1)) (h':=s.heap.push emptyDict) (t':=s.toks) (λb u q=>Z01 _ q) (Z09 _) ⟨_,e1⟩;refine I1.laid (a:=s.heap.objs.size+1) (o:= .ins C s.heap.objs.size []) (t':=s.toks) (λb u q=>Z01 _ q) (Nat.le_of_eq (Z1s _ _)) ?_;have ne:s.heap.objs.size≠s.heap.objs.size+1:=Z0h (Nat.lt_succ_self _);refine ⟨by rw [A0l ne,A0c],Z1e _,ne,e2,λ_=>none,(Heap.Ns1.of_empty e3).at λo q=>Z01 _ q,λ_=>True.intro,λy hy=>absurd rfl hy⟩
theorem D2n {prog:Program} {w:World} {env:Env} {e:Expr} {f:Str} {pos:Pos} {s:Shared} {Q:Value->Shared->Prop} (hb:attributeBase e f env (eval e env)=eval e env)
  (h:wpAny (model prog w) A (eval e env) (λo s₁=>wpAny (model prog w) A (getAttr o f true) Q E s₁) E s):wpAny (model prog w) A (eval (.Attribute e f pos) env) Q E s :=
 Attribute_any_ h (by rw [arm_eval_Attribute,hb])
end
def tFld (K:Frag) (ta:TE) (f:Str):TE:=λσ H Q=>ta σ H λx H1=>∃a C dx fs v,x= .ref a/\H1 a=some (.ins C dx fs)/\Cls K C/\A1l K C f/\fs.lookup f=some v/\Q v H1
def sFld (K:Frag) (ta tv:TE) (f:Str):TS:=λD σ H=>tv σ H λy H1=>ta σ H1 λx H2=>∃a C dx fs,x= .ref a/\H2 a=some (.ins C dx fs)/\Cls K C/\A1l K C f/\fs.length<1000/\
 D.nx σ (upd H2 a (.ins C dx (A4s f y fs)))
section
variable {X:Cx} {o e value:Expr} {f:Str} {pos pos' tpos:Pos} {ta tv:TE}
theorem B0l (he:PE X e ta) (hb:attributeBase e f X.env (eval e X.env)=eval e X.env):PE X (.Attribute e f pos) (tFld X.K ta f):=by
 intro pins s σ H Q I h;refine D2n hb (thn (he pins s σ H _ I h) ?_);rintro u s1 ⟨x,H1,I1,rx,a,C,dx,fs,v,ex,ea,c,n,l,q⟩;subst ex;obtain rfl:u=Value.ref a:=rx;exact C1c I1 ea c n l λu' s2 I2 ru=>⟨v,H1,I2,ru,q⟩
theorem A2u (ha:PE X o ta) (hv:PE X value tv) (hs:swapsWith value (some (.Attribute o f pos')) pos.line X.env=pure false):PS X (.Assign [.Attribute o f pos'] value pos) (sFld X.K ta tv f):=by
 intro pins s σ H D I h;refine plainObj_wpAny_Assign_Attribute (thn (hv pins s σ H _ I h) ?_) hs;rintro u s1 ⟨y,H1,I1,ry,q⟩;refine thn (ha pins s1 σ H1 _ I1 q) ?_;rintro ov s2 ⟨x,H2,I2,rx,a,C,dx,fs,ex,ea,c,n,l,q2⟩;subst ex;obtain rfl:ov=Value.ref a:=rx;exact C2b I2 ea c n l ry λs3 I3=>⟨σ,_,I3,q2⟩
end
section
variable {X:Cx} {pins:List (Addr×Obj)} {σ:St} {H:Hp} {s:Shared} {A:Around} {E:Value->Shared->Prop} {Q:Value->Shared->Prop} {c:Value} {b:Bool}
inductive C0u (K:Frag) (H:Hp):V->Value->Prop where
 | non:C0u K H .non (.type "NoneType")
 | bl (x:Bool):C0u K H (.bl x) (.type "bool")
 | int (i:Int):C0u K H (.int i) (.type "int")
 | str (x:Str):C0u K H (.str x) (.type "str")
 | flt (x:UInt64):C0u K H (.flt x) (.type "float")
 | lst {a:Addr} {xs:List V} (e:H a=some (.lst xs)):C0u K H (.ref a) (.type "list")
 | frz {a:Addr} {o:Obj} {xs:List V} (e:H a=some (.frz o (.lst xs))):C0u K H (.ref a) (.type "list")
 | tup {a:Addr} {xs:List V} (e:H a=some (.tup xs)):C0u K H (.ref a) (.type "tuple")
 | dK {a:Addr} {kvs:List (Key×V)} (e:H a=some (.dK kvs)):C0u K H (.ref a) (.type "dict")
 | dT {a:Addr} {kvs:List (List Key×V)} (e:H a=some (.dT kvs)):C0u K H (.ref a) (.type "dict")
 | ins {a C dx:Addr} {fs:List (Str×V)} (e:H a=some (.ins C dx fs)) (cl:Cls K C) (ha:findIn K (.ref C) "__class__"=some (some (.builtin "object.__class__")))
   (hn:specialIn K (.builtin "object.__class__") "__get__"=some (some (.builtin "getset_descriptor.__get__"))) (htk:takesIn K (.builtin "object.__class__")=some true)
   (hm:mroIn K C (.type "object")=some true):C0u K H (.ref a) (.ref C)
theorem C4r {x:V} {u t:Value} (I:Inv X pins σ H s) (rx:A2v x u) (ty:C0u X.K H x t) (e:kitOne X.K t c=some b) (h:∀tk,Q (.bool b) { s with toks:=tk }) :
  wpAny (model X.prog X.w) A (call (.builtin "isinstance") [u,c]) Q E s:=by
 cases ty with
 | non=>cases (show u=Value.none from rx);exact PySem.W.kia_one PySem.W.kitx_none I.kIn True.intro e (λz=>nomatch z) h
 | bl y=>cases (show u=Value.bool y from rx);exact PySem.W.kia_one PySem.W.kitx_bool I.kIn True.intro e (λz=>nomatch z) h
 | int i=>obtain ⟨t,q⟩:=(show∃t,u=Value.int i t from rx);cases q;exact PySem.W.kia_one PySem.W.kitx_int I.kIn True.intro e (λz=>nomatch z) h
 | str y=>obtain ⟨t,q⟩:=(show∃t,u=Value.str y t from rx);cases q;exact PySem.W.kia_one PySem.W.kitx_str I.kIn True.intro e (λz=>nomatch z) h
 | flt y=>obtain ⟨t,q⟩:=(show∃t,u=Value.float y t from rx);cases q;exact PySem.W.kia_one PySem.W.kitx_float I.kIn True.intro e (λz=>nomatch z) h
 | @lst a xs ea =>
  cases (show u=Value.ref a from rx)
  obtain ⟨_,_,n,_,h1⟩:=(show A3m X.prog X.w H s.heap a (.lst xs) from I.hok a _ ea);exact PySem.W.kia_one PySem.W.kitx_list I.kIn ⟨_,h1,rfl⟩ e (λz=>nomatch z) h
 | @frz a ob xs ea =>
  cases (show u=Value.ref a from rx)
  obtain ⟨_,_,_,n,_,h1⟩:=(show A3m X.prog X.w H s.heap a (.frz ob (.lst xs)) from I.hok a _ ea);exact PySem.W.kia_one PySem.W.kitx_list I.kIn ⟨_,h1,rfl⟩ e (λz=>nomatch z) h
 | @tup a xs ea =>
  cases (show u=Value.ref a from rx)
  obtain ⟨_,_,_,p⟩:=(show A3m X.prog X.w H s.heap a (.tup xs) from I.hok a _ ea);obtain ⟨o,h1,h2,_⟩:=p;exact PySem.W.kia_one PySem.W.kitx_tuple I.kIn ⟨o,h1,h2⟩ e (λz=>nomatch z) h
 | @dK a kvs ea =>
  cases (show u=Value.ref a from rx)
  obtain ⟨_,_,vs,_,p⟩:=(show A3m X.prog X.w H s.heap a (.dK kvs) from I.hok a _ ea);obtain ⟨o,es,ep,h1,h2,_⟩:=p;exact PySem.W.kia_one PySem.W.kitx_dict I.kIn ⟨o,h1,h2.1⟩ e (λz=>nomatch z) h
 | @dT a kvs ea =>
  cases (show u=Value.ref a from rx)
  obtain ⟨_,_,xs,_,o,es,ep,h1,h2,_⟩:=(show A3m X.prog X.w H s.heap a (.dT kvs) from I.hok a _ ea);exact PySem.W.kia_one PySem.W.kitx_dict I.kIn ⟨o,h1,h2.1⟩ e (λz=>nomatch z) h
 | @ins a C dx fs ea cl ha hn htk hm =>
  cases (show u=Value.ref a from rx)
  obtain ⟨mA,O,_⟩:=B5i I.hok ea;obtain ⟨od,J,_⟩:=O.look;exact PySem.W.kia_one (PySem.W.kitx_own (cl.get _) cl.hd ha hn htk hm) I.kIn J e (λz=>nomatch z) h
end
structure A9n (k:Nat) (A:Around):Prop where
 hd:A.handled=none
 dp:A.depth+3*k+5<recursionLimit
 un:A.units+16*k+200<cLine
 gd:A.guards=some []
theorem A9n.mono {j k:Nat} {A:Around} (r:A9n k A) (h:j<=k):A9n j A:=⟨r.hd,by have:=r.dp;lia,by have:=r.un;lia,r.gd⟩
theorem A9n.deeper {k:Nat} {A:Around} (r:A9n (k+1) A) (env:Env):A9n k (A.deeper env) :=
 ⟨r.hd,by have:=r.dp;show A.depth+1+3*k+5<_;lia,by have:=r.un;show A.units+3+16*k+200<_;lia,r.gd⟩
theorem C1n {A:Around} {C:Addr} {us:List Value} {kw:List (Str×Value)}:(A.under (.builtin "type.__call__" ⟨.ref C::us,kw⟩)).depth=A.depth+1:=by
 first | rfl | simp [Around.under,Code.weight,Code.isCreation,Code.isGuard,Code.isCaller,Code.frames,Code.isFrame,guardIds]
theorem C0y {A:Around} {C:Addr} {us:List Value} {kw:List (Str×Value)}:(A.under (.builtin "type.__call__" ⟨.ref C::us,kw⟩)).units=A.units+1:=by
 first | rfl | simp [Around.under,Code.cUnits,Code.frames,Code.isFrame]
theorem B8h {A:Around} {C:Addr} {us:List Value} {kw:List (Str×Value)}:(A.under (.builtin "type.__call__" ⟨.ref C::us,kw⟩)).guards=A.guards:=by
 show pushGuards (Code.guards (.builtin "type.__call__" ⟨.ref C::us,kw⟩)) A.guards=A.guards;have h:Code.isGuard (.builtin "type.__call__" ⟨.ref C::us,kw⟩)=false:=by first | rfl | (simp [Code.isGuard,guardIds]) | decide
 unfold Code.guards;rw [h];cases A.guards <;> rfl
theorem A9n.make {k:Nat} {A:Around} (r:A9n (k+1) A) (C:Addr) (us:List Value) (kw:List (Str×Value)):A9n k (A.under (.builtin "type.__call__" ⟨.ref C::us,kw⟩)) :=
 ⟨r.hd,by have:=r.dp;rw [C1n];lia,by have:=r.un;rw [C0y];lia,by rw [B8h];exact r.gd⟩
theorem A9n.depth {k:Nat} {A:Around} (r:A9n k A):A.depth<recursionLimit:=by have:=r.dp;lia
theorem A9n.units {k:Nat} {A:Around} (r:A9n k A):A.units+64<cLine:=by have:=r.un;lia
def E0t:TA:=λ_ H Q=>Q [] H
def D8t (ta:TE) (tr:TA):TA:=λσ H Q=>ta σ H λx H1=>tr σ H1 λxs H2=>Q (x::xs) H2
section
variable {X:Cx} {e:Expr} {es:List Expr} {te:TE} {t:TA} {pos:Pos}
theorem A0b:PA X [] E0t:=λ_ _ _ _ H Q I h=>Calls.spliced_nil ⟨[],H,I,.nil,h⟩
theorem A0a (ha:PE X e te) (hr:PA X es t) (hs:starEach (e::es) X.env=(false,eval e X.env)::starEach es X.env:=by rfl):PA X (e::es) (D8t te t):=by
 intro pos pins s σ H Q I h;rw [hs];show wpAny _ _ (spliced ((false,eval e X.env)::backTo pos (starEach es X.env))) _ _ s;refine Calls.spliced_cons (thn (ha pins s σ H _ I h) ?_);rintro u s1 ⟨x,H1,I1,r1,q1⟩;exact thn (hr pos pins s1 σ H1 _ I1 q1) (by rintro us s2 ⟨xs,H2,I2,r2,q2⟩;exact ⟨x::xs,H2,I2,.cons r1 r2,q2⟩)
def tTup (t:TA):TE:=λσ H Q=>t σ H λxs H1=>xs.length<=sizeLine/\∀p,H1 p=none->Q (.ref p) (upd H1 p (.tup xs))
def tLst (t:TA):TE:=λσ H Q=>t σ H λxs H1=>xs.length<=sizeLine/\∀p,H1 p=none->Q (.ref p) (upd H1 p (.lst xs))
theorem A3v {x1} (h:PA X es t):PE X (.Tuple es x1 pos) (tTup t):=by
 intro pins s σ H Q I hq;refine wpAny_Tuple_spliced (thn (h pos pins s σ H _ I hq) λus s1 ⟨xs,H1,I1,r,z,q⟩=>⟨by rw [<-r.length];exact z,?_⟩);have hf:H1 s1.heap.objs.size=none:=I1.hok.fresh (Z09 _);refine ⟨.ref s1.heap.objs.size,upd H1 s1.heap.objs.size (.tup xs),I1.laid (t':=s1.toks) (λb u e=>Z01 _ e) (Z09 _) ?_,rfl,q _ hf⟩;exact ⟨z,us,r,⟨_,Z0c _ rfl,rfl,_,rfl⟩⟩
theorem A2e (h:PA X es t):PE X (.List es pos) (tLst t):=by
 intro pins s σ H Q I hq;refine wpAny_List_spliced (thn (h pos pins s σ H _ I hq) λus s1 ⟨xs,H1,I1,r,z,q⟩=>⟨by rw [<-r.length];exact z,?_⟩);have hf:H1 s1.heap.objs.size=none:=I1.hok.fresh (Z09 _);refine ⟨.ref s1.heap.objs.size,upd H1 s1.heap.objs.size (.lst xs),I1.laid (t':=s1.toks) (λb u e=>Z01 _ e) (Z09 _) ?_,rfl,q _ hf⟩;exact ⟨z,us,0,r,Z0c _ rfl⟩
end
abbrev Sp:=List V->Hp->VK->XK->Prop
abbrev CXT:=List Env->Hp->Shared->XK->Value->Shared->Prop
structure D1s (P:Program) (w:World) (K:Frag) (mg:Str->Option Value) (base:Heap) (A:Around) (outer:List Env) (s:Shared) (H:Hp):Prop where
 frames:A.frames=some outer
 mod:Mod K mg base
 bs:∀b o,base.get? b=some o->s.heap.get? b=some o/\H b=none
 bsz:base.objs.size<=s.heap.objs.size
 funs:s.heap.FunFrames base outer
 frf:∀b∈frs outer,H b=none
 hok:HOk P w H s.heap
 bare:AllBare s.gens
def CE (outer:List Env) (P:Program) (w:World) (H:Hp) (s:Shared) (Q:VK) (u:Value) (s':Shared):Prop :=
 ∃v H',s'.os=s.os/\AllBare s'.gens/\Un (frs outer) [] H H' s.heap s'.heap/\HOk P w H' s'.heap/\A2v v u/\Q v H'
def CR (CX:CXT) (outer:List Env) (P:Program) (w:World) (H:Hp) (s:Shared) (Q:VK) (E:XK) (r:Result) (s':Shared):Prop :=
 match r with
 | .ok (.ret u)=>CE outer P w H s Q u s'
 | .ok _=>False
 | .error e=>CX outer H s E e s'
structure A3e (P:Program) (w:World) (K:Frag) (mg:Str->Option Value) (base:Heap) (CX:CXT) (k:Nat) (f:Addr) (fd:FuncData) (ps:List Str) (sp:Sp):Prop where
 len:∀vs H Q E,sp vs H Q E->vs.length=ps.length
 run:∀(A:Around) (outer:List Env) (s:Shared) (H:Hp) (args:Args) (us:List Value) (vs:List V) (Q:VK) (E:XK),A9n k A->D1s P w K mg base A outer s H->BindsTo s fd args (ps.zip us)->A3c vs us->sp vs H Q E->
  codeAny (model P w) A (.call (.ref f) args) (CR CX outer P w H s Q E) s
theorem A3e.mono {P:Program} {w:World} {K:Frag} {mg:Str->Option Value} {base:Heap} {CX:CXT} {j k:Nat} {f:Addr} {fd:FuncData} {ps:List Str} {sp:Sp} (F:A3e P w K mg base CX j f fd ps sp) (h:j<=k) :
  A3e P w K mg base CX k f fd ps sp:=⟨F.len,λA outer s H args us vs Q E hr=>F.run A outer s H args us vs Q E (hr.mono h)⟩
theorem D1s.make {P:Program} {w:World} {K:Frag} {mg:Str->Option Value} {base:Heap} {A:Around} {outer:List Env} {s:Shared} {H:Hp} (e:D1s P w K mg base A outer s H) (C:Addr) (us:List Value) (kw:List (Str×Value)) :
  D1s P w K mg base (A.under (.builtin "type.__call__" ⟨.ref C::us,kw⟩)) outer s H:=⟨by first | exact e.frames | (simpa [Around.under,Code.envs,Code.isFrame,pushEnvs] using e.frames),e.mod,e.bs,e.bsz,e.funs,e.frf,e.hok,e.bare⟩
section
variable {X:Cx} {pins:List (Addr×Obj)} {σ:St} {H:Hp} {s s':Shared}
theorem Inv.env0 (I:Inv X pins σ H s):D1s X.prog X.w X.K X.mg X.base X.A X.stack s H :=
 ⟨I.ok.frames,I.ok.mod,I.bs,Z1n I.ok.bsz I.sz,I.stack,I.stkFree,I.hok,I.bare⟩
theorem Inv.after {Q:VK} {u:Value} (I:Inv X pins σ H s) (h:CE X.stack X.prog X.w H s Q u s'):EP X pins σ Q u s':=by
 obtain ⟨v,H',os,bare,un,hok,r,q⟩:=h;obtain ⟨hh,g,d,t,os'⟩:=s';obtain rfl:os'=s.os:=os;exact ⟨v,H',I.call (h':=hh) (g':=g) (d':=d) (t':=t) (ch:=[]) un hok bare (λb z=>absurd z (by simp)),r,q⟩
end
def D6m (sp:Sp) (dvs:List V) (E:XK) (t:TA):TE:=λσ H Q=>t σ H λvs H1=>sp (vs++dvs) H1 Q E
def D8l (C:Addr) (m:Str) (sp:Sp) (dvs:List V) (E:XK) (ta:TE) (t:TA):TE:=λσ H Q=>ta σ H λx H1=>∃a dx fs,x= .ref a/\H1 a=some (.ins C dx fs)/\fs.lookup m=none/\
 t σ H1 λvs H2=>sp (x::(vs++dvs)) H2 Q E
def D5w (C:Addr) (sp:Sp) (dvs:List V) (E:XK) (t:TA):TE:=λσ H Q=>t σ H λvs H1=>∀x dx,H1 x=none->H1 dx=none->dx≠x->
 sp (.ref x::(vs++dvs)) (upd (upd H1 dx (.own x)) x (.ins C dx [])) (λv H2=>v= .non/\Q (.ref x) H2) E
def B0a (K:Frag) (fd:FuncData) (ps:List Str) (ds:List Value):Prop :=
 ∀(s:Shared) (us:List Value),K.In s.heap->(us++ds).length=ps.length->BindsTo s fd ⟨us,[]⟩ (ps.zip (us++ds))
theorem B0a.all {K:Frag} {fd:FuncData} {ps:List Str} (h:∀us:List Value,us.length=ps.length->bindArgs fd ⟨us,[]⟩=pure (ps.zip us)):B0a K fd ps []:=λs us _ hl=>by
 rw [Z0u] at hl⊢;exact .of_eq (h us hl)
def A8v (CX:CXT) (X:Cx) (E:XK):Prop:=∀(pins:List (Addr×Obj)) (σ:St) (H:Hp) (s:Shared) (e:Value) (s':Shared),Inv X pins σ H s->CX X.stack H s E e s'->X.xe e s'
section
variable {X:Cx} {CX:CXT} {k:Nat} {f C:Addr} {fd:FuncData} {ps:List Str} {sp:Sp} {dvs:List V} {ds:List Value} {E:XK} {x m:Str} {p pos apos:Pos} {e o:Expr} {es:List Expr} {ta:TE} {t:TA}
theorem C9u {pins:List (Addr×Obj)} {σ:St} {H:Hp} {s:Shared} {Q:VK} {us:List Value} {vs:List V} (F:A3e X.prog X.w X.K X.mg X.base CX k f fd ps sp) (hr:A9n k X.A) (hb:B0a X.K fd ps ds) (hd:A3c dvs ds) (hx:A8v CX X E)
  (I:Inv X pins σ H s) (r:A3c vs us) (h:sp (vs++dvs) H Q E):wpAny (model X.prog X.w) X.A (call (.ref f) us) (EP X pins σ Q) X.xe s:=by
 have r2:A3c (vs++dvs) (us++ds):=r.append hd;have hl:(us++ds).length=ps.length:=by rw [<-r2.length];exact F.len _ _ _ _ h
 refine wpAny_call (codeAny_mono (F.run X.A X.stack s H ⟨us,[]⟩ (us++ds) (vs++dvs) Q E hr I.env0 (hb s us I.kIn hl) r2 h) λr s' hq=> ?_)
 cases r with
 | error e=>exact hx pins σ H s e s' I hq
 | ok fl =>
  cases fl with
  | ret u=>exact I.after hq
  | next=>exact False.elim hq
  | brk=>exact False.elim hq
  | cont=>exact False.elim hq
theorem A0s (F:A3e X.prog X.w X.K X.mg X.base CX k f fd ps sp) (hr:A9n k X.A) (hg:Gl X x) (hm:X.mg x=some (.ref f)) (hk:keepIn X.K (.ref f)=true) (hb:B0a X.K fd ps ds) (hd:A3c dvs ds) (hx:A8v CX X E)
  (ha:PA X (e::es) t) (hdb:(x == ("__debug__":Str))=false:=by decide) (he:starEach (e::es) X.env=(false,eval e X.env)::starEach es X.env:=by rfl) (hpl:(backTo pos (starEach es X.env)).any (·.1)=false:=by rfl) :
  PE X (.Call (.Name x p) (e::es) [] pos) (D6m sp dvs E t):=by
 intro pins s σ H Q I h;refine wpAny_Call_Name_kw (A8h I hg hm ?_ hdb);refine PySem.W.callWith_K (h₀:=X.base) I.ok.mod.kin hk (thn (ha pos pins s σ H _ I h) λus s1 ⟨vs,H1,I1,r,q⟩=>⟨I1.kIn,?_⟩) he hpl;exact C9u F hr hb hd hx I1 r q
theorem A8z {pl:Sem Bool} (he:PE X o ta) (c:Cls X.K C) (hm:C0c X.K C m f) (F:A3e X.prog X.w X.K X.mg X.base CX k f fd ps sp) (hr:A9n k X.A) (hb:B0a X.K fd ps ds) (hd:A3c dvs ds) (hx:A8v CX X E)
  (ht:eval (.Call (.Attribute o m apos) [] [] pos) X.env=(do
   let ov<-eval o X.env
   standAt apos.atName
   let (f,first)<-holding [ov] (getMethod ov m pl)
   callWith pos f first (backTo pos (starEach [] X.env)) (backToKw pos (keywordEach [] X.env))):=by rfl) :
  PE X (.Call (.Attribute o m apos) [] [] pos) (D8l C m sp dvs E ta E0t):=by
 intro pins s σ H Q I h;refine PySem.W.methodCall_KW (pl:=pl) (thn (he pins s σ H _ I h) ?_) ht;rintro u s1 ⟨x,H1,I1,rx,a,dx,fs,ex,ea,l,q⟩;subst ex;obtain rfl:u=Value.ref a:=rx;refine C1d I1 ea c hm l ?_;exact PySem.W.callWith_K0 (first:=[.ref a]) I1.kIn hm.kp (C9u (us:=[.ref a]) (vs:=[.ref a]) F hr hb hd hx I1 (.cons rfl .nil) q)
structure Mk (K:Frag) (C f:Addr):Prop where
 makes:makesIn K C=true
 init:findIn K (.ref C) "__init__"=some (some (.ref f))
 fn:isFn K (.ref f)=true
 kp:keepIn K (.ref C)=true
theorem C6e {pins:List (Addr×Obj)} {σ:St} {H:Hp} {s:Shared} {Q:VK} {us:List Value} {vs:List V} (M:Mk X.K C f) (F:A3e X.prog X.w X.K X.mg X.base CX k f fd ps sp) (hr:A9n (k+1) X.A) (hb:B0a X.K fd ps ds) (hd:A3c dvs ds)
  (hx:A8v CX X E) (I:Inv X pins σ H s) (r:A3c vs us)
  (h:∀x dx,H x=none->H dx=none->dx≠x->sp (.ref x::(vs++dvs)) (upd (upd H dx (.own x)) x (.ins C dx [])) (λv H2=>v= .non/\Q (.ref x) H2) E) :
  wpAny (model X.prog X.w) X.A (call (.ref C) us) (EP X pins σ Q) X.xe s:=by
 have hq:=h (s.heap.objs.size+1) s.heap.objs.size (I.hok.fresh (Nat.le_succ _)) (I.hok.fresh (Z09 _)) (Z0h (Nat.lt_succ_self _));have I2:=Inv.made (C:=C) I;have r2:A3c (V.ref (s.heap.objs.size+1)::(vs++dvs)) (Value.ref (s.heap.objs.size+1)::(us++ds)):= .cons rfl (r.append hd)
 have hl:(Value.ref (s.heap.objs.size+1)::us++ds).length=ps.length:=by
  have e:=r2.length;rw [F.len _ _ _ _ hq] at e;exact e.symm
 refine wpAny_call (C7d (f:=f) I.kIn M.makes M.init (beq_iff_eq.mp M.fn) (codeAny_mono (F.run _ X.stack _ _ ⟨Value.ref (s.heap.objs.size+1)::us,[]⟩ (Value.ref (s.heap.objs.size+1)::(us++ds)) _ _ E (hr.make C us [])
  (I2.env0.make C us []) (hb _ (Value.ref (s.heap.objs.size+1)::us) I2.kIn hl) r2 hq) λr s' hq'=> ?_))
 cases r with
 | error e=>exact hx pins σ _ _ e s' I2 hq'
 | ok fl =>
  cases fl with
  | ret u =>
   obtain ⟨v,H',I3,rv,ev,q3⟩:=I2.after hq';subst ev;exact ⟨rv,⟨V.ref (s.heap.objs.size+1),H',I3,rfl,q3⟩⟩
  | next=>exact False.elim hq'
  | brk=>exact False.elim hq'
  | cont=>exact False.elim hq'
theorem D1l (M:Mk X.K C f) (F:A3e X.prog X.w X.K X.mg X.base CX k f fd ps sp) (hr:A9n (k+1) X.A) (hg:Gl X x) (hm:X.mg x=some (.ref C)) (hb:B0a X.K fd ps ds) (hd:A3c dvs ds) (hx:A8v CX X E)
  (ha:PA X (e::es) t) (hdb:(x == ("__debug__":Str))=false:=by decide) (he:starEach (e::es) X.env=(false,eval e X.env)::starEach es X.env:=by rfl) (hpl:(backTo pos (starEach es X.env)).any (·.1)=false:=by rfl) :
  PE X (.Call (.Name x p) (e::es) [] pos) (D5w C sp dvs E t):=by
 intro pins s σ H Q I h;refine wpAny_Call_Name_kw (A8h I hg hm ?_ hdb);refine PySem.W.callWith_K (h₀:=X.base) I.ok.mod.kin M.kp (thn (ha pos pins s σ H _ I h) λus s1 ⟨vs,H1,I1,r,q⟩=>⟨I1.kIn,?_⟩) he hpl;exact C6e M F hr hb hd hx I1 r q
end
section
variable {X:Cx} {CX:CXT} {k:Nat} {f C:Addr} {fd:FuncData} {ps ks:List Str} {sp:Sp} {E:XK} {x m:Str} {p pos apos kpos:Pos} {e o:Expr} {es:List Expr} {kws:List Keyword} {te ta:TE} {t tk:TA} {nm:Option Str}
variable {g:List Value->List Value->List Value} {gV:List V->List V->List V}
end
structure A0o (N P:List Str) (sc:Scope):Prop where
 kind:sc.kind= .function
 co:sc.isCoroutine=false
 gen:sc.isGenerator=false
 nd:N.Nodup
 pre:N.take P.length=P
 par:∀x∈P,sc.names.lookup x=some .local\/sc.names.lookup x=some .cell
 nofree:∀y∈sc.names,y.2≠.free
theorem B6l {kindOf:Str->Option NameKind} {x:Str}:∀{binds:List (Str×Value)} {m:Str->Option Value},(∀v,(x,v)∉binds)->bindL kindOf binds m x=m x
 | [],_,_=>rfl
 | (n,v)::r,m,h=>by
  unfold bindL;rw [B6l λw hw=>h w (Z1f _ hw)];split
  ·have:x≠n:=by rintro rfl;exact h v Z27
   simp [this]
  ·rfl
theorem B7g {kindOf:Str->Option NameKind} {x:Str}:∀{binds:List (Str×Value)} {m:Str->Option Value},(∀v,(x,v)∉binds)->bindC kindOf binds m x=m x
 | [],_,_=>rfl
 | (n,v)::r,m,h=>by
  unfold bindC;rw [B7g λw hw=>h w (Z1f _ hw)];split
  ·rfl
  ·have:x≠n:=by rintro rfl;exact h v Z27
   simp [this]
theorem B7l {kindOf:Str->Option NameKind} {x:Str} {v:Value}:∀{P:List Str} {vs:List Value} {i:Nat} {m:Str->Option Value},P.Nodup->P[i]? =some x->vs[i]? =some v->kindOf x=some .local->
  bindL kindOf (P.zip vs) m x=some v
 | [],_,_,_,_,h,_,_=>by simp at h
 | _::_,[],_,_,_,_,h,_=>by simp at h
 | p::P,w::vs,0,m,nd,h1,h2,hk=>by
  simp at h1 h2;subst h1;subst h2;show bindL kindOf ((p,w)::P.zip vs) m p=_;unfold bindL;rw [B6l λv hv=>(Z15.mp nd).1 (List.of_mem_zip hv).1,Z12 hk];simp
 | p::P,w::vs,i+1,m,nd,h1,h2,hk=>by
  show bindL kindOf ((p,w)::P.zip vs) m x=_;unfold bindL;exact B7l (i:=i) (Z15.mp nd).2 (by simpa using h1) (by simpa using h2) hk
theorem B7s {kindOf:Str->Option NameKind} {x:Str} {v:Value}:∀{P:List Str} {vs:List Value} {i:Nat} {m:Str->Option Value},P.Nodup->P[i]? =some x->vs[i]? =some v->kindOf x≠some .local->
  bindC kindOf (P.zip vs) m x=some v
 | [],_,_,_,_,h,_,_=>by simp at h
 | _::_,[],_,_,_,_,h,_=>by simp at h
 | p::P,w::vs,0,m,nd,h1,h2,hk=>by
  simp at h1 h2;subst h1;subst h2;show bindC kindOf ((p,w)::P.zip vs) m p=_;unfold bindC;rw [B7g λv hv=>(Z15.mp nd).1 (List.of_mem_zip hv).1,Z0t hk];simp
 | p::P,w::vs,i+1,m,nd,h1,h2,hk=>by
  show bindC kindOf ((p,w)::P.zip vs) m x=_;unfold bindC;exact B7s (i:=i) (Z15.mp nd).2 (by simpa using h1) (by simpa using h2) hk
def B5k (N:List Str) (vs:List V):St:=vs.map some++List.replicate (N.length-vs.length) none
def C3e (CX:CXT) (P:Program) (w:World) (K:Frag) (mg:Str->Option Value) (base:Heap) (N:List Str) (qual:Str) (scope:Scope) (f:Addr) (cd:Value) (A:Around) (outer:List Env) (s:Shared) (H:Hp) (E:XK):Cx where
 prog:=P
 w:=w
 K:=K
 mg:=mg
 base:=base
 A:=A.deeper (envOfC qual scope s.heap.objs.size f cd)
 N:=N
 s₀:=s
 H₀:=H
 env:=envOfC qual scope s.heap.objs.size f cd
 outer:=outer
 stack:=envOfC qual scope s.heap.objs.size f cd::outer
 ex:=[]
 calm:=true
 fn:=λ_=>true
 pn:=[]
 xe:=λe s'=>wpAny (model P w) (A.deeper (envOfC qual scope s.heap.objs.size f cd)) (leaving (envOfC qual scope s.heap.objs.size f cd) e) (λ_ s''=>CX outer H s E e s'') (λe' s''=>CX outer H s E e' s'') s'
theorem B9i {sc:Scope} {n:Nat} {x:Str} (h:sc.names.lookup x=some .cell):∃c,(cellsFrom n sc.names []).lookup x=some c:=by
 have q:=PySem.W.cellsFrom_some sc.names n [] (.inl h);exact Option.isSome_iff_exists.mp q
theorem C3w {CX:CXT} {P:Program} {w:World} {K:Frag} {mg:Str->Option Value} {base:Heap} {N ps:List Str} {qual:Str} {scope:Scope} {f:Addr} {cd:Value} {A:Around} {outer:List Env} {s s1:Shared} {H:Hp} {E:XK} {us:List Value} {vs:List V}
  (S:A0o N ps scope) (hd:A.handled=none) (e0:D1s P w K mg base A outer s H) (hl:vs.length=ps.length) (r:A3c vs us)
  (x:InCallC s s.heap.objs.size (bindL (envOfC qual scope s.heap.objs.size f cd).kindOf (ps.zip us) λ_=>none) (cellsFrom (s.heap.objs.size+1) scope.names []) (bindC (envOfC qual scope s.heap.objs.size f cd).kindOf (ps.zip us) λ_=>none) s1) :
  Inv (C3e CX P w K mg base N qual scope f cd A outer s H E) [] (B5k N vs) H s1:=by
 have hpl:ps.length<=N.length:=by have:=congrArg List.length S.pre;rw [Z0x] at this;lia
 obtain ⟨h1,tk,rfl,hk⟩:=x.done;have noA:∀b:Addr,b∉(C3e CX P w K mg base N qual scope f cd A outer s H E).ex:=λb z=>absurd (show b∈([]:List Addr) from z) (by simp)
 refine ⟨⟨e0.mod,S.kind,rfl,rfl,Z09 _,λy z c h1 h2=> ?_,λy hy=> ?_,λy c _ h=> ?_,λ_=>hd,Around.frames_deeper e0.frames,.inr ⟨rfl,rfl⟩,λb z=>absurd z (noA b),e0.bs,e0.bsz,λb _ _=>noA b,λb z=>absurd z (noA b),e0.funs,e0.frf⟩,
  rfl,e0.bare,Un.kept hk,⟨_,x.toInCall.ns,λi y v h1 h2 h3=> ?_⟩,λy c h=>⟨_,x.cell y c h⟩,e0.hok.fresh (Z09 _),λy c h=> ?_,λp hp=>absurd (show p∈([]:List (Addr×Obj)) from hp) (by simp),e0.hok.kept hk,?_⟩
 ·exact name_of_addr x.apart (PySem.mem_of_lookup h1) (PySem.mem_of_lookup h2)
 ·have hy:scope.names.lookup y=some .cell\/scope.names.lookup y=some .free:=hy;rcases hy with hy | hy
  ·exact B9i hy
  ·exact absurd rfl (S.nofree _ (PySem.mem_of_lookup hy))
 ·exact Nat.le_of_lt (x.above y c (PySem.mem_of_lookup h))
 ·have hi:i<vs.length:=by
   unfold B5k at h2;by_cases hi:i<vs.length
   ·exact hi
   ·rw [Z1l (by simpa using hi)] at h2;rw [List.getElem?_replicate] at h2;split at h2 <;> cases h2
  have ha:vs[i]? =some v:=by
   unfold B5k at h2;rw [Z26 (by simpa using hi),Z1z] at h2
   cases e:vs[i]? with
   | none=>rw [e] at h2;cases h2
   | some a=>rw [e] at h2;cases h2;rfl
  obtain ⟨u,hu,rv⟩:=r.get ha
  have hp:ps[i]? =some y:=by
   rw [<-S.pre,List.getElem?_take_of_lt (by lia)];exact h1
  have ndP:ps.Nodup:=by rw [<-S.pre];exact S.nd.sublist (List.take_sublist _ _)
  refine ⟨u,rv,?_⟩;rcases S.par y (Z13 hp) with k | k
  ·exact .inl ⟨k,B7l ndP hp hu k⟩
  ·obtain ⟨c,e⟩:=B9i (n:=s.heap.objs.size+1) k;refine .inr ⟨.inl k,c,e,?_⟩;have q:=x.cell y c e;rw [B7s ndP hp hu (by show scope.names.lookup y≠_;rw [k];decide)] at q;exact q
 ·exact e0.hok.fresh (Nat.le_of_lt (x.above y c (PySem.mem_of_lookup h)))
 ·unfold B5k;show _=N.length;rw [Z06,Z08,List.length_replicate]
  lia
theorem D6i {CX:CXT} {P:Program} {w:World} {K:Frag} {mg:Str->Option Value} {base:Heap} {k:Nat} {f:Addr} {name qual:Str} {params:Arguments} {body:List Stmt} {scope:Scope} {dV kV doc pm cdv ct oc:Value} {an od:Option Addr}
  {osl:Array (Option Value)} {N ps:List Str} {sp:Sp} (lk:K.lookup f=some ⟨oc,od,.func (fnOf name qual params body scope dV kV doc pm an cdv ct),osl⟩) (hcd:codeIn K cdv qual=true) (S:A0o N ps scope)
  (len:∀vs H Q E,sp vs H Q E->vs.length=ps.length)
  (hbody:∀(A:Around) (outer:List Env) (s:Shared) (H:Hp) (vs:List V) (Q:VK) (E:XK),A9n k (A.deeper (envOfC qual scope s.heap.objs.size f cdv))->sp vs H Q E->
   ∃t,PSs (C3e CX P w K mg base N qual scope f cdv A outer s H E) body t/\t { nx:=λ_ H'=>Q .non H',rt:=Q } (B5k N vs) H) :
  A3e P w K mg base CX (k+1) f (fnOf name qual params body scope dV kV doc pm an cdv ct) ps sp:=by
 refine ⟨len,λA outer s H args us vs Q E hr e0 hb r hsp=> ?_⟩;have hl:=len _ _ _ _ hsp;have KX:K.In s.heap:=e0.mod.kin.keeps λb o e=>(e0.bs b o e).1;have lim:s.heap.NoLimit:=e0.mod.nolimit.keeps λb o e=>(e0.bs b o e).1
 have hkind:∀y∈ps.zip us,scope.names.lookup y.1=some .local\/(scope.names.lookup y.1=some .cell/\((cellsFrom (s.heap.objs.size+1) scope.names []).lookup y.1).isSome=true):=λ⟨n,v⟩ hy=>by
  rcases S.par n (List.of_mem_zip hy).1 with q | q
  ·exact .inl q
  ·exact .inr ⟨q,PySem.W.cellsFrom_some _ _ _ (.inl q)⟩
 refine codeAny_call_function hr.depth (KX _ _ lk) rfl S.co S.gen rfl (PySem.W.codeRec_of KX hcd) (hb _ _ _ _ ?_);refine wpAny_newFunctionEnv_cells S.kind hkind λenv he s1 x=> ?_;subst he;refine ⟨lim.keeps x.toInCall.keep,codeAny_func ?_⟩;obtain ⟨t,ht,hq⟩:=hbody A outer s H vs Q E (hr.deeper _) hsp;have I:Inv (C3e CX P w K mg base N qual scope f cdv A outer s H E) [] (B5k N vs) H s1:=C3w S hr.hd e0 hl r x;refine Z10 (ht [] s1 (B5k N vs) H _ I hq) (λfl s' hs=> ?_) λe s' hs=>hs
 have fin:∀{σ':St} {H':Hp} {v:V} {u:Value},Inv (C3e CX P w K mg base N qual scope f cdv A outer s H E) [] σ' H' s'->A2v v u->Q v H'->CE outer P w H s Q u s' :=
  λ{σ' H' v u} J rv q=>⟨v,H',J.os,J.bare,J.base,J.hok,rv,q⟩
 cases fl with
 | ret u =>
  obtain ⟨v,σ',H',J,rv,q⟩:=hs;exact fin J rv q
 | next =>
  obtain ⟨σ',H',J,q⟩:=hs;exact fin (v:=V.non) (u:=Value.none) J rfl q
 | brk =>
  obtain ⟨_,_,_,q⟩:=hs;exact False.elim q
 | cont =>
  obtain ⟨_,_,_,q⟩:=hs;exact False.elim q
section
variable {X:Cx} {x:Str} {p pos:Pos} {e:Expr} {es:List Expr} {t:TA} {id T:String} {r:List V->Hp->VK->Prop}
def tCB (r:List V->Hp->VK->Prop) (t:TA):TE:=λσ H Q=>t σ H λvs H1=>r vs H1 Q
theorem A0y (hc:B1b X (.builtin id) r) (hg:Gl X x) (hm:X.mg x=none) (hv:bootBuiltins x=some (.builtin id)) (ha:PA X (e::es) t) (hn:x≠"__name__":=by decide) (hdb:(x == ("__debug__":Str))=false:=by decide)
  (he:starEach (e::es) X.env=(false,eval e X.env)::starEach es X.env:=by rfl) (hpl:(backTo pos (starEach es X.env)).any (·.1)=false:=by rfl):PE X (.Call (.Name x p) (e::es) [] pos) (tCB r t):=by
 intro pins s σ H Q I h;refine wpAny_Call_Name_kw (B9s I hg hm hv ?_ hn hdb);exact PyProof.Rows.callWith_builtin1 (thn (ha pos pins s σ H _ I h) (by rintro us s1 ⟨vs,H1,I1,r1,q1⟩;exact hc pins s1 σ H1 vs us Q I1 r1 q1)) he hpl
theorem A2b (hc:B1b X (.type T) r) (hg:Gl X x) (hm:X.mg x=none) (hv:bootBuiltins x=some (.type T)) (ha:PA X (e::es) t) (hn:x≠"__name__":=by decide) (hdb:(x == ("__debug__":Str))=false:=by decide)
  (he:starEach (e::es) X.env=(false,eval e X.env)::starEach es X.env:=by rfl) (hpl:(backTo pos (starEach es X.env)).any (·.1)=false:=by rfl):PE X (.Call (.Name x p) (e::es) [] pos) (tCB r t):=by
 intro pins s σ H Q I h;refine wpAny_Call_Name_kw (B9s I hg hm hv ?_ hn hdb);exact PyProof.Rows.callWith_type1 (thn (ha pos pins s σ H _ I h) (by rintro us s1 ⟨vs,H1,I1,r1,q1⟩;exact hc pins s1 σ H1 vs us Q I1 r1 q1)) he hpl
end
end L2
namespace HT
open PySem PyProof.Rows
section
open PySem.SeqAt
open PySem.AutoSeq1 (wpAny_loadPart')
open PySem.MeetsSeq PySem.MeetsSeq2 PySem.MeetsSeq3
end
section
variable {prog:Program} {w:World} {A:Around} {E:Value->Shared->Prop} {s:Shared}
def sIx (n d:Nat):Option Int->Nat
 | none=>d
 | some v=>if v<0 then (v+(n:Int)).toNat else min v.toNat n
theorem sIx_none (n d:Nat):sIx n d none=d:=rfl
theorem sIx_nat (n d k:Nat):sIx n d (some (k:Int))=min k n:=by
 show (if (k:Int)<0 then ((k:Int)+(n:Int)).toNat else min (k:Int).toNat n)=min k n;rw [Z0t (by lia),Int.toNat_natCast]
theorem D4a (n d:Nat) (hd:d<=n) (o:Option Int):sIx n d o<=n:=by
 cases o with
 | none=>exact hd
 | some v =>
  show (if v<0 then (v+(n:Int)).toNat else min v.toNat n)<=n;by_cases hv:v<0
  ·rw [Z12 hv];lia
  ·rw [Z0t hv];exact Nat.min_le_right _ _
theorem C3i (v:Int) (n d:Nat):(if v<0 then max (v+(n:Int)) 0 else min v (n:Int))=((sIx n d (some v):Nat):Int):=by
 show (if v<0 then max (v+(n:Int)) 0 else min v (n:Int))=(((if v<0 then (v+(n:Int)).toNat else min v.toNat n):Nat):Int);by_cases hv:v<0
 ·simp only [Z12 hv];lia
 ·simp only [Z0t hv];lia
theorem C1m (lo hi:Option Int) (n:Nat):Builtin.Slice.sliceAdjust lo hi 1 (n:Int)=(((sIx n 0 lo:Nat):Int),((sIx n n hi:Nat):Int)):=by
 have h1:¬((1:Int)<0):=by lia
 unfold Builtin.Slice.sliceAdjust;simp only [h1,if_false];refine Prod.ext ?_ ?_
 ·cases lo with
  | none=>rfl
  | some v=>exact C3i v n 0
 ·cases hi with
  | none=>rfl
  | some v=>exact C3i v n n
theorem C1i (i j:Nat):Builtin.Slice.slicePlaces (i:Int) (j:Int) 1=j-i:=by
 unfold Builtin.Slice.slicePlaces;have h1:(1:Int)>0:=by lia
 simp only [h1,if_true,Int.ediv_one];split <;> lia
theorem B3t {v:Value} {o:Option Int} {Q:Option Int->Shared->Prop} (p:IsPart v o) (h:Q o s):wpAny (model prog w) A (Builtin.Slice.slicePartIndex v) Q E s:=by
 cases p with
 | none=>exact slicePart_none h
 | int i t=>exact slicePart_int h
theorem A5z {sl:Addr} {vl vu:Value} {lo hi:Option Int} {n:Nat} {Q:Int×Int×Nat->Shared->Prop} (hs:s.heap.IsSliceOf sl vl vu .none) (pl:IsPart vl lo) (pu:IsPart vu hi)
  (h:Q (((sIx n 0 lo:Nat):Int),1,sIx n n hi-sIx n 0 lo) s):wpAny (model prog w) A (Builtin.Slice.sliceApplied (.ref sl) (pure (n:Int))) Q E s:=by
 obtain ⟨os,hos,hcs,hds⟩:=id hs;unfold Builtin.Slice.sliceApplied Builtin.Slice.sliceFields;refine Z00 (Z00 (Z11 hos hds (x:=vl) rfl (Z00 (Z11 hos hds (x:=vu) rfl (Z00 (Z11 hos hds (x:= .none) rfl (Z04 ?_)))))));refine Z00 (slicePart_none ?_);show wpAny _ _ (if ((1:Int) == 0)=true then _ else _) _ _ s;rw [Z0t (by decide)];refine Z00 (B3t pl (Z00 (B3t pu (Z00 (Z04 ?_)))));show wpAny _ _ (match Builtin.Slice.sliceAdjust lo hi 1 (n:Int) with | (lo,hi)=>pure (lo,(1:Int),Builtin.Slice.slicePlaces lo hi 1)) _ _ s
 rw [C1m lo hi n];show wpAny _ _ (pure (((sIx n 0 lo:Nat):Int),(1:Int),Builtin.Slice.slicePlaces ((sIx n 0 lo:Nat):Int) ((sIx n n hi:Nat):Int) 1)) _ _ s;rw [C1i];exact Z04 h
theorem C6v (xs:Array Value) (i k:Nat):((List.range k).filterMap λ(m:Nat)=>xs[((i:Int)+(m:Int)*1).toNat]?).toArray=((xs.toList.drop i).take k).toArray:=by
 have e:(λ(m:Nat)=>xs[((i:Int)+(m:Int)*1).toNat]?)=λm=>xs[i+m]? :=by
  funext m;have:((i:Int)+(m:Int)*1).toNat=i+m:=by lia
  rw [this]
 rw [e];have:=pick_run xs i k;rw [List.filterMap_map] at this;have e2:((λx=>xs[x]?)∘λx=>i+x)=λm=>xs[i+m]? :=rfl;rw [e2] at this;rw [this]
theorem getItem_tuple_cut {t sl:Addr} {items:Array Value} {vl vu:Value} {lo hi:Option Int} {Q:Value->Shared->Prop} (ht:IsTup s.heap t items) (hs:s.heap.IsSliceOf sl vl vu .none) (pl:IsPart vl lo) (pu:IsPart vu hi)
  (hw:¬(sIx items.size 0 lo=0/\sIx items.size items.size hi=items.size))
  (h:Q (.ref s.heap.objs.size) { s with heap:=s.heap.push { cls:= .type "tuple",data:= .seq ((items.toList.drop (sIx items.size 0 lo)).take (sIx items.size items.size hi-sIx items.size 0 lo)).toArray } })
  (hsz:items.size<=sizeLine):wpAny (model prog w) A (getItem (.ref t) (.ref sl)) Q E s:=by
 have htake:sizeOk (.seq ((items.toList.drop (sIx items.size 0 lo)).take (sIx items.size items.size hi-sIx items.size 0 lo)).toArray):=by
  show ((items.toList.drop (sIx items.size 0 lo)).take (sIx items.size items.size hi-sIx items.size 0 lo)).toArray.size<=sizeLine;rw [Z0g,Z0x,Z19,Array.length_toList]
  lia
 have hj:sIx items.size items.size hi<=items.size:=D4a _ _ (Z09 _) hi;obtain ⟨os,hos,hcs,hds⟩:=id hs;have hTs:s.TypeIs (.ref sl) "slice":=⟨os,hos,hcs⟩;unfold getItem
 try with_reducible refine Z1w ?_
 first | refine Z00 (Z04 ?_) | skip
 refine Z00 (wpAny_sequenceKey ht.typeIs (by decide) ?_)
 refine Z00 (Z1b (name:=Str.ofString "__getitem__") ht.typeIs Z2k
  (wpAny_call_entry Z2k ht.typeIs entry_tuple_getitem ?_ (args_tuple_getitem _ _)))
 show wpAny _ _ (Builtin.Tuple.tupleItemsOf (.ref t) >>= _) _ _ s;refine Z00 (tupleItemsOf_ ht ?_);refine Z00 (wpAny_typeOf hTs ?_);rw [Z12 (by decide)];refine Z00 (A5z hs pl pu ?_)
 have hno:¬((((sIx items.size 0 lo:Nat):Int) == 0&&(1:Int) == 1&&(sIx items.size items.size hi-sIx items.size 0 lo) == items.size)=true):=by
  intro q;rw [Z1x,Z1x] at q;have q1:((sIx items.size 0 lo:Nat):Int)=0:=eq_of_beq q.1.1;have q2:sIx items.size items.size hi-sIx items.size 0 lo=items.size:=eq_of_beq q.2;exact hw ⟨by lia,by lia⟩
 show wpAny _ _ (if (((sIx items.size 0 lo:Nat):Int) == 0&&(1:Int) == 1&&(sIx items.size items.size hi-sIx items.size 0 lo) == items.size)=true then _ else _) _ _ s;rw [Z0t hno,C6v]
 first
  | exact Z00 (m:=Builtin.Tuple.tupleExact _) (Z16 (Z04 ⟨_,rfl,Z04 h⟩) htake)
  | exact Z00 (m:=Builtin.Tuple.tupleExact _) (Z16 (Z00 (Z04 (Z04 ⟨_,rfl,Z04 h⟩))) htake)
  | exact Z00 (Z00 (m:=Builtin.Tuple.tupleExact _) (Z16 (Z04 (Z04 ⟨_,rfl,Z04 h⟩)) htake))
  | exact Z00 (Z00 (m:=Builtin.Tuple.tupleExact _) (Z16 (Z04 ⟨_,rfl,Z04 h⟩) htake))
end
end HT
namespace L2
open PySem PySem.Spec PyProof.Rows
abbrev TO:=St->Hp->(Option Int->Hp->Prop)->Prop
def PO (X:Cx) (e:Option Expr) (t:TO):Prop :=
 ∀(pins:List (Addr×Obj)) (s:Shared) (σ:St) (H:Hp) (Q:Option Int->Hp->Prop),Inv X pins σ H s->t σ H Q->
  wpAny (model X.prog X.w) X.A (evalPart e X.env) (λu s'=>∃o H',Inv X pins σ H' s'/\IsPart u o/\Q o H') X.xe s
def D2l:TO:=λ_ H Q=>Q none H
def D9z (t:TE):TO:=λσ H Q=>t σ H λx H1=>∃i,x= .int i/\Q (some i) H1
section
variable {X:Cx} {e:Expr} {te:TE} {lo hi:Option Expr} {tl th:TO} {pos p2:Pos}
theorem A2t:PO X none D2l:=by
 intro pins s σ H Q I h;rw [evalPart_none];exact Z04 ⟨none,H,I,.none,h⟩
theorem A2g (h:PE X e te):PO X (some e) (D9z te):=by
 intro pins s σ H Q I hw;rw [evalPart_some];refine thn (h pins s σ H _ I hw) ?_;rintro u s1 ⟨x,H1,I1,r1,q1⟩;obtain ⟨i,rfl,q⟩:=q1;obtain ⟨t,rfl⟩:=r1;exact ⟨some i,H1,I1,.int i t,q⟩
def SlR (X:Cx) (r:V->Option Int->Option Int->Hp->VK->Prop):Prop :=
 ∀(pins:List (Addr×Obj)) (s:Shared) (σ:St) (H:Hp) (x:V) (v vl vu:Value) (lo hi:Option Int) (sl:Addr) (Q:VK),Inv X pins σ H s->A2v x v->s.heap.IsSliceOf sl vl vu .none->IsPart vl lo->IsPart vu hi->r x lo hi H Q->
  ∃T id,typeLookup (.type T) "__getitem__"=pure (some (.builtin id))/\s.TypeIs v T/\wpAny (model X.prog X.w) X.A (getItem v (.ref sl)) (EP X pins σ Q) X.xe s
def tSl (r:V->Option Int->Option Int->Hp->VK->Prop) (te:TE) (tl th:TO):TE:=λσ H Q=>te σ H λx H1=>tl σ H1 λl H2=>th σ H2 λu H3=>r x l u H3 Q
theorem A1t {r:V->Option Int->Option Int->Hp->VK->Prop} (hr:SlR X r) (he:PE X e te) (hl:PO X lo tl) (hu:PO X hi th):PE X (.Subscript e (.Slice lo hi none p2) pos) (tSl r te tl th):=by
 intro pins s σ H Q I h;refine Subscript_ (thn (he pins s σ H _ I h) ?_);rintro v s1 ⟨x,H1,I1,r1,q1⟩;refine wpAny_Slice (thn (hl pins s1 σ H1 _ I1 q1) ?_);rintro vl s2 ⟨l,H2,I2,pl,q2⟩;refine thn (hu pins s2 σ H2 _ I2 q2) ?_;rintro vu s3 ⟨u,H3,I3,pu,q3⟩;rw [evalPart_none];refine Z04 ?_;have I4:Inv X pins σ H3 { s3 with heap:=s3.heap.push { cls:= .type "slice",data:= .fields #[vl,vu,.none] } }:=I3.kept (t':=s3.toks) λb ob q=>Z01 _ q
 obtain ⟨T,id,hT,ht,hg⟩:=hr pins { s3 with heap:=s3.heap.push { cls:= .type "slice",data:= .fields #[vl,vu,.none] } } σ H3 x v vl vu l u s3.heap.objs.size Q I4 r1 (Heap.IsSliceOf.new ..) pl pu q3;show wpAny (model X.prog X.w) X.A (subscriptTail e (.Slice lo hi none p2) v (.ref s3.heap.objs.size)) (EP X pins σ Q) X.xe { s3 with heap:=s3.heap.push { cls:= .type "slice",data:= .fields #[vl,vu,.none] } };exact tail_any (ops:=[.ref s3.heap.objs.size,v]) ht hT hg (by with_unfolding_all rfl)
def B0y (xs:List V) (lo hi:Option Int):List V:=(xs.drop (HT.sIx xs.length 0 lo)).take (HT.sIx xs.length xs.length hi-HT.sIx xs.length 0 lo)
theorem B2x (xs:List V) (lo hi:Option Int):(B0y xs lo hi).length<=xs.length:=by
 unfold B0y;rw [Z0x,Z19]
 lia
end
def ixN (n:Nat) (i:Int):Option Nat:=if 0<=i then (if i<n then some i.toNat else none) else if -(n:Int)<=i then some (i+n).toNat else none
def atI {α:Type} (xs:List α) (i:Int):Option α:=(ixN xs.length i).bind λj=>xs[j]?
theorem C5i {n:Nat} {i:Int} {j:Nat} (h:ixN n i=some j):seqIndex? i n=some j/\j<n/\-(n:Int)<=i/\i<n:=by
 unfold ixN at h;by_cases h0:0<=i
 ·rw [Z12 h0] at h;by_cases h1:i<n
  ·rw [Z12 h1] at h;have e:i.toNat=j:=Z1a h;exact ⟨by rw [seqIndex_of h0 h1,e],by lia,by lia,h1⟩
  ·rw [Z0t h1] at h;cases h
 ·rw [Z0t h0] at h;by_cases h1: -(n:Int)<=i
  ·rw [Z12 h1] at h;have e:(i+n).toNat=j:=Z1a h;exact ⟨by rw [seqIndex_neg (by lia) h1,e],by lia,h1,by lia⟩
  ·rw [Z0t h1] at h;cases h
theorem B8f {α:Type} {xs:List α} {i:Int} {v:α} (h:atI xs i=some v):∃j,seqIndex? i xs.length=some j/\xs[j]? =some v/\j<xs.length/\-(xs.length:Int)<=i/\i<xs.length:=by
 unfold atI at h
 cases e:ixN xs.length i with
 | none=>rw [e] at h;cases h
 | some j =>
  rw [e] at h;obtain ⟨h1,h2,h3,h4⟩:=C5i e;exact ⟨j,h1,h,h2,h3,h4⟩
theorem A4a {α:Type} {xs:List α} {j:Nat} {v:α} (h:xs[j]? =some v):atI xs (j:Int)=some v:=by
 have hj:j<xs.length:=(Z03.mp h).1
 have e:ixN xs.length (j:Int)=some j:=by
  unfold ixN;rw [Z12 (by lia),Z12 (by lia)];simp
 unfold atI;rw [e];exact h
def D0d (b:Expr):Prop:=∀o i,subscripted b false o i=operate [o,i] (getItem o i)
def IxR (X:Cx) (r:R2):Prop :=
 ∀(value slice:Expr) (pins:List (Addr×Obj)) (s:Shared) (σ:St) (H:Hp) (x y:V) (v u:Value) (Q:VK),Inv X pins σ H s->A2v x v->A2v y u->r x y H Q->
  subscripted slice false v u=operate [v,u] (getItem v u)->wpAny (model X.prog X.w) X.A (subscriptTail value slice v u) (EP X pins σ Q) X.xe s
def MtR (X:Cx) (id:String) (r:V->List V->Hp->VK->Prop):Prop :=
 ∀(pins:List (Addr×Obj)) (s:Shared) (σ:St) (H:Hp) (x:V) (xs:List V) (v:Value) (us:List Value) (Q:VK),Inv X pins σ H s->A2v x v->A3c xs us->r x xs H Q->
  wpAny (model X.prog X.w) X.A (call (.builtin id) (v::us)) (EP X pins σ Q) X.xe s
section
variable {X:Cx} {a b:Expr} {ta tb:TE} {pos:Pos}
theorem A2i {r:R2} (hr:IxR X r) (ha:PE X a ta) (hb:PE X b tb) (hs:D0d b):PE X (.Subscript a b pos) (tOp r ta tb):=by
 intro pins s σ H Q I h;exact Subscript_ (D8m ha hb I h λv u s2 x y H2 I2 rx ry q=>hr a b pins s2 σ H2 x y v u Q I2 rx ry q (hs _ _))
def rIxL (K:Frag):R2:=λx y H Q=>∃p xs i v,x= .ref p/\y= .int i/\SqL K H p xs/\atI xs i=some v/\Q v H
def rIxT (K:Frag):R2:=λx y H Q=>∃p xs i v,x= .ref p/\y= .int i/\SqT K H p xs/\atI xs i=some v/\Q v H
def rIxS:R2:=λx y H Q=>∃z i c,x= .str z/\y= .int i/\z.length<=sizeLine/\atI z.cps.toList i=some c/\Q (.str ⟨#[c]⟩) H
theorem A1d:IxR X (rIxL X.K):=by
 intro value slice pins s σ H x y v u Q I rx ry h hs;obtain ⟨p,xs,i,z,rfl,rfl,hq,he,q⟩:=h;cases rx;obtain ⟨t,rfl⟩:=ry;obtain ⟨its,r,pl,hz⟩:=I.list hq;obtain ⟨j,h1,h2,h3,h4,h5⟩:=B8f he;obtain ⟨w,ew,rw'⟩:=r.get h2;have hl:=r.length;have hn:=B3u;have fin:EP X pins σ Q w s:=⟨z,H,I,rw',q⟩;by_cases h0:0<=i
 ·have hj:i.toNat=j:=by
   rw [seqIndex_of h0 h5] at h1;exact Z1a h1
  exact item_listR pl.isList h0 (by lia) (by rw [hj];simpa using ew) fin hs
 ·have hj:(i+(its.toArray.size:Int)).toNat=j:=by
   rw [seqIndex_neg (by lia) h4] at h1;rw [Z0g,<-hl];exact Z1a h1
  exact subscriptTail_builtinR (x:=w) pl.isList.typeIs slot_list_getitem.lookup
   (wpAny_getItem_list_neg (Q:=λr s'=>r=w/\EP X pins σ Q r s') pl.isList (by lia) (by rw [Z0g] <;> lia) (by lia) (by rw [hj];simpa using ew) ⟨rfl,fin⟩) hs
theorem C5o:IxR X (rIxT X.K):=by
 intro value slice pins s σ H x y v u Q I rx ry h hs;obtain ⟨p,xs,i,z,rfl,rfl,hq,he,q⟩:=h;cases rx;obtain ⟨t,rfl⟩:=ry;obtain ⟨its,r,pl,hz⟩:=I.tuple hq;obtain ⟨j,h1,h2,h3,h4,h5⟩:=B8f he;obtain ⟨w,ew,rw'⟩:=r.get h2;have hl:=r.length;have hn:=B3u;have fin:EP X pins σ Q w s:=⟨z,H,I,rw',q⟩
 exact subscriptTail_builtinR (x:=w) pl.typeIs slot_tuple_getitem.lookup
  (getItem_tuple (j:=j) (Q:=λr s'=>r=w/\EP X pins σ Q r s') pl (by lia) (by lia) (by rw [Z0g,<-hl];exact h1) (by simpa using ew) ⟨rfl,fin⟩) hs
theorem B9q:IxR X rIxS:=by
 intro value slice pins s σ H x y v u Q I rx ry h hs;obtain ⟨z,i,c,rfl,rfl,hz,he,q⟩:=h;obtain ⟨t,rfl⟩:=rx;obtain ⟨t',rfl⟩:=ry;obtain ⟨j,h1,h2,h3,h4,h5⟩:=B8f he;have hl:z.cps.toList.length=z.length:=by simp [Str.length]
 rw [hl] at h1 h4 h5;have hn:=B3u
 exact tail_any (typeIs_str s z t) slot_str_getitem.lookup (getItem_str (c:=c) (by
  have e1:decide (i< -(2^63:Int))=false:=Z1j (by lia);have e2:decide (i≥2^63)=false:=Z1j (by lia)
  rw [e1,e2,Bool.or_false]) (by rw [h1];simpa using h2) ⟨.str ⟨#[c]⟩,H,I.tok _,⟨_,rfl⟩,q⟩) hs
theorem C0v (its:List Value) (n j:Nat) (u:Value):Obj.mapSeq (·.setIfInBounds j u) { cls:= .type "list",data:= .seq its.toArray n }={ cls:= .type "list",data:= .seq (its.set j u).toArray n }:=by
 simp [Obj.mapSeq]
theorem Inv.lst {pins:List (Addr×Obj)} {σ:St} {H:Hp} {s:Shared} {p:Addr} {xs:List V} (I:Inv X pins σ H s) (h:H p=some (.lst xs)) :
  ∃(its:List Value) (n:Nat),A3c xs its/\s.heap.get? p=some { cls:= .type "list",data:= .seq its.toArray n }/\xs.length<=sizeLine:=by
 obtain ⟨z,its,n,r,e⟩:=I.hok p _ h;exact ⟨its,n,r,e,z⟩
theorem Inv.lstUpd {pins:List (Addr×Obj)} {σ:St} {H:Hp} {s:Shared} {p:Addr} {xs ys:List V} {its its':List Value} {n n':Nat} {f:Obj->Obj} (I:Inv X pins σ H s) (h:H p=some (.lst xs))
  (ho:s.heap.get? p=some { cls:= .type "list",data:= .seq its.toArray n }) (hf:f { cls:= .type "list",data:= .seq its.toArray n }={ cls:= .type "list",data:= .seq its'.toArray n' }) (r:A3c ys its') (hz:ys.length<=sizeLine) (t:Nat) :
  Inv X pins σ (upd H p (.lst ys)) { s with heap:=s.heap.update p f,toks:=t }:=by
 have e:(s.heap.update p f).get? p=some { cls:= .type "list",data:= .seq its'.toArray n' }:=by
  rw [Z1r f ho (by rw [hf] <;> rfl),hf]
 refine I.write (x:=p) (e:=p) (by rw [h];trivial) (.inl rfl) (λb u hb q=>(Z1d _ _ (Ne.symm hb)).trans q) ⟨_,e⟩ ?_;exact ⟨hz,its',n',r,e⟩
def D9c:V->V->V->Hp->(Hp->Prop)->Prop:=λo i v H Q=>∃p xs k j,o= .ref p/\i= .int k/\H p=some (.lst xs)/\ixN xs.length k=some j/\Q (upd H p (.lst (xs.set j v)))
theorem A7f:E0y X D9c:=by
 intro pins s σ H o i v ov iv u Q I ro ri rv h;obtain ⟨p,xs,k,j,rfl,rfl,hp,hj,q⟩:=h;cases ro;obtain ⟨t,rfl⟩:=ri;obtain ⟨its,n,r,ho,hz⟩:=I.lst hp;obtain ⟨h1,h2,h3,h4⟩:=C5i hj;have hl:=r.length;have hn:=B3u
 have I':Inv X pins σ (upd H p (.lst (xs.set j v))) { s with heap:=s.heap.update p (Obj.mapSeq (·.setIfInBounds j u)) } :=
  I.lstUpd hp ho (C0v its n j u) (r.set rv j) (by rw [List.length_set];exact hz) s.toks
 by_cases h0:0<=k
 ·have hk:k.toNat=j:=by
   rw [seqIndex_of h0 h4] at h1;exact Z1a h1
  exact PySem.W.ki_setAt ho h0 (by lia) (by rw [Z0g,<-hl];exact h4) (by rw [hk];exact ⟨_,I',q⟩)
 ·have hk:(k+(its.toArray.size:Int)).toNat=j:=by
   rw [seqIndex_neg (by lia) h3] at h1;rw [Z0g,<-hl];exact Z1a h1
  exact PySem.W.ki_setBack ho (by lia) (by rw [Z0g,<-hl];exact h3) (by lia) (by rw [hk];exact ⟨_,I',q⟩)
theorem B6w (lo hi:Option Int) (n:Nat):(sliceBounds lo hi none n).1=((HT.sIx n 0 lo:Nat):Int)/\(sliceBounds lo hi none n).2.1=((HT.sIx n n hi:Nat):Int)/\(sliceBounds lo hi none n).2.2=1:=by
 refine ⟨?_,?_,rfl⟩
 ·cases lo with
  | none=>simp [sliceBounds,HT.sIx]
  | some i =>
   simp only [sliceBounds,HT.sIx,Option.getD_none,show (1:Int)>0 by decide,if_true];by_cases h:i<0
   ·simp only [h,if_true] <;> lia
   ·simp only [h,if_false] <;> lia
 ·cases hi with
  | none=>simp [sliceBounds,HT.sIx]
  | some i =>
   simp only [sliceBounds,HT.sIx,Option.getD_none,show (1:Int)>0 by decide,if_true];by_cases h:i<0
   ·simp only [h,if_true] <;> lia
   ·simp only [h,if_false] <;> lia
theorem B4w (its:List Value) (lo hi:Option Int):slicePick its.toArray lo hi none=((its.drop (HT.sIx its.length 0 lo)).take (HT.sIx its.length its.length hi-HT.sIx its.length 0 lo)).toArray:=by
 obtain ⟨h1,h2,h3⟩:=B6w lo hi its.toArray.size;unfold slicePick;rw [h1,h2,h3];simp only [sliceRange_one,pick_run,Z0g] <;> rfl
def rSlL (K:Frag):V->Option Int->Option Int->Hp->VK->Prop:=λx lo hi H Q=>∃a xs,x= .ref a/\SqL K H a xs/\∀p,H p=none->Q (.ref p) (upd H p (.lst (B0y xs lo hi)))
theorem A6e:SlR X (rSlL X.K):=by
 intro pins s σ H x v vl vu lo hi sl Q I rx hs pl pu h;obtain ⟨a,xs,rfl,hx,q⟩:=h;cases rx;obtain ⟨its,r,ht,hz⟩:=I.list hx;have hlen:=r.length;refine ⟨"list",_,slot_list_getitem.lookup,ht.isList.typeIs,?_⟩;refine wpAny_getItem_list_slice ht.isList hs pl pu .none (by simp) ?_ (by rw [Z0g] <;> lia);rw [B4w,<-hlen];refine ⟨.ref s.heap.objs.size,_,I.laid (t':=s.toks) (o:= .lst (B0y xs lo hi)) (λb ob q=>Z01 _ q) (Z09 _) ?_,rfl,q _ (I.hok.fresh (Z09 _))⟩;exact ⟨Z1n (B2x xs lo hi) hz,_,0,(r.drop (HT.sIx xs.length 0 lo)).take (HT.sIx xs.length xs.length hi-HT.sIx xs.length 0 lo),Z0c _ rfl⟩
def B5c:V->Bool
 | .non=>true
 | .bl _=>true
 | .int _=>true
 | .str _=>true
 | _=>false
noncomputable def eqV:V->V->Bool
 | .non,.non=>true
 | .bl a,.bl b=>a == b
 | .bl a,.int b=>(if a then 1 else 0) == b
 | .int a,.bl b=>a == (if b then 1 else 0)
 | .int a,.int b=>a == b
 | .str a,.str b=>a == b
 | _,_=>false
theorem D6u {A:Around} {s:Shared} {y x:V} {u v:Value} (ry:A2v y u) (rx:A2v x v) (fy:B5c y=true) (fx:B5c x=true):SeqAt.EqAt A s u v (eqV y x):=by
 cases y with
 | non =>
  cases ry
  cases x with
  | non=>cases rx;exact SeqAt.EqAt.same _
  | bl b=>cases rx;exact SeqAt.EqAt.none_bool b
  | int b=>obtain ⟨t,rfl⟩:=rx;exact SeqAt.EqAt.none_int b t
  | str b=>obtain ⟨t,rfl⟩:=rx;exact SeqAt.EqAt.none_str b t
  | _=>exact absurd (show false=true from fx) Z0v
 | bl a =>
  cases ry
  cases x with
  | non=>cases rx;exact SeqAt.EqAt.bool_none a
  | bl b=>cases rx;exact SeqAt.EqAt.bool_bool a b
  | int b=>obtain ⟨t,rfl⟩:=rx;exact SeqAt.EqAt.bool_int a b t
  | str b=>obtain ⟨t,rfl⟩:=rx;exact SeqAt.EqAt.bool_str a b t
  | _=>exact absurd (show false=true from fx) Z0v
 | int a =>
  obtain ⟨t',rfl⟩:=ry
  cases x with
  | non=>cases rx;exact SeqAt.EqAt.int_none a t'
  | bl b=>cases rx;exact SeqAt.EqAt.int_bool a t' b
  | int b=>obtain ⟨t,rfl⟩:=rx;exact SeqAt.EqAt.int_int a t' b t
  | str b=>obtain ⟨t,rfl⟩:=rx;exact SeqAt.EqAt.int_str a t' b t
  | _=>exact absurd (show false=true from fx) Z0v
 | str a =>
  obtain ⟨t',rfl⟩:=ry
  cases x with
  | non=>cases rx;exact SeqAt.EqAt.str_none a t'
  | bl b=>cases rx;exact SeqAt.EqAt.str_bool a t' b
  | int b=>obtain ⟨t,rfl⟩:=rx;exact SeqAt.EqAt.str_int a t' b t
  | str b=>obtain ⟨t,rfl⟩:=rx;exact SeqAt.EqAt.str_str a t' b t
  | _=>exact absurd (show false=true from fx) Z0v
 | _=>exact absurd (show false=true from fy) Z0v
def eqU (x:V) (u:Value):Bool:=match u with
 | .none=>eqV .non x
 | .bool b=>eqV (.bl b) x
 | .int i _=>eqV (.int i) x
 | .str z _=>eqV (.str z) x
 | _=>false
theorem C8n {x y:V} {u:Value} (r:A2v y u) (f:B5c y=true):eqU x u=eqV y x:=by
 cases y with
 | non=>cases r;rfl
 | bl b=>cases r;rfl
 | int i=>obtain ⟨t,rfl⟩:=r;rfl
 | str z=>obtain ⟨t,rfl⟩:=r;rfl
 | _=>exact absurd (show false=true from f) Z0v
theorem B2w {x:V}:∀{xs:List V} {us:List Value},A3c xs us->xs.all B5c=true->us.any (eqU x)=xs.any λy=>eqV y x
 | _,_,.nil,_=>rfl
 | y::xs,u::us,.cons r t,f=>by
  rw [List.all_cons,Z1x] at f;rw [List.any_cons,List.any_cons,C8n r f.1,B2w t f.2]
theorem A9a {A:Around} {s:Shared} {x:V} {v:Value} (rx:A2v x v) (fx:B5c x=true):∀{xs:List V} {us:List Value},A3c xs us->xs.all B5c=true->∀u∈us,SeqAt.EqAt A s u v (eqU x u)
 | _,_,.nil,_=>λu hu=>by cases hu
 | y::xs,u::us,.cons r t,f=>λu' hu=>by
  rw [List.all_cons,Z1x] at f;rcases Z0e.mp hu with rfl | hu
  ·rw [C8n r f.1];exact D6u r rx f.1 fx
  ·exact A9a rx fx t f.2 u' hu
def inV (x:V) (xs:List V):Bool:=xs.any λy=>eqV y x
def rIn (K:Frag) (neg:Bool):R2:=λx y H Q=>∃p xs,y= .ref p/\(SqL K H p xs\/SqT K H p xs)/\B5c x=true/\xs.all B5c=true/\Q (.bl (if neg then ! inV x xs else inV x xs)) H
theorem C2m:OpR X (compareOp .In) (rIn X.K false):=by
 intro pins s σ H x y v u Q I rx ry h;obtain ⟨p,xs,rfl,hq,fx,fs,q⟩:=h;cases ry;rcases hq with hq | hq
 ·obtain ⟨its,r,pl,hz⟩:=I.list hq;refine SeqAt.in_listAt (eqU x) pl.isList (λw hw=>A9a rx fx r fs w (by simpa using hw)) ⟨.bl _,H,I,rfl,?_⟩;rw [show its.toArray.any (eqU x)=its.any (eqU x) by simp,B2w r fs];exact q
 ·obtain ⟨its,r,pl,hz⟩:=I.tuple hq;refine SeqAt.in_tupleAt (eqU x) pl (λw hw=>A9a rx fx r fs w (by simpa using hw)) ⟨.bl _,H,I,rfl,?_⟩;rw [show its.toArray.any (eqU x)=its.any (eqU x) by simp,B2w r fs];exact q
theorem B0k:OpR X (compareOp .NotIn) (rIn X.K true):=by
 intro pins s σ H x y v u Q I rx ry h;obtain ⟨p,xs,rfl,hq,fx,fs,q⟩:=h;cases ry;rcases hq with hq | hq
 ·obtain ⟨its,r,pl,hz⟩:=I.list hq;refine SeqAt.notIn_listAt (eqU x) pl.isList (λw hw=>A9a rx fx r fs w (by simpa using hw)) ⟨.bl _,H,I,rfl,?_⟩;rw [show its.toArray.any (eqU x)=its.any (eqU x) by simp,B2w r fs];exact q
 ·obtain ⟨its,r,pl,hz⟩:=I.tuple hq;refine SeqAt.notIn_tupleAt (eqU x) pl (λw hw=>A9a rx fx r fs w (by simpa using hw)) ⟨.bl _,H,I,rfl,?_⟩;rw [show its.toArray.any (eqU x)=its.any (eqU x) by simp,B2w r fs];exact q
theorem B6y:OpR X (compareOp .NotIn) (λx y H Q=>∃i j,x= .str i/\y= .str j/\Q (.bl (!(!(Builtin.Str.occurrences j i 0 j.length 1).isEmpty))) H):=by
 intro pins s σ H x y v u Q I rx ry h;obtain ⟨i,j,rfl,rfl,q⟩:=h;obtain ⟨t,rfl⟩:=rx;obtain ⟨t',rfl⟩:=ry;exact notIn_str ⟨.bl _,H,I,rfl,q⟩
theorem A1i:B1b X (.builtin "len") (λxs H Q=>∃p ys,xs=[.ref p]/\(SqL X.K H p ys\/SqT X.K H p ys)/\Q (.int ys.length) H):=by
 intro pins s σ H xs us Q I r h;obtain ⟨p,ys,rfl,hq,q⟩:=h;obtain ⟨u,rfl,rx⟩:=A7i r;cases rx;have hn:=B3u;rcases hq with hq | hq
 ·obtain ⟨its,r',pl,hz⟩:=I.list hq;have hlen:=r'.length;exact Calls.call_len_list pl.isList (by simp only [Z0g] <;> lia) ⟨.int ys.length,H,I.tok _,⟨s.toks+1,by rw [Z0g,hlen]⟩,q⟩
 ·obtain ⟨its,r',pl,hz⟩:=I.tuple hq;have hlen:=r'.length;exact len_tuple pl (by simp only [Z0g] <;> lia) ⟨.int ys.length,H,I.tok _,⟨s.toks+1,by rw [Z0g,hlen]⟩,q⟩
theorem A3x:B1b X (.builtin "len") (λxs H Q=>∃z,xs=[.str z]/\z.length<=sizeLine/\Q (.int z.length) H):=by
 intro pins s σ H xs us Q I r h;obtain ⟨z,rfl,hz,q⟩:=h;obtain ⟨u,rfl,t,rfl⟩:=A7i r;have hn:=B3u;exact len_str (by lia) ⟨.int z.length,H,I.tok _,⟨_,rfl⟩,q⟩
theorem B0s:B1b X (.type "list") (λxs H Q=>∃p ys,xs=[.ref p]/\(SqL X.K H p ys\/SqT X.K H p ys)/\∀l,H l=none->Q (.ref l) (upd H l (.lst ys))):=by
 intro pins s σ H xs us Q I r h;obtain ⟨p,ys,rfl,hq,q⟩:=h;obtain ⟨u,rfl,rx⟩:=A7i r;cases rx
 have fin:∀(its:List Value),A3c ys its->ys.length<=sizeLine->∀(h':Heap) (c':Nat),(∀b o',s.heap.get? b=some o'->h'.get? b=some o')->
   h'.get? s.heap.objs.size=some { cls:= .type "list",dict:=none,data:= .seq its.toArray c',slots:= #[] }->EP X pins σ Q (.ref s.heap.objs.size) { s with heap:=h' }:=λits r' hz h' c' kp e =>
  ⟨.ref s.heap.objs.size,_,I.laid (t':=s.toks) kp (Z09 _) (show A3m X.prog X.w _ h' _ (.lst ys) from ⟨hz,its,c',r',e⟩),rfl,q _ (I.hok.fresh (Z09 _))⟩
 rcases hq with hq | hq
 ·obtain ⟨its,r',pl,hz⟩:=I.list hq;have hlen:=r'.length;obtain ⟨o,ho,hc,n,hd⟩:=pl.isList;exact call_list_seq p (.inl rfl) ho hc hd (λh' c' kp e=>fin its r' hz h' c' kp e) (by simp only [Z0g] <;> lia)
 ·obtain ⟨its,r',pl,hz⟩:=I.tuple hq;have hlen:=r'.length;obtain ⟨o,ho,hc,n,hd⟩:=pl;exact call_list_seq p (.inr rfl) ho hc hd (λh' c' kp e=>fin its r' hz h' c' kp e) (by simp only [Z0g] <;> lia)
theorem A5r:B1b X (.type "tuple") (λxs H Q=>∃p ys,xs=[.ref p]/\((SqL X.K H p ys/\∀l,H l=none->Q (.ref l) (upd H l (.tup ys)))\/(SqT X.K H p ys/\Q (.ref p) H))):=by
 intro pins s σ H xs us Q I r h;obtain ⟨p,ys,rfl,h⟩:=h;obtain ⟨u,rfl,rx⟩:=A7i r;cases rx;rcases h with ⟨hq,q⟩ | ⟨hq,q⟩
 ·obtain ⟨its,r',pl,hz⟩:=I.list hq;have hlen:=r'.length;refine call_tuple_list pl.isList (λh' kp=> ?_) (by simp only [Z0g] <;> lia);have I1:Inv X pins σ H { s with heap:=h' }:=I.kept (t':=s.toks) kp
  have I2:Inv X pins σ (upd H h'.objs.size (.tup ys)) { s with heap:=h'.push { cls:= .type "tuple",data:= .seq its.toArray } } :=
   I1.laid (t':=s.toks) (λb o e=>Z01 _ e) (Z09 _) (show A3m X.prog X.w _ _ _ (.tup ys) from ⟨hz,its,r',IsTup.new _ _⟩)
  exact ⟨.ref h'.objs.size,_,I2,rfl,q _ (I1.hok.fresh (Z09 _))⟩
 ·obtain ⟨its,r',pl,hz⟩:=I.tuple hq;exact call_tuple_same pl ⟨.ref p,H,I,rfl,q⟩
def tyV (K:Frag) (T:String) (x:V) (H:Hp):Prop:=match x with
 | .str _=>T="str"
 | .int _=>T="int"
 | .ref p=>(T="list"/\∃xs,SqL K H p xs)\/(T="tuple"/\∃o,K.lookup p=some o/\o.cls= .type "tuple"/\o.dict=none)\/
   (T="dict"/\((∃kvs,H p=some (.dK kvs))\/∃kvs,H p=some (.dT kvs)))\/(T="set"/\∃S n,H p=some (.set S n))
 | _=>False
theorem D5o {pins:List (Addr×Obj)} {σ:St} {H:Hp} {s:Shared} {T:String} {x:V} {v:Value} (I:Inv X pins σ H s) (r:A2v x v) (ty:tyV X.K T x H) :
  s.TypeIs v T/\∀a,v= .ref a->∃ob,s.heap.get? a=some ob/\ob.dict=none:=by
 cases x with
 | str z =>
  obtain ⟨t,rfl⟩:=r;cases (show T="str" from ty);exact ⟨typeIs_str s z t,λ_ e=>nomatch e⟩
 | int i =>
  obtain ⟨t,rfl⟩:=r;cases (show T="int" from ty);exact ⟨typeIs_int s i t,λ_ e=>nomatch e⟩
 | ref p =>
  cases r
  rcases ty with ⟨rfl,xs,hq⟩ | ⟨rfl,o,hk,hc,hd⟩ | ⟨rfl,hk⟩ | ⟨rfl,S,n,hk⟩
  ·obtain ⟨its,_,pl,_⟩:=I.list hq;refine ⟨pl.isList.typeIs,λa e=> ?_⟩;cases e;obtain ⟨o,n,e,c,hd,_⟩:=pl;exact ⟨o,e,hd⟩
  ·refine ⟨⟨o,I.kIn p o hk,hc⟩,λa e=> ?_⟩;cases e;exact ⟨o,I.kIn _ o hk,hd⟩
  ·have z:∃o,s.heap.get? p=some o/\o.ExactDict:=by
    rcases hk with ⟨kvs,hk⟩ | ⟨kvs,hk⟩
    ·obtain ⟨_,_,_,_,o,_,_,e,ex,_⟩:=I.hok p _ hk;exact ⟨o,e,ex⟩
    ·obtain ⟨_,_,_,_,o,_,_,e,ex,_⟩:=I.hok p _ hk;exact ⟨o,e,ex⟩
   obtain ⟨o,e,ex⟩:=z;refine ⟨⟨o,e,ex.1⟩,λa e2=> ?_⟩;cases e2;exact ⟨o,e,ex.2.1⟩
  ·obtain ⟨o,_,_,_,e,ex,_⟩:=I.hok p _ hk;refine ⟨⟨o,e,ex.1⟩,λa e2=> ?_⟩;cases e2;exact ⟨o,e,ex.2.1⟩
 | _=>exact False.elim ty
def tBM (K:Frag) (T:String) (r:V->List V->Hp->VK->Prop) (to:TE) (t:TA):TE:=λσ H Q=>to σ H λx H1=>tyV K T x H1/\t σ H1 λxs H2=>r x xs H2 Q
variable {o e:Expr} {es:List Expr} {to:TE} {t:TA} {name:Str} {apos cpos:Pos} {T id:String} {r:V->List V->Hp->VK->Prop}
theorem A2r (pa:PlainAttrs T) (slot:Slot T name id) (hty:typeOf (.builtin id)=pure (.type "method_descriptor")) (hm:MtR X id r) (ho:PE X o to) (ha:PA X (e::es) t)
  (hbase:attributeBase o name X.env (eval o X.env)=eval o X.env:=by rfl)
  (hfew:((backTo cpos (starEach (e::es) X.env)).all (λx=> ! x.1)&&(backToKw cpos (keywordEach [] X.env)).all (λx=>x.1.isSome)
   && decide ((e::es).length+([]:List Keyword).length+(if ([]:List Keyword).isEmpty then 0 else 1)<30))=true:=by rfl)
  (hline:(apos.endLine == cpos.line)=true:=by rfl) (hs:starEach (e::es) X.env=(false,eval e X.env)::starEach es X.env:=by rfl) (hplain:(backTo cpos (starEach es X.env)).any (·.1)=false:=by rfl) :
  PE X (.Call (.Attribute o name apos) (e::es) [] cpos) (tBM X.K T r to t):=by
 intro pins s σ H Q I h;refine wpAny_Call_method_late hbase hfew hline rfl (thn (ho pins s σ H _ I h) ?_);rintro v s1 ⟨x,H1,I1,r1,ty,q1⟩;obtain ⟨h1,h2⟩:=D5o I1 r1 ty;refine ⟨T,id,pa,slot,hty,h1,h2,?_⟩;have hA:=ha cpos pins s1 σ H1 _ I1 q1;rw [hs] at hA⊢;refine Calls.callWith_builtin (by show (false||(backTo cpos (starEach es X.env)).any (·.1))=false;rw [hplain] <;> rfl) (Calls.evalArgs_plain ?_);exact thn hA (by rintro us s2 ⟨vs,H2,I2,r2,q2⟩;exact hm pins s2 σ H2 x vs v us Q I2 r1 r2 q2)
end
def MtM (X:Cx) (id:String) (r:V->List V->Hp->VK->Prop):Prop :=
 ∀(pins:List (Addr×Obj)) (s:Shared) (σ:St) (H:Hp) (x:V) (xs:List V) (v:Value) (us:List Value) (Q:VK),Inv X pins σ H s->A2v x v->A3c xs us->r x xs H Q->
  wpAny (model X.prog X.w) X.A (call (.builtin id) (v::us)) (EP X pins σ Q) X.xe s
theorem A3c.one:∀{x:V} {us:List Value},A3c [x] us->∃u,us=[u]/\A2v x u
 | _,_,.cons r .nil=>⟨_,rfl,r⟩
section
variable {X:Cx} {pins:List (Addr×Obj)} {σ:St} {H:Hp} {s:Shared} {l b:Addr} {xs ys zs:List V}
theorem Inv.lset {its its':List Value} {n:Nat} {f:Array Value->Array Value} {t':Nat} (I:Inv X pins σ H s) (hH:H l=some (.lst xs))
  (e:s.heap.get? l=some { cls:= .type "list",data:= .seq its.toArray n }) (hf:f its.toArray=its'.toArray) (hv:A3c ys its') (hz:ys.length<=sizeLine) :
  Inv X pins σ (upd H l (.lst ys)) { s with heap:=s.heap.update l (Obj.mapSeq f),toks:=t' }:=by
 have q:=PySem.IsL.update e f;rw [hf] at q;refine I.write (x:=l) (e:=l) (by rw [hH];exact trivial) (.inl rfl) (λb' u hb hu=>(Z1d s.heap (Obj.mapSeq f) (Ne.symm hb)).trans hu) ⟨_,q⟩ ?_;exact ⟨hz,its',_,hv,q⟩
theorem Inv.lnew {its:List Value} {t':Nat} (I:Inv X pins σ H s) (hv:A3c ys its) (hz:ys.length<=sizeLine) :
  Inv X pins σ (upd H s.heap.objs.size (.lst ys)) { s with heap:=s.heap.push { cls:= .type "list",data:= .seq its.toArray },toks:=t' } :=
 I.laid (λ_ _ q=>Z01 _ q) (Z09 _) ⟨hz,its,0,hv,Z0c _ rfl⟩
theorem Inv.fresh (I:Inv X pins σ H s):H s.heap.objs.size=none:=I.hok.fresh (Z09 _)
theorem Inv.lstM (I:Inv X pins σ H s) (hH:H l=some (.lst xs)):xs.length<=sizeLine/\∃(its:List Value) (n:Nat),A3c xs its/\xs.length=its.length/\s.heap.get? l=some { cls:= .type "list",data:= .seq its.toArray n }:=by
 obtain ⟨z,its,n,r,e⟩:=I.hok l _ hH;exact ⟨z,its,n,r,r.length,e⟩
end
section
variable {X:Cx}
def C9z:V->List V->Hp->VK->Prop:=λx vs H Q=>∃l xs y,x= .ref l/\vs=[y]/\H l=some (.lst xs)/\xs.length<sizeLine/\Q .non (upd H l (.lst (xs++[y])))
theorem A2d:MtM X "list.append" C9z:=by
 intro pins s σ H x vs v us Q I rx rv h;obtain ⟨l,xs,y,rfl,rfl,hH,hz,q⟩:=h;cases rx;obtain ⟨u,rfl,ru⟩:=rv.one;obtain ⟨z,its,n,r,hl,e⟩:=I.lstM hH;refine call_meets F.slot_list_append ⟨_,e,rfl⟩ F.entry_list_append (F.args_list_append_2 _ _) (PySem.list_append l its.toArray n u (by rw [Z0g];lia)) ⟨e,?_⟩;refine ⟨.non,_,I.lset (its':=its++[u]) hH e (by simp) (r.append (.cons ru .nil)) ?_,rfl,q⟩;rw [Z06,Z0j]
 lia
def rCat:R2:=λx y H Q=>∃l b xs zs,x= .ref l/\y= .ref b/\H l=some (.lst xs)/\H b=some (.lst zs)/\xs.length+zs.length<=sizeLine/\∀p,H p=none->Q (.ref p) (upd H p (.lst (xs++zs)))
theorem A6q:OpR X (binaryOp .Add) rCat:=by
 intro pins s σ H x y v u Q I rx ry h;obtain ⟨l,b,xs,zs,rfl,rfl,hH,hB,hz,q⟩:=h;cases rx;cases ry;obtain ⟨z,its,n,r,hl,e⟩:=I.lstM hH;obtain ⟨z2,its2,n2,r2,hl2,e2⟩:=I.lstM hB;refine PySem.P.add_list e e2 ?_ (by rw [Z0g,Z0g];lia);have ea:its.toArray++its2.toArray=(its++its2).toArray:=by simp
 rw [ea];exact ⟨.ref _,_,I.lnew (t':=s.toks) (r.append r2) (by rw [Z06];lia),rfl,q _ I.fresh⟩
end
section
variable {prog:Program} {w:World} {A:Around} {E:Value->Shared->Prop} {s:Shared}
set_option maxRecDepth 100000 in
end
section
variable {X:Cx}
end
section
variable {κ:Type} [DecidableEq κ]
def C2c (kvs:List (κ×V)) (k:κ):Option V:=(kvs.find? λkv=>decide (kv.1=k)).map (·.2)
def C1o (kvs:List (κ×V)) (k:κ) (v:V):List (κ×V) :=
 if (kvs.any λkv=>decide (kv.1=k))=true then kvs.map (λkv=>if kv.1=k then (kv.1,v) else kv) else kvs++[(k,v)]
theorem B5v {p:κ×V} {r:List (κ×V)} {k:κ} (e:p.1=k):C2c (p::r) k=some p.2:=by simp [C2c,Z2h,e]
theorem B5p {p:κ×V} {r:List (κ×V)} {k:κ} (e:¬p.1=k):C2c (p::r) k=C2c r k:=by simp [C2c,Z2h,e]
theorem C0e (k:κ):∀kvs:List (κ×V),(kvs.any λkv=>decide (kv.1=k))=(C2c kvs k).isSome
 | []=>rfl
 | p::r=>by
  rw [List.any_cons];by_cases e:p.1=k
  ·simp only [B5v e,Z20 e,Bool.true_or,Option.isSome_some]
  ·rw [B5p e,Z1j e,Bool.false_or];exact C0e k r
theorem B1t (kvs:List (κ×V)) (k:κ) (v:V):(C1o kvs k v).length<=kvs.length+1:=by
 unfold C1o;split
 ·rw [Z08];lia
 ·rw [Z06,Z0y,Z2g];lia
theorem B7v.isSome_eq {o:Option V} {u:Option Value} (r:B7v o u):o.isSome=u.isSome:=by
 cases o with
 | none=>cases u with
  | none=>rfl
  | some _=>exact (show False from r).elim
 | some _=>cases u with
  | none=>exact (show False from r).elim
  | some _=>rfl
theorem KV.val {kvs:List (κ×V)} {vs:List (κ×Value)} (r:KV kvs vs) (k:κ):B7v (C2c kvs k) (valueAt vs k):=by
 unfold KV at r
 induction r with
 | nil=>exact True.intro
 | @cons p q ps qs h t ih =>
  obtain ⟨h1,h2⟩:=h;by_cases e:p.1=k
  ·have e':q.1=k:=h1.symm.trans e;have b:valueAt (q::qs) k=some q.2:=by simp [valueAt,Z2h,e']
   rw [B5v e,b];exact h2
  ·have e':¬q.1=k:=λz=>e (h1.trans z);have b:valueAt (q::qs) k=valueAt qs k:=by simp [valueAt,Z2h,e']
   rw [B5p e,b];exact ih
theorem KV.any {kvs:List (κ×V)} {vs:List (κ×Value)} (r:KV kvs vs) (k:κ):(kvs.any λkv=>decide (kv.1=k))=vs.any λkv=>decide (kv.1=k):=by
 unfold KV at r
 induction r with
 | nil=>rfl
 | cons h t ih=>rw [List.any_cons,List.any_cons,ih,h.1]
theorem KV.repl {kvs:List (κ×V)} {vs:List (κ×Value)} (r:KV kvs vs) (k:κ) {y:V} {u:Value} (ry:A2v y u) :
  KV (kvs.map λkv=>if kv.1=k then (kv.1,y) else kv) (vs.map λkv=>if kv.1=k then (kv.1,u) else kv):=by
 unfold KV at r⊢
 induction r with
 | nil=>exact .nil
 | @cons p q ps qs h t ih =>
  rw [Z0p,Z0p];refine .cons ?_ ih;obtain ⟨h1,h2⟩:=h;by_cases e:p.1=k
  ·rw [Z12 e,Z12 (h1.symm.trans e)];exact ⟨h1,ry⟩
  ·rw [Z0t e,Z0t (λz=>e (h1.trans z))];exact ⟨h1,h2⟩
theorem KV.put {kvs:List (κ×V)} {vs:List (κ×Value)} (r:KV kvs vs) (k:κ) {y:V} {u:Value} (ry:A2v y u):KV (C1o kvs k y) (stored vs k u):=by
 unfold C1o stored;rw [r.any k];by_cases e:(vs.any λkv=>decide (kv.1=k))=true
 ·rw [Z12 e,Z12 e];exact r.repl k ry
 ·rw [Z0t e,Z0t e];exact Paired.snoc r ⟨rfl,ry⟩
theorem KV.length {kvs:List (κ×V)} {vs:List (κ×Value)} (r:KV kvs vs):kvs.length=vs.length:=Paired.length r
end
theorem D0z {P:Program} {w:World} {k:Key} {u:Value} (r:A2v (kV k) u):(A3o P w).is k u=true:=by
 cases k with
 | inl i=>obtain ⟨t,e⟩:=(show∃t,u=Value.int i t from r);subst e;exact B8o P w i t
 | inr x=>obtain ⟨t,e⟩:=(show∃t,u=Value.str x t from r);subst e;exact B8i P w x t
theorem B6p {P:Program} {w:World}:∀{ks:List Key} {us:List Value},A3c (ks.map kV) us->ItemsAre (A3o P w) ks us
 | [],_,r=>by rw [List.map_nil] at r;cases r;exact .nil
 | k::ks,_,r=>by
  rw [Z0p] at r
  cases r with
  | cons h t=>exact .cons (D0z h) (B6p t)
abbrev KT (H:Hp):List (List Key×V)->List (List Key×Addr×Value)->Prop:=Paired λp q=>p.1=q.1/\H q.2.1=some (.tup (p.1.map kV))/\A2v p.2 q.2.2
theorem KT.val {H:Hp} {kvs:List (List Key×V)} {xs:List (List Key×Addr×Value)} (r:KT H kvs xs) (k:List Key):B7v (C2c kvs k) ((atKey xs k).map (·.2)):=by
 induction r with
 | nil=>exact True.intro
 | @cons p q ps qs h t ih =>
  obtain ⟨h1,_,h2⟩:=h;by_cases e:p.1=k
  ·have e':q.1=k:=h1.symm.trans e;have b:atKey (q::qs) k=some q.2:=by simp [atKey,Z2h,e']
   rw [B5v e,b];exact h2
  ·have e':¬q.1=k:=λz=>e (h1.trans z);have b:atKey (q::qs) k=atKey qs k:=by simp [atKey,Z2h,e']
   rw [B5p e,b];exact ih
theorem KT.repl {H:Hp} {kvs:List (List Key×V)} {xs:List (List Key×Addr×Value)} (r:KT H kvs xs) (k:List Key) {y:V} {u:Value} (ry:A2v y u) :
  KT H (kvs.map λkv=>if kv.1=k then (kv.1,y) else kv) (xs.map (putAt k u)):=by
 induction r with
 | nil=>exact .nil
 | @cons p q ps qs h t ih =>
  rw [Z0p,Z0p];refine .cons ?_ ih;obtain ⟨h1,h2,h3⟩:=h;unfold putAt;by_cases e:p.1=k
  ·rw [Z12 e,Z12 (h1.symm.trans e)];exact ⟨h1,h2,ry⟩
  ·rw [Z0t e,Z0t (λz=>e (h1.trans z))];exact ⟨h1,h2,h3⟩
theorem KT.put {H:Hp} {kvs:List (List Key×V)} {xs:List (List Key×Addr×Value)} (r:KT H kvs xs) (k:List Key) {b:Addr} {y:V} {u:Value} (hb:H b=some (.tup (k.map kV))) (ry:A2v y u) :
  KT H (C1o kvs k y) (storedH xs k b u):=by
 have e:(kvs.any λkv=>decide (kv.1=k))=(atKey xs k).isSome:=by
  rw [C0e,(r.val k).isSome_eq,Option.isSome_map]
 unfold C1o storedH;rw [e];by_cases q:(atKey xs k).isSome=true
 ·rw [Z12 q,Z12 q];exact r.repl k ry
 ·rw [Z0t q,Z0t q];exact Paired.snoc r ⟨rfl,hb,ry⟩
theorem KT.keeps {H H':Hp} {kvs:List (List Key×V)} {xs:List (List Key×Addr×Value)} (r:KT H kvs xs) (ht:∀b ys,H b=some (.tup ys)->H' b=some (.tup ys)):KT H' kvs xs :=
 Paired.mapP r λ_ _ z=>⟨z.1,ht _ _ z.2.1,z.2.2⟩
section
variable {P:Program} {w:World} {H:Hp} {h:Heap} {a:Addr}
theorem D4s {u:HO} (ok:HOk P w H h) (e:Rd H a u):A3m P w H h a u:=e.ok ok
theorem D1t {kvs:List (Key×V)} (ok:HOk P w H h) (e:Rd H a (.dK kvs)):kvs.length<=sizeLine/\(a == sysModules)=false/\∃vs,KV kvs vs/\h.DictOf (A3o P w) a vs :=
 show A3m P w H h a (.dK kvs) from D4s ok e
theorem D7t {kvs:List (Key×V)} (ok:HOk P w H h) (e:H a=some (.dK kvs)):kvs.length<=sizeLine/\(a == sysModules)=false/\∃vs,KV kvs vs/\h.DictOf (A3o P w) a vs:=D1t ok (.inl e)
theorem C3j {ks:List Key} (ok:HOk P w H h) (e:H a=some (.tup (ks.map kV))):(tupleKind (A3o P w)).is h ks a:=by
 obtain ⟨_,its,r,o,h1,h2,n,h3⟩:=(show A3m P w H h a (.tup (ks.map kV)) from ok a _ e);exact ⟨o,its.toArray,n,h1,h2,h3,by simpa using B6p r⟩
theorem D1h {kvs:List (List Key×V)} (ok:HOk P w H h) (e:Rd H a (.dT kvs)):kvs.length<=sizeLine/\(a == sysModules)=false/\
  ∃xs,KT H kvs xs/\h.DictOfH (tupleKind (A3o P w)) a xs:=by
 obtain ⟨z,y,xs,r,o,es,ep,h1,h2,h3,h4,h5⟩:=(show A3m P w H h a (.dT kvs) from D4s ok e);refine ⟨z,y,xs,r,o,es,ep,h1,h2,h3,h4,λx hx=> ?_,h5⟩
 have all:∀{l:List (List Key×V)} {m:List (List Key×Addr×Value)},KT H l m->∀x∈m,(tupleKind (A3o P w)).is h x.1 x.2.1:=by
  intro l m q
  induction q with
  | nil=>intro x hx;exact nomatch hx
  | @cons p q ps qs hq t ih =>
   intro x hx;rcases Z0e.mp hx with e | hx
   ·subst e;exact C3j ok (by rw [<-hq.1];exact hq.2.1)
   ·exact ih x hx
 exact all r x hx
theorem D7q {kvs:List (List Key×V)} (ok:HOk P w H h) (e:H a=some (.dT kvs)):kvs.length<=sizeLine/\(a == sysModules)=false/\
  ∃xs,KT H kvs xs/\h.DictOfH (tupleKind (A3o P w)) a xs:=D1h ok (.inl e)
end
def D4q (H:Hp) (a:Addr) (y:V) (r:Option V):Prop :=
 (∃kvs k,Rd H a (.dK kvs)/\y=kV k/\r=C2c kvs k)\/∃kvs k b,Rd H a (.dT kvs)/\y= .ref b/\H b=some (.tup (k.map kV))/\r=C2c kvs k
def D5g (H:Hp) (a:Addr) (y v:V) (H':Hp):Prop :=
 (∃kvs k,H a=some (.dK kvs)/\y=kV k/\kvs.length<sizeLine/\H'=upd H a (.dK (C1o kvs k v)))\/
 ∃kvs k b,H a=some (.dT kvs)/\y= .ref b/\H b=some (.tup (k.map kV))/\kvs.length<sizeLine/\H'=upd H a (.dT (C1o kvs k v))
theorem D5g.k {H:Hp} {a:Addr} {kvs:List (Key×V)} {k:Key} {v:V} (e:H a=some (.dK kvs)) (hl:kvs.length<sizeLine):D5g H a (kV k) v (upd H a (.dK (C1o kvs k v))):= .inl ⟨kvs,k,e,rfl,hl,rfl⟩
section
variable {X:Cx} {pins:List (Addr×Obj)} {σ:St} {H:Hp} {s:Shared} {a:Addr} {y v:V} {u r:Value} {o:Option V} {A:Around} {E:Value->Shared->Prop}
theorem Inv.big (I:Inv X pins σ H s):sysModules<s.heap.objs.size:=by
 have h:mainGlobals<s.heap.objs.size:=(I.mod.glob.keeps I.bk).lt;exact Nat.lt_trans (by decide) h
theorem C4a {Q:Value->Shared->Prop} (hu:A.units+1<cLine) (I:Inv X pins σ H s) (g:D4q H a y (some v)) (ry:A2v y u) (h:∀w' s',Inv X pins σ H s'->A2v v w'->Q w' s') :
  wpAny (model X.prog X.w) A (getItem (.ref a) u) Q E s:=by
 rcases g with ⟨kvs,k,e,ey,l⟩ | ⟨kvs,k,b,e,ey,eb,l⟩
 ·subst ey;obtain ⟨z,hd,vs,rel,dd⟩:=D1t I.hok e;obtain ⟨w',hw,rw'⟩:=B7v.some_of (v:=v) (o:=valueAt vs k) (by rw [l];exact rel.val k);exact wpAny_getItem_of (D0z ry) dd.mapOf hw (h w' _ (I.tok _) rw')
 ·subst ey;cases (show u=Value.ref b from ry);obtain ⟨z,hd,xs,rel,dd⟩:=D1h I.hok e;obtain ⟨w',hw,rw'⟩:=B7v.some_of (v:=v) (o:=(atKey xs k).map (·.2)) (by rw [l];exact rel.val k);obtain ⟨p,hp,hp2⟩:=Z0i.mp hw;refine wpAny_getItem_heap (tupleKind_room_in1 hu) (C3j I.hok eb) dd hp ?_;rw [hp2];exact h w' _ (I.tok _) rw'
theorem C5u {h':Heap} {t':Nat} {ob:HO} (I:Inv X pins σ H s) (mu:Mut (H a)) (hs:Heap.SameBut a s.heap h') (he:∃q,h'.get? a=some q) (new:A3m X.prog X.w (upd H a ob) h' a ob) :
  Inv X pins σ (upd H a ob) { s with heap:=h',toks:=t' } :=
 I.write (x:=a) (e:=a) mu (.inl rfl) (λb q hb z=>(hs.2 b hb).trans z) he new
theorem D6w {P:Program} {w:World} {H':Hp} {h':Heap} {kvs:List (Key×V)} {vs:List (Key×Value)} (z:kvs.length<=sizeLine) (hd:(a == sysModules)=false) (rel:KV kvs vs) (dd:h'.DictOf (A3o P w) a vs) :
  A3m P w H' h' a (.dK kvs):=⟨z,hd,vs,rel,dd⟩
theorem C2j {H':Hp} {Q:Unit->Shared->Prop} (hu:A.units+1<cLine) (I:Inv X pins σ H s) (g:D5g H a y v H') (ry:A2v y u) (rv:A2v v r) (h:∀s',Inv X pins σ H' s'->Q () s') :
  wpAny (model X.prog X.w) A (setItem (.ref a) u r) Q E s:=by
 rcases g with ⟨kvs,k,e,ey,l,eH⟩ | ⟨kvs,k,b,e,ey,eb,l,eH⟩
 ·subst ey eH;obtain ⟨z,hd,vs,rel,dd⟩:=D7t I.hok e;have hz:vs.length<=sizeLine:=by rw [<-rel.length];exact z
  have hl:(C1o kvs k v).length<=sizeLine:=by have:=B1t kvs k v;lia
  refine wpAny_setItem_pairs (hsz:=hz) (D0z ry) dd λh' dd' hs=>h _ ?_;have he:∃q,h'.get? a=some q:=let ⟨q,_,_,hq,_⟩:=dd';⟨q,hq⟩;exact C5u I (by rw [e];exact True.intro) hs he (D6w hl hd (rel.put k rv) dd')
 ·subst ey eH;cases (show u=Value.ref b from ry);obtain ⟨z,hd,xs,rel,dd⟩:=D7q I.hok e;have hz:xs.length<=sizeLine:=by rw [<-Paired.length rel];exact z
  have hl:(C1o kvs k v).length<=sizeLine:=by have:=B1t kvs k v;lia
  refine wpAny_setItem_heap (hsz:=hz) (tupleKind_room_in1 hu) (C3j I.hok eb) dd λh' dd' hs=>h _ ?_;obtain ⟨q,es,ep,hq,h2,h3,h4,_,h5⟩:=dd';refine C5u I (by rw [e];exact True.intro) hs ⟨q,hq⟩ ⟨hl,hd,_,(rel.put k eb rv).keeps λc ys ec=> ?_,q,es,ep,hq,h2,h3,h4,h5⟩;rw [A0l (A3q ec e (λz=>nomatch z))];exact ec
end
section
variable {X:Cx} {pins:List (Addr×Obj)} {σ:St} {H:Hp} {s:Shared} {a:Addr} {kvs:List (Key×V)} {k:Key} {u:Value} {A:Around} {E:Value->Shared->Prop}
end
def E1a (i:Expr):Prop:=∀ov iv,subscripted i false ov iv=operate [ov,iv] (getItem ov iv)
theorem D1u {prog:Program} {w:World} {A:Around} {E:Value->Shared->Prop} {s:Shared} {env:Env} {value slice:Expr} {pos:Pos} {T id:String} {Q:Value->Shared->Prop}
  (hl:typeLookup (.type T) "__getitem__"=pure (some (.builtin id))) (hs:E1a slice)
  (h:wpAny (model prog w) A (eval value env) (λo s₁=>wpAny (model prog w) A (eval slice env) (λi s₂=>s₂.TypeIs o T/\wpAny (model prog w) A (getItem o i) Q E s₂) E s₁) E s) :
  wpAny (model prog w) A (eval (.Subscript value slice pos) env) Q E s:=by
 refine Subscript_ (Z10 h (λo s₁ h₁=>Z10 h₁ (λi s₂ h₂=> ?_) λ_ _ x=>x) λ_ _ x=>x);obtain ⟨hT,h₂⟩:=h₂;unfold subscriptTail;refine Z00 ?_;rw [getitemInPython_of_ne hT.not_modules];refine Z00 (wpAny_specialOf hT hl ?_)
 have fin:wpAny (model prog w) A (subscripted slice false o i) (λr s₃=>wpAny (model prog w) A (letTemporaryGo value o r >>= λ_=>pure r) Q E s₃) E s₂:=by
  rw [hs o i];exact wpAny_operating (Z10 h₂ (λr s₃ h₃=>Z00 (wpAny_letTemporaryGo (Z04 h₃))) λ_ _ x=>x)
 first
  | exact Z04 (Z00 fin)
  | exact Z00 (Z04 (Z00 fin))
  | exact Z00 fin
theorem B8x {X:Cx} {pins:List (Addr×Obj)} {σ:St} {H:Hp} {s:Shared} {a:Addr} {y:V} {o:Option V} (I:Inv X pins σ H s) (g:D4q H a y o):s.TypeIs (.ref a) "dict":=by
 rcases g with ⟨kvs,k,e,_,_⟩ | ⟨kvs,k,b,e,_,_,_⟩
 ·obtain ⟨_,_,vs,_,dd⟩:=D1t I.hok e;exact dd.typeIs
 ·obtain ⟨_,_,xs,_,dd⟩:=D1h I.hok e;exact dd.typeIs
def E0q (td ty:TE):TE:=λσ H Q=>td σ H λx H1=>ty σ H1 λy H2=>∃a v,x= .ref a/\D4q H2 a y (some v)/\Q v H2
def E0k (td ty tv:TE):TS:=λD σ H=>tv σ H λv H1=>td σ H1 λx H2=>ty σ H2 λy H3=>∃a H4,x= .ref a/\D5g H3 a y v H4/\D.nx σ H4
section
variable {X:Cx} {o i e value:Expr} {pos pos' tpos:Pos} {td ty tv:TE}
theorem B2h (hu:X.A.units+1<cLine) (ho:PE X o td) (hi:PE X i ty) (hs:E1a i):PE X (.Subscript o i pos) (E0q td ty):=by
 intro pins s σ H Q I h;refine D1u PySem.F.slot_dict_getitem.lookup hs (thn (ho pins s σ H _ I h) ?_);rintro u s1 ⟨x,H1,I1,rx,q1⟩;refine thn (hi pins s1 σ H1 _ I1 q1) ?_;rintro iv s2 ⟨y,H2,I2,ry,a,v,ex,g,q2⟩;subst ex;obtain rfl:u=Value.ref a:=rx;exact ⟨B8x I2 g,C4a hu I2 g ry λw' s3 I3 rw'=>⟨v,H2,I3,rw',q2⟩⟩
theorem D0v (hu:X.A.units+1<cLine) (ho:PE X o td) (hi:PE X i ty) (hv:PE X value tv) (hs:swapsWith value (some (.Subscript o i pos')) pos.line X.env=pure false) :
  PS X (.Assign [.Subscript o i pos'] value pos) (E0k td ty tv):=by
 intro pins s σ H D I h;refine wpAny_Assign_Subscript (thn (hv pins s σ H _ I h) ?_) hs;rintro r s1 ⟨v,H1,I1,rv,q1⟩;refine thn (ho pins s1 σ H1 _ I1 q1) ?_;rintro u s2 ⟨x,H2,I2,rx,q2⟩;refine thn (hi pins s2 σ H2 _ I2 q2) ?_;rintro iv s3 ⟨y,H3,I3,ry,a,H4,ex,g,q3⟩;subst ex;obtain rfl:u=Value.ref a:=rx;exact C2j hu I3 g ry rv λs4 I4=>⟨σ,H4,I4,q3⟩
end
theorem C8a {P:Program} {w:World} {H:Hp} (h:Heap) (hb:sysModules<h.objs.size):A3m P w H (h.push { cls:= .type "dict",data:= .dict #[] }) h.objs.size (.dK []) :=
 ⟨Z1e _,Z22.mpr (Ne.symm (Z0h hb)),[],.nil,Heap.DictOf.new h⟩
def D5s:TE:=λ_ H Q=>∀p,H p=none->Q (.ref p) (upd H p (.dK []))
section
variable {X:Cx} {pos:Pos}
theorem C8j:PE X (.Dict [] [] pos) D5s:=λpins s σ H Q I h =>
 wpAny_Dict_empty ⟨.ref s.heap.objs.size,_,I.laid (a:=s.heap.objs.size) (o:= .dK []) (t':=s.toks) (λ_ _ q=>Z01 _ q) (Z09 _) (C8a s.heap I.big),rfl,h _ (I.hok.fresh (Z09 _))⟩
end
section
variable {X:Cx} {pins:List (Addr×Obj)} {σ:St} {H:Hp} {s:Shared} {a:Addr} {y d:V} {u r:Value} {o:Option V} {A:Around} {E:Value->Shared->Prop}
end
section
variable {X:Cx} {o e f:Expr} {apos cpos:Pos} {td ty tx:TE}
end
section
variable {X:Cx} {pins:List (Addr×Obj)} {σ:St} {H:Hp} {s:Shared} {a:Addr} {kvs:List (Key×V)} {A:Around} {E:Value->Shared->Prop}
end
section
variable {X:Cx} {pins:List (Addr×Obj)} {σ:St} {H:Hp} {s:Shared} {a:Addr} {y:V} {u:Value} {A:Around} {E:Value->Shared->Prop}
end
end L2
namespace Att
open PySem PySem.W PySem.Calls PyProof.Rows
theorem B2i {P:Params} {h:Heap}:∀(ns:List Int) (vs:List Value),WellAll P h vs (ns.map WData.int)->IntsAre vs ns:=by
 intro ns
 induction ns with
 | nil =>
  intro vs w;rw [List.map_nil] at w;cases w;exact .nil
 | cons n ns ih =>
  intro vs w;rw [Z0p] at w
  cases w with
  | cons a b =>
   cases a
   exact .cons _ _ (ih _ b)
theorem C3k {l:OpenLaw} {n:Nat} (hn:l.most=some n) {P:Params} {h:Heap} {args:List WData} {vals:List Value}
  (hpre:l.row.toRowW.claim.pre args=true) (hwl:WellAll P h vals args) :
  ∃a vs ns,vals=[Value.ref a]/\args=[WData.list (ns.map WData.int)]/\h.get? a=some { cls:= .type "list",data:= .seq vs.toArray }/\IntsAre vs ns/\ns.length<=n:=by
 have hsh:WShape.hasAll [] args [.list .int]=true:=(pre_splitW hpre).1;have hc:l.pre.holds [] { args:=args }=true:=(pre_splitW hpre).2;obtain ⟨d,r,rfl,h1,h2⟩:=hasAllW_cons hsh;obtain rfl:=hasAllW_nil h2;obtain ⟨xs,rfl,h3⟩:=hasW_list h1;obtain ⟨ns,rfl⟩:=items_int h3
 have hlen:ns.length<=n:=by
  unfold OpenLaw.pre at hc
  have h4:(WTm.not (.lt (.lit (.int (n:Int))) (.len (.arg 0)))).holds [] { args:=[.list (ns.map .int)] }=true:=by
   have h4:=(holds_andW hc).1;rw [hn] at h4;exact h4
  have h5:=condW_of h4 (w_not (w_lt w_lit (w_len_list (w_arg rfl))));rw [Z08] at h5;refine Nat.le_of_not_lt λq=> ?_;have q':(n:Int)<((ns.length:Nat):Int):=by lia
  first
   | (rw [Z20 q'] at h5;exact absurd h5 (by decide))
   | (simp at h5;lia)
 cases hwl with
 | cons w1 w2 =>
  cases w2
  cases w1 with
  | list ho hall=>exact ⟨_,_,ns,rfl,rfl,ho,B2i ns _ hall,hlen⟩
theorem C2s (l:OpenLaw) (args:List WData):l.row.toRowW.claim.post args (.bool true) args=true :=
 postW_of (r:=l.row.toRowW) (X:=(true == true))
  (show WShape.has [] (.bool true) .bool=true by first | rfl | decide | simp [WShape.has,WShape.arms,WShape.armsAll])
  (show (WTm.eq .res (.lit (.bool true))).value [] { args:=args,res:=some (.bool true),after:=args }=some (.bool (true == true)) from w_eq_bool (w_res rfl) w_lit) rfl
theorem attach_call {l:OpenLaw} {n:Nat} {q:Program} {loose:List Str} {XP:(Str->Option Value)->Heap->Prop} {YP:World->Heap->Prop} {d:DefRec}
  (hn:l.most=some n) (hdf:d.params.defaults=[])
  (call:∀(w:World) (s₀ s₁:Shared) (mg mb:Str->Option Value) (fa:Addr) (o:Obj) (pm cd doc:Value) (a:Addr) (vs:List Value) (ns:List Int),
   Ground q loose [] XP w s₀ mg mb s₁.heap->YP w s₁.heap->
   s₁.heap.get? fa=some o->o.data= .func (docDef d.name d.params d.body d.scope pm cd doc)->s₁.heap.CodeRec cd d.name->mg d.name=some (.ref fa)->
   s₁.heap.get? a=some { cls:= .type "list",data:= .seq vs.toArray }->IntsAre vs ns->ns.length<=n->s₁.gens= #[]->
   codeAny (model l.prog w) callerA (.call (.ref fa) ⟨[.ref a],[]⟩) (λr s'=>r= .ok (.ret (.bool true))/\OldK s₁.heap s'.heap/\s'.os=s₁.os/\AllBare s'.gens) s₁) :
  WalkO q loose XP YP l.row.toRowW d [] (λf vs=>PySem.call f vs):=by
 intro w s₀ s₁ mg mb G Y fa o pm cd doc dV kV ho hd hcd hD hmg hg args vals as hpre hlay hrd hwl hlo;obtain rfl:dV= .none:=Dflts.none hD hdf;obtain rfl:kV= .none:=Dflts.noKw hD;obtain ⟨a,vs,ns,rfl,rfl,hobj,hints,hlen⟩:=C3k hn hpre hwl;refine enter_call (codeAny_mono (call w s₀ s₁ mg mb fa o pm cd doc a vs ns G Y ho (fd_plain hd) hcd hmg hobj hints hlen hg) λr s' hq=> ?_);obtain ⟨rfl,h2,h3,h4⟩:=hq;exact ⟨.inl ⟨.bool true,.bool true,[],rfl,λ_=>rfl,.bool true,C2s l _,λ_=>⟨List.Pairwise.nil,λ_ hm=>(nomatch hm)⟩⟩,h2,h3,h4⟩
section
variable {prog:Program} {w:World} {A:Around} {E:Value->Shared->Prop} {s:Shared} {K:Frag}
end
end Att
namespace L2
open PySem PySem.Spec PyProof.Rows
theorem B6j:∀{vs:List Value} {ns:List Int},IntsAre vs ns->A3c (ns.map V.int) vs
 | _,_,.nil=> .nil
 | _,_,.cons n t h=> .cons ⟨t,rfl⟩ (B6j h)
def D8x (H:Hp):Prop:=∀b,H b=none\/∃o xs,H b=some (.frz o (.lst xs))
theorem C6g {P:Program} {w:World} {K:Frag} {mg mb:Str->Option Value} {CX:CXT} {k:Nat} {fa a:Addr} {fd:FuncData} {x:Str} {sp:Sp} {s₁:Shared} {vs:List Value} {ns:List Int}
  (KX:K.In s₁.heap) (hns:s₁.heap.Ns mainGlobals mg) (hb:s₁.heap.Ns builtinsNs mb) (hbb:∀x:Str,x≠"__name__"->mb x=bootBuiltins x) (hlim:s₁.heap.NoLimit) (hg:s₁.gens= #[])
  (ha:s₁.heap.get? a=some { cls:= .type "list",data:= .seq vs.toArray }) (hi:IntsAre vs ns) (hl:ns.length<=sizeLine) (hr:A9n k callerA)
  (F:∀base:Heap,K.In base->base.Ns mainGlobals mg->A3e P w K mg base CX k fa fd [x] sp) (hbind:∀(s:Shared) (u:Value),BindsTo s fd ⟨[u],[]⟩ [(x,u)])
  (hsp:∀H:Hp,D8x H->SqL K H a (ns.map V.int)->sp [.ref a] H (λv _=>v= .bl true) λ_ _ _=>False)
  (hCX:∀H e s',CX [] H s₁ (λ_ _ _=>False) e s'->False) :
  codeAny (model P w) callerA (.call (.ref fa) ⟨[.ref a],[]⟩) (λr s'=>r= .ok (.ret (.bool true))/\OldK s₁.heap s'.heap/\s'.os=s₁.os/\AllBare s'.gens) s₁:=by
 have rv:=B6j hi;have lenV:=hi.length
 have core:∀H:Hp,D8x H->SqL K H a (ns.map V.int)->HOk P w H s₁.heap->(∀b,H b≠none->b=a)->(H a≠none->K.lookup a=none)->
   codeAny (model P w) callerA (.call (.ref fa) ⟨[.ref a],[]⟩) (λr s'=>r= .ok (.ret (.bool true))/\OldK s₁.heap s'.heap/\s'.os=s₁.os/\AllBare s'.gens) s₁:=by
  intro H hO hS hok hA hK;have base_of:∀{b:Addr} {o:Obj},s₁.heap.get? b=some o->H b=none->(C7v s₁.heap H).get? b=some o:=λe n=>C6q e n
  have noA:∀{b:Addr} {o:Obj} {es:Array DictEntry} {ep:Nat},s₁.heap.get? b=some o->o.data= .dict es ep->H b=none:=λ{b o es ep} e d=>by
   cases q:H b with
   | none=>rfl
   | some u =>
    have e':b=a:=hA b (by rw [q];simp);subst e';rw [ha] at e;cases e;have d':Data.seq vs.toArray _=Data.dict es ep:=d;cases d'
  have nsK:∀{b:Addr} {m:Str->Option Value},s₁.heap.Ns b m->(C7v s₁.heap H).Ns b m:=λ{b m} ⟨o,es,ep,e,d,r⟩=>⟨o,es,ep,base_of e (noA e d),d,r⟩
  have hKb:K.In (C7v s₁.heap H):=λb o e=>base_of (KX b o e) (by
   cases q:H b with
   | none=>rfl
   | some u =>
    have e':b=a:=hA b (by rw [q];simp);subst e'
    rw [hK (by rw [q];simp)] at e;cases e)
  have hM:Mod K mg (C7v s₁.heap H):=⟨hKb,nsK hns,⟨mb,nsK hb,hbb⟩,let ⟨mc,h1,h2⟩:=hlim;⟨mc,nsK h1,h2⟩⟩;have e0:D1s P w K mg (C7v s₁.heap H) callerA [] s₁ H:=⟨rfl,hM,λb o e=>D0y e,Nat.le_of_eq (C5s _ _),trivial,λb hb=>absurd (show b∈([]:List Addr) from hb) (by simp),hok,.of_eq hg⟩;refine codeAny_mono ((F _ hKb (nsK hns)).run callerA [] s₁ H ⟨[.ref a],[]⟩ [.ref a] [.ref a] _ _ hr e0 (hbind s₁ (.ref a)) (.cons rfl .nil) (hsp H hO hS)) λr s' h=> ?_
  cases r with
  | error e=>exact (hCX H e s' h).elim
  | ok fl =>
   cases fl with
   | next=>exact False.elim h
   | brk=>exact False.elim h
   | cont=>exact False.elim h
   | ret u =>
    obtain ⟨v,H',os,bare,un,hok',r',q⟩:=h;have q':v= .bl true:=q;subst q';obtain rfl:u=Value.bool true:=r';refine ⟨rfl,OldK.of_keep λb o e=> ?_,os,bare⟩
    cases q:H b with
    | none=>exact un.keep b o e q (by intro z;exact absurd (show b∈([]:List Addr) from z) (by simp)) (by simp)
    | some u =>
     rcases hO b with z | ⟨ob,xs,z⟩
     ·rw [q] at z;cases z
     ·have z2:=un.frzs b ob _ z;obtain ⟨e1,_⟩:=hok b _ z;obtain ⟨e2,_⟩:=hok' b _ z2;rw [e] at e1;cases e1;exact e2
 cases hk:K.lookup a with
 | some o =>
  have e:=KX a o hk;rw [ha] at e;cases e;refine core (λ_=>none) (λ_=> .inl rfl) (.inr ⟨_,vs.toArray,_,hk,rfl,rfl,rfl,by rw [Z0g,lenV];exact hl,by simpa using rv⟩) (λb u z=>by have z':(none:Option HO)=some u:=z;cases z') (λb z=>absurd rfl z) λz=>absurd rfl z
 | none =>
  refine core (λb=>if b=a then some (.frz { cls:= .type "list",data:= .seq vs.toArray } (.lst (ns.map V.int))) else none) (λb=> ?_) (.inl (.inr ⟨{ cls:= .type "list",data:= .seq vs.toArray },Z12 rfl⟩)) (λb u z=> ?_) (λb z=> ?_) λ_=>hk
  ·by_cases hb:b=a
   ·exact .inr ⟨_,_,Z12 hb⟩
   ·exact .inl (Z0t hb)
  ·by_cases hb:b=a
   ·have z':=(Z12 hb).symm.trans z;cases z';subst hb;exact ⟨ha,by rw [Z08];exact hl,vs,_,rv,ha⟩
   ·have z':=(Z0t hb).symm.trans z;cases z'
  ·by_cases hb:b=a
   ·exact hb
   ·exact absurd (Z0t hb) z
theorem D1j {l:PySem.W.OpenLaw} {n k:Nat} {q:Program} {loose:List Str} {XP:(Str->Option Value)->Heap->Prop} {YP:World->Heap->Prop} {d:DefRec} {K:Params->Frag} {CX:World->CXT} {sp:World->Sp} {x:Str}
  (hn:l.most=some n) (hn2:n<=sizeLine) (hdf:d.params.defaults=[]) (hr:A9n k callerA)
  (hY:∀(w:World) (h:Heap),YP w h->(K w.params).In h)
  (F:∀(w:World) (mg:Str->Option Value) (fa:Addr) (h:Heap),(K w.params).In h->h.Ns mainGlobals mg->mg d.name=some (.ref fa)->
   ∃fd:FuncData,(∀(s:Shared) (u:Value),BindsTo s fd ⟨[u],[]⟩ [(x,u)])/\
    ∀base:Heap,(K w.params).In base->base.Ns mainGlobals mg->A3e l.prog w (K w.params) mg base (CX w) k fa fd [x] (sp w))
  (hsp:∀(w:World) (H:Hp) (a:Addr) (ns:List Int),ns.length<=n->D8x H->SqL (K w.params) H a (ns.map V.int)->sp w [.ref a] H (λv _=>v= .bl true) λ_ _ _=>False)
  (hCX:∀(w:World) (H:Hp) (s:Shared) (e:Value) (s':Shared),CX w [] H s (λ_ _ _=>False) e s'->False) :
  PySem.W.WalkO q loose XP YP l.row.toRowW d [] (λf vs=>PySem.call f vs):=by
 refine Att.attach_call hn hdf λw s₀ s₁ mg mb fa o pm cd doc a vs ns G Y ho hd hcd hmg hobj hints hlen hg=> ?_;have KX:=hY w _ Y;obtain ⟨fd,hb,hF⟩:=F w mg fa _ KX G.T.g hmg;exact C6g KX G.T.g G.T.b G.T.builtins G.T.nolimit hg hobj hints (Z1n hlen hn2) hr hF hb (λH hO hS=>hsp w H a ns hlen hO hS) λH e s'=>hCX w H s₁ e s'
def A2n (s:Stmt) (j:Nat):Stmt:=match s with
 | .ClassDef _ _ _ body _ _ _ _ _ _ _=>body.getD j (.Pass ⟨0,0,0,0⟩)
 | _=> .Pass ⟨0,0,0,0⟩
def A7w (s:Stmt):Arguments:=match s with
 | .FunctionDef _ a _ _ _ _ _ _ _ _=>a
 | _=>{ posonlyargs:=[],args:=[],vararg:=none,kwonlyargs:=[],kw_defaults:=[],kwarg:=none,defaults:=[] }
def A5w (s:Stmt):List Stmt:=match s with
 | .FunctionDef _ _ b _ _ _ _ _ _ _=>b
 | _=>[]
def A0i (s:Stmt):Scope:=match s with
 | .FunctionDef _ _ _ _ _ _ sc _ _ _=>sc
 | _=>{ kind:= .function,names:=[],isGenerator:=false,isCoroutine:=false }
abbrev CX0:CXT:=λ_ _ _ _ _ _=>False
abbrev E0:XK:=λ_ _ _=>False
theorem D4b {X:Cx}:A8v CX0 X E0:=λ_ _ _ _ _ _ _ h=>h.elim
structure Fun (K:Frag) (x qual:Str) (st:Stmt) (f:Addr) (fd:FuncData):Prop where
 ex:∃(oc:Value) (od:Option Addr) (kV doc pm:Value) (an:Option Addr) (cdv ct:Value) (osl:Array (Option Value)),
  fd=fnOf x qual (A7w st) (A5w st) (A0i st) .none kV doc pm an cdv ct/\K.lookup f=some ⟨oc,od,.func fd,osl⟩/\codeIn K cdv qual=true
 kp:keepIn K (.ref f)=true
section
variable {P:Program} {w:World} {K:Frag} {mg:Str->Option Value} {base:Heap}
theorem Fun.ok {x qual:Str} {st:Stmt} {f:Addr} {fd:FuncData} {N ps:List Str} {k:Nat} {sp:Sp} (F:Fun K x qual st f fd) (S:A0o N ps (A0i st)) (len:∀vs H Q E,sp vs H Q E->vs.length=ps.length)
  (hbody:∀(cdv:Value) (A:Around) (outer:List Env) (s:Shared) (H:Hp) (vs:List V) (Q:VK) (E:XK),A9n k (A.deeper (envOfC qual (A0i st) s.heap.objs.size f cdv))->sp vs H Q E->
   ∃t,PSs (C3e CX0 P w K mg base N qual (A0i st) f cdv A outer s H E).nox (A5w st) t/\t { nx:=λ_ H'=>Q .non H',rt:=Q } (B5k N vs) H):A3e P w K mg base CX0 (k+1) f fd ps sp:=by
 obtain ⟨oc,od,kV,doc,pm,an,cdv,ct,osl,rfl,lk,hcd⟩:=F.ex;refine D6i lk hcd S len λA outer s H vs Q E hr hsp=> ?_;obtain ⟨t,h,q⟩:=hbody cdv A outer s H vs Q E hr hsp;exact ⟨t,h.nox,q⟩
theorem Fun.binds {x qual:Str} {st:Stmt} {f:Addr} {fd:FuncData} {ps:List Str} (F:Fun K x qual st f fd)
  (h:∀(kV doc pm:Value) (an:Option Addr) (cdv ct:Value) (us:List Value),us.length=ps.length->bindArgs (fnOf x qual (A7w st) (A5w st) (A0i st) .none kV doc pm an cdv ct) ⟨us,[]⟩=pure (ps.zip us)):B0a K fd ps []:=by
 obtain ⟨oc,od,kV,doc,pm,an,cdv,ct,osl,rfl,lk,hcd⟩:=F.ex;exact .all (h kV doc pm an cdv ct)
theorem C9o {x qual:Str} {st:Stmt} {f:Addr} {oc:Value} {od an:Option Addr} {osl:Array (Option Value)} {kV doc pm cdv ct:Value} (l:K.lookup f=some ⟨oc,od,.func (fnOf x qual (A7w st) (A5w st) (A0i st) .none kV doc pm an cdv ct),osl⟩)
  (c:codeIn K cdv qual=true) (k:keepIn K (.ref f)=true):Fun K x qual st f (fnOf x qual (A7w st) (A5w st) (A0i st) .none kV doc pm an cdv ct):=⟨⟨oc,od,kV,doc,pm,an,cdv,ct,osl,rfl,l,c⟩,k⟩
end
theorem D0x {A:Around} {k:Nat} (hr:A9n k A):A.units+1<cLine:=Z2d (Nat.add_le_add_left (by decide:1<=64) _) hr.units
section
variable {X:Cx}
theorem pv (i:Nat) {x:Str} {pos:Pos} (hN:X.N[i]? =some x:=by rfl) (hv:Vis X.env.scope x:=by first | exact Or.inl rfl | exact Or.inr (Or.inl rfl) | exact Or.inr (Or.inr rfl)) (hd:(x == ("__debug__":Str))=false:=by decide)
  (hcd:(x == ("__classdict__":Str))=false:=by decide):PE X (.Name x pos) (E1d i):=D5m hN hv hd hcd
end
theorem A8s {A B:Prop} (h:B):if false=true then A else B:=by
 rw [Z0t Z0v];exact h
theorem B2l {A B:Prop} (h:A):if true=true then A else B:=by
 rw [Z12 rfl];exact h
theorem D2v {c A B:Prop} [Decidable c] (h1:c->A) (h2:¬c->B):if c then A else B:=by
 by_cases h:c
 ·rw [Z12 h];exact h1 h
 ·rw [Z0t h];exact h2 h
def A1b (H H':Hp):Prop:=∀b o,H b=some o->H' b=some o
theorem A1b.refl (H:Hp):A1b H H:=λ_ _ h=>h
theorem A1b.trans {H H1 H2:Hp} (a:A1b H H1) (b:A1b H1 H2):A1b H H2:=λc o h=>b c o (a c o h)
theorem A1b.free {H H':Hp} (e:A1b H H') {l:Addr} (h:H' l=Option.none):H l=Option.none:=by
 cases q:H l with
 | none=>rfl
 | some o =>
  rw [e l o q] at h;cases h
theorem A1b.seq {K:Frag} {H H':Hp} {a:Addr} {xs:List V} (e:A1b H H') (h:SqL K H a xs):SqL K H' a xs:=by
 rcases h with (h | ⟨o,h⟩) | h
 ·exact .inl (.inl (e _ _ h))
 ·exact .inl (.inr ⟨o,e _ _ h⟩)
 ·exact .inr h
section
variable {κ:Type} [DecidableEq κ]
end
section
variable {X:Cx}
def E0v (t u:TS):TS:=λD σ H=>∃M:St->Hp->Prop,t { D with nx:=M } σ H/\∀σ' H',M σ' H'->u D σ' H'
theorem A5f {st:Stmt} {rest:List Stmt} {t u:TS} (h1:PS X st t) (h2:PSs X rest u):PSs X (st::rest) (E0v t u):=by
 intro pins s σ H D I h;obtain ⟨M,h,hm⟩:=h;refine wpAny_execs_cons (thn (h1 pins s σ H { D with nx:=M } I h) λf s1 q=> ?_)
 cases f with
 | next =>
  obtain ⟨σ',H',I',q⟩:=q;exact h2 pins s1 σ' H' D I' (hm _ _ q)
 | ret v=>exact q
 | brk=>exact q
 | cont=>exact q
def rIsi (K:Frag):List V->Hp->VK->Prop:=λxs H Q=>∃x c t b,xs=[x,c]/\C0u K H x t/\(∀u,A2v c u->kitOne K t u=some b)/\Q (.bl b) H
theorem A2o:B1b X (.builtin "isinstance") (rIsi X.K):=by
 intro pins s σ H xs us Q I r h;obtain ⟨x,c,t,b,rfl,ty,e,q⟩:=h;obtain ⟨u,w',rfl,ru,rw'⟩:=D6g r;exact C4r I ru ty (e w' rw') λtk=>⟨.bl b,H,I.tok tk,rfl,q⟩
theorem B5s {K:Frag} (T:String):∀u,A2v (.ty T) u->kitOne K (.type T) u=some true:=by
 intro u h;cases (show u=Value.type T from h);unfold kitOne;rw [Z12 (beq_self_eq_true _)]
theorem C2k {K:Frag} {T U:String} {b:Bool} (h:(Value.type T == Value.type U)=false) (hm:PySem.W.kitMeta U=true) (hs:(PySem.fastBuiltinMro T).map (·.contains (Value.type U))=some b) :
  ∀u,A2v (.ty U) u->kitOne K (.type T) u=some b:=by
 intro u z;cases (show u=Value.type U from z);unfold kitOne;rw [Z0t (by rw [h];exact Z0v)];show (if PySem.W.kitMeta U=true then subIn K (.type T) (.type U) else none)=some b;rw [Z12 hm];exact hs
end
structure C7k (X:Cx) (scope:Scope) (cl:List (Str×Addr)):Prop where
 eq:closureFor scope X.env=pure cl
 sub:∀x c,cl.lookup x=some c->X.env.cells.lookup x=some c
 has:∀x,((relabel scope X.env).names.lookup x=some .cell\/(relabel scope X.env).names.lookup x=some .free)->∃c,cl.lookup x=some c
 kind:scope.kind= .function
 ncell:∀y∈scope.names,y.2≠.cell
 names:∀y∈scope.names,y.2= .local->scope.names.lookup y.1=some .local
noncomputable def blk (X:Cx) (N':List Str) (scope:Scope) (cl:List (Str×Addr)) (C:Addr) (s₀:Shared) (H₀:Hp) (fp:List Addr):Cx :=
 { X with N:=N',s₀:=s₀,H₀:=H₀,env:=compEnvC scope cl C X.env,outer:=X.stack,ex:=fp,fn:=λ_=>false,pn:=[],xe:=λ_ _=>False }
def A4d (ix:List (Option Nat)) (σ:St):St:=ix.map λo=>o.bind λj=>(σ[j]?).bind id
section
variable {X:Cx} {pins:List (Addr×Obj)} {σ:St} {H:Hp} {s:Shared} {N':List Str} {scope:Scope} {cl:List (Str×Addr)} {fp:List Addr} {ix:List (Option Nat)}
def B1h (X:Cx) (N':List Str) (scope:Scope) (ix:List (Option Nat)):Prop :=
 ix.length=N'.length/\∀i j:Nat,ix[i]? =some (some j)->∃x,N'[i]? =some x/\X.N[j]? =some x/\(X.env.scope.names.lookup x=some .cell\/X.env.scope.names.lookup x=some .free)/\
  ((relabel scope X.env).names.lookup x=some .cell\/(relabel scope X.env).names.lookup x=some .free)
theorem D4t (I:Inv X pins σ H s) (ck:C7k X scope cl) (f:∀b∈fp,B3c X pins H b) (hlt:∀b∈fp,b<s.heap.objs.size):(blk X N' scope cl s.heap.objs.size s H fp).Ok where
 mod:=I.ok.mod
 kind:=ck.kind
 glob:=I.ok.glob
 blt:=I.ok.blt
 above:=Z09 _
 inj:=λx y c h1 h2=>I.ok.inj x y c (ck.sub x c h1) (ck.sub y c h2)
 has:=λx h=>ck.has x h
 cab:=λx c h=>by cases h
 hd:=I.ok.hd
 frames:=I.ok.frames
 stk:= .inl rfl
 exf:=λb hb=>⟨Z0h (hlt b hb),λx c h=>(f b hb).2.2.2.2.1 x c (ck.sub x c h)⟩
 bs:=I.bs
 bsz:=Z1n I.ok.bsz I.sz
 noex:=λb o e hb=>by
  rcases (f b hb).2.2.2.1 with z | z
  ·exact I.ok.noex b o e z
  ·exact absurd (Z0q (Z0a (I.ok.bs b o e).1) z) (Nat.lt_irrefl _)
 exfs:=λb hb hs=>by
  rcases Z0e.mp (I.stkSub b hs) with z | z
  ·exact (f b hb).2.1 z
  ·exact (f b hb).2.2.1 z
 funs:=I.stack
 frf:=I.stkFree
theorem A8u (I:Inv X pins σ H s) (ck:C7k X scope cl) (io:B1h X N' scope ix) (f:∀b∈fp,B3c X pins H b) (hlt:∀b∈fp,b<s.heap.objs.size) {h':Heap} {m:Str->Option Value} {t':Nat}
  (hn:h'.Ns s.heap.objs.size m) (k:∀b o,s.heap.get? b=some o->h'.get? b=some o):Inv (blk X N' scope cl s.heap.objs.size s H fp) [] (A4d ix σ) H { s with heap:=h',toks:=t' }:=by
 have cl':∀x c,cl.lookup x=some c->∃v,s.heap.IsCell c v:=λx c h=>I.cell x c (ck.sub x c h);refine ⟨D4t I ck f hlt,rfl,I.bare,Un.kept k,⟨m,hn,λi x v e1 e2 e3=> ?_⟩,λx c e=> ?_,I.hok.fresh (Z09 _),λx c e=>I.freeC x c (ck.sub x c e),(λp hp=>by cases hp),I.hok.kept k,?_⟩
 ·unfold A4d at e2;rw [Z1z] at e2
  cases hi:ix[i]? with
  | none=>rw [hi] at e2;cases e2
  | some o =>
   rw [hi] at e2
   cases o with
   | none=>cases Z1a e2
   | some j =>
    have e2':(σ[j]?).bind id=some v:=Z1a e2;obtain ⟨x',n1,n2,k1,k2⟩:=io.2 i j hi;have ex:x'=x:=Z1a (n1.symm.trans e1);subst ex
    have es:σ[j]? =some (some v):=by
     cases q:σ[j]? with
     | none=>rw [q] at e2';cases e2'
     | some w =>
      rw [q] at e2';exact congrArg some e2'
    obtain ⟨m0,_,hl⟩:=I.loc;obtain ⟨u,ru,lo⟩:=hl j x' v n2 es (k1.elim (λz=> .inr (.inl z)) λz=> .inr (.inr z));refine ⟨u,ru,.inr ⟨k2,?_⟩⟩;obtain ⟨c,hc⟩:=ck.has x' k2;refine ⟨c,hc,?_⟩;rcases lo with ⟨z,_⟩ | ⟨_,c',hc',ic⟩
    ·exfalso;have z':X.env.scope.names.lookup x'=some .local:=z;rcases k1 with k1 | k1 <;> (rw [z'] at k1;cases k1)
    ·have ec:c'=c:=Z1a (hc'.symm.trans (ck.sub x' c hc));subst ec;obtain ⟨o,ho,hd⟩:=ic;exact ⟨o,k _ _ ho,hd⟩
 ·obtain ⟨v,o,ho,hd⟩:=cl' x c e;exact ⟨v,o,k _ _ ho,hd⟩
 ·unfold A4d;rw [Z08];exact io.1
theorem B1n (I:Inv X pins σ H s) (f:∀b∈fp,B3c X pins H b) {σ':St} {H':Hp} {s':Shared} {pl:List (Addr×Obj)} (J:Inv (blk X N' scope cl s.heap.objs.size s H fp) pl σ' H' s') {h':Heap} (sb:Heap.SameBut s.heap.objs.size s'.heap h') :
  Inv X pins σ H' { s' with heap:=h' }:=by
 have nC:∀b o,s.heap.get? b=some o->b≠s.heap.objs.size:=λb o e=>Z0h (Z0a e);have hC:H' s.heap.objs.size=none:=J.free;have u:Un (frs X.stack) fp H H' s.heap s'.heap:=J.base
 refine I.call' (ch:=fp) (s':={ s' with heap:=h' }) J.os ⟨λb o e n hb hx=>(sb.2 b (nC b o e)).trans (u.keep b o e n hb hx),λb o e n hb hx=> ?_,u.free,λb o e hx=> ?_,u.tups,u.frzs,u.tbls⟩ (λb o e=> ?_) J.bare
  (λb hb=>⟨(f b hb).2.2.2.1,(f b hb).2.1,(f b hb).2.2.2.2.1,(f b hb).2.2.2.2.2⟩)
 ·obtain ⟨sl,q⟩:=u.slot b o e n hb hx;exact ⟨sl,(sb.2 b (nC b o e)).trans q⟩
 ·obtain ⟨o',q⟩:=u.there b o e hx;exact ⟨o',(sb.2 b (nC b o e)).trans q⟩
 ·refine (J.hok b o e).stay (λc v hc q=>(sb.2 c ?_).trans q) (λc q=>q) λc xs q=>q;rcases hc with rfl | hc
  ·exact A0r e hC
  ·exact A0r hc hC
end
def A3d:St->St->Prop
 | [],_=>True
 | none::r,_::r'=>A3d r r'
 | none::r,[]=>A3d r []
 | some v::r,w::r'=>w=some v/\A3d r r'
 | some _::_,[]=>False
theorem A3d.get:∀{a b:St},A3d a b->∀(j:Nat) v,a[j]? =some (some v)->b[j]? =some (some v)
 | [],_,_,_,_,e=>by simp at e
 | none::r,_::r',h,0,v,e=>by simp at e
 | none::r,_::r',h,j+1,v,e=>by simpa using A3d.get (a:=r) (b:=r') h j v (by simpa using e)
 | none::r,[],h,0,v,e=>by simp at e
 | none::r,[],h,j+1,v,e=>by have:=A3d.get (a:=r) (b:=[]) h j v (by simpa using e);simp at this
 | some w::r,_::r',h,0,v,e=>by
  have e':w=v:=by simpa using e
  subst e'
  simpa using h.1
 | some _::r,_::r',h,j+1,v,e=>by simpa using A3d.get (a:=r) (b:=r') h.2 j v (by simpa using e)
section
variable {X:Cx}
def C8b (ix:List (Option Nat)) (wi:TI) (g:TG) (te:TE):TE:=λσ H Q=>wi σ H λJ H1=>∀D,H1 D=none->∃W:Nat->Nat->Hp->Prop,(∃m,W 0 m (upd H1 D (.lst [])))/\∀i m H2,W i m H2->
 (J.stop i H2/\Q (.ref D) H2)\/(J.go i H2/\∃N:VK,(∀y H5,N y H5->∃xs,H5 D=some (.lst xs)/\xs.length<sizeLine/\∃m',m'<m/\W (i+1) m' (upd H5 D (.lst (xs++[y]))))/\∀x H3,J.yld i H2 x H3->g x (A4d ix σ) H3 λσ4 H4=>A3d (A4d ix σ) σ4/\te σ4 H4 N)
end
section
variable {X:Cx} {m:Str} {pos apos:Pos} {e o:Expr} {es:List Expr} {ta:TE} {t:TA}
end
mutual
inductive Rep (H:Hp):V->PyData->Prop
 | non:Rep H .non .none
 | bl (b:Bool):Rep H (.bl b) (.bool b)
 | int (i:Int):Rep H (.int i) (.int i)
 | str (x:Str):Rep H (.str x) (.str x)
 | lst {p:Addr} {xs:List V} {ds:List PyData}:H p=some (.lst xs)->A5n H xs ds->Rep H (.ref p) (.list ds)
 | tup {p:Addr} {xs:List V} {ds:List PyData}:H p=some (.tup xs)->A5n H xs ds->Rep H (.ref p) (.tuple ds)
inductive A5n (H:Hp):List V->List PyData->Prop
 | nil:A5n H [] []
 | cons {v:V} {vs:List V} {d:PyData} {ds:List PyData}:Rep H v d->A5n H vs ds->A5n H (v::vs) (d::ds)
end
mutual
theorem Rep.imp {H H':Hp} (f:∀p o,H p=some o->H' p=some o):∀{v:V} {d:PyData},Rep H v d->Rep H' v d
 | _,_,.non=> .non
 | _,_,.bl b=> .bl b
 | _,_,.int i=> .int i
 | _,_,.str x=> .str x
 | _,_,.lst e r=> .lst (f _ _ e) (A5n.imp f r)
 | _,_,.tup e r=> .tup (f _ _ e) (A5n.imp f r)
theorem A5n.imp {H H':Hp} (f:∀p o,H p=some o->H' p=some o):∀{vs:List V} {ds:List PyData},A5n H vs ds->A5n H' vs ds
 | _,_,.nil=> .nil
 | _,_,.cons a r=> .cons (Rep.imp f a) (A5n.imp f r)
end
theorem Rep.same {H H':Hp} {v:V} {d:PyData} (h:Rep H v d) (s:A1b H H'):Rep H' v d:=h.imp s
theorem A5n.same {H H':Hp} {v:List V} {d:List PyData} (h:A5n H v d) (s:A1b H H'):A5n H' v d:=h.imp s
theorem A5n.len {H:Hp}:∀{vs:List V} {ds:List PyData},A5n H vs ds->vs.length=ds.length
 | _,_,.nil=>rfl
 | _,_,.cons _ r=>by rw [Z0y,Z0y,A5n.len r]
theorem A5n.snoc {H:Hp} {v:V} {d:PyData} (a:Rep H v d):∀{vs:List V} {ds:List PyData},A5n H vs ds->A5n H (vs++[v]) (ds++[d])
 | _,_,.nil=> .cons a .nil
 | _,_,.cons b r=> .cons b (A5n.snoc a r)
theorem A5n.strs {H:Hp}:∀xs:List Str,A5n H (xs.map V.str) (xs.map PyData.str)
 | []=> .nil
 | x::r=> .cons (.str x) (A5n.strs r)
section
variable {X:Cx} {pins:List (Addr×Obj)} {σ:St} {H:Hp} {s:Shared}
end
section
variable {X:Cx}
def rSlS:V->Option Int->Option Int->Hp->VK->Prop:=λx lo hi H Q=>∃z,x= .str z/\z.length<=sizeLine/\Q (.str (Txt.slice z lo hi)) H
theorem A7n:SlR X rSlS:=by
 intro pins s σ H x v vl vu lo hi sl Q I rx hs pl pu h;obtain ⟨z,rfl,hz,q⟩:=h;obtain ⟨t,rfl⟩:=(show∃t,v=Value.str z t from rx);refine ⟨"str",_,F.slot_str_getitem.lookup,typeIs_str _ _ _,?_⟩;obtain ⟨ob,ho,hc,hd⟩:=hs;have fin:∀t' k,EP X pins σ Q (.str (Txt.slice z lo hi) t') { s with toks:=k }:=λt' k=>⟨.str (Txt.slice z lo hi),H,I.tok k,⟨t',rfl⟩,q⟩
 cases pl with
 | none =>
  cases pu with
  | none=>exact wpAny_getItem_str_slice (l:=none) (u:=none) (st:=none) ⟨ob,ho,hc,hd⟩ rfl (post_val_or_str ⟨Z1n (Txt.slice_le z _ _) hz,fin⟩)
  | int j uj=>exact wpAny_getItem_str_slice (l:=none) (u:=some (j,uj)) (st:=none) ⟨ob,ho,hc,hd⟩ rfl (post_val_or_str ⟨Z1n (Txt.slice_le z _ _) hz,fin⟩)
 | int i ui =>
  cases pu with
  | none=>exact wpAny_getItem_str_slice (l:=some (i,ui)) (u:=none) (st:=none) ⟨ob,ho,hc,hd⟩ rfl (post_val_or_str ⟨Z1n (Txt.slice_le z _ _) hz,fin⟩)
  | int j uj=>exact wpAny_getItem_str_slice (l:=some (i,ui)) (u:=some (j,uj)) (st:=none) ⟨ob,ho,hc,hd⟩ rfl (post_val_or_str ⟨Z1n (Txt.slice_le z _ _) hz,fin⟩)
def D7w (K:Frag):V->List V->Hp->VK->Prop:=λx vs H Q=>∃(z:Str) (p:Addr) (ys:List Str),x= .str z/\vs=[.ref p]/\SqL K H p (ys.map V.str)/\(ys.map (·.length)).sum+ys.length*z.length<=16777216/\Q (.str (Txt.join z ys)) H
theorem A7g {ys:List Str}:∀{us:List Value},A3c (ys.map V.str) us->StrsAre us ys:=by
 induction ys with
 | nil=>intro us r;cases r;exact .nil
 | cons y r ih =>
  intro us q
  cases q with
  | cons q1 q2 =>
   obtain ⟨t,rfl⟩:=q1;exact .cons _ _ (ih q2)
theorem A9y:MtR X "str.join" (D7w X.K):=by
 intro pins s σ H x xs v us Q I rx rv h;obtain ⟨z,p,ys,rfl,rfl,hq,hz,q⟩:=h;obtain ⟨t,rfl⟩:=(show∃t,v=Value.str z t from rx);obtain ⟨u,rfl,ru⟩:=A7i rv;cases ru;obtain ⟨its,rv,p1,_⟩:=I.list hq;exact join_list p1.isList (A7g rv) hz λt' k=>⟨.str (Txt.join z ys),H,I.tok k,⟨t',rfl⟩,q⟩
end
theorem A1n {X:Cx} {scope:Scope} (hk:scope.kind= .function) (hn:∀y∈scope.names,y.2≠.free/\y.2≠.cell) (hl:∀y∈scope.names,y.2= .local->scope.names.lookup y.1=some .local):C7k X scope [] where
 eq:=closureFor_none λy hy=>(hn y hy).1
 sub:=λx c h=>by cases h
 has:=λx h=>by
  exfalso
  have e:(relabel scope X.env).names=scope.names:=map_eq_self λy hy=>by
   obtain ⟨n,k⟩:=y;have z:=(hn _ hy).1;have z':(k == NameKind.free)=false:=by simpa using z
   simp [z']
  rw [e] at h
  have mem:∀{k:NameKind},scope.names.lookup x=some k->(x,k)∈scope.names:=λ{k} q=>by
   generalize scope.names=l at q
   induction l with
   | nil=>cases q
   | cons a r ih =>
    obtain ⟨n,k'⟩:=a;rw [Z28] at q;split at q
    ·rename_i hb;have hb':x=n:=by simpa using hb
     cases q
     subst hb';exact .head _
    ·exact .tail _ (ih q)
  rcases h with h | h
  ·exact (hn _ (mem h)).2 rfl
  ·exact (hn _ (mem h)).1 rfl
 kind:=hk
 ncell:=λy hy=>(hn y hy).2
 names:=hl
theorem A1q {X:Cx} {N':List Str} {scope:Scope} {n:Nat} (h:n=N'.length):B1h X N' scope (List.replicate n none):=⟨by rw [List.length_replicate];exact h,λi j e=>by
 rw [List.getElem?_replicate] at e
 split at e <;> cases e⟩
section
variable {K:Frag} {a D:Addr} {xs:List V} {g:TG} {te:TE} {Q:VK} {σ₀:St} {H:Hp}
theorem C5g (Pv:Nat->List V->Hp->Prop) (h0:Pv 0 [] (upd H D (.lst []))) (hl:∀i ys H,Pv i ys H->SqL K H a xs)
  (hs:∀i x ys H,xs[i]? =some x->Pv i ys H->g x σ₀ H λσ4 H4=>A3d σ₀ σ4/\te σ4 H4 λy H5=>H5 D=some (.lst ys)/\ys.length<sizeLine/\Pv (i+1) (ys++[y]) (upd H5 D (.lst (ys++[y])))) (hd:∀ys H,Pv xs.length ys H->Q (.ref D) H) :
  ∃W:Nat->Nat->Hp->Prop,(∃m,W 0 m (upd H D (.lst [])))/\∀i m H2,W i m H2->
   ((Itl K a).stop i H2/\Q (.ref D) H2)\/((Itl K a).go i H2/\∃N:VK,(∀y H5,N y H5->∃xs,H5 D=some (.lst xs)/\xs.length<sizeLine/\∃m',m'<m/\W (i+1) m' (upd H5 D (.lst (xs++[y]))))/\
    ∀x H3,(Itl K a).yld i H2 x H3->g x σ₀ H3 λσ4 H4=>A3d σ₀ σ4/\te σ4 H4 N):=by
 refine ⟨λi m H=>m=xs.length-i/\i<=xs.length/\∃ys,Pv i ys H,⟨xs.length,by simp,Z1e _,[],h0⟩,?_⟩;rintro i m H2 ⟨rfl,hi,ys,p⟩;have q:=hl i ys H2 p;by_cases hlt:i<xs.length
 ·refine .inr ⟨⟨xs,xs[i],q,by simp [hlt]⟩,λy H5=>H5 D=some (.lst ys)/\ys.length<sizeLine/\Pv (i+1) (ys++[y]) (upd H5 D (.lst (ys++[y]))),λy H5 n=>⟨ys,n.1,n.2.1,xs.length-(i+1),by lia,rfl,hlt,_,n.2.2⟩,λx H3 z=> ?_⟩;obtain ⟨e,z⟩:=z;subst e;exact hs i x ys _ (z xs q) p
 ·have e:i=xs.length:=by lia
  subst e;exact .inl ⟨⟨xs,q,Z09 _⟩,hd ys H2 p⟩
theorem C7z (Pv:Nat->List V->Hp->Prop) (h0:Pv 0 [] (upd H D (.lst []))) (hl:∀i ys H,Pv i ys H->SqT K H a xs)
  (hs:∀i x ys H,xs[i]? =some x->Pv i ys H->g x σ₀ H λσ4 H4=>A3d σ₀ σ4/\te σ4 H4 λy H5=>H5 D=some (.lst ys)/\ys.length<sizeLine/\Pv (i+1) (ys++[y]) (upd H5 D (.lst (ys++[y])))) (hd:∀ys H,Pv xs.length ys H->Q (.ref D) H) :
  ∃W:Nat->Nat->Hp->Prop,(∃m,W 0 m (upd H D (.lst [])))/\∀i m H2,W i m H2->
   ((Itt K a).stop i H2/\Q (.ref D) H2)\/((Itt K a).go i H2/\∃N:VK,(∀y H5,N y H5->∃xs,H5 D=some (.lst xs)/\xs.length<sizeLine/\∃m',m'<m/\W (i+1) m' (upd H5 D (.lst (xs++[y]))))/\
    ∀x H3,(Itt K a).yld i H2 x H3->g x σ₀ H3 λσ4 H4=>A3d σ₀ σ4/\te σ4 H4 N):=by
 refine ⟨λi m H=>m=xs.length-i/\i<=xs.length/\∃ys,Pv i ys H,⟨xs.length,by simp,Z1e _,[],h0⟩,?_⟩;rintro i m H2 ⟨rfl,hi,ys,p⟩;have q:=hl i ys H2 p;by_cases hlt:i<xs.length
 ·refine .inr ⟨⟨xs,xs[i],q,by simp [hlt]⟩,λy H5=>H5 D=some (.lst ys)/\ys.length<sizeLine/\Pv (i+1) (ys++[y]) (upd H5 D (.lst (ys++[y]))),λy H5 n=>⟨ys,n.1,n.2.1,xs.length-(i+1),by lia,rfl,hlt,_,n.2.2⟩,λx H3 z=> ?_⟩;obtain ⟨e,z⟩:=z;subst e;exact hs i x ys _ (z xs q) p
 ·have e:i=xs.length:=by lia
  subst e;exact .inl ⟨⟨xs,q,Z09 _⟩,hd ys H2 p⟩
end
abbrev TJ:=St->Hp->Str->(Str->Hp->Prop)->Prop
def PJ (X:Cx) (es:List Expr) (t:TJ):Prop :=
 ∀(pins:List (Addr×Obj)) (s:Shared) (σ:St) (H:Hp) (out:Str) (Q:Str->Hp->Prop),Inv X pins σ H s->t σ H out Q->wpAny (model X.prog X.w) X.A (joinParts out (evalEach es X.env)) (EP X pins σ λv H'=>∃z,v= .str z/\Q z H') X.xe s
def FmtV (x:V) (y:Str):Prop:=(x= .str y/\y.length<=sizeLine)\/∃i:Int,x= .int i/\i.natAbs.log2<1920/\y=(toString i:Str)
def D8i:TJ:=λ_ H out Q=>out.length<=sizeLine/\Q out H
def D3q (te:TE) (tr:TJ):TJ:=λσ H out Q=>te σ H λx H1=>∃y,FmtV x y/\(out++y).length<=sizeLine/\tr σ H1 (out++y) Q
def D7v (x:Str) (tr:TJ):TJ:=λσ H out Q=>(out++x).length<=sizeLine/\tr σ H (out++x) Q
section
variable {X:Cx} {e:Expr} {es:List Expr} {te:TE} {tr:TJ} {pos p2:Pos}
theorem D6k:PJ X [] D8i:=λpins s σ H out Q I h=>joinParts_nil ⟨.str out,H,I.tok _,⟨_,rfl⟩,out,rfl,h.2⟩ h.1
theorem D3u (he:PE X e te) (hr:PJ X es tr) (hs:evalEach (.FormattedValue e (-1) none pos::es) X.env=eval (.FormattedValue e (-1) none pos) X.env::evalEach es X.env:=by rfl):PJ X (.FormattedValue e (-1) none pos::es) (D3q te tr):=by
 intro pins s σ H out Q I h;rw [hs];refine joinParts_cons (FormattedValue_plain (thn (he pins s σ H _ I h) ?_));rintro v s1 ⟨x,H1,I1,rx,y,f,hz,q⟩;rcases f with ⟨rfl,hy⟩ | ⟨i,rfl,hi,rfl⟩
 ·obtain ⟨t,rfl⟩:=(show∃t,v=Value.str y t from rx);exact formatField_str (λt' tk=>⟨hz,hr pins _ σ H1 _ Q (I1.tok tk) q⟩) hy
 ·obtain ⟨t,rfl⟩:=(show∃t,v=Value.int i t from rx);exact formatField_int_small hi ⟨hz,hr pins _ σ H1 _ Q (I1.tok _) q⟩
theorem D4e {x:Str} {j:Nat} (hr:PJ X es tr) (hs:evalEach (.Constant (.str x) j pos::es) X.env=eval (.Constant (.str x) j pos) X.env::evalEach es X.env:=by rfl):PJ X (.Constant (.str x) j pos::es) (D7v x tr):=by
 intro pins s σ H out Q I h;rw [hs];refine joinParts_cons (thn (A0g pins s σ H (λv H'=>v= .str x/\H'=H) I ⟨rfl,rfl⟩) ?_);rintro v s1 ⟨y,H1,I1,rx,ey,eH⟩;subst ey eH;obtain ⟨t,rfl⟩:=(show∃t,v=Value.str x t from rx);exact ⟨h.1,hr pins s1 σ H1 _ Q I1 h.2⟩
def D9h (tj:TJ):TE:=λσ H Q=>tj σ H Str.empty λz H'=>Q (.str z) H'
theorem D2e {a b:Expr} {tj:TJ} (h:PJ X (a::b::es) tj) (hs:evalEach (a::b::es) X.env=eval a X.env::eval b X.env::evalEach es X.env:=by rfl):PE X (.JoinedStr (a::b::es) pos) (D9h tj):=by
 intro pins s σ H Q I hq;refine JoinedStr_many ?_;rw [<-hs];exact thn (h pins s σ H _ _ I hq) (by rintro u s1 ⟨v,H1,I1,rv,z,ez,q⟩;subst ez;exact ⟨.str z,H1,I1,rv,q⟩)
end
theorem A0j {H H':Hp} {l:Addr} {o:HO} (s:A1b H H') (hl:H l=none):A1b H (upd H' l o):=λb u e=>by
 rw [A0l (A0r e hl)];exact s b u e
theorem A0f {H:Hp} {l:Addr} {o:HO} (hl:H l=none):A1b H (upd H l o):=A0j (A1b.refl H) hl
theorem A5o {H:Hp} {x dx:Addr} {o u v:HO} (hx:H x=none) (hd:H dx=none):A1b H (upd (upd (upd H dx o) x u) x v):=A0j (A0j (A0f hd) hx) hx
theorem A0t {n:Nat} (h:n<=1000000):n<=sizeLine:=by rw [sizeLine_eq];lia
theorem A1p {n:Nat} (h:n<=1000000):n<sizeLine:=by rw [sizeLine_eq];lia
theorem Paired.snoc {α β:Type} {F:α->β->Prop} {a:α} {b:β} (h:F a b):∀{xs:List α} {ys:List β},Paired F xs ys->Paired F (xs++[a]) (ys++[b])
 | _,_,.nil=> .cons h .nil
 | _,_,.cons r t=> .cons r (Paired.snoc h t)
noncomputable def A3w (S:Addr->Prop) (H:Hp):Hp:=λa=> @ite _ (S a) (Classical.propDecidable _) (H a) none
theorem C0g {S:Addr->Prop} {H:Hp} {a:Addr} (h:S a):A3w S H a=H a:=by unfold A3w;rw [Z12 h]
theorem C5q {S:Addr->Prop} {H:Hp} {a:Addr} (h:¬S a):A3w S H a=none:=by unfold A3w;rw [Z0t h]
theorem A1a {S:Addr->Prop} {H:Hp} {a:Addr} {o:HO} (h:A3w S H a=some o):S a/\H a=some o:=by
 by_cases hs:S a
 ·rw [C0g hs] at h;exact ⟨hs,h⟩
 ·rw [C5q hs] at h;cases h
theorem A3a {S:Addr->Prop} {H:Hp} {a:Addr} {o:HO} (hs:S a) (h:H a=some o):A3w S H a=some o:=by rw [C0g hs];exact h
theorem A3t {S:Addr->Prop} {H:Hp}:A1b (A3w S H) H:=λ_ _ e=>(A1a e).2
theorem B0c {S:Addr->Prop} {H H':Hp} (s:A1b H H'):A1b (A3w S H) (A3w S H'):=λb o e=>A3a (A1a e).1 (s _ _ (A1a e).2)
theorem A8t {S S':Addr->Prop} {H H':Hp} (s:A1b H H') (h:∀a o,H a=some o->S a->S' a):A1b (A3w S H) (A3w S' H'):=λb o e=>A3a (h _ _ (A1a e).2 (A1a e).1) (s _ _ (A1a e).2)
theorem A8w {S:Addr->Prop} {H H':Hp} {l:Addr} {o:HO} (s:A1b (A3w S H) (A3w S H')) (h:¬S l):A1b (A3w S H) (A3w S (upd H' l o)):=λb u e=>by
 have q:=A1a (s _ _ e);have hne:b≠l:=λz=>h (by rw [<-z];exact q.1);exact A3a q.1 (by rw [A0l hne];exact q.2)
mutual
theorem Rep.imp2 {H H':Hp} (f:∀p xs,H p=some (.lst xs)->H' p=some (.lst xs)) (g:∀p xs,H p=some (.tup xs)->H' p=some (.tup xs)):∀{v:V} {d:PyData},Rep H v d->Rep H' v d
 | _,_,.non=> .non
 | _,_,.bl b=> .bl b
 | _,_,.int i=> .int i
 | _,_,.str x=> .str x
 | _,_,.lst e r=> .lst (f _ _ e) (A5n.imp2 f g r)
 | _,_,.tup e r=> .tup (g _ _ e) (A5n.imp2 f g r)
theorem A5n.imp2 {H H':Hp} (f:∀p xs,H p=some (.lst xs)->H' p=some (.lst xs)) (g:∀p xs,H p=some (.tup xs)->H' p=some (.tup xs)):∀{vs:List V} {ds:List PyData},A5n H vs ds->A5n H' vs ds
 | _,_,.nil=> .nil
 | _,_,.cons a r=> .cons (Rep.imp2 f g a) (A5n.imp2 f g r)
end
theorem Rep.ins {H:Hp} {v:V} {d:PyData} {p C dx:Addr} {fs:List (Str×V)} {o:HO} (h:Rep H v d) (e:H p=some (.ins C dx fs)):Rep (upd H p o) v d :=
 h.imp2 (λq xs z=>by rw [A0l (A3q z e (by intro w;cases w))];exact z) (λq xs z=>by rw [A0l (A3q z e (by intro w;cases w))];exact z)
section
variable {G:Hp} {v:V} {vs:List V} {d:PyData} {ds:List PyData}
theorem B5q (h:Rep G v (.list ds)):∃p xs,v= .ref p/\G p=some (.lst xs)/\A5n G xs ds:=by
 cases h with
 | lst e r=>exact ⟨_,_,rfl,e,r⟩
end
mutual
def cnt:PyData->Nat
 | .none=>1
 | .bool _=>1
 | .int _=>1
 | .str _=>1
 | .list xs=>A3j xs+1
 | .tuple xs=>A3j xs+1
 | .dict _=>1
def A3j:List PyData->Nat
 | []=>0
 | x::xs=>cnt x+A3j xs
end
theorem D2s (d:PyData):1<=cnt d:=by cases d <;> simp [cnt]
theorem B8v:∀ds:List PyData,ds.length<=A3j ds
 | []=>by simp [A3j]
 | d::r=>by
  have:=B8v r;have:=D2s d;simp only [A3j,Z0y]
  lia
theorem C2g:∀{ds:List PyData} {i:Nat} {d:PyData},ds[i]? =some d->cnt d<=A3j ds/\PyData.depth d<=PyData.depthAll ds
 | [],_,_,e=>by simp at e
 | d::r,0,_,e=>by
  simp at e;subst e;simp only [A3j,PyData.depthAll]
  lia
 | x::r,i+1,d,e=>by
  have:=C2g (ds:=r) (i:=i) (d:=d) (by simpa using e);simp only [A3j,PyData.depthAll]
  lia
theorem A5n.get2 {H:Hp}:∀{vs:List V} {ds:List PyData} {i:Nat} {v:V},A5n H vs ds->vs[i]? =some v->∃d,ds[i]? =some d/\Rep H v d
 | _,_,_,_,.nil,e=>by simp at e
 | _,_,0,_,.cons a _,e=>by simp at e;subst e;exact ⟨_,rfl,a⟩
 | _,_,i+1,v,.cons _ r,e=>by
  obtain ⟨d,h1,h2⟩:=A5n.get2 (i:=i) (v:=v) r (by simpa using e);exact ⟨d,by simpa using h1,h2⟩
theorem lk0 {k:Str} {v:V} {r:List (Str×V)}:List.lookup k ((k,v)::r)=some v:=by simp [Z28]
theorem lk1 {k j:Str} {v:V} {r:List (Str×V)} {o:Option V} (h:(k == j)=false) (e:List.lookup k r=o):List.lookup k ((j,v)::r)=o:=by
 rw [Z28,h];exact e
theorem A1m {f:Str} {v:V}:A4s f v []=[(f,v)]:=rfl
theorem A1j {f g:Str} {v x:V} {r:List (Str×V)} (h:¬g=f):A4s f v ((g,x)::r)=(g,x)::A4s f v r:=by rw [A4s,Z0t h]
theorem A3z {c A B:Prop} [Decidable c] (h1:c->A) (h2:¬c->B):if decide c=true then A else B :=
 D2v (λh=>h1 (of_decide_eq_true h)) (λh=>h2 λhc=>h (Z20 hc))
theorem C6o {c A B:Prop} [Decidable c] (h1:¬c->A) (h2:c->B):if (! decide c)=true then A else B :=
 D2v (λh=>h1 λhc=>by rw [Z20 hc] at h;cases h) (λh=>h2 (by
  by_cases hc:c
  ·exact hc
  ·rw [Z1j hc] at h;exact absurd rfl h))
section
variable {X:Cx}
theorem B3q {tg l:Expr} {tl:TE} (hl:PE X l tl):PI X tg l (λσ H R=>D3a X.K tl σ H R\/E1f X.K tl σ H R):=λpins s σ H R I h=>h.elim (A3f hl pins s σ H R I) (C9k hl pins s σ H R I)
end
theorem C5n {α:Type} {xs:List α} {i:Int} (h0:0<=i) (h1:i<xs.length):∃v,xs[i.toNat]? =some v/\atI xs i=some v:=by
 obtain ⟨n,rfl⟩:=Int.eq_ofNat_of_zero_le h0;have hn:n<xs.length:=by lia
 exact ⟨xs[n],by simp [hn],A4a (by simp [hn])⟩
theorem A5e {α:Type} {f:α->V} {xs:List α} {i:Int} (h0:0<=i) (h1:i<xs.length):∃x,xs[i.toNat]? =some x/\atI (xs.map f) i=some (f x):=by
 obtain ⟨n,rfl⟩:=Int.eq_ofNat_of_zero_le h0;have hn:n<xs.length:=by lia
 exact ⟨xs[n],by simp [hn],A4a (by simp [hn])⟩
section
variable {K:Frag} {a D:Addr} {xs:List V} {g:TG} {te:TE} {QD:Hp->Prop} {σ₀:St} {H:Hp}
theorem A2h (Pv:Nat->List V->Hp->Prop) (h0:Pv 0 [] (upd H D (.lst []))) (hl:∀i ys H,Pv i ys H->SqL K H a xs)
  (hs:∀i x ys H,xs[i]? =some x->Pv i ys H->g x σ₀ H λσ4 H4=>A3d σ₀ σ4/\te σ4 H4 λy H5=>H5 D=some (.lst ys)/\ys.length<sizeLine/\Pv (i+1) (ys++[y]) (upd H5 D (.lst (ys++[y])))) (hd:∀ys H,Pv xs.length ys H->QD H) :
  ∃W:Nat->Nat->Hp->Prop,(∃m,W 0 m (upd H D (.lst [])))/\∀i m H2,W i m H2->
   ((Itl K a).stop i H2/\QD H2)\/((Itl K a).go i H2/\∃N:VK,(∀y H5,N y H5->∃xs,H5 D=some (.lst xs)/\xs.length<sizeLine/\∃m',m'<m/\W (i+1) m' (upd H5 D (.lst (xs++[y]))))/\
    ∀x H3,(Itl K a).yld i H2 x H3->g x σ₀ H3 λσ4 H4=>A3d σ₀ σ4/\te σ4 H4 N):=C5g (Q:=λ_ H=>QD H) Pv h0 hl hs hd
theorem C4e (Pv:Nat->List V->Hp->Prop) (h0:Pv 0 [] (upd H D (.lst []))) (hl:∀i ys H,Pv i ys H->SqT K H a xs)
  (hs:∀i x ys H,xs[i]? =some x->Pv i ys H->g x σ₀ H λσ4 H4=>A3d σ₀ σ4/\te σ4 H4 λy H5=>H5 D=some (.lst ys)/\ys.length<sizeLine/\Pv (i+1) (ys++[y]) (upd H5 D (.lst (ys++[y])))) (hd:∀ys H,Pv xs.length ys H->QD H) :
  ∃W:Nat->Nat->Hp->Prop,(∃m,W 0 m (upd H D (.lst [])))/\∀i m H2,W i m H2->
   ((Itt K a).stop i H2/\QD H2)\/((Itt K a).go i H2/\∃N:VK,(∀y H5,N y H5->∃xs,H5 D=some (.lst xs)/\xs.length<sizeLine/\∃m',m'<m/\W (i+1) m' (upd H5 D (.lst (xs++[y]))))/\
    ∀x H3,(Itt K a).yld i H2 x H3->g x σ₀ H3 λσ4 H4=>A3d σ₀ σ4/\te σ4 H4 N):=C7z (Q:=λ_ H=>QD H) Pv h0 hl hs hd
end
theorem C6b {K:Frag} {C D:Addr} (h1:isClsIn K D=true) (h2:typeIn K (.ref D)=some (.type "type")) (h3:mroIn K C (.ref D)=some true):kitOne K (.ref C) (.ref D)=some true:=by
 unfold kitOne;split
 ·rfl
 ·show (if ((clsIn K D).isSome&&typeIn K (.ref D) == some (.type "type"))=true then subIn K (.ref C) (.ref D) else none)=some true;have h1':(clsIn K D).isSome=true:=h1;rw [Z12 (by rw [h1',h2];rfl)];exact h3
theorem B6k {K:Frag} {C D:Addr} (h0:(Value.ref C == Value.ref D)=false) (h1:isClsIn K D=true) (h2:typeIn K (.ref D)=some (.type "type")) (h3:mroIn K C (.ref D)=some false):kitOne K (.ref C) (.ref D)=some false:=by
 unfold kitOne;rw [Z0t (by rw [h0];exact Z0v)];show (if ((clsIn K D).isSome&&typeIn K (.ref D) == some (.type "type"))=true then subIn K (.ref C) (.ref D) else none)=some false;have h1':(clsIn K D).isSome=true:=h1;rw [Z12 (by rw [h1',h2];rfl)];exact h3
section
variable {X:Cx}
def PTs (X:Cx) (cs:List Expr) (t:TT):Prop :=
 ∀(pins:List (Addr×Obj)) (s:Shared) (σ:St) (H:Hp) (Q:Bool->Hp->Prop),Inv X pins σ H s->t σ H Q->wpAny (model X.prog X.w) X.A (forIn cs true λc r=>if r=true then do let ok<-isTrue c X.env (eval c X.env);pure (ForInStep.yield ok) else pure (ForInStep.yield r)) (TP X pins σ Q) X.xe s
theorem C7y {elt iter tg:Expr} {cs:List Expr} {scope:Scope} {pos:Pos} {N':List Str} {ix:List (Option Nat)} {cl:List (Str×Addr)} {wi:TI} {g:TG} {tc:TT} {te:TE} (hc:X.calm=true) (ck:C7k X scope cl) (io:B1h X N' scope ix) (hi:PI X tg iter wi)
  (hg:∀C s₀ H₀ fp,PG (blk X N' scope cl C s₀ H₀ fp) tg g) (ht:∀C s₀ H₀ fp,PTs (blk X N' scope cl C s₀ H₀ fp) cs tc) (he:∀C s₀ H₀ fp,PE (blk X N' scope cl C s₀ H₀ fp) elt te) (R:VK->St->It->Hp->Prop) (hR:∀Q σ J H1,R Q σ J H1->∀D,H1 D=none->∃W:Nat->Nat->Hp->Prop,(∃m,W 0 m (upd H1 D (.lst [])))/\∀i m H2,W i m H2->
 (J.stop i H2/\Q (.ref D) H2)\/(J.go i H2/\∃(N:VK) (M:Hp->Prop),(∀y H5,N y H5->∃xs,H5 D=some (.lst xs)/\xs.length<sizeLine/\∃m',m'<m/\W (i+1) m' (upd H5 D (.lst (xs++[y]))))/\(∀H5,M H5->∃m',m'<m/\W (i+1) m' H5)/\∀x H3,J.yld i H2 x H3->g x (A4d ix σ) H3 λσ4 H4=>A3d (A4d ix σ) σ4/\tc σ4 H4 λb H5=>if b=true then te σ4 H5 N else M H5)) (hs:∀x,foldedSetIterable iter X.env x=pure x:=by intro _;rfl) :
  PE X (.ListComp elt [⟨tg,iter,cs,0⟩] scope pos) (λσ H Q=>wi σ H (R Q σ)):=by
 intro pins s σ H Q I h;rw [eval_ListComp];refine wpAny_comprehension_free (use:=none) rfl hs ck.eq ck.kind ck.names (thn (hi pins s σ H _ I h) λxv s1 h1=>thn h1 λitv s2 h2=> ?_);obtain ⟨it,fp,tn,J,H1,rfl,I1,T,st1,f1,R1⟩:=h2;refine Z16 ?_;have hD:H1 s2.heap.objs.size=none:=I1.hok.fresh (Z09 _);obtain ⟨W,⟨m0,w0⟩,turn⟩:=hR _ _ _ _ R1 _ hD;have hfD:∀b∈fp,b<s2.heap.objs.size:=λb hb=>let ⟨o,e,_⟩:=T.obj _ _ st1 b hb;Z0a e;have I2:Inv X pins σ (upd H1 s2.heap.objs.size (.lst [])) { s2 with heap:=s2.heap.push { cls:= .type "list",data:= .seq ([]:List Value).toArray },toks:=s2.toks }:=I1.lnew (its:=[]) .nil (Z1e _);have f2:∀b∈fp,B3c X pins (upd H1 s2.heap.objs.size (.lst [])) b:=λb hb=>⟨by rw [A0l (Z0h (hfD b hb))];exact (f1 b hb).1,(f1 b hb).2⟩
 have lt2:∀b∈fp,b<(s2.heap.push { cls:= .type "list",data:= .seq ([]:List Value).toArray }).objs.size:=λb hb=>by rw [Z1s];exact Nat.lt_succ_of_lt (hfD b hb)
 refine wpAny_newFunctionEnv ck.ncell (by intro y hy;simp at hy) (λh3 hns sb3=> ?_) ck.kind;dsimp only at hns sb3⊢;have k3:∀b o,(s2.heap.push { cls:= .type "list",data:= .seq ([]:List Value).toArray }).get? b=some o->h3.get? b=some o:=λb o e=>(sb3.2 b (Z0h (Z0a e))).trans (Z01 _ e);generalize hs2:({ s2 with heap:=s2.heap.push { cls:= .type "list",data:= .seq ([]:List Value).toArray },toks:=s2.toks }:Shared)=s3 at I2;have e3:s2.heap.push { cls:= .type "list",data:= .seq ([]:List Value).toArray }=s3.heap:=by rw [<-hs2]
 rw [e3] at hns k3 lt2;have I3:=A8u (N':=N') (ix:=ix) I2 ck io f2 lt2 (h':=h3) (t':=s2.toks+([]:List (Str×Value)).length) hns k3;have e4:({ s3 with heap:=h3,toks:=s2.toks+([]:List (Str×Value)).length }:Shared)={ s2 with heap:=h3,toks:=s2.toks+([]:List (Str×Value)).length }:=by rw [<-hs2]
 rw [e4] at I3;have st3:tn 0 h3:=T.keep _ _ _ st1 λb hb o e=>k3 b o (by rw [<-e3];exact Z01 _ e)
 have loop:∀s4:Shared,s4={ s2 with heap:=h3,toks:=s2.toks+([]:List (Str×Value)).length }->
   codeAny (model X.prog X.w) X.A (.compLoop (.ListComp elt [⟨tg,iter,cs,0⟩] scope pos) 0 (.ref it) (.ref s2.heap.objs.size) (compEnvC scope cl s3.heap.objs.size X.env))
    (compPost (model X.prog X.w) X.A X.xe none (EP X pins σ Q) (.ref s2.heap.objs.size) s3.heap.objs.size) s4:=by
  rintro s4 rfl
  have stat:∀{H':Hp},(∀b∈fp,H' b=none)->∀b∈fp,B3c (blk X N' scope cl s3.heap.objs.size s3 (upd H1 s2.heap.objs.size (.lst [])) fp) [] H' b:=λhn b hb =>
   ⟨hn b hb,Z0h (lt2 b hb),λhs=>I3.ok.exfs b hb hs,.inl hb,λx c e=>(f2 b hb).2.2.2.2.1 x c (ck.sub x c e),(λp hp=>by cases hp)⟩
  refine codeAny_loop rfl (λn s'=>∃i σ' H',Inv (blk X N' scope cl s3.heap.objs.size s3 (upd H1 s2.heap.objs.size (.lst [])) fp) [] σ' H' s'/\(∀(j:Nat) v,(A4d ix σ)[j]? =some (some v)->σ'[j]? =some (some v))/\tn i s'.heap/\(∀b∈fp,H' b=none)/\W i n H')
   (λn s' hI=> ?_) m0 ⟨0,_,_,I3,λ_ _ z=>z,st3,λb hb=>(f2 b hb).1,w0⟩
  obtain ⟨i,σ5,H5,I5,wk,st5,fr5,w5⟩:=hI;show wpAny _ _ ((compTurn (.ListComp elt [⟨tg,iter,cs,0⟩] scope pos) 0 (.ref it) (.ref s2.heap.objs.size) (compEnvC scope cl s3.heap.objs.size X.env)).onRaise (λx=>do noteFrame x (compEnvC scope cl s3.heap.objs.size X.env);theTreesLotGoes x)) _ _ s';refine wpAny_noted ?_;rw [compTurn_list];refine Z00 (Z1y ?_);rcases turn i n H5 w5 with ⟨stop,qn⟩ | ⟨go,NN,MM,hNN,hMM,step⟩
  ·refine Z00 (Z10 (T.done (blk X N' scope cl s3.heap.objs.size s3 (upd H1 s2.heap.objs.size (.lst [])) fp) rfl rfl rfl hc i [] s' σ5 H5 (λ_ _=>False) I5 (stat fr5) st5 stop) (λr s6 h6=> ?_) λ_ _ z=>z.elim);obtain ⟨rfl,I6⟩:=h6;refine Z04 ?_;obtain ⟨mm,hm,_⟩:=id I6.loc;exact ⟨mm,hm,λh' sb=>⟨.ref s2.heap.objs.size,H5,B1n I2 f2 I6 sb,rfl,qn⟩⟩
  ·refine Z00 (Z10 (T.item (blk X N' scope cl s3.heap.objs.size s3 (upd H1 s2.heap.objs.size (.lst [])) fp) rfl rfl rfl hc i [] s' σ5 H5 (λ_ _=>False) I5 (stat fr5) st5 go) (λr s6 h6=> ?_) λ_ _ z=>z.elim);obtain ⟨u,rfl,h6⟩:=h6;refine Z00 (Z10 h6 (λ_ s7 h7=> ?_) λ_ _ z=>z.elim);obtain ⟨x,H7,I7,r7,y7,st7,fr7⟩:=h7;have I7w:Inv (blk X N' scope cl s3.heap.objs.size s3 (upd H1 s2.heap.objs.size (.lst [])) fp) [] (A4d ix σ) H7 s7:=I7.weak (by rw [I7.len];unfold A4d;rw [Z08];exact io.1) wk;have I7p:=I7w.pinned (stat fr7) (T.obj _ _ st7);refine Z00 (Z10 (hg _ _ _ _ _ s7 _ H7 x u _ I7p r7 (step x H7 y7)) (λ_ s8 h8=> ?_) λ_ _ z=>z.elim);obtain ⟨σ8,H8,I8,kp8,q8⟩:=h8
   have back:∀{s10:Shared} {σ10:St} {H10:Hp} {m':Nat},Inv (blk X N' scope cl s3.heap.objs.size s3 (upd H1 s2.heap.objs.size (.lst [])) fp) ([]++B3r fp s7.heap) σ10 H10 s10->(∀(j:Nat) v,(A4d ix σ)[j]? =some (some v)->σ10[j]? =some (some v))->W (i+1) m' H10->
     ∃i σ' H',Inv (blk X N' scope cl s3.heap.objs.size s3 (upd H1 s2.heap.objs.size (.lst [])) fp) [] σ' H' s10/\(∀(j:Nat) v,(A4d ix σ)[j]? =some (some v)->σ'[j]? =some (some v))/\tn i s10.heap/\(∀b∈fp,H' b=none)/\W i m' H':=by
    intro s10 σ10 H10 m' I10 kk w10;refine ⟨i+1,σ10,H10,I10.unpinned,kk,T.keep _ _ _ st7 λb hb o e=>(I10.pin (b,o) (Z02 _ (Z02 _ (A2q hb e)))).1,λb hb=> ?_,w10⟩;obtain ⟨o,e,d⟩:=T.obj _ _ st7 b hb;exact (I10.pin (b,o) (Z02 _ (Z02 _ (A2q hb e)))).2.1
   refine Z00 (Z10 (ht _ _ _ _ _ s8 σ8 H8 _ I8 q8) (λok s9' h9'=> ?_) λ_ _ z=>z.elim);obtain ⟨H9',I9',q9'⟩:=h9'
   cases ok with
   | false =>
    have q9'':MM H9':=by simpa using q9'
    obtain ⟨m',hm',w9⟩:=hMM _ q9'';exact Z00 (Z04 (Z04 ⟨rfl,m',hm',back I9' kp8.get w9⟩))
   | true =>
    have q9'':te σ8 H9' NN:=by simpa using q9'
    refine Z00 (Z00 (Z10 (he _ _ _ _ _ s9' σ8 H9' _ I9' q9'') (λyv s9 h9=> ?_) λ_ _ z=>z.elim));obtain ⟨y,H9,I9,r9,n9⟩:=h9;obtain ⟨xs,hx9,hz9,m',hm',w9⟩:=hNN _ _ n9;refine Z00 (Z10 (A2d (X:=blk X N' scope cl s3.heap.objs.size s3 (upd H1 s2.heap.objs.size (.lst [])) fp) _ s9 σ8 H9 (.ref s2.heap.objs.size) [y] (.ref s2.heap.objs.size) [yv] (λ_ H'=>W (i+1) m' H') I9 rfl (.cons r9 .nil) ⟨_,xs,y,rfl,rfl,hx9,hz9,w9⟩) (λ_ s10 h10=> ?_) λ_ _ z=>z.elim);obtain ⟨_,H10,I10,_,w10⟩:=h10;exact Z04 (Z04 ⟨rfl,m',hm',back I10 kp8.get w10⟩)
 have e5:s3.heap.objs.size=(s2.heap.push { cls:= .type "list",data:= .seq ([]:List Value).toArray }).objs.size:=by rw [e3]
 rw [e5] at loop;exact codeAny_compStart_list (loop _ rfl) (T.self X.A 0 _ _ _ st3 (loop _ rfl))
theorem A6u {elt iter tg:Expr} {scope:Scope} {pos:Pos} {N':List Str} {ix:List (Option Nat)} {cl:List (Str×Addr)} {wi:TI} {g:TG} {te:TE} (hc:X.calm=true) (ck:C7k X scope cl) (io:B1h X N' scope ix) (hi:PI X tg iter wi)
  (hg:∀C s₀ H₀ fp,PG (blk X N' scope cl C s₀ H₀ fp) tg g) (he:∀C s₀ H₀ fp,PE (blk X N' scope cl C s₀ H₀ fp) elt te) (hs:∀x,foldedSetIterable iter X.env x=pure x:=by intro _;rfl) :
  PE X (.ListComp elt [⟨tg,iter,[],0⟩] scope pos) (C8b ix wi g te) :=
 C7y (tc:=λ_ H Q=>Q true H) hc ck io hi hg (λ_ _ _ _ _ _ _ _ _ I h=>wpAny_tests_nil ⟨_,I,h⟩) he _ (λ_ _ _ _ R D2 hD=>by
  obtain ⟨W,w0,turn⟩:=R D2 hD;refine ⟨W,w0,λi m H2 w=>(turn i m H2 w).imp id λ⟨go,N,hN,step⟩=>⟨go,N,λ_=>False,hN,λ_ z=>z.elim,?_⟩⟩
  simpa using step) hs
end
section
variable {K:Frag} {a D:Addr} {xs:List V} {g:TG} {tc:TT} {te:TE} {QD:Hp->Prop} {σ₀:St} {H:Hp}
end
section
def Its (z:Str):It:=⟨λi _=>i<z.cps.size,λi H x H'=>H'=H/\∃c,z.cps[i]? =some c/\x= .str ⟨#[c]⟩,λi _=>i=z.cps.size⟩
theorem B9k {P:Program} {w:World} {K:Frag} {tg:Expr} {ty:String} (it:Addr) (z:Str) (t:Tok)
  (hty:["enumerate","zip","dict_itemiterator","dict_reverseitemiterator","odict_iterator","itertools.zip_longest","itertools.pairwise"].contains ty=false)
  (W:∀A':Around,A'.handled=none->Walks P w A' it [it] [it] z.cps.size (SignAt z) (λi h=>h.IsStrIter it ty z t i))
  (Wi:∀(A:Around) (i:Nat) (s:Shared) (Q:Value->Shared->Prop) (E:Value->Shared->Prop),s.heap.IsStrIter it ty z t i->Q (.ref it) s->wpAny (model P w) A (pyIter (.ref it)) Q E s) :
  D3w P w K tg (Its z) [it] it (λi h=>h.IsStrIter it ty z t i) where
 mem:=by simp
 obj:=λi h st b hb=>by
  have e:b=it:=by simpa using hb
  subst e;obtain ⟨ob,e,_,d⟩:=st;exact ⟨ob,e,λv z=>by rw [d] at z;cases z⟩
 keep:=λi h h' st k=>let ⟨o,ho,r⟩:=st;⟨o,k it (by simp) o ho,r⟩
 item:=by
  intro X hP hw hK hc i pins s σ H E I hf st hg;subst hP hw hK;obtain ⟨f0,f1,f2,f3,f4,f5⟩:=hf it (by simp);refine (W _ (I.ok.hd hc)).item i s _ E hg st λv h' tk hv hst kp=> ?_;obtain ⟨c,u,hc1,rfl⟩:=hv;have I1:Inv X pins σ H { s with heap:=h',toks:=tk }:=I.turned (t':=tk) (λb ob hb e=>kp b ob (by simpa using hb) e) f0 f1 f3 f4 f5
  obtain ⟨ob,e,c',d⟩:=id hst;exact ⟨_,rfl,C7r (s:={ s with heap:=h',toks:=tk }) e c' d hty ⟨.str ⟨#[c]⟩,H,I1,⟨u,rfl⟩,⟨rfl,c,hc1,rfl⟩,hst,λb hb=>(hf b hb).1⟩⟩
 done:=by
  intro X hP hw hK hc i pins s σ H E I hf st hg;subst hP hw hK;obtain ⟨f0,f1,f2,f3,f4,f5⟩:=hf it (by simp);cases (show i=z.cps.size from hg);exact (W _ (I.ok.hd hc)).done s _ E st λh' tk kp=>⟨rfl,I.turned (t':=tk) (λb ob hb e=>kp b ob (by simpa using hb) e) f0 f1 f3 f4 f5⟩
 self:=λA i s Q E st h=>Wi A i s Q E st h
def iStr (tl:TE):TI:=λσ H R=>tl σ H λx H1=>∃z,x= .str z/\R (Its z) H1
theorem C8y {X:Cx} {tg l:Expr} {tl:TE} (hl:PE X l tl):PI X tg l (iStr tl):=by
 intro pins s σ H R I h;refine thn (hl pins s σ H _ I h) ?_;rintro y s1 ⟨x,H1,I1,rx,z,ex,q⟩;subst ex;obtain ⟨t,rfl⟩:=(show∃t,y=Value.str z t from rx)
 have fp:∀b∈[s1.heap.objs.size],B3c X pins H1 b:=λb hb=>by
  have e:b=s1.heap.objs.size:=by simpa using hb
  subst e;exact I1.fpOk (Z09 _) (I1.hok.fresh (Z09 _))
 cases ha:z.cps.all (· <128)
 ·refine wpAny_pyIter_wide ha ?_;have I2:Inv X pins σ H1 { s1 with heap:=s1.heap.push { cls:= .type "str_iterator",data:= .fields #[.str z t,.int 0 0] },toks:=s1.toks }:=I1.kept λb ob e=>Z01 _ e
  exact ⟨_,[s1.heap.objs.size],_,_,_,rfl,I2,B9k _ z t (by decide) (λA' hA=>Walks.strWide hA _ z t) (λ_ _ _ _ _ st h=>wpAny_pyIter_striter_wide st h),⟨_,Z0c _ rfl,rfl,rfl⟩,fp,q⟩
 ·refine wpAny_pyIter_ascii ha ?_;have I2:Inv X pins σ H1 { s1 with heap:=s1.heap.push { cls:= .type "str_ascii_iterator",data:= .fields #[.str z t,.int 0 0] },toks:=s1.toks }:=I1.kept λb ob e=>Z01 _ e
  exact ⟨_,[s1.heap.objs.size],_,_,_,rfl,I2,B9k _ z t (by decide) (λA' hA=>Walks.strAscii hA _ z t) (λ_ _ _ _ _ st h=>wpAny_pyIter_striter_ascii st h),⟨_,Z0c _ rfl,rfl,rfl⟩,fp,q⟩
end
section
variable {D:Addr} {g:TG} {te:TE} {QD:Hp->Prop} {σ₀:St} {H:Hp}
theorem B7h {J:It} (n:Nat) (Pv:Nat->List V->Hp->Prop) (h0:Pv 0 [] (upd H D (.lst []))) (hgo:∀i ys H,i<n->Pv i ys H->J.go i H) (hst:∀ys H,Pv n ys H->J.stop n H)
  (hs:∀i ys H,i<n->Pv i ys H->∀x H3,J.yld i H x H3->g x σ₀ H3 λσ4 H4=>A3d σ₀ σ4/\te σ4 H4 λy H5=>H5 D=some (.lst ys)/\ys.length<sizeLine/\Pv (i+1) (ys++[y]) (upd H5 D (.lst (ys++[y])))) (hd:∀ys H,Pv n ys H->QD H) :
  ∃W:Nat->Nat->Hp->Prop,(∃m,W 0 m (upd H D (.lst [])))/\∀i m H2,W i m H2->
   (J.stop i H2/\QD H2)\/(J.go i H2/\∃N:VK,(∀y H5,N y H5->∃xs,H5 D=some (.lst xs)/\xs.length<sizeLine/\∃m',m'<m/\W (i+1) m' (upd H5 D (.lst (xs++[y]))))/\
    ∀x H3,J.yld i H2 x H3->g x σ₀ H3 λσ4 H4=>A3d σ₀ σ4/\te σ4 H4 N):=by
 refine ⟨λi m H=>m=n-i/\i<=n/\∃ys,Pv i ys H,⟨n,by simp,Z1e _,[],h0⟩,?_⟩;rintro i m H2 ⟨rfl,hi,ys,p⟩;by_cases hlt:i<n
 ·exact .inr ⟨hgo i ys H2 hlt p,λy H5=>H5 D=some (.lst ys)/\ys.length<sizeLine/\Pv (i+1) (ys++[y]) (upd H5 D (.lst (ys++[y]))),λy H5 z=>⟨ys,z.1,z.2.1,n-(i+1),by lia,rfl,hlt,_,z.2.2⟩,λx H3 z=>hs i ys H2 hlt p x H3 z⟩
 ·have e:i=n:=by lia
  subst e;exact .inl ⟨hst ys H2 p,hd ys H2 p⟩
end
theorem C0d {K:Frag} {C:Addr} {U:String} {b:Bool} (h:mroIn K C (.type U)=some b) (hm:PySem.W.kitMeta U=true):∀u,A2v (.ty U) u->kitOne K (.ref C) u=some b:=by
 intro u z;cases (show u=Value.type U from z);unfold kitOne;rw [Z0t (show¬(Value.ref C == Value.type U)=true from Z0v)];show (if PySem.W.kitMeta U=true then subIn K (.ref C) (.type U) else none)=some b;rw [Z12 hm];exact h
theorem A3e.or {P:Program} {w:World} {K:Frag} {mg:Str->Option Value} {base:Heap} {CX:CXT} {k:Nat} {f:Addr} {fd:FuncData} {ps:List Str} {sp sp':Sp} (F:A3e P w K mg base CX k f fd ps sp) (F':A3e P w K mg base CX k f fd ps sp') :
  A3e P w K mg base CX k f fd ps (λvs H Q E=>sp vs H Q E\/sp' vs H Q E) :=
 ⟨λvs H Q E q=>q.elim (F.len vs H Q E) (F'.len vs H Q E),λA outer s H args us vs Q E hr he hb hv q=>q.elim (F.run A outer s H args us vs Q E hr he hb hv) (F'.run A outer s H args us vs Q E hr he hb hv)⟩
section
variable {X:Cx}
theorem C6h {i₀:Nat} {x₀:Str} {pos₀ spos:Pos} {elt iter tg:Expr} {cs:List Expr} {scope:Scope} {pos:Pos} {N':List Str} {ix:List (Option Nat)} {cl:List (Str×Addr)} {wi:TI} {g:TG} {tc:TT} {te:TE} (hN₀:X.N.Nodup) (hi₀:X.N[i₀]? =some x₀) (hx₀:Loc X.env.scope x₀) (hc:X.calm=true) (ck:C7k X scope cl) (io:B1h X N' scope ix) (hi:PI X tg iter wi)
  (hg:∀C s₀ H₀ fp,PG (blk X N' scope cl C s₀ H₀ fp) tg g) (ht:∀C s₀ H₀ fp,PTs (blk X N' scope cl C s₀ H₀ fp) cs tc) (he:∀C s₀ H₀ fp,PE (blk X N' scope cl C s₀ H₀ fp) elt te) (R:B9t->St->It->Hp->Prop) (hR:∀D σ J H1,R D σ J H1->∀D2,H1 D2=none->∃W:Nat->Nat->Hp->Prop,(∃m,W 0 m (upd H1 D2 (.lst [])))/\∀i m H2,W i m H2->
   (J.stop i H2/\D.nx (σ.set i₀ (some (.ref D2))) H2)\/(J.go i H2/\∃(N:VK) (M:Hp->Prop),(∀y H5,N y H5->∃xs,H5 D2=some (.lst xs)/\xs.length<sizeLine/\∃m',m'<m/\W (i+1) m' (upd H5 D2 (.lst (xs++[y]))))/\(∀H5,M H5->∃m',m'<m/\W (i+1) m' H5)/\∀x H3,J.yld i H2 x H3->g x (A4d ix σ) H3 λσ4 H4=>A3d (A4d ix σ) σ4/\tc σ4 H4 λb H5=>if b=true then te σ4 H5 N else M H5)) (hs:∀x,foldedSetIterable iter X.env x=pure x:=by intro _;rfl)
  (hsw:swapsWith (.ListComp elt [⟨tg,iter,cs,0⟩] scope pos) (some (.Name x₀ pos₀)) spos.line X.env=pure true:=by rfl) (hf₀:X.fn x₀=true\/X.env.scope.names.lookup x₀=some .local:=by first | exact .inl rfl | exact .inr rfl | assumption) :
  PS X (.Assign [.Name x₀ pos₀] (.ListComp elt [⟨tg,iter,cs,0⟩] scope pos) spos) (λD σ H=>wi σ H (R D σ)):=by
 intro pins s σ H D₀ I h;rw [exec_Assign_Name_used _ _ _ _ hsw];refine Z00 (Z1y (Z00 ?_));show wpAny _ X.A (do let _<-comprehension (.ListComp elt [⟨tg,iter,cs,0⟩] scope pos) scope X.env _ (newList []) false (eval iter X.env) (some (assign (.Name x₀ pos₀) X.env))) _ _ s;refine Z00 (Z10 (wpAny_comprehension_free (use:=some (assign (.Name x₀ pos₀) X.env)) (Q:=λ_ s'=>∃σ' H',Inv X pins σ' H' s'/\D₀.nx σ' H') rfl hs ck.eq ck.kind ck.names (thn (hi pins s σ H _ I h) λxv s1 h1=>thn h1 λitv s2 h2=> ?_)) (λ_ s' hq=>Z04 (Z04 hq)) λ_ _ e=>e);obtain ⟨it,fp,tn,J,H1,rfl,I1,T,st1,f1,R1⟩:=h2;refine Z16 ?_;have hD:H1 s2.heap.objs.size=none:=I1.hok.fresh (Z09 _);obtain ⟨W,⟨m0,w0⟩,turn⟩:=hR _ _ _ _ R1 _ hD;have hfD:∀b∈fp,b<s2.heap.objs.size:=λb hb=>let ⟨o,e,_⟩:=T.obj _ _ st1 b hb;Z0a e;have I2:Inv X pins σ (upd H1 s2.heap.objs.size (.lst [])) { s2 with heap:=s2.heap.push { cls:= .type "list",data:= .seq ([]:List Value).toArray },toks:=s2.toks }:=I1.lnew (its:=[]) .nil (Z1e _);have f2:∀b∈fp,B3c X pins (upd H1 s2.heap.objs.size (.lst [])) b:=λb hb=>⟨by rw [A0l (Z0h (hfD b hb))];exact (f1 b hb).1,(f1 b hb).2⟩
 have lt2:∀b∈fp,b<(s2.heap.push { cls:= .type "list",data:= .seq ([]:List Value).toArray }).objs.size:=λb hb=>by rw [Z1s];exact Nat.lt_succ_of_lt (hfD b hb)
 refine wpAny_newFunctionEnv ck.ncell (by intro y hy;simp at hy) (λh3 hns sb3=> ?_) ck.kind;dsimp only at hns sb3⊢;have k3:∀b o,(s2.heap.push { cls:= .type "list",data:= .seq ([]:List Value).toArray }).get? b=some o->h3.get? b=some o:=λb o e=>(sb3.2 b (Z0h (Z0a e))).trans (Z01 _ e);generalize hs2:({ s2 with heap:=s2.heap.push { cls:= .type "list",data:= .seq ([]:List Value).toArray },toks:=s2.toks }:Shared)=s3 at I2;have e3:s2.heap.push { cls:= .type "list",data:= .seq ([]:List Value).toArray }=s3.heap:=by rw [<-hs2]
 rw [e3] at hns k3 lt2;have I3:=A8u (N':=N') (ix:=ix) I2 ck io f2 lt2 (h':=h3) (t':=s2.toks+([]:List (Str×Value)).length) hns k3;have e4:({ s3 with heap:=h3,toks:=s2.toks+([]:List (Str×Value)).length }:Shared)={ s2 with heap:=h3,toks:=s2.toks+([]:List (Str×Value)).length }:=by rw [<-hs2]
 rw [e4] at I3;have st3:tn 0 h3:=T.keep _ _ _ st1 λb hb o e=>k3 b o (by rw [<-e3];exact Z01 _ e)
 have loop:∀s4:Shared,s4={ s2 with heap:=h3,toks:=s2.toks+([]:List (Str×Value)).length }->
   codeAny (model X.prog X.w) X.A (.compLoop (.ListComp elt [⟨tg,iter,cs,0⟩] scope pos) 0 (.ref it) (.ref s2.heap.objs.size) (compEnvC scope cl s3.heap.objs.size X.env))
    (compPost (model X.prog X.w) X.A X.xe (some (assign (.Name x₀ pos₀) X.env)) (λ_ s'=>∃σ' H',Inv X pins σ' H' s'/\D₀.nx σ' H') (.ref s2.heap.objs.size) s3.heap.objs.size) s4:=by
  rintro s4 rfl
  have stat:∀{H':Hp},(∀b∈fp,H' b=none)->∀b∈fp,B3c (blk X N' scope cl s3.heap.objs.size s3 (upd H1 s2.heap.objs.size (.lst [])) fp) [] H' b:=λhn b hb =>
   ⟨hn b hb,Z0h (lt2 b hb),λhs=>I3.ok.exfs b hb hs,.inl hb,λx c e=>(f2 b hb).2.2.2.2.1 x c (ck.sub x c e),(λp hp=>by cases hp)⟩
  refine codeAny_loop rfl (λn s'=>∃i σ' H',Inv (blk X N' scope cl s3.heap.objs.size s3 (upd H1 s2.heap.objs.size (.lst [])) fp) [] σ' H' s'/\(∀(j:Nat) v,(A4d ix σ)[j]? =some (some v)->σ'[j]? =some (some v))/\tn i s'.heap/\(∀b∈fp,H' b=none)/\W i n H')
   (λn s' hI=> ?_) m0 ⟨0,_,_,I3,λ_ _ z=>z,st3,λb hb=>(f2 b hb).1,w0⟩
  obtain ⟨i,σ5,H5,I5,wk,st5,fr5,w5⟩:=hI;show wpAny _ _ ((compTurn (.ListComp elt [⟨tg,iter,cs,0⟩] scope pos) 0 (.ref it) (.ref s2.heap.objs.size) (compEnvC scope cl s3.heap.objs.size X.env)).onRaise (λx=>do noteFrame x (compEnvC scope cl s3.heap.objs.size X.env);theTreesLotGoes x)) _ _ s';refine wpAny_noted ?_;rw [compTurn_list];refine Z00 (Z1y ?_);rcases turn i n H5 w5 with ⟨stop,qn⟩ | ⟨go,NN,MM,hNN,hMM,step⟩
  ·refine Z00 (Z10 (T.done (blk X N' scope cl s3.heap.objs.size s3 (upd H1 s2.heap.objs.size (.lst [])) fp) rfl rfl rfl hc i [] s' σ5 H5 (λ_ _=>False) I5 (stat fr5) st5 stop) (λr s6 h6=> ?_) λ_ _ z=>z.elim);obtain ⟨rfl,I6⟩:=h6;refine Z04 ?_;obtain ⟨mm,hm,_⟩:=id I6.loc;have fC:B3c X pins H5 s3.heap.objs.size:=I2.fpOk (Z09 _) I6.free;have Io:Inv X pins σ H5 s6:=B1n I2 f2 I6 (Heap.SameBut.refl _ _);show wpAny _ X.A (assign (.Name x₀ pos₀) X.env (.ref s2.heap.objs.size)) _ _ s6;refine wpAny_assign_Name (B1y Io hN₀ hi₀ hx₀ (v:= .ref s2.heap.objs.size) rfl (λs7 I7 sb7=> ?_) hf₀);obtain ⟨a,sb,ha⟩:=sb7
   have ca:s3.heap.objs.size≠a:=by
    rcases ha with ha | ha
    ·rw [ha];exact fC.2.1
    ·exact λz=>fC.2.2.2.2.1 _ _ ha z.symm
   obtain ⟨oC,es,ep,ho,r⟩:=hm;exact ⟨mm,⟨oC,es,ep,(sb.2 _ ca).trans ho,r⟩,λh' sb'=>⟨_,H5,I7.turned (t':=s7.toks) (λb o hb e=>(sb'.2 b hb).trans e) fC.1 fC.2.1 fC.2.2.2.1 fC.2.2.2.2.1 fC.2.2.2.2.2,qn⟩⟩
  ·refine Z00 (Z10 (T.item (blk X N' scope cl s3.heap.objs.size s3 (upd H1 s2.heap.objs.size (.lst [])) fp) rfl rfl rfl hc i [] s' σ5 H5 (λ_ _=>False) I5 (stat fr5) st5 go) (λr s6 h6=> ?_) λ_ _ z=>z.elim);obtain ⟨u,rfl,h6⟩:=h6;refine Z00 (Z10 h6 (λ_ s7 h7=> ?_) λ_ _ z=>z.elim);obtain ⟨x,H7,I7,r7,y7,st7,fr7⟩:=h7;have I7w:Inv (blk X N' scope cl s3.heap.objs.size s3 (upd H1 s2.heap.objs.size (.lst [])) fp) [] (A4d ix σ) H7 s7:=I7.weak (by rw [I7.len];unfold A4d;rw [Z08];exact io.1) wk;have I7p:=I7w.pinned (stat fr7) (T.obj _ _ st7);refine Z00 (Z10 (hg _ _ _ _ _ s7 _ H7 x u _ I7p r7 (step x H7 y7)) (λ_ s8 h8=> ?_) λ_ _ z=>z.elim);obtain ⟨σ8,H8,I8,kp8,q8⟩:=h8
   have back:∀{s10:Shared} {σ10:St} {H10:Hp} {m':Nat},Inv (blk X N' scope cl s3.heap.objs.size s3 (upd H1 s2.heap.objs.size (.lst [])) fp) ([]++B3r fp s7.heap) σ10 H10 s10->(∀(j:Nat) v,(A4d ix σ)[j]? =some (some v)->σ10[j]? =some (some v))->W (i+1) m' H10->
     ∃i σ' H',Inv (blk X N' scope cl s3.heap.objs.size s3 (upd H1 s2.heap.objs.size (.lst [])) fp) [] σ' H' s10/\(∀(j:Nat) v,(A4d ix σ)[j]? =some (some v)->σ'[j]? =some (some v))/\tn i s10.heap/\(∀b∈fp,H' b=none)/\W i m' H':=by
    intro s10 σ10 H10 m' I10 kk w10;refine ⟨i+1,σ10,H10,I10.unpinned,kk,T.keep _ _ _ st7 λb hb o e=>(I10.pin (b,o) (Z02 _ (Z02 _ (A2q hb e)))).1,λb hb=> ?_,w10⟩;obtain ⟨o,e,d⟩:=T.obj _ _ st7 b hb;exact (I10.pin (b,o) (Z02 _ (Z02 _ (A2q hb e)))).2.1
   refine Z00 (Z10 (ht _ _ _ _ _ s8 σ8 H8 _ I8 q8) (λok s9' h9'=> ?_) λ_ _ z=>z.elim);obtain ⟨H9',I9',q9'⟩:=h9'
   cases ok with
   | false =>
    have q9'':MM H9':=by simpa using q9'
    obtain ⟨m',hm',w9⟩:=hMM _ q9'';exact Z00 (Z04 (Z04 ⟨rfl,m',hm',back I9' kp8.get w9⟩))
   | true =>
    have q9'':te σ8 H9' NN:=by simpa using q9'
    refine Z00 (Z00 (Z10 (he _ _ _ _ _ s9' σ8 H9' _ I9' q9'') (λyv s9 h9=> ?_) λ_ _ z=>z.elim));obtain ⟨y,H9,I9,r9,n9⟩:=h9;obtain ⟨xs,hx9,hz9,m',hm',w9⟩:=hNN _ _ n9;refine Z00 (Z10 (A2d (X:=blk X N' scope cl s3.heap.objs.size s3 (upd H1 s2.heap.objs.size (.lst [])) fp) _ s9 σ8 H9 (.ref s2.heap.objs.size) [y] (.ref s2.heap.objs.size) [yv] (λ_ H'=>W (i+1) m' H') I9 rfl (.cons r9 .nil) ⟨_,xs,y,rfl,rfl,hx9,hz9,w9⟩) (λ_ s10 h10=> ?_) λ_ _ z=>z.elim);obtain ⟨_,H10,I10,_,w10⟩:=h10;exact Z04 (Z04 ⟨rfl,m',hm',back I10 kp8.get w10⟩)
 have e5:s3.heap.objs.size=(s2.heap.push { cls:= .type "list",data:= .seq ([]:List Value).toArray }).objs.size:=by rw [e3]
 rw [e5] at loop;exact codeAny_compStart_list (loop _ rfl) (T.self X.A 0 _ _ _ st3 (loop _ rfl))
theorem B8j {i₀:Nat} {x₀:Str} {pos₀ spos:Pos} {elt iter tg:Expr} {scope:Scope} {pos:Pos} {N':List Str} {ix:List (Option Nat)} {cl:List (Str×Addr)} {wi:TI} {g:TG} {te:TE} (hN₀:X.N.Nodup) (hi₀:X.N[i₀]? =some x₀) (hx₀:Loc X.env.scope x₀) (hc:X.calm=true) (ck:C7k X scope cl) (io:B1h X N' scope ix) (hi:PI X tg iter wi)
  (hg:∀C s₀ H₀ fp,PG (blk X N' scope cl C s₀ H₀ fp) tg g) (he:∀C s₀ H₀ fp,PE (blk X N' scope cl C s₀ H₀ fp) elt te) (hs:∀x,foldedSetIterable iter X.env x=pure x:=by intro _;rfl)
  (hsw:swapsWith (.ListComp elt [⟨tg,iter,[],0⟩] scope pos) (some (.Name x₀ pos₀)) spos.line X.env=pure true:=by rfl) (hf₀:X.fn x₀=true\/X.env.scope.names.lookup x₀=some .local:=by first | exact .inl rfl | exact .inr rfl | assumption) :
  PS X (.Assign [.Name x₀ pos₀] (.ListComp elt [⟨tg,iter,[],0⟩] scope pos) spos) (D6p (C8b ix wi g te) (B8n i₀)) :=
 C6h (tc:=λ_ H Q=>Q true H) hN₀ hi₀ hx₀ hc ck io hi hg (λ_ _ _ _ _ _ _ _ _ I h=>wpAny_tests_nil ⟨_,I,h⟩) he _ (λ_ _ _ _ R D2 hD=>by
  obtain ⟨W,w0,turn⟩:=R D2 hD;refine ⟨W,w0,λi m H2 w=>(turn i m H2 w).imp id λ⟨go,N,hN,step⟩=>⟨go,N,λ_=>False,hN,λ_ z=>z.elim,?_⟩⟩
  simpa using step) hs hsw hf₀
end
def CXF (P:Program) (w:World):CXT:=λouter H s E e s' =>
 ∃(ea C:Addr) (a0:Value) (H':Hp) (B:Heap),e= .ref ea/\s'.os=s.os/\AllBare s'.gens/\Un (frs outer) [] H H' s.heap s'.heap/\HOk P w H' s'.heap/\
  (∀b o,s.heap.get? b=some o->b∉frs outer->∃o',B.get? b=some o')/\(∀b o,H' b=some o->∃o',B.get? b=some o')/\
  Heap.FlyingW B outer ea (.ref C) a0 s'.heap/\E (.ref C) none H'
theorem A3m.at18 {P:Program} {w:World} {H:Hp} {h:Heap} {a:Addr} {o:HO} (x:A3m P w H h a o):∃u,h.get? a=some u:=by
 cases o with
 | lst xs=>obtain ⟨_,_,_,_,e⟩:=x;exact ⟨_,e⟩
 | tup xs=>obtain ⟨_,_,_,o,e,_⟩:=x;exact ⟨_,e⟩
 | dK kvs=>obtain ⟨_,_,_,_,o,_,_,e,_⟩:=x;exact ⟨_,e⟩
 | dT kvs=>obtain ⟨_,_,_,_,o,_,_,e,_⟩:=x;exact ⟨_,e⟩
 | set S n=>obtain ⟨o,_,_,_,e,_⟩:=x;exact ⟨_,e⟩
 | ins C dx fs=>obtain ⟨_,_,_,e,_⟩:=x;exact ⟨_,e⟩
 | own y=>obtain ⟨_,e⟩:=x;exact ⟨_,e⟩
 | xd fs=>obtain ⟨_,⟨_,_,_,e,_⟩,_⟩:=x;exact ⟨_,e⟩
 | rng lo hi=>obtain ⟨_,_,_,e⟩:=x;exact ⟨_,e⟩
 | frz ob u=>obtain ⟨e,_⟩:=x;exact ⟨_,e⟩
 | tbl ps=>exact ⟨_,(show h.get? a=some _ from x)⟩
 | met f y=>exact ⟨_,(show h.get? a=some _ from x)⟩
 | ext φ=>obtain ⟨_,⟨_,e⟩,_⟩:=x;exact ⟨_,e⟩
section
variable {X:Cx} {pins:List (Addr×Obj)} {σ:St} {H1 H':Hp} {s1:Shared} {B h1 h':Heap}
theorem C9a (I:Inv X pins σ H1 s1) (hx:X.ex=[]) (u:Un (frs X.stack) [] H1 H' s1.heap h1) (hb1:∀b o,s1.heap.get? b=some o->b∉frs X.stack->∃o',B.get? b=some o') (hst:B.StaysIn h1) (hst':B.StaysIn h') (up:h1.UpToSlots h') :
  Un X.fs [] X.H₀ H' X.s₀.heap h'/\∀b o,X.s₀.heap.get? b=some o->b∉X.fs->∃o',B.get? b=some o':=by
 have a:Un X.fs [] X.H₀ H1 X.s₀.heap s1.heap:=by
  have z:=I.base;rw [hx] at z;exact z
 have no:∀b:Addr,b∉([]:List Addr):=λb=>by simp
 have nst:∀b o,X.s₀.heap.get? b=some o->b∉X.fs->b∉frs X.stack:=λb o e hb m =>
  (Z0e.mp (I.stkSub b m)).elim (Z0h (Z0q (Z0a e) I.ok.above)) hb
 have B1:∀b o,X.s₀.heap.get? b=some o->b∉X.fs->∃o',B.get? b=some o':=λb o e hb=>by
  obtain ⟨o1,e1⟩:=a.there b o e (no b);exact hb1 b o1 e1 (nst b o e hb)
 have slot:∀b o,X.s₀.heap.get? b=some o->X.H₀ b=none->b∈X.fs->∃sl,h'.get? b=some { o with slots:=sl }:=λb o e n hb=>by
  obtain ⟨sl,e1⟩:=a.slot b o e n hb (no b);obtain ⟨sl2,e2⟩:=u.any e1 (a.free b o e n (no b)) (no b);obtain ⟨_,of,ho,hd⟩:=I.ok.funs.mem hb;rw [e] at ho;cases ho;obtain ⟨sl3,e3⟩:=up b _ e2 hd;exact ⟨sl3,e3⟩
 refine ⟨⟨λb o e n hb _=> ?_,λb o e n hb _=>slot b o e n hb,λb o e n _=> ?_,λb o e _=> ?_,λb xs e=>u.tups b xs (a.tups b xs e),λb o v e=>u.frzs b o v (a.frzs b o v e),λb ps e=> ?_⟩,B1⟩
 ·have e2:=u.keep b o (a.keep b o e n hb (no b)) (a.free b o e n (no b)) (nst b o e hb) (no b);obtain ⟨o',eB⟩:=B1 b o e hb;have e3:=hst b o' eB;rw [e2] at e3;cases e3;exact hst' b o eB
 ·obtain ⟨o1,e1⟩:=a.there b o e (no b);exact u.free b o1 e1 (a.free b o e n (no b)) (no b)
 ·by_cases hb:b∈X.fs
  ·obtain ⟨sl,q⟩:=slot b o e (I.ok.frf b hb) hb;exact ⟨_,q⟩
  ·obtain ⟨o',eB⟩:=B1 b o e hb;exact ⟨o',hst' b o' eB⟩
 ·obtain ⟨m1,e1⟩:=a.tbls b ps e;obtain ⟨m2,e2⟩:=u.tbls b _ e1;exact ⟨m1++m2,by rw [e2,Array.append_assoc]⟩
theorem B7m {P:Program} {w:World} (ok:HOk P w H' h1) (b2:∀b o,H' b=some o->∃o',B.get? b=some o') (hst:B.StaysIn h1) (hst':B.StaysIn h'):HOk P w H' h':=λa o e =>
 (ok a o e).stay (λb u hb q=>by
  have:∃o',B.get? b=some o':=by
   rcases hb with rfl | hb
   ·exact b2 _ _ e
   ·exact b2 _ _ hb
  obtain ⟨o',eB⟩:=this;have z:=hst b o' eB;rw [q] at z;cases z
  exact hst' b u eB) (λ_ q=>q) λ_ _ q=>q
end
section
variable {P:Program} {w:World} {K:Frag} {mg:Str->Option Value} {base:Heap} {N:List Str} {qual:Str} {scope:Scope} {f:Addr} {cd:Value} {A:Around} {outer:List Env} {s:Shared} {H:Hp} {E:XK}
theorem A2c:A8v (CXF P w) (C3e (CXF P w) P w K mg base N qual scope f cd A outer s H E) E:=by
 intro pins σ H1 s1 e s' I hcx;obtain ⟨ea,C,a0,H',B,rfl,os,bare,un,hok,b1,b2,fl,q⟩:=hcx;refine wpAny_leaves_onW I.ok.frames rfl fl λh' fl' up=> ?_;obtain ⟨un',b1'⟩:=C9a I rfl un b1 fl.1 fl'.1 up;exact ⟨ea,C,a0,H',B,rfl,os.trans I.os,bare,un',B7m hok b2 fl.1 fl'.1,b1',b2,fl',q⟩
def C9n (X:Cx) (C:Addr) (E:XK):Prop:=∀(pins:List (Addr×Obj)) (σ:St) (H:Hp) (s:Shared) (h':Heap) (e:Addr) (vs:List Value),Inv X pins σ H s->Heap.MadeExcOf s.heap h' e (.ref C) vs->E (.ref C) none H->X.xe (.ref e) { s with heap:=h' }
theorem A5m {C:Addr}:C9n (C3e (CXF P w) P w K mg base N qual scope f cd A outer s H E) C E:=by
 intro pins σ H1 s1 h1 e vs I hx q;have stk:(C3e (CXF P w) P w K mg base N qual scope f cd A outer s H E).stack=envOfC qual scope s.heap.objs.size f cd::outer:=rfl;have kB:∀b o,s1.heap.get? b=some o->b∉frs (envOfC qual scope s.heap.objs.size f cd::outer)->(hideAll s1.heap (frs (envOfC qual scope s.heap.objs.size f cd::outer))).get? b=some o:=λb o e hb=>PySem.W.hideAll_get _ e hb
 refine wpAny_leaves_madeW (base:=hideAll s1.heap (frs (envOfC qual scope s.heap.objs.size f cd::outer))) I.ok.frames rfl (λb o z=>PySem.W.of_hideAll _ z)
  (PySem.W.funFrames_hide I.stack λenv he b hb=>List.mem_filterMap.mpr ⟨env,he,hb⟩) hx λh' t fl _ _ up=> ?_
 have b2:∀b o,H1 b=some o->∃o',(hideAll s1.heap (frs (envOfC qual scope s.heap.objs.size f cd::outer))).get? b=some o':=λb o z=>by
  obtain ⟨u,hu⟩:=(I.hok b o z).at18;refine ⟨u,kB b u hu λm=> ?_⟩;have:=I.stkFree b m;rw [z] at this;cases this
 obtain ⟨un',b1'⟩:=C9a (B:=hideAll s1.heap (frs (envOfC qual scope s.heap.objs.size f cd::outer))) I rfl (Un.kept hx.keeps) (λb o z hb=>⟨o,kB b o z hb⟩) (λb o z=>hx.keeps b o (PySem.W.of_hideAll _ z)) fl.1 up;exact ⟨e,C,.ref t,H1,_,rfl,I.os,I.bare,un',B7m (I.hok.kept hx.keeps) b2 (λb o z=>hx.keeps b o (PySem.W.of_hideAll _ z)) fl.1,b1',b2,fl,q⟩
end
theorem D1r {K:Frag} {h:Heap} {C:Addr} {bmB:List Value} {newId:String} (X:K.In h) (q:excIn K C bmB newId=true) :
  ∃(nm qn:Str) (N:Addr) (bs bm:List Value) (hdct:Bool) (sn:List Str) (sub:List Value) (ab:Bool) (col:Option Bool) (dd:Option Addr) (k0 k1 k2 k3 k5:Option Value) (mN:Str->Option Value),
   h.get? C=some (excClassObj nm qn C N bs bm hdct sn sub ab col dd k0 k1 k2 k3 k5 newId)/\h.Ns N mN/\mN "__init__"=none/\OwnTail h bmB bm:=by
 cases lk:K.lookup C with
 | none=>simp [excIn,lk] at q
 | some ob =>
  have there:=X _ _ lk;unfold excIn at q;rw [lk] at q;split at q
  case h_2=>cases q
  case h_1 dct cls parts same =>
   injection same with same;subst same;split at q
   case h_2=>cases q
   case h_1 own tl p0 p1 p2 p3 made p5 along row =>
    repeat rw [Z1x] at q
    have w1:own=C:=beq_iff_eq.mp q.1.1.1.1.1;have w2:made=newId:=beq_iff_eq.mp q.1.1.1.1.2;have w3:cls.hasDel=false:=by simpa using q.1.1.1.2
    have w4:=beq_iff_eq.mp q.2;subst w1 w2;have sl:parts= #[p0,p1,p2,p3,some (.builtin made),p5]:=Array.toList_inj.mp row;rw [sl] at there;cases cls;dsimp only at along w3 w4 q;rw [along,w3] at there;exact ⟨_,_,_,_,tl,_,_,_,_,_,dct,p0,p1,p2,p3,p5,_,there,Heap.Ns.of_isNs (PySem.W.isNs_of_in X q.1.2),PySem.W.nsMap_none_of_in X q.1.2 w4,PySem.W.tail_of_in X q.1.1.2⟩
abbrev D7f:List Value:=[.type "ValueError",.type "Exception",.type "BaseException",.type "object"]
def D3c (C:Addr) (E:XK) (t:TA):TS:=λ_ σ H=>t σ H λvs H1=>vs.length<=sizeLine/\E (.ref C) none H1
theorem A3b {X:Cx} {C:Addr} {E:XK} {x:Str} {np cpos pos:Pos} {e:Expr} {es:List Expr} {t:TA} (hT:C9n X C E) (q:excIn X.K C D7f "ValueError.__new__"=true) (hg:Gl X x) (hm:X.mg x=some (.ref C)) (hc:X.calm=true)
  (ha:PA X (e::es) t) (hdb:(x == ("__debug__":Str))=false:=by decide) (he:starEach (e::es) X.env=(false,eval e X.env)::starEach es X.env:=by rfl) (hpl:(backTo cpos (starEach es X.env)).any (·.1)=false:=by rfl) :
  PS X (.Raise (some (.Call (.Name x np) (e::es) [] cpos)) none pos) (D3c C E t):=by
 intro pins s σ H D I h;obtain ⟨nm,qn,N,bs,bm,hdct,sn,sub,ab,col,dd,k0,k1,k2,k3,k5,mN,hC,hN,hni,T⟩:=D1r I.mod.kin q;have kb:∀{s2:Shared} {σ2:St} {H2:Hp},Inv X pins σ2 H2 s2->∀b o,X.base.get? b=some o->s2.heap.get? b=some o:=λI2=>I2.bk
 have hpl':(backTo cpos (starEach (e::es) X.env)).any (·.1)=false:=by
  rw [he];exact hpl
 refine wpAny_Raise_call_subU (C:=C) (nm:=nm) (q:=qn) (N:=N) (bs:=bs) (bm:=bm) (hdct:=hdct) (sn:=sn) (sub:=sub) (ab:=ab) (col:=col) (dd:=dd) (k0:=k0) (k1:=k1) (k2:=k2) (k3:=k3) (k5:=k5) (mN:=mN) (bmB:=D7f)
  PySem.F.excBase_ValueError (by decide +kernel) PySem.F.excBase_ValueError (T.hasType (by decide +kernel)) (I.ok.hd hc) hpl' hni ?_
 refine A8h I hg hm ⟨rfl,?_⟩ hdb
 have hA:=thn (ha cpos pins s σ H _ I h) (Q':=λus s2=>us.length<=sizeLine/\s2.heap.get? C=some (excClassObj nm qn C N bs bm hdct sn sub ab col dd k0 k1 k2 k3 k5 "ValueError.__new__")/\s2.heap.Ns N mN/\OwnTail s2.heap D7f bm/\
    ∀h' e,Heap.MadeExcOf s2.heap h' e (.ref C) us->X.xe (.ref e) { s2 with heap:=h' }) λus s2 ⟨vs,H2,I2,r,hl,hE⟩ =>
  ⟨r.length▸hl,kb I2 _ _ hC,hN.keeps (kb I2),T.keeps (kb I2),λh' e hx=>hT pins σ H2 s2 h' e us I2 hx hE⟩
 rw [he] at hA⊢;exact Calls.evalArgs_plain (thn hA (by rintro us s2 ⟨a,b,c,d,k⟩;exact ⟨rfl,a,b,c,d,k⟩))
abbrev Cx.held (X:Cx) (ea:Addr):Cx:={ X with A:=X.A.mark (some (.ref ea)),calm:=false,xe:=λ_ _=>False }
theorem Cx.Ok.held {X:Cx} (ok:X.Ok) (ea:Addr):(X.held ea).Ok :=
 ⟨ok.mod,ok.kind,ok.glob,ok.blt,ok.above,ok.inj,ok.has,ok.cab,λz=>(by cases z),ok.frames,ok.stk,ok.exf,ok.bs,ok.bsz,ok.noex,ok.exfs,ok.funs,ok.frf⟩
section
variable {X:Cx} {pins:List (Addr×Obj)} {σ:St} {H H1:Hp} {s s1:Shared} {ea C:Addr} {a0:Value} {B:Heap}
theorem Inv.held (I:Inv X pins σ H s) (ea:Addr):Inv (X.held ea) pins σ H s:=⟨I.ok.held ea,I.os,I.bare,I.base,I.loc,I.cell,I.free,I.freeC,I.pin,I.hok,I.len⟩
theorem Inv.unheld (I:Inv (X.held ea) pins σ H s) (ok:X.Ok):Inv X pins σ H s:=⟨ok,I.os,I.bare,I.base,I.loc,I.cell,I.free,I.freeC,I.pin,I.hok,I.len⟩
theorem A9i {M:Model} {A:Around} {E:Value->Shared->Prop} {i:Nat} {x:Str} {pos:Pos} {Q:Unit->Shared->Prop} (I:Inv X pins σ H s) (hN:X.N.Nodup) (hi:X.N[i]? =some x) (hx:X.env.scope.names.lookup x=some .local)
  (h:∀s',Inv X pins (σ.set i none) H s'->Q () s'):wpAny M A (do bindName X.env x .none;unbindBehindTheSuite X.env x pos) Q E s:=by
 refine Z00 (wpAny_bindName (B1m (v:= .non) (u:= .none) I hN hi (.inl hx) rfl (λs1 I1=> ?_) (.inr hx)));unfold unbindBehindTheSuite;refine wpAny_onRaise ?_;obtain ⟨m,hn,hl⟩:=id I1.loc;have hcls:(X.env.scope.kind == .class||(X.env.scope.kind == .module&&X.env.locals != X.env.globals))=false:=by rw [I1.ok.kind];rfl
 have hiσ:i<σ.length:=by rw [I.len];exact (Z03.mp hi).1
 have cne:=I1.cne;have hk:X.env.kindOf x=some .local:=hx;obtain ⟨u,ru,hu⟩:=hl i x .non hi (Z23 hiσ) (.inl hx)
 have hm:m x=some u:=by
  rcases hu with ⟨_,e⟩ | ⟨k,_⟩
  ·exact e
  ·rw [hk] at k;rcases k with k | k <;> cases k
 refine wpAny_unbindName_local hk hn hm hcls λh' v hn' hs=> ?_;obtain ⟨oL,_,_,hoL,_⟩:=id hn;refine h _ ⟨I1.ok,I1.os,I1.bare,⟨λb o e n hb hx=> ?_,λb o e n hb hx=> ?_,I1.base.free,λb o e hx=> ?_,I1.base.tups,I1.base.frzs,I1.base.tbls⟩,⟨_,hn',λj y v' e1 e2 e3=> ?_⟩,λy c e=> ?_,I1.free,I1.freeC,λp hp=> ?_,λb ob e=> ?_,by simpa using I.len⟩
 ·exact (hs.2 b (Z0h (Z0q (Z0a e) I1.ok.above))).trans (I1.base.keep b o e n hb hx)
 ·obtain ⟨sl,e1⟩:=I1.base.slot b o e n hb hx;exact ⟨sl,(hs.2 b (Z0h (Z0q (Z0a e) I1.ok.above))).trans e1⟩
 ·obtain ⟨o',e1⟩:=I1.base.there b o e hx;exact ⟨o',(hs.2 b (Z0h (Z0q (Z0a e) I1.ok.above))).trans e1⟩
 ·by_cases hj:j=i
  ·subst hj;rw [Z23 hiσ] at e2;cases e2
  ·rw [Z2a (Ne.symm hj)] at e2;obtain ⟨u',r',q⟩:=hl j y v' e1 (by rw [Z2a (Ne.symm hj)];exact e2) e3;refine ⟨u',r',?_⟩;rcases q with ⟨k,e⟩ | ⟨k,c,e,z⟩
   ·refine .inl ⟨k,?_⟩;have:y≠x:=λe=>hj (B4o hN e1 (e▸hi));simp [this,e]
   ·exact .inr ⟨k,c,e,z.sameBut hs (cne y c e)⟩
 ·obtain ⟨w',z⟩:=I1.cell y c e;exact ⟨w',z.sameBut hs (cne y c e)⟩
 ·obtain ⟨e,n,ne,nf,d⟩:=I1.pin p hp;exact ⟨(hs.2 p.1 ne).trans e,n,ne,nf,d⟩
 ·refine (I1.hok b ob e).stay (λc w' hc q=>(hs.2 c ?_).trans q) (λ_ q=>q) λ_ _ q=>q;rintro rfl;rcases hc with rfl | hc
  ·rw [I1.free] at e;cases e
  ·rw [I1.free] at hc;cases hc
def xcF (ea C:Addr):Heap->Prop:=λh=>∃o vs,h.get? ea=some o/\o.cls= .ref C/\o.data= .fields vs
theorem Inv.track (I1:Inv X pins σ H1 s1) (I:Inv X pins σ H s) (hn:s1.heap.get? ea=none) (hH:H ea=none) (hx:xcF ea C s.heap):Inv X pins σ (upd H ea (.ext (xcF ea C))) s:=by
 have ne1:∀b o,s1.heap.get? b=some o->b≠ea:=λb o e z=>by
  rw [z,hn] at e;cases e
 have up:∀b o,H b=some o->upd H ea (.ext (xcF ea C)) b=some o:=λb o e=>by
  rw [A0l (A0r e hH)];exact e
 refine ⟨I.ok,I.os,I.bare,⟨I.base.keep,I.base.slot,λb o e n hb=> ?_,I.base.there,λb xs e=>up _ _ (I.base.tups b xs e),λb o u e=>up _ _ (I.base.frzs b o u e),λb ps e=> ?_⟩,I.loc,I.cell,?_,λx c e=> ?_,λp hp=> ?_,λb o e=> ?_,I.len⟩
 ·obtain ⟨o1,e1⟩:=I1.base.there b o e hb;rw [A0l (ne1 b o1 e1)];exact I.base.free b o e n hb
 ·obtain ⟨m,q⟩:=I.base.tbls b ps e;exact ⟨m,up _ _ q⟩
 ·obtain ⟨m,⟨o,_,_,ho,_⟩,_⟩:=I1.loc;rw [A0l (ne1 _ o ho)];exact I.free
 ·obtain ⟨v,o,ho,_⟩:=I1.cell x c e;rw [A0l (ne1 _ o ho)];exact I.freeC x c e
 ·obtain ⟨e,n,r⟩:=I.pin p hp;have e1:=(I1.pin p hp).1;exact ⟨e,by rw [A0l (ne1 _ _ e1)];exact n,r⟩
 ·by_cases hb:b=ea
  ·subst hb;rw [A0c] at e;cases e;obtain ⟨o,vs,q⟩:=id hx;exact ⟨hx,⟨o,q.1⟩,(by rintro h1 h2 ⟨o,vs,q1,q2⟩ k;exact ⟨o,vs,k o q1,q2⟩)⟩
  ·rw [A0l hb] at e;exact (I.hok b o e).stay (λ_ _ _ q=>q) (λc q=>up _ _ q) λc xs q=>up _ _ q
structure A8i (X:Cx) (pins:List (Addr×Obj)) (σ:St) (H1:Hp) (s1:Shared) (H:Hp) (B:Heap) (ea C:Addr) (a0:Value) (s:Shared):Prop where
 i1:Inv X pins σ H1 s1
 os:s.os=s1.os
 bare:AllBare s.gens
 un:Un (frs X.stack) [] H1 H s1.heap s.heap
 hok:HOk X.prog X.w H s.heap
 b1:∀b o,s1.heap.get? b=some o->b∉frs X.stack->∃o',B.get? b=some o'
 b2:∀b o,H b=some o->∃o',B.get? b=some o'
 fl:Heap.FlyingW B X.stack ea (.ref C) a0 s.heap
theorem A8i.inv (F:A8i X pins σ H1 s1 H B ea C a0 s):Inv X pins σ H s:=F.i1.call' F.os F.un F.hok F.bare (ch:=[]) (λb z=>absurd z (by simp))
theorem A8i.step (F:A8i X pins σ H1 s1 H B ea C a0 s) {h':Heap} (fl':Heap.FlyingW B X.stack ea (.ref C) a0 h') (up:s.heap.UpToSlots h'):A8i X pins σ H1 s1 H B ea C a0 { s with heap:=h' }:=by
 have no:∀b:Addr,b∉([]:List Addr):=λb=>by simp
 have u:=F.un
 have slot:∀b o,s1.heap.get? b=some o->H1 b=none->b∈frs X.stack->∃sl,h'.get? b=some { o with slots:=sl }:=λb o e n hb=>by
  obtain ⟨sl,e1⟩:=u.slot b o e n hb (no b);obtain ⟨_,of,ho,hd⟩:=F.i1.stack.mem hb;rw [e] at ho;cases ho;obtain ⟨sl3,e3⟩:=up b _ e1 hd;exact ⟨sl3,e3⟩
 refine ⟨F.i1,F.os,F.bare,⟨λb o e n hb _=> ?_,λb o e n hb _=>slot b o e n hb,u.free,λb o e _=> ?_,u.tups,u.frzs,u.tbls⟩,B7m F.hok F.b2 F.fl.1 fl'.1,F.b1,F.b2,fl'⟩
 ·have e2:=u.keep b o e n hb (no b);obtain ⟨o',eB⟩:=F.b1 b o e hb;have e3:=F.fl.1 b o' eB;rw [e2] at e3;cases e3;exact fl'.1 b o eB
 ·by_cases hb:b∈frs X.stack
  ·obtain ⟨sl,q⟩:=slot b o e (F.i1.stkFree b hb) hb;exact ⟨_,q⟩
  ·obtain ⟨o',eB⟩:=F.b1 b o e hb;exact ⟨o',fl'.1 b o' eB⟩
theorem A8i.new (F:A8i X pins σ H1 s1 H B ea C a0 s):s1.heap.get? ea=none:=by
 cases q:s1.heap.get? ea with
 | none=>rfl
 | some o =>
  by_cases hb:ea∈frs X.stack
  ·obtain ⟨sl,e1⟩:=F.un.slot ea o q (F.i1.stkFree ea hb) hb (by simp);obtain ⟨_,of,ho,hd⟩:=F.i1.stack.mem hb;rw [q] at ho;cases ho;obtain ⟨oe,vs,e2,_,e3,_⟩:=F.fl.first;rw [e1] at e2;cases e2;exact absurd e3 (hd vs)
  ·obtain ⟨o',eB⟩:=F.b1 ea o q hb;rw [F.fl.2.1] at eB;cases eB
theorem A8i.no (F:A8i X pins σ H1 s1 H B ea C a0 s):H ea=none:=by
 cases q:H ea with
 | none=>rfl
 | some o =>
  obtain ⟨o',eB⟩:=F.b2 ea o q;rw [F.fl.2.1] at eB;cases eB
theorem A8i.cls (F:A8i X pins σ H1 s1 H B ea C a0 s):xcF ea C s.heap:=by
 obtain ⟨oe,vs,e,c,d,_⟩:=F.fl.first;exact ⟨oe,vs,e,c,d⟩
theorem A8i.tracked (F:A8i X pins σ H1 s1 H B ea C a0 s):Inv X pins σ (upd H ea (.ext (xcF ea C))) s:=F.i1.track F.inv F.new F.no F.cls
end
def PH (X:Cx) (hs:List ExceptHandler) (C:Addr) (th:Addr->TS):Prop :=
 ∀(pins:List (Addr×Obj)) (σ:St) (H1:Hp) (s1:Shared) (H:Hp) (B:Heap) (ea:Addr) (a0:Value) (s:Shared) (D:B9t),A8i X pins σ H1 s1 H B ea C a0 s->th ea D σ H->wpAny (model X.prog X.w) X.A (handleBy (.ref ea) X.env hs) (SP X pins D) X.xe s
section
variable {X:Cx} {C C':Addr} {y n:Str} {yp hpos:Pos} {b₀:Stmt} {suite:List Stmt} {rest:List ExceptHandler} {th:Addr->TS} {i:Nat}
theorem D3f {M:Model} {K:Frag} {h:Heap} {ea:Addr} {c:Value} {b:Bool} (X:K.In h) (hx:xcF ea C h) (e:exmOne K (.ref C) c=some b):PySem.W.Looks M h (excMatches (.ref ea) c) b:=by
 obtain ⟨o,vs,ho,hc,_⟩:=hx
 have LT:PySem.W.Looks M h (typeOf (.ref ea)) (.ref C):=by
  have z:PySem.W.Looks M h (typeOf (.ref ea)) o.cls:=(PySem.W.Looks.ld ho).andThen .now;rw [hc] at z;exact z
 exact PySem.W.exm_one X LT e
def tHit (i:Nat) (C:Addr) (ts:TS):Addr->TS:=λea D σ H=>ts { nx:=λσ' H'=>D.nx (σ'.set i none) H',rt:=D.rt,bk:=λσ' H'=>D.bk (σ'.set i none) H',ct:=λσ' H'=>D.ct (σ'.set i none) H' } (σ.set i (some (.ref ea))) (upd H ea (.ext (xcF ea C)))
theorem D3m {ts:TS} (hg:Gl X y) (hm:X.mg y=some (.ref C')) (q:exmOne X.K (.ref C) (.ref C')=some true) (hN:X.N.Nodup) (hi:X.N[i]? =some n) (hx:X.env.scope.names.lookup n=some .local)
  (hs:∀ea,PSs (X.held ea) (b₀::suite) ts) (hd:(y == ("__debug__":Str))=false:=by decide) :
  PH X (.ExceptHandler (some (.Name y yp)) (some n) (b₀::suite) hpos::rest) C (tHit i C ts):=by
 intro pins σ H1 s1 H B ea a0 s D F h;refine wpAny_handleBy_cons (codeAny_handlers_test ?_) (by intro q;cases q);refine A8h (X:=X.held ea) (F.inv.held ea) hg hm ?_ hd;refine (D3f F.inv.kIn F.cls q).here (codeAny_handlers_suite_as ?_);refine lands_againW F.fl λh' fl' up=> ?_;have F':=F.step fl' up;refine B1m (X:=X.held ea) (v:= .ref ea) (F'.tracked.held ea) hN hi (.inl hx) rfl (λs2 I2=> ?_) (.inr hx);refine Z10 (hs ea pins s2 _ _ _ I2 h) (λf s3 hf=> ?_) λ_ _ z=>False.elim z;dsimp only
 cases f with
 | next =>
  obtain ⟨σ',H',I',r⟩:=hf;exact A9i (I'.unheld F.i1.ok) hN hi hx λs4 I4=>⟨_,H',I4,r⟩
 | brk =>
  obtain ⟨σ',H',I',r⟩:=hf;exact A9i (I'.unheld F.i1.ok) hN hi hx λs4 I4=>⟨_,H',I4,r⟩
 | cont =>
  obtain ⟨σ',H',I',r⟩:=hf;exact A9i (I'.unheld F.i1.ok) hN hi hx λs4 I4=>⟨_,H',I4,r⟩
 | ret u =>
  obtain ⟨v,σ',H',I',rv,r⟩:=hf;exact A9i (I'.unheld F.i1.ok) hN hi hx λs4 I4=>⟨v,_,H',I4,rv,r⟩
end
abbrev TX:=St->Hp->VK->XK->Prop
def PX (X:Cx) (e:Expr) (t:TX):Prop :=
 ∀(pins:List (Addr×Obj)) (s:Shared) (σ:St) (H:Hp) (Q:VK) (E:XK),Inv X pins σ H s->t σ H Q E->
  wpAny (model X.prog X.w) X.A (eval e X.env) (EP X pins σ Q) (λe s'=>∃H1 s1,Inv X pins σ H1 s1/\CXF X.prog X.w X.stack H1 s1 E e s') s
def D4z (sp:Sp) (t:TA):TX:=λσ H Q E=>t σ H λvs H1=>sp vs H1 Q E
section
variable {X:Cx} {k:Nat} {f:Addr} {fd:FuncData} {ps:List Str} {sp:Sp} {x:Str} {p pos:Pos} {e:Expr} {es:List Expr} {t:TA}
theorem D1v (F:A3e X.prog X.w X.K X.mg X.base (CXF X.prog X.w) k f fd ps sp) (hr:A9n k X.A) (hg:Gl X x) (hm:X.mg x=some (.ref f)) (hk:keepIn X.K (.ref f)=true) (hb:B0a X.K fd ps [])
  (ha:PA X.nox (e::es) t) (hdb:(x == ("__debug__":Str))=false:=by decide) (he:starEach (e::es) X.env=(false,eval e X.env)::starEach es X.env:=by rfl) (hpl:(backTo pos (starEach es X.env)).any (·.1)=false:=by rfl) :
  PX X (.Call (.Name x p) (e::es) [] pos) (D4z sp t):=by
 intro pins s σ H Q E I h;refine wpAny_Call_Name_kw (A8h I hg hm ?_ hdb)
 have hA:wpAny (model X.prog X.w) X.A (spliced (backTo pos (starEach (e::es) X.env))) (AP X pins σ λvs H1=>sp vs H1 Q E) (λe s'=>∃H1 s1,Inv X pins σ H1 s1/\CXF X.prog X.w X.stack H1 s1 E e s') s :=
  Z10 (ha pos pins s σ H _ (I.wish _) h) (by rintro us s1 ⟨vs,H1,I1,r,q⟩;exact ⟨vs,H1,I1.unwish,r,q⟩) λ_ _ z=>False.elim z
 refine PySem.W.callWith_K (h₀:=X.base) I.ok.mod.kin hk (thn hA λus s1 ⟨vs,H1,I1,r,q⟩=>⟨I1.kIn,?_⟩) he hpl;have hl:us.length=ps.length:=by rw [<-r.length];exact F.len _ _ _ _ q
 have hb':=hb s1 us I1.kIn (by simpa using hl);rw [Z0u] at hb';refine wpAny_call (codeAny_mono (F.run X.A X.stack s1 H1 ⟨us,[]⟩ us vs Q E hr I1.env0 hb' r q) λr s' hq=> ?_)
 cases r with
 | error e=>exact ⟨H1,s1,I1,hq⟩
 | ok fl =>
  cases fl with
  | ret u=>exact I1.after hq
  | next=>exact False.elim hq
  | brk=>exact False.elim hq
  | cont=>exact False.elim hq
end
section
variable {X:Cx} {hs:List ExceptHandler} {h₀:ExceptHandler} {e:Expr} {tx:TX} {pos epos npos:Pos} {i:Nat} {n:Str}
def D8n (X:Cx) (hs:List ExceptHandler) (D:B9t) (σ:St):XK:=λc _ H2=>∃(C:Addr) (th:Addr->TS),c= .ref C/\PH X hs C th/\∀ea,H2 ea=none->th ea D σ H2
theorem C0w {pins:List (Addr×Obj)} {σ:St} {D:B9t} {H1:Hp} {s1 s':Shared} {ev:Value} (hst:X.stack=X.env::X.outer/\X.env.frame=some X.env.locals) (I1:Inv X pins σ H1 s1)
  (hc:CXF X.prog X.w X.stack H1 s1 (D8n X (h₀::hs) D σ) ev s') :
  wpAny (model X.prog X.w) X.A (noteFrame ev X.env) (λ_ s₂=>wpAny (model X.prog X.w) X.A (setFlight ev none) (λ_ s₃=>wpAny (model X.prog X.w) X.A (handleBy ev X.env (h₀::hs)) (SP X pins D) X.xe s₃) X.xe s₂) X.xe s':=by
 obtain ⟨ea,C,a0,H',B,rfl,os,bare,un,hok,b1,b2,fl,q⟩:=hc;obtain ⟨C',th,hC,hP,q⟩:=q;cases hC;have F:A8i X pins σ H1 s1 H' B ea C a0 s':=⟨I1,os,bare,un,hok,b1,b2,fl⟩
 have hfr:X.A.frames=some (X.env::X.outer):=by
  rw [<-hst.1];exact I1.ok.frames
 have fl0:Heap.FlyingW B (X.env::X.outer) ea (.ref C) a0 s'.heap:=by
  rw [<-hst.1];exact fl
 refine wpAny_looks_onW hfr hst.2 fl0 λh4 held up4=> ?_;refine wpAny_landsW held λh5 fl5 up5=> ?_
 have fl5':Heap.FlyingW B X.stack ea (.ref C) a0 h5:=by
  rw [hst.1];exact fl5
 exact hP pins σ H1 s1 H' B ea a0 _ D (F.step fl5' (up4.trans up5)) (q ea F.no)
def D7x (X:Cx) (hs:List ExceptHandler) (tx:TX):TS:=λD σ H=>tx σ H (λ_ H1=>D.nx σ H1) (D8n X hs D σ)
theorem D1n (hst:X.stack=X.env::X.outer/\X.env.frame=some X.env.locals) (he:PX X e tx) (hs':swapsWith e none epos.line X.env=pure false:=by rfl) :
  PS X (.Try [.Expr e epos] (h₀::hs) [] [] pos) (D7x X (h₀::hs) tx):=by
 intro pins s σ H D I h;refine wpAny_Try_except (Z10 (Q:=λf s1=>f= .next/\∃σ' H',Inv X pins σ' H' s1/\D.nx σ' H') (E:=λe s'=>∃H1 s1,Inv X pins σ H1 s1/\CXF X.prog X.w X.stack H1 s1 (D8n X (h₀::hs) D σ) e s') ?_ (λf s1 q=> ?_) (by rintro ev s1 ⟨H1,s2,I1,hc⟩;exact C0w hst I1 hc))
 ·exact wpAny_execs_cons (wpAny_Expr_any (thn (he pins s σ H _ _ I h) (by rintro v s1 ⟨y,H1,I1,r1,q1⟩;exact Z2b ⟨rfl,σ,H1,I1,q1⟩)) I.quiet hs')
 ·obtain ⟨rfl,q⟩:=q;exact Z2b q
end
section
variable {P:Program} {w:World} {K:Frag} {mg:Str->Option Value} {base:Heap}
theorem Fun.okF {x qual:Str} {st:Stmt} {f:Addr} {fd:FuncData} {N ps:List Str} {k:Nat} {sp:Sp} (F:Fun K x qual st f fd) (S:A0o N ps (A0i st)) (len:∀vs H Q E,sp vs H Q E->vs.length=ps.length)
  (hbody:∀(cdv:Value) (A:Around) (outer:List Env) (s:Shared) (H:Hp) (vs:List V) (Q:VK) (E:XK),A9n k (A.deeper (envOfC qual (A0i st) s.heap.objs.size f cdv))->sp vs H Q E->
   ∃t,PSs (C3e (CXF P w) P w K mg base N qual (A0i st) f cdv A outer s H E) (A5w st) t/\t { nx:=λ_ H'=>Q .non H',rt:=Q } (B5k N vs) H):A3e P w K mg base (CXF P w) (k+1) f fd ps sp:=by
 obtain ⟨oc,od,kV,doc,pm,an,cdv,ct,osl,rfl,lk,hcd⟩:=F.ex;exact D6i lk hcd S len λA outer s H vs Q E hr hsp=>hbody cdv A outer s H vs Q E hr hsp
end
theorem A5s {X:Cx} {x:Str} {v:V} {pos:Pos} (h:∃u,X.mg x=some u/\A2v v u) (hg:Gl X x) (hd:(x == ("__debug__":Str))=false:=by decide):PE X (.Name x pos) (tC v):=by
 obtain ⟨u,hm,r⟩:=h;exact λ_ _ _ H _ I q=>A8h I hg hm ⟨v,H,I,r,q⟩ hd
theorem D5t {K:Frag} {C D:Addr} {b:Bool} (hb:mroIn K D (.type "BaseException")=some true) (h1:isClsIn K D=true) (h2:typeIn K (.ref D)=some (.type "type")) (h3:mroIn K C (.ref D)=some b) :
  exmOne K (.ref C) (.ref D)=some b:=by
 unfold exmOne;have e:subIn K (.ref D) (.type "BaseException")=some true:=hb;have h1':(clsIn K D).isSome=true:=h1;rw [Z12 (by rw [e];rfl)];show (if ((clsIn K D).isSome&&typeIn K (.ref D) == some (.type "type"))=true then subIn K (.ref C) (.ref D) else none)=some b;rw [Z12 (by rw [h1',h2];rfl)];exact h3
end L2
namespace PySem.W
open PySem PySem.Spec PySem.Calls PyProof.Rows PySem.Builtin.ObjectAttr
structure XcIn (K:Frag) (C:Addr):Prop where
 ga:findIn K (.ref C) "__getattribute__"=some (some (.builtin "BaseException.__getattribute__"))
 gt:findIn K (.ref C) "__getattr__"=some none
 mB:mroIn K C (.type "BaseException")=some true
 mO:mroIn K C (.type "object")=some true
 cl:findIn K (.ref C) "__class__"=some (some (.builtin "object.__class__"))
 sp:specialIn K (.builtin "object.__class__") "__get__"=some (some (.builtin "getset_descriptor.__get__"))
 tk:takesIn K (.builtin "object.__class__")=some true
def KitE (a C:Addr) (h:Heap):Prop:=∃o,h.get? a=some o/\o.cls= .ref C
section
variable {prog:Program} {w:World} {A:Around} {E:Value->Shared->Prop} {h:Heap} {g:Array GenState} {d:Drawn} {t:Nat} {os:OsState} {a C:Addr} {o:Obj} {K:Frag} {name:Str}
theorem XcIn.cls (c:XcIn K C):∃cd,clsIn K C=some cd:=by
 obtain ⟨cd,h,_⟩:=Option.bind_eq_some_iff.mp c.mB;exact ⟨cd,h⟩
theorem KitE.type {M:Model} (p:KitE a C h):Looks M h (typeOf (.ref a)) (.ref C):=by
 obtain ⟨o,ho,hc⟩:=p;have z:Looks M h (typeOf (.ref a)) o.cls:=(Looks.ld ho).andThen .now
 rwa [hc] at z
theorem C7u {M:Model} {nv:Value} {Q:Unit->Shared->Prop} (X:K.In h) (c:XcIn K C) (ho:h.get? a=some o) (ok:o.cls= .ref C) (hq:Q () ⟨h,g,d,t,os⟩) :
  wpAny M A (checkBuiltinCall "BaseException.__getattribute__" ⟨[.ref a,nv],[]⟩) Q E ⟨h,g,d,t,os⟩:=by
 have sub:=looks_mroIn (M:=M) X c.mB;have ar:=F.args_bexc_ga (.ref a) nv;simp only [checkBuiltinCall,(by decide +kernel:builtinKind "BaseException.__getattribute__"=some .slot),(by decide +kernel:splitId "BaseException.__getattribute__"=some ("BaseException","__getattribute__"))];refine Z00 ?_;unfold isInstance
 repeat (first | (with_reducible refine Z1k ho ?_;rw [ok]) | (with_reducible refine sub.at ?_) | wp_step)
 exact hq
theorem D1e {M:Model} (X:K.In h) (c:XcIn K C):Looks M h (find (.ref a) (.ref C) "__class__") (.bind (.builtin "getset_descriptor.__get__") (.builtin "object.__class__")) :=
 (looks_findIn X c.cl).andThen ((show Looks M h (getOf (some (.builtin "object.__class__"))) (some (.builtin "getset_descriptor.__get__")) from looks_specialIn X c.sp).andThen
  ((show Looks M h (dataDescriptor? (some (.builtin "object.__class__")) (some (.builtin "getset_descriptor.__get__"))) (some (.builtin "getset_descriptor.__get__",.builtin "object.__class__")) from (looks_takesIn X c.tk).andThen .now).andThen (Looks.tag .now)))
theorem D3x {R:Result->Shared->Prop} (X:K.In h) (c:XcIn K C) (ho:h.get? a=some o) (ok:o.cls= .ref C) (hq:R (.ok (.ret (.ref C))) ⟨h,g,d,t,os⟩) :
  codeAny (model prog w) A (.call (.builtin "getset_descriptor.__get__") ⟨[.builtin "object.__class__",.ref a,.ref C],[]⟩) R ⟨h,g,d,t,os⟩:=by
 have ty:(⟨h,g,d,t,os⟩:Shared).TypeIs (.builtin "object.__class__") "getset_descriptor":=F.typeOf_object_class
 have sub:Looks (model prog w) h (isSubtype (.ref C) (.type (".".intercalate ("object.__class__".cutAt '.').dropLast))) true:=by
  rw [F.owner_object_class];exact looks_mroIn X c.mO
 refine codeAny_call_builtin F.slot_gs_get.plain F.entry_gs_get (F.slot_gs_get.check _ _ _ _ _ _ _ _ ty (F.args_gs_get _ _ _) ?_)
 repeat (any_goals (first | assumption | (with_reducible refine Z1k ho ?_;rw [ok]) | (with_reducible refine sub.at ?_) | wp_step))
 refine ⟨Code.quiet_builtin _ (by decide +kernel),codeAny_builtin F.entry_object_class ?_⟩
 repeat (any_goals (first | assumption | (with_reducible refine Z1k ho ?_;rw [ok]) | wp_step))
theorem C6z {tk:Tok} {Q:Fin->Shared->Prop} (X:K.In h) (c:XcIn K C) (ho:h.get? a=some o) (ok:o.cls= .ref C) (hq:Q (.done (.ret (.ref C))) ⟨h,g,d,t,os⟩) :
  wpAny (model prog w) A (Builtin.«object.__getattribute__» ⟨[.ref a,.str "__class__" tk],[]⟩) Q E ⟨h,g,d,t,os⟩:=by
 have L:=D1e (M:=model prog w) (a:=a) X c;unfold Builtin.«object.__getattribute__»
 repeat (any_goals (first | assumption | (with_reducible refine L.at ?_) | (with_reducible refine Z1k ho ?_;rw [ok]) | wp_step))
 refine D3x X c ho ok ?_
 repeat (any_goals (first | assumption | wp_step))
theorem E0j {tk:Tok} {fill expr:Bool} {v:Value} {Q:Value->Shared->Prop} (X:K.In h) (c:XcIn K C) (ho:h.get? a=some o) (ok:o.cls= .ref C)
  (hq:∀(A:Around) (R:Result->Shared->Prop),R (.ok (.ret v)) ⟨h,g,d,t,os⟩->codeAny (model prog w) A (.call (.builtin "BaseException.__getattribute__") ⟨[.ref a,.str name tk],[]⟩) R ⟨h,g,d,t,os⟩) (hh:handedIn v=true) (hQ:Q v ⟨h,g,d,t,os⟩) :
  wpAny (model prog w) A (getAttrBy (.ref a) (.str name tk) fill expr) Q E ⟨h,g,d,t,os⟩:=by
 have b:=F.attr_ValueError.ga.bind (.ref a);have L1:=looks_findIn (M:=model prog w) X c.ga;have L2:=looks_findIn (M:=model prog w) X c.gt;have n1:(Value.builtin "BaseException.__getattribute__" == Value.builtin "object.__getattribute__")=false:=by decide +kernel
 have n2:(onTheHeap (Value.ref C)&&Value.builtin "BaseException.__getattribute__" == Value.builtin "object.__getattribute__")=false:=by simp [n1]
 have n3:(expr&&onTheHeap (Value.builtin "BaseException.__getattribute__"))=false:=Bool.and_eq_false_iff.mpr (.inr rfl)
 repeat (any_goals (first | assumption | (with_reducible refine Z1k ho ?_;rw [ok]) | (with_reducible refine L1.at ?_) | (with_reducible refine L2.at ?_) | wp_step))
 refine hq _ _ ?_
 repeat (any_goals (first | assumption | wp_step))
 show wpAny _ _ (handedOut v) _ _ _;rw [handedOut_of hh];exact Z04 hQ
theorem C6l {Q:Option Value->Shared->Prop} {s:Shared} (X:K.In s.heap) (c:XcIn K C) (p:KitE a C s.heap) (hq:Q (some (.ref C)) { s with toks:=s.toks+1 }):wpAny (model prog w) A (getAttr? (.ref a) "__class__") Q E s:=by
 obtain ⟨o,ho,ok⟩:=p;obtain ⟨h,g,d,t,os⟩:=s;unfold getAttr? getAttrBy?
 have B:∀{A:Around} {E:Value->Shared->Prop} {Q:Value->Shared->Prop},Q (.ref C) ⟨h,g,d,t+1,os⟩->wpAny (model prog w) A (getAttrBy (.ref a) (.str "__class__" t) false) Q E ⟨h,g,d,t+1,os⟩:=λ{A E Q} hQ =>
  E0j X c ho ok (λA R hR=>codeAny_call_builtin F.attr_ValueError.ga.plain F.entry_bexc_ga (C7u X c ho ok (C6z X c ho ok hR))) rfl hQ
 repeat (any_goals (first | assumption | with_reducible apply B | wp_step))
theorem kitx_exc (c:XcIn K C):KitX K (.ref a) (.ref C) (KitE a C) where
 ty:=λ_ _ _ p=>p.type
 it:=λ_ _ X _=>by
  obtain ⟨cd,e⟩:=c.cls;intro A Q E s k q;unfold clsIn at e;split at e
  case h_1 there=>exact Z00 (wpAny_loadPart (k _ _ (X _ _ there)) (Z04 q))
  case h_2=>cases e
 ne:=λh tp dd its n sl X htp=>by
  obtain ⟨cd,e⟩:=c.cls;rw [Bool.eq_false_iff];intro q;cases beq_iff_eq.mp q;unfold clsIn at e;split at e
  case h_1 there=>cases (X _ _ there).symm.trans htp
  case h_2=>cases e
 ca:=λX p k=>C6l X c p k
end
end PySem.W
namespace L2
open PySem PySem.Spec PyProof.Rows
section
variable {X:Cx}
theorem xcF.kit {ea C:Addr} {h:Heap} (p:xcF ea C h):PySem.W.KitE ea C h:=by
 obtain ⟨o,vs,ho,hc,_⟩:=p;exact ⟨o,ho,hc⟩
def D5y (K:Frag):List V->Hp->VK->Prop:=λxs H Q=>∃ea C c b,xs=[.ref ea,c]/\H ea=some (.ext (xcF ea C))/\PySem.W.XcIn K C/\(∀u,A2v c u->kitOne K (.ref C) u=some b)/\Q (.bl b) H
theorem C4c:B1b X (.builtin "isinstance") (D5y X.K):=by
 intro pins s σ H xs us Q I r h;obtain ⟨ea,C,c,b,rfl,he,xc,k,q⟩:=h;obtain ⟨u,w',rfl,ru,rw'⟩:=D6g r;cases ru;exact PySem.W.kia_one (PySem.W.kitx_exc xc) I.kIn (xcF.kit (I.hok ea _ he).1) (k w' rw') (λz=>nomatch z) λtk=>⟨.bl b,H,I.tok tk,rfl,q⟩
end
theorem B9n {X:Cx} (hc:X.calm=true):B1b X (.builtin "all") (λvs H Q=>∃(a:Addr) (bs:List Bool),vs=[V.ref a]/\SqL X.K H a (bs.map V.bl)/\Q (.bl (bs.all id)) H):=by
 intro pins s σ H vs us Q I r h;obtain ⟨a,bs,rfl,hq,q⟩:=h;obtain ⟨u,rfl,ru⟩:=A7i r;cases ru;obtain ⟨its,rv,p1,_⟩:=I.list hq;have la:a<s.heap.objs.size:=let ⟨_,e,_⟩:=p1.isList;Z0a e
 have el:bs.length=its.length:=by
  have:=rv.length
  simpa using this
 have ei:∀(i:Nat) (v:Value),its.toArray[i]? =some v->v= .bool ((bs[i]?).getD true):=λi v hv=>by
  have hi:i<bs.length:=by
   have:=(Z1m.mp hv).1
   simpa [el] using this
  obtain ⟨u,hu,ru⟩:=rv.get (i:=i) (x:= .bl bs[i]) (by simp [hi]);have e:some u=some v:=hu.symm.trans (by simpa using hv);cases e;rw [Z0b hi];exact ru
 refine call_all_walk ?_;refine wpAny_pyIter_list p1.isList ?_;refine ⟨s.heap.objs.size,_,_,_,_,_,λi=>(bs[i]?).getD true,rfl,Walks.list (A:=X.A.in1) (I.ok.hd hc) s.heap.objs.size a (Z0h la) its.toArray,⟨⟨_,Z0c _ rfl,rfl,rfl⟩,Heap.IsList.push p1.isList _⟩,λi v s2 Q2 E2 hv hQ=> ?_,λh' tk k=> ?_⟩
 ·rw [ei i v hv];exact Z04 hQ
 ·refine ⟨.bl (bs.all id),H,?_,?_,q⟩
  ·exact I.kept (t':=tk) λb o e=>k b o (λm=>absurd (Z0a e) (by
    rw [Z0w.mp m]
    exact Nat.lt_irrefl _)) (Z01 _ e)
  ·have z:((List.range its.toArray.size).all λi=>(bs[i]?).getD true)=bs.all id:=by
    have n:its.toArray.size=bs.length:=by simp [el]
    rw [n,Bool.eq_iff_iff,List.all_eq_true,List.all_eq_true];constructor
    ·intro h b hb;obtain ⟨i,hi,rfl⟩:=List.mem_iff_getElem.mp hb;have:=h i (List.mem_range.mpr hi)
     rwa [Z0b hi] at this
    ·intro h i hi;rw [Z0b (List.mem_range.mp hi)];exact h _ (List.getElem_mem _)
   show Value.bool _=Value.bool _;rw [z]
section
variable {X:Cx}
theorem B3x:OpR X (compareOp .LtE) (λx y H Q=>∃i j,x= .str i/\y= .str j/\Q (.bl (!(decide (j.cps.toList<i.cps.toList)))) H):=by
 intro pins s σ H x y v u Q I rx ry h;obtain ⟨i,j,rfl,rfl,q⟩:=h;obtain ⟨t,rfl⟩:=rx;obtain ⟨t',rfl⟩:=ry;exact P.le_str ⟨.bl _,H,I,rfl,q⟩
end
open PySem PySem.Spec PyProof.Rows PyProof.Rows.KTD
section
variable {X:Cx} {pins:List (Addr×Obj)} {σ:St} {H:Hp} {s:Shared} {p:Addr} {D:List (Str×V)} {k:Str} {tk:Tok} {A:Around} {E:Value->Shared->Prop}
end
section
variable {X:Cx}
theorem D6o {P:Program} {w:World}:A8v (CXF P w) X (λ_ _ _=>False):=by
 intro pins σ H s e s' I h;obtain ⟨_,_,_,_,_,_,_,_,_,_,_,_,_,q⟩:=h;exact q.elim
def D6s:V->List V->Hp->VK->Prop:=λx vs H Q=>∃z y:Str,x= .str z/\vs=[.str y]/\(y.length == 0)=false/\z.length+2<=sizeLine/\∀l,H l=none->Q (.ref l) (upd H l (.lst ((Txt.split z y).map V.str)))
theorem B7k:∀l:List (Str×Tok),A3c (l.map λp=>V.str p.1) (strValues l)
 | []=> .nil
 | (x,t)::r=> .cons ⟨t,rfl⟩ (B7k r)
open PySem.Builtin PySem.Builtin.Str in
theorem C2t (x y:Str):(Txt.split x y).length<=x.length+2:=by
 unfold Txt.split;split
 ·simp
 ·split
  ·simp
  ·have e1:=StrLaws.occ_length_le x y 0 x.length (x.length+1);rw [length_partsBetween];lia
open PySem.Builtin PySem.Builtin.Str in
theorem C1r {prog:Program} {w:World} {A:Around} {E:Value->Shared->Prop} {s:Shared} {x y:Str} {t u:Tok} {Q:Value->Shared->Prop} (hy:(y.length == 0)=false) (hz:x.length+2<=sizeLine)
  (h:∀l k,l.map (·.1)=Txt.split x y->Q (.ref s.heap.objs.size) { s with heap:=s.heap.push { cls:= .type "list",data:= .seq (strValues l).toArray },toks:=k }):wpAny (model prog w) A (call (.builtin "str.split") [.str x t,.str y u]) Q E s:=by
 have hn:(partsBetween x (occurrences x y 0 x.length (x.length+1)) y.length).length<=sizeLine:=by have e1:=StrLaws.occ_length_le x y 0 x.length (x.length+1);rw [length_partsBetween];lia
 cases h1:(decide (x.length<y.length)||decide (strKind x<strKind y)) with
 | true=>exact call_meets PySem.F.slot_str_split (typeIs_str _ _ _) PySem.F.entry_str_split (PySem.F.args_str_split_2 _ _) (meets_str_split_cannot_occur x y t u h1) (h [(x,t)] s.toks (Z12 h1).symm)
 | false =>
  cases hf:(occurrences x y 0 x.length (x.length+1)).isEmpty with
  | true=>exact call_meets PySem.F.slot_str_split (typeIs_str _ _ _) PySem.F.entry_str_split (PySem.F.args_str_split_2 _ _) (meets_str_split_not_found x y t u h1 hy hf) (h [(x,t)] s.toks ((Z0t (ne_true_of_eq_false h1)).trans (Z12 hf)).symm)
  | false =>
   refine call_meets PySem.F.slot_str_split (typeIs_str _ _ _) PySem.F.entry_str_split (PySem.F.args_str_split_2 _ _) (meets_str_split_sep x y t u h1 hy hf (by lia) hn) ?_;have q:=h (numbered s.toks (partsBetween x (occurrences x y 0 x.length (x.length+1)) y.length)) (s.toks+(partsBetween x (occurrences x y 0 x.length (x.length+1)) y.length).length) ((numbered_texts _ _).trans ((Z0t (ne_true_of_eq_false h1)).trans (Z0t (ne_true_of_eq_false hf))).symm);rw [<-strsFrom_eq] at q;exact q
theorem B4l:MtR X "str.split" D6s:=by
 intro pins s σ H x xs v us Q I rx rv h;obtain ⟨z,y,rfl,rfl,hy,hz,q⟩:=h;obtain ⟨t,rfl⟩:=(show∃t,v=Value.str z t from rx);obtain ⟨u,rfl,ru⟩:=A7i rv;obtain ⟨t',rfl⟩:=(show∃t,u=Value.str y t from ru);refine C1r hy hz λl k e=> ?_
 have vl:A3c ((Txt.split z y).map V.str) (strValues l):=by
  have:=B7k l;rw [<-e,List.map_map];exact this
 have hl:(strValues l).length<=sizeLine:=by
  rw [<-vl.length,Z08];exact Z1n (C2t z y) hz
 exact ⟨.ref s.heap.objs.size,_,I.lnew vl (by rw [vl.length];exact hl),rfl,q _ (I.hok.fresh (Z09 _))⟩
def rTT (f:Str->Str->V):V->List V->Hp->VK->Prop:=λx vs H Q=>∃z y:Str,x= .str z/\vs=[.str y]/\Q (f z y) H
theorem B2j:MtR X "str.startswith" (rTT λz y=> .bl (Txt.startswith z y)):=by
 intro pins s σ H x xs v us Q I rx rv h;obtain ⟨z,y,rfl,rfl,q⟩:=h;obtain ⟨t,rfl⟩:=(show∃t,v=Value.str z t from rx);obtain ⟨u,rfl,ru⟩:=A7i rv;obtain ⟨t',rfl⟩:=(show∃t,u=Value.str y t from ru);exact SC.startswith ⟨.bl (Txt.startswith z y),H,I,rfl,q⟩
theorem D1a:MtR X "str.endswith" (rTT λz y=> .bl (Txt.endswith z y)):=by
 intro pins s σ H x xs v us Q I rx rv h;obtain ⟨z,y,rfl,rfl,q⟩:=h;obtain ⟨t,rfl⟩:=(show∃t,v=Value.str z t from rx);obtain ⟨u,rfl,ru⟩:=A7i rv;obtain ⟨t',rfl⟩:=(show∃t,u=Value.str y t from ru);exact SC.endswith ⟨.bl (Txt.endswith z y),H,I,rfl,q⟩
theorem C8c:MtR X "str.rfind" (rTT λz y=> .int (Txt.rfind z y)):=by
 intro pins s σ H x xs v us Q I rx rv h;obtain ⟨z,y,rfl,rfl,q⟩:=h;obtain ⟨t,rfl⟩:=(show∃t,v=Value.str z t from rx);obtain ⟨u,rfl,ru⟩:=A7i rv;obtain ⟨t',rfl⟩:=(show∃t,u=Value.str y t from ru);exact SC.rfind ⟨.int (Txt.rfind z y),H,I.tok _,⟨_,rfl⟩,q⟩
theorem B5r:B1b X (.type "int") (λxs H Q=>∃(x:Str) (n:Int),xs=[.str x]/\PySem.intText? x=some n/\x.length<=640/\Q (.int n) H):=by
 intro pins s σ H xs us Q I r h;obtain ⟨x,n,rfl,hn,hl,q⟩:=h;obtain ⟨u,rfl,t,rfl⟩:=A7i r;exact PySem.W.KIN.call_text hn hl ⟨.int n,H,I.tok _,⟨_,rfl⟩,q⟩
end
theorem C3f {M:Model} {A:Around} {E:Value->Shared->Prop} {s:Shared} {B:Heap} {env:Env} {outer:List Env} {L e:Addr} {cls a0 fl:Value} {Q:Unit->Shared->Prop} (hfr:A.frames=some (env::outer)) (hf:env.frame=some L)
  (st:B.StaysIn s.heap) (hn:B.get? e=none) (ff:s.heap.FunFrames B (env::outer)) (ht:s.heap.TracedAtW B e cls a0 fl) (hQ:∀h',Heap.FlyingW B outer e cls a0 h'->s.heap.UpToSlots h'->Q () { s with heap:=h' }) :
  wpAny M A (leaving env (.ref e)) Q E s:=by
 by_cases hfl:(fl == rawInt L)=true
 ·have e1:fl=rawInt L:=beq_iff_eq.mp hfl;subst e1;unfold leaving;refine Z00 (wpAny_noteFrame_againW hf ht (wpAny_landsW ⟨st,hn,ff,ht⟩ λh' f u=> ?_));exact hQ h' ⟨f.1,f.2.1,f.2.2.1.2.2,f.2.2.2⟩ u
 ·obtain ⟨oe,vs,T,oT,ts,he,⟨hcls,h0⟩,hd,h1,hnT,hTe,hT,hdT,h3⟩:=id ht;subst hcls;unfold leaving;refine Z00 ?_;unfold noteFrame;simp only [hf];refine Z00 (Z11 he hd h1 ?_);rw [Z12 (show (Value.ref T != Value.none)=true by simp)];refine Z00 (Z11 hT hdT h3 ?_);rw [Z0t hfl];refine Z00 (wpAny_setField hT hdT (Z1m.mp h3).1 ?_);have oth:∀b,b≠T->(s.heap.update T (Obj.mapFields (·.setIfInBounds 3 Value.none))).get? b=s.heap.get? b:=λb hb=>Z1d _ _ (Ne.symm hb)
  have nr:∀b o,s.heap.get? b=some o->(∀vs,o.data≠.fields vs)->b≠T:=λb o hb hnf q=>by
   rw [q,hT] at hb;cases hb;exact hnf ts hdT
  refine wpAny_entryW hfr (ff.of_keeps λb o hb hnf=>⟨o,(oth b (nr b o hb hnf)).trans hb,rfl⟩) hf ((oth e (Ne.symm hTe)).trans he) (λb o hbo=>(oth b λq=>by rw [q,hnT] at hbo;cases hbo).trans (st b o hbo)) hn hd (Z1m.mp h1).1 h0 λh' N=> ?_;refine wpAny_landsW (L:=L) ⟨N.1,hn,N.2.1,N.2.2.1⟩ λh2 f u=> ?_;exact hQ h2 ⟨f.1,f.2.1,f.2.2.1.2.2,f.2.2.2⟩ (Heap.UpToSlots.trans (λb o hb hnf=>N.2.2.2 b o ((oth b (nr b o hb hnf)).trans hb) hnf) u)
def B4d (X:Cx) (E:XK):Prop:=∀(pins:List (Addr×Obj)) (σ:St) (H:Hp) (s:Shared) (B:Heap) (ea C:Addr) (a0 fl:Value) (h':Heap),Inv X pins σ H s->B.StaysIn s.heap->B.StaysIn h'->s.heap.UpToSlots h'->
 (∀b o,X.s₀.heap.get? b=some o->b∉X.fs->∃o',B.get? b=some o')->(∀b o,H b=some o->∃o',B.get? b=some o')->B.get? ea=none->h'.FunFrames B X.stack->h'.TracedAtW B ea (.ref C) a0 fl->E (.ref C) none H->X.xe (.ref ea) { s with heap:=h' }
section
variable {P:Program} {w:World} {K:Frag} {mg:Str->Option Value} {base:Heap} {N:List Str} {qual:Str} {scope:Scope} {f:Addr} {cd:Value} {A:Around} {outer:List Env} {s:Shared} {H:Hp} {E:XK}
theorem B3o:B4d (C3e (CXF P w) P w K mg base N qual scope f cd A outer s H E) E:=by
 intro pins σ H1 s1 B ea C a0 fl h' I st st' up b1 b2 hn ff ht q;refine C3f I.ok.frames rfl st' hn ff ht λh2 fl2 up2=> ?_;have up':=up.trans up2;have a:Un (frs outer) [] H H1 s.heap s1.heap:=I.base;have no:∀b:Addr,b∉([]:List Addr):=λb=>by simp
 have slot:∀b o,s.heap.get? b=some o->H b=none->b∈frs outer->∃sl,h2.get? b=some { o with slots:=sl }:=λb o e n hb=>by
  obtain ⟨sl,e1⟩:=a.slot b o e n hb (no b);obtain ⟨_,of,ho,hd⟩:=I.ok.funs.mem hb;have ho':s.heap.get? b=some of:=ho;rw [e] at ho';cases ho';obtain ⟨sl3,e3⟩:=up' b _ e1 hd;exact ⟨sl3,e3⟩
 refine ⟨ea,C,a0,H1,B,rfl,I.os,I.bare,⟨λb o e n hb _=> ?_,λb o e n hb _=>slot b o e n hb,a.free,λb o e _=> ?_,a.tups,a.frzs,a.tbls⟩,B7m I.hok b2 st fl2.1,b1,b2,fl2,q⟩
 ·have e2:=a.keep b o e n hb (no b);obtain ⟨o',eB⟩:=b1 b o e hb;have e3:=st b o' eB;rw [e2] at e3;cases e3;exact fl2.1 b o eB
 ·by_cases hb:b∈frs outer
  ·obtain ⟨sl,q⟩:=slot b o e (I.ok.frf b hb) hb;exact ⟨_,q⟩
  ·obtain ⟨o',eB⟩:=b1 b o e hb;exact ⟨o',fl2.1 b o' eB⟩
end
abbrev E0b (X:Cx) (N':List Str) (scope:Scope) (cl:List (Str×Addr)) (C:Addr) (s₀:Shared) (H₀:Hp) (fp:List Addr) (E:XK):Cx :=
 (blk X N' scope cl C s₀ H₀ fp).wish λe s'=>∃pins σ H1 s1,Inv (blk X N' scope cl C s₀ H₀ fp) pins σ H1 s1/\CXF X.prog X.w X.stack H1 s1 E e s'
theorem C1v {X:Cx} {N':List Str} {scope:Scope} {cl:List (Str×Addr)} {C:Addr} {s₀:Shared} {H₀:Hp} {fp:List Addr} {E:XK}:A8v (CXF X.prog X.w) (E0b X N' scope cl C s₀ H₀ fp E) E:=λpins σ H s e s' I h=>⟨pins,σ,H,s,I.unwish,h⟩
theorem C9r {h h' B:Heap} {C:Addr} (sb:Heap.SameBut C h h'):∀{l:List Env},h.FunFrames B l->(∀a∈frs l,a≠C)->h'.FunFrames (hideAll B [C]) l
 | [],_,_=>trivial
 | env::r,⟨hk,⟨L,o,hf,hn,ho,hd⟩,hr⟩,hne=>by
  have hL:L≠C:=hne L (List.mem_filterMap.mpr ⟨env,.head _,hf⟩);refine ⟨hk,⟨L,o,hf,?_,(sb.2 L hL).trans ho,hd⟩,C9r sb hr λa ha=>hne a ?_⟩
  ·cases q:(hideAll B [C]).get? L with
   | none=>rfl
   | some o'=>rw [PySem.W.of_hideAll _ q] at hn;cases hn
  ·obtain ⟨e,he,q⟩:=List.mem_filterMap.mp ha;exact List.mem_filterMap.mpr ⟨e,.tail _ he,q⟩
section
variable {X:Cx} {pins:List (Addr×Obj)} {σ:St} {H:Hp} {s3:Shared} {N':List Str} {scope:Scope} {cl:List (Str×Addr)} {fp:List Addr}
theorem B7a {E:XK} {Q:Value->Shared->Prop} {acc:Value} {ev:Value} {s9:Shared} (hst:X.stack=X.env::X.outer/\X.env.frame=some X.env.locals) (hex:X.ex=[]) (hH:B4d X E) (I2:Inv X pins σ H s3) (f2:∀b∈fp,B3c X pins H b)
  (hx:∃pins' σ' H1 s1,Inv (blk X N' scope cl s3.heap.objs.size s3 H fp) pins' σ' H1 s1/\CXF X.prog X.w X.stack H1 s1 E ev s9) :
  notedBy (model X.prog X.w) X.A (compEnvC scope cl s3.heap.objs.size X.env) (λx s'=>compPost (model X.prog X.w) X.A X.xe none Q acc s3.heap.objs.size (.error x) s') ev s9:=by
 obtain ⟨pins',σ',H1,s1,J,ea,C,a0,H',B,rfl,os,bare,un,hok,b1,b2,fl,q⟩:=hx;have hfr:X.A.frames=some (X.env::X.outer):=by rw [<-hst.1];exact I2.ok.frames
 have fl0:Heap.FlyingW B (X.env::X.outer) ea (.ref C) a0 s9.heap:=by rw [<-hst.1];exact fl
 show wpAny _ _ (noteFrame (.ref ea) X.env) _ _ _;refine wpAny_looks_onW hfr hst.2 fl0 λh4 held up4=> ?_;have no:∀b:Addr,b∉([]:List Addr):=λb=>by simp
 have u4:Un (frs X.stack) [] H1 H' s1.heap h4:=by
  refine ⟨λb o e n hb _=> ?_,λb o e n hb _=> ?_,un.free,λb o e _=> ?_,un.tups,un.frzs,un.tbls⟩
  ·have e2:=un.keep b o e n hb (no b);obtain ⟨o',eB⟩:=b1 b o e hb;have e3:=fl.1 b o' eB;rw [e2] at e3;cases e3;exact held.1 b o eB
  ·obtain ⟨sl,e1⟩:=un.slot b o e n hb (no b);obtain ⟨_,of,ho,hd⟩:=J.ok.funs.mem hb;obtain ⟨sl0,e0⟩:=J.base.any ho (J.ok.frf b hb) (λm=>J.ok.exfs b m hb);rw [e] at e0;cases e0;obtain ⟨sl3,e3⟩:=up4 b _ e1 hd;exact ⟨sl3,e3⟩
  ·by_cases hb:b∈frs X.stack
   ·obtain ⟨o9,e9⟩:=un.there b o e (no b);obtain ⟨_,of,ho,hd⟩:=J.ok.funs.mem hb;obtain ⟨sl0,e0⟩:=J.base.any ho (J.ok.frf b hb) (λm=>J.ok.exfs b m hb);obtain ⟨sl1,e1⟩:=un.any e0 (J.base.free b of ho (J.ok.frf b hb) (λm=>J.ok.exfs b m hb)) (no b);obtain ⟨sl3,e3⟩:=up4 b _ e1 hd;exact ⟨_,e3⟩
   ·obtain ⟨o',eB⟩:=b1 b o e hb;exact ⟨o',held.1 b o' eB⟩
 have hok4:HOk X.prog X.w H' h4:=B7m hok b2 fl.1 held.1;have J4:Inv (blk X N' scope cl s3.heap.objs.size s3 H fp) pins' σ' H' { s9 with heap:=h4 }:=J.call' (ch:=[]) (s':={ s9 with heap:=h4 }) os u4 hok4 bare (λb z=>absurd z (by simp))
 obtain ⟨m,hm,_⟩:=id J4.loc;refine ⟨m,hm,λh' sb cenv _=> ?_⟩;have I5:Inv X pins σ H' { s9 with heap:=h' }:=B1n I2 f2 J4 sb;have hC:H' s3.heap.objs.size=none:=J4.free;obtain ⟨oC,esC,epC,hoC,hdC,_⟩:=id hm;obtain ⟨oe,vs,T,oT,ts,he,hcls,hd,h1,hnT,hTe,hT,hdT,h3⟩:=held.2.2.2
 have neC:∀b o vs',h4.get? b=some o->o.data= .fields vs'->b≠s3.heap.objs.size:=λb o vs' e d z=>by
  rw [z] at e;rw [show h4.get? s3.heap.objs.size=some oC from hoC] at e;cases e;rw [hdC] at d;cases d
 have he':=(sb.2 ea (neC _ _ _ he hd)).trans he;have hT':=(sb.2 T (neC _ _ _ hT hdT)).trans hT
 have hidN:∀{b:Addr},B.get? b=none->(hideAll B [s3.heap.objs.size]).get? b=none:=λ{b} hn=>by
  cases q:(hideAll B [s3.heap.objs.size]).get? b with
  | none=>rfl
  | some o'=>rw [PySem.W.of_hideAll _ q] at hn;cases hn
 have hidC:(hideAll B [s3.heap.objs.size]).get? s3.heap.objs.size=none:=PySem.W.hideAll_none _ (.head _)
 have st5:(hideAll B [s3.heap.objs.size]).StaysIn h':=λb o z=>by
  have nb:b≠s3.heap.objs.size:=λe=>by rw [e,hidC] at z;cases z
  exact (sb.2 b nb).trans (held.1 b o (PySem.W.of_hideAll _ z))
 have frC:∀a∈frs X.stack,a≠s3.heap.objs.size:=λa ha z=>by
  obtain ⟨_,of,ho,_⟩:=I2.stack.mem ha;exact absurd (Z0a ho) (by rw [z];exact Nat.lt_irrefl _)
 have ff5:h'.FunFrames (hideAll B [s3.heap.objs.size]) X.stack:=C9r sb (by rw [hst.1];exact held.2.2.1) frC;have sz3:3<ts.size:=(Z1m.mp h3).1;unfold PySem.passOn;refine Z00 (Z11 he' hd h1 ?_);rw [Z0t (show¬((Value.ref T == Value.none)=true) by simp)];refine Z00 ?_;unfold setFlight;refine Z00 (Z11 he' hd h1 ?_);rw [Z12 (show (Value.ref T != Value.none)=true by simp)];refine wpAny_setField hT' hdT sz3 (wpAny_throw ?_);have oth:∀b,b≠T->(h'.update T (Obj.mapFields (·.setIfInBounds 3 (cenv.frame.elim Value.none λf=>rawInt f)))).get? b=h'.get? b:=λb hb=>Z1d _ _ (Ne.symm hb)
 have nr:∀b o,h'.get? b=some o->(∀vs,o.data≠.fields vs)->b≠T:=λb o hb hnf q=>by
  rw [q,hT'] at hb;cases hb;exact hnf ts hdT
 refine hH pins σ H' { s9 with heap:=h' } (hideAll B [s3.heap.objs.size]) ea C a0 (cenv.frame.elim Value.none λf=>rawInt f) _ I5 st5 (λb o z=>(oth b λe=>by rw [e,hidN hnT] at z;cases z).trans (st5 b o z)) (λb o e hn=>⟨o.slots,(oth b (nr b o e hn)).trans e⟩)
  (λb o e hb=> ?_) (λb o e=> ?_) (hidN held.2.1) (ff5.of_keeps λb o hb hnf=>⟨o,(oth b (nr b o hb hnf)).trans hb,rfl⟩) ?_ q
 ·obtain ⟨o3,e3⟩:=I2.base.there b o e (by rw [hex];simp)
  have nfp:b∉fp:=λm=>by
   rcases (f2 b m).2.2.2.1 with z | z
   ·rw [hex] at z;cases z
   ·exact absurd (Z0a e) (Nat.not_lt.mpr z)
  obtain ⟨o1,e1⟩:=J.base.there b o3 e3 nfp;have nst:b∉frs X.stack:=λm=>(Z0e.mp (I2.stkSub b m)).elim (Z0h (Z0q (Z0a e) I2.ok.above)) hb;obtain ⟨o',eB⟩:=b1 b o1 e1 nst;exact ⟨o',PySem.W.hideAll_get _ eB λm=>Z0h (Z0a e3) (Z0w.mp m)⟩
 ·obtain ⟨o',eB⟩:=b2 b o e;exact ⟨o',PySem.W.hideAll_get _ eB λm=>by rw [Z0w.mp m,hC] at e;cases e⟩
 ·exact ⟨oe,vs,T,_,_,(oth ea (Ne.symm hTe)).trans he',hcls,hd,h1,hidN hnT,hTe,Z1r _ hT' (Obj.isFreed_of_fields (Obj.data_mapFields hdT _)),Obj.data_mapFields hdT _,by simp [sz3]⟩
end
section
variable {X:Cx}
theorem B9z {elt iter tg:Expr} {E:XK} {scope:Scope} {pos:Pos} {N':List Str} {ix:List (Option Nat)} {cl:List (Str×Addr)} {wi:TI} {g:TG} {te:TE} (hc:X.calm=true) (ck:C7k X scope cl) (io:B1h X N' scope ix) (hi:PI X tg iter wi)
  (hg:∀C s₀ H₀ fp,PG (blk X N' scope cl C s₀ H₀ fp) tg g) (he:∀C s₀ H₀ fp,PE (E0b X N' scope cl C s₀ H₀ fp E) elt te) (hst:X.stack=X.env::X.outer/\X.env.frame=some X.env.locals) (hex:X.ex=[]) (hH:B4d X E) (hs:∀x,foldedSetIterable iter X.env x=pure x:=by intro _;rfl) :
  PE X (.ListComp elt [⟨tg,iter,[],0⟩] scope pos) (C8b ix wi g te):=by
 intro pins s σ H Q I h;rw [eval_ListComp];refine wpAny_comprehension_free (use:=none) rfl hs ck.eq ck.kind ck.names (thn (hi pins s σ H _ I h) λxv s1 h1=>thn h1 λitv s2 h2=> ?_);obtain ⟨it,fp,tn,J,H1,rfl,I1,T,st1,f1,R⟩:=h2;refine Z16 ?_;have hD:H1 s2.heap.objs.size=none:=I1.hok.fresh (Z09 _);obtain ⟨W,⟨m0,w0⟩,turn⟩:=R _ hD;have hfD:∀b∈fp,b<s2.heap.objs.size:=λb hb=>let ⟨o,e,_⟩:=T.obj _ _ st1 b hb;Z0a e;have I2:Inv X pins σ (upd H1 s2.heap.objs.size (.lst [])) { s2 with heap:=s2.heap.push { cls:= .type "list",data:= .seq ([]:List Value).toArray },toks:=s2.toks }:=I1.lnew (its:=[]) .nil (Z1e _);have f2:∀b∈fp,B3c X pins (upd H1 s2.heap.objs.size (.lst [])) b:=λb hb=>⟨by rw [A0l (Z0h (hfD b hb))];exact (f1 b hb).1,(f1 b hb).2⟩
 have lt2:∀b∈fp,b<(s2.heap.push { cls:= .type "list",data:= .seq ([]:List Value).toArray }).objs.size:=λb hb=>by rw [Z1s];exact Nat.lt_succ_of_lt (hfD b hb)
 refine wpAny_newFunctionEnv ck.ncell (by intro y hy;simp at hy) (λh3 hns sb3=> ?_) ck.kind;dsimp only at hns sb3⊢;have k3:∀b o,(s2.heap.push { cls:= .type "list",data:= .seq ([]:List Value).toArray }).get? b=some o->h3.get? b=some o:=λb o e=>(sb3.2 b (Z0h (Z0a e))).trans (Z01 _ e);generalize hs2:({ s2 with heap:=s2.heap.push { cls:= .type "list",data:= .seq ([]:List Value).toArray },toks:=s2.toks }:Shared)=s3 at I2;have e3:s2.heap.push { cls:= .type "list",data:= .seq ([]:List Value).toArray }=s3.heap:=by rw [<-hs2]
 rw [e3] at hns k3 lt2;have I3:=A8u (N':=N') (ix:=ix) I2 ck io f2 lt2 (h':=h3) (t':=s2.toks+([]:List (Str×Value)).length) hns k3;have e4:({ s3 with heap:=h3,toks:=s2.toks+([]:List (Str×Value)).length }:Shared)={ s2 with heap:=h3,toks:=s2.toks+([]:List (Str×Value)).length }:=by rw [<-hs2]
 rw [e4] at I3;have st3:tn 0 h3:=T.keep _ _ _ st1 λb hb o e=>k3 b o (by rw [<-e3];exact Z01 _ e)
 have loop:∀s4:Shared,s4={ s2 with heap:=h3,toks:=s2.toks+([]:List (Str×Value)).length }->
   codeAny (model X.prog X.w) X.A (.compLoop (.ListComp elt [⟨tg,iter,[],0⟩] scope pos) 0 (.ref it) (.ref s2.heap.objs.size) (compEnvC scope cl s3.heap.objs.size X.env))
    (compPost (model X.prog X.w) X.A X.xe none (EP X pins σ Q) (.ref s2.heap.objs.size) s3.heap.objs.size) s4:=by
  rintro s4 rfl
  have stat:∀{H':Hp},(∀b∈fp,H' b=none)->∀b∈fp,B3c (blk X N' scope cl s3.heap.objs.size s3 (upd H1 s2.heap.objs.size (.lst [])) fp) [] H' b:=λhn b hb =>
   ⟨hn b hb,Z0h (lt2 b hb),λhs=>I3.ok.exfs b hb hs,.inl hb,λx c e=>(f2 b hb).2.2.2.2.1 x c (ck.sub x c e),(λp hp=>by cases hp)⟩
  refine codeAny_loop rfl (λn s'=>∃i σ' H',Inv (blk X N' scope cl s3.heap.objs.size s3 (upd H1 s2.heap.objs.size (.lst [])) fp) [] σ' H' s'/\(∀(j:Nat) v,(A4d ix σ)[j]? =some (some v)->σ'[j]? =some (some v))/\tn i s'.heap/\(∀b∈fp,H' b=none)/\W i n H')
   (λn s' hI=> ?_) m0 ⟨0,_,_,I3,λ_ _ z=>z,st3,λb hb=>(f2 b hb).1,w0⟩
  obtain ⟨i,σ5,H5,I5,wk,st5,fr5,w5⟩:=hI;show wpAny _ _ ((compTurn (.ListComp elt [⟨tg,iter,[],0⟩] scope pos) 0 (.ref it) (.ref s2.heap.objs.size) (compEnvC scope cl s3.heap.objs.size X.env)).onRaise (λx=>do noteFrame x (compEnvC scope cl s3.heap.objs.size X.env);theTreesLotGoes x)) _ _ s';refine wpAny_noted ?_;rw [compTurn_list1];refine Z00 (Z1y ?_);rcases turn i n H5 w5 with ⟨stop,qn⟩ | ⟨go,NN,hNN,step⟩
  ·refine Z00 (Z10 (T.done (blk X N' scope cl s3.heap.objs.size s3 (upd H1 s2.heap.objs.size (.lst [])) fp) rfl rfl rfl hc i [] s' σ5 H5 (λ_ _=>False) I5 (stat fr5) st5 stop) (λr s6 h6=> ?_) λ_ _ z=>z.elim);obtain ⟨rfl,I6⟩:=h6;refine Z04 ?_;obtain ⟨mm,hm,_⟩:=id I6.loc;exact ⟨mm,hm,λh' sb=>⟨.ref s2.heap.objs.size,H5,B1n I2 f2 I6 sb,rfl,qn⟩⟩
  ·refine Z00 (Z10 (T.item (blk X N' scope cl s3.heap.objs.size s3 (upd H1 s2.heap.objs.size (.lst [])) fp) rfl rfl rfl hc i [] s' σ5 H5 (λ_ _=>False) I5 (stat fr5) st5 go) (λr s6 h6=> ?_) λ_ _ z=>z.elim);obtain ⟨u,rfl,h6⟩:=h6;refine Z00 (Z10 h6 (λ_ s7 h7=> ?_) λ_ _ z=>z.elim);obtain ⟨x,H7,I7,r7,y7,st7,fr7⟩:=h7;have I7w:Inv (blk X N' scope cl s3.heap.objs.size s3 (upd H1 s2.heap.objs.size (.lst [])) fp) [] (A4d ix σ) H7 s7:=I7.weak (by rw [I7.len];unfold A4d;rw [Z08];exact io.1) wk;have I7p:=I7w.pinned (stat fr7) (T.obj _ _ st7);refine Z00 (Z10 (hg _ _ _ _ _ s7 _ H7 x u _ I7p r7 (step x H7 y7)) (λ_ s8 h8=> ?_) λ_ _ z=>z.elim);obtain ⟨σ8,H8,I8,kp8,q8⟩:=h8;refine Z00 (Z00 (Z10 (he _ _ _ _ _ s8 σ8 H8 _ (I8.wish _) q8) (λyv s9 h9=> ?_) λev s9 hx=> ?_))
   rotate_left
   ·exact B7a hst hex hH I2 f2 hx
   obtain ⟨y,H9,I9w,r9,n9⟩:=h9;have I9:=I9w.unwish;obtain ⟨xs,hx9,hz9,m',hm',w9⟩:=hNN _ _ n9;refine Z00 (Z10 (A2d (X:=blk X N' scope cl s3.heap.objs.size s3 (upd H1 s2.heap.objs.size (.lst [])) fp) _ s9 σ8 H9 (.ref s2.heap.objs.size) [y] (.ref s2.heap.objs.size) [yv] (λ_ H'=>W (i+1) m' H') I9 rfl (.cons r9 .nil) ⟨_,xs,y,rfl,rfl,hx9,hz9,w9⟩) (λ_ s10 h10=> ?_) λ_ _ z=>z.elim);obtain ⟨_,H10,I10,_,w10⟩:=h10;refine Z04 (Z04 ⟨rfl,m',hm',i+1,σ8,H10,I10.unpinned,?_,T.keep _ _ _ st7 λb hb o e=>(I10.pin (b,o) (Z02 _ (Z02 _ (A2q hb e)))).1,λb hb=> ?_,w10⟩)
   ·exact kp8.get
   ·obtain ⟨o,e,d⟩:=T.obj _ _ st7 b hb;exact (I10.pin (b,o) (Z02 _ (Z02 _ (A2q hb e)))).2.1
 have e5:s3.heap.objs.size=(s2.heap.push { cls:= .type "list",data:= .seq ([]:List Value).toArray }).objs.size:=by rw [e3]
 rw [e5] at loop;exact codeAny_compStart_list (loop _ rfl) (T.self X.A 0 _ _ _ st3 (loop _ rfl))
end
section
variable {X:Cx} {e:Expr} {es:List Expr} {te:TE} {tr:TJ} {pos p2:Pos}
def D0k:V->List V->Hp->VK->Prop:=λx vs H Q=>∃l xs i y,x= .ref l/\vs=[.int i,y]/\H l=some (.lst xs)/\xs.length<sizeLine/\0<=i/\i<2^63/\Q .non (upd H l (.lst (xs.take i.toNat++y::xs.drop i.toNat)))
theorem A9m:MtM X "list.insert" D0k:=by
 intro pins s σ H x vs v us Q I rx rv h;obtain ⟨l,xs,i,y,rfl,rfl,hH,hz,i0,i1,q⟩:=h;cases rx
 cases rv with
 | cons ri rv =>
  cases rv with
  | cons ry rv =>
   cases rv
   obtain ⟨t,rfl⟩:=(show∃t,_=Value.int i t from ri);rename_i u;obtain ⟨z,its,n,r,hl,e⟩:=I.lstM hH
   refine call_meets F.slot_list_insert ⟨_,e,rfl⟩ F.entry_list_insert (F.args_list_insert_3 _ _ _)
    (PySem.AutoListH.list_insert_list_int_val_1 l its.toArray n i t u (by rw [fitsIndex_both (by lia) i1];simp) (by rw [Z0g];lia)) ⟨e,?_⟩
   refine ⟨.non,_,I.lset (its':=its.take i.toNat++u::its.drop i.toNat) hH e ?_ ((r.take _).append (.cons ry (r.drop _))) ?_,rfl,q⟩
   ·show (its.toArray.extract 0 (if i<0 then _ else min i.toNat its.toArray.size)).push u++its.toArray.extract (if i<0 then _ else min i.toNat its.toArray.size)=_;rw [Z0t (by lia)];apply Array.ext';simp only [Array.toList_append,Array.toList_push,Array.toList_extract,Z0g,List.extract_eq_drop_take];by_cases hc:i.toNat<=its.length
    ·rw [Nat.min_eq_left hc];simp [Z2l]
    ·have hc:its.length<=i.toNat:=by lia
     rw [Nat.min_eq_right hc,Z2l hc,List.drop_eq_nil_of_le hc];simp
   ·simp only [Z06,Z0y,Z0x,Z19]
    lia
end
end L2
namespace HT
open PySem PySem.Spec PyProof.Rows L2
section
variable {prog:Program} {w:World} {A:Around} {E:Value->Shared->Prop} {s:Shared}
theorem getItem_tuple_all {t sl:Addr} {items:Array Value} {vl vu:Value} {lo hi:Option Int} {Q:Value->Shared->Prop} (ht:IsTup s.heap t items) (hs:s.heap.IsSliceOf sl vl vu .none) (pl:IsPart vl lo) (pu:IsPart vu hi)
  (hw:sIx items.size 0 lo=0/\sIx items.size items.size hi=items.size) (h:Q (.ref t) s):wpAny (model prog w) A (getItem (.ref t) (.ref sl)) Q E s:=by
 obtain ⟨os,hos,hcs,hds⟩:=id hs;have hTs:s.TypeIs (.ref sl) "slice":=⟨os,hos,hcs⟩;unfold getItem
 try with_reducible refine Z1w ?_
 first | refine Z00 (Z04 ?_) | skip
 refine Z00 (wpAny_sequenceKey ht.typeIs (by decide) ?_)
 refine Z00 (Z1b (name:=Str.ofString "__getitem__") ht.typeIs Z2k
  (wpAny_call_entry Z2k ht.typeIs entry_tuple_getitem ?_ (args_tuple_getitem _ _)))
 show wpAny _ _ (Builtin.Tuple.tupleItemsOf (.ref t) >>= _) _ _ s;refine Z00 (tupleItemsOf_ ht ?_);refine Z00 (wpAny_typeOf hTs ?_);rw [Z12 (by decide)];refine Z00 (A5z hs pl pu ?_)
 have hyes:(((sIx items.size 0 lo:Nat):Int) == 0&&(1:Int) == 1&&(sIx items.size items.size hi-sIx items.size 0 lo) == items.size)=true:=by
  rw [hw.1,hw.2];simp
 show wpAny _ _ (if (((sIx items.size 0 lo:Nat):Int) == 0&&(1:Int) == 1&&(sIx items.size items.size hi-sIx items.size 0 lo) == items.size)=true then _ else _) _ _ s;rw [Z12 hyes];refine Z00 ?_;unfold Builtin.Tuple.tupleIsExact;refine Z00 (wpAny_typeOf ht.typeIs (Z04 ?_));rw [Z12 (by decide)]
 first
  | exact Z00 (wpAny_rule (Z04 ⟨_,rfl,Z04 h⟩))
  | exact Z00 (Z04 (Z04 ⟨_,rfl,Z04 h⟩))
  | exact Z04 ⟨_,rfl,Z04 h⟩
  | skip
 done
end
end HT
namespace L2
open PySem PySem.Spec PyProof.Rows
section
variable {X:Cx}
theorem C6p {xs:List V} {lo hi:Option Int} (h:HT.sIx xs.length 0 lo=0/\HT.sIx xs.length xs.length hi=xs.length):B0y xs lo hi=xs:=by
 unfold B0y;rw [h.1,h.2,List.drop_zero,Nat.sub_zero,Z18]
end
theorem B4e {α β:Type} {F:α->β->Prop}:∀{l:List α} {m:List β},Paired F l m->∀{i:Nat} {x:α},l[i]? =some x->∃y,m[i]? =some y/\F x y
 | _,_,.nil,i,x,e=>by simp at e
 | _,_,.cons r t,0,x,e=>by simp at e;subst e;exact ⟨_,rfl,r⟩
 | _,_,.cons r t,i+1,x,e=>by
  obtain ⟨y,e1,e2⟩:=B4e t (i:=i) (by simpa using e);exact ⟨y,by simpa using e1,e2⟩
section
variable {prog:Program} {w:World} {A:Around} {E:Value->Shared->Prop} {s:Shared}
end
section
variable {X:Cx} {pins:List (Addr×Obj)} {σ:St} {H:Hp} {s:Shared} {A:Around} {E:Value->Shared->Prop} {Q:Bool->Shared->Prop}
end
section
variable {X:Cx}
end
end L2
namespace PySem.SeqAt
open PySem PySem.Builtin
theorem B6f {M:Model} {A:Around} {E:Value->Shared->Prop} {s:Shared} {β:Type} {n:Nat} {b:β} (f:Nat->β->Sem (ForInStep β)) (I:Nat->β->Shared->Prop) (Q:β->Shared->Prop)
  (turn:∀i b s',i<n->I i b s'->wpAny M A (f i b) (λr s''=>match r with | .yield b'=>I (i+1) b' s'' | .done b'=>Q b' s'') E s') (fin:∀b s',I n b s'->Q b s') (h:I 0 b s):wpAny M A (forIn [0:n] b f) Q E s:=by
 rw [Std.Legacy.Range.forIn_eq_forIn_range'];refine wpAny_forIn_list _ (λrest b s'=>∃i,i<=n/\rest=List.range' i (n-i)/\I i b s') _ ?_ ?_ _ _ ⟨0,Z1e _,by simp [Std.Legacy.Range.size],h⟩
 ·rintro x rest b s' ⟨i,hi,e,hI⟩
  have hlt:i<n:=by
   rcases Nat.lt_or_ge i n with z | z
   ·exact z
   ·rw [show n-i=0 by lia] at e;cases e
  rw [show n-i=(n-(i+1))+1 by lia,List.range'_succ] at e;injection e with e1 e2;subst e1 e2;refine Z10 (turn x b s' hlt hI) (λr s'' hr=> ?_) λ_ _ z=>z
  cases r with
  | yield b'=>exact ⟨x+1,hlt,by rw [show n-(x+1)=n-(x+1) from rfl],hr⟩
  | done b'=>exact hr
 ·rintro b s' ⟨i,hi,e,hI⟩
  have:i=n:=by
   rcases Nat.lt_or_ge i n with z | z
   ·rw [show n-i=(n-(i+1))+1 by lia,List.range'_succ] at e;cases e
   ·lia
  subst this;exact fin b s' hI
theorem tuple_indexAt (l:Addr) (items:Array Value) (n:Nat) (dd:Option Addr) (sl:Array (Option Value)) (x:Value) (e:Value->Bool) (j:Nat) (hj:j<items.size) (hit:e items[j]=true) (hno:∀m (hm:m<items.size),m<j->e items[m]=false) :
  Meets (Builtin.«tuple.index» ⟨[.ref l,x],[]⟩)
   (λA R s=>s.heap.get? l=some { cls:= .type "tuple",dict:=dd,data:= .seq items n,slots:=sl }/\(∀y,y∈items->EqAt A.in1 s y x (e y))/\R (.ok (.ret (.int j s.toks))) { s with toks:=s.toks+1 }) :=
 .of_wp λprog w A R s h=>by
  obtain ⟨hp,g,d,tk,os⟩:=s;obtain ⟨hl,he,h⟩:=h
  wp_walk using wpAny_loadPart' hl,B6f _ (λi b s'=>b=(none,())/\s'=⟨hp,g,d,tk,os⟩/\i<=j) _
  case turn =>
   rintro i b s' hi ⟨rfl,rfl,hij⟩;have hi:i<items.size:=by lia
   rw [Array.getElem?_eq_getElem hi];refine Z00 (he _ (Array.getElem_mem hi) prog w _ _ ?_);by_cases e1:i=j
   ·subst e1;rw [hit]
    wp_walk
    exact ⟨_,rfl,h⟩
   ·rw [hno i hi (by lia)]
    wp_walk
    exact ⟨rfl,rfl,by lia⟩
  case fin =>
   rintro b s' ⟨rfl,rfl,hij⟩
   lia
  case h =>
   exact ⟨rfl,rfl,Z1e _⟩
end PySem.SeqAt
namespace L2
open PySem PySem.Spec PyProof.Rows
section
variable {X:Cx}
def D8v:V->List V->Hp->VK->Prop:=λx vs H Q=>∃z y:Str,x= .str z/\vs=[.str y]/\(y.length == 0)=false/\z.length<=sizeLine/\∀p,H p=none->Q (.ref p) (upd H p (.tup [.str (Txt.partition z y).1,.str (Txt.partition z y).2.1,.str (Txt.partition z y).2.2]))
open PySem.Builtin PySem.Builtin.Str in
theorem B4q:MtR X "str.partition" D8v:=by
 intro pins s σ H x xs v us Q I rx rv h;obtain ⟨z,y,rfl,rfl,hy,hz,q⟩:=h;obtain ⟨t,rfl⟩:=(show∃t,v=Value.str z t from rx);obtain ⟨u,rfl,ru⟩:=A7i rv;obtain ⟨t',rfl⟩:=(show∃t,u=Value.str y t from ru);refine call_meets PySem.F.slot_str_partition (typeIs_str _ _ _) PySem.F.entry_str_partition (PySem.F.args_str_partition_2 _ _) (meets_str_partition z y t t' hy hz) ?_
 have fin:∀(p1 p2 p3:Str) (k1 k2 k3:Tok) (tk:Nat),(Txt.partition z y).1=p1->(Txt.partition z y).2.1=p2->(Txt.partition z y).2.2=p3->EP X pins σ Q (.ref s.heap.objs.size) { s with heap:=s.heap.push { cls:= .type "tuple",data:= .seq [Value.str p1 k1,.str p2 k2,.str p3 k3].toArray },toks:=tk }:=by
  intro p1 p2 p3 k1 k2 k3 tk e1 e2 e3;have fr:=I.hok.fresh (Z09 s.heap.objs.size);have q:=q _ fr;rw [e1,e2,e3] at q;refine ⟨.ref s.heap.objs.size,_,I.laid (t':=tk) (o:= .tup [.str p1,.str p2,.str p3]) (λb ob q=>Z01 _ q) (Z09 _) ?_,rfl,q⟩;exact ⟨by show 3<=sizeLine;decide,_,.cons ⟨k1,rfl⟩ (.cons ⟨k2,rfl⟩ (.cons ⟨k3,rfl⟩ .nil)),IsTup.new _ _⟩
 have f':=fin;unfold Txt.partition at f';revert f'
 cases occurrences z y 0 z.length 1 with
 | nil=>intro f';exact f' _ _ _ _ _ _ _ rfl rfl rfl
 | cons i r=>intro f';exact f' _ _ _ _ _ _ _ rfl rfl rfl
theorem A9d (k:Str):∀{vs:List Value} {ns:List Str},StrsAre vs ns->∀(i:Nat) (h1:i<vs.length) (h2:i<ns.length),isStrOf k (vs[i]'h1)=(ns[i]'h2 == k)
 | _,_,.nil,i,h1,_=>absurd h1 (by simp)
 | _,_,.cons n t h,0,_,_=>rfl
 | _,_,.cons n t h,i+1,h1,h2=>A9d k h i (by simpa using h1) (by simpa using h2)
theorem B4r:∀{vs:List Value} {ns:List Str},StrsAre vs ns->vs.length=ns.length
 | _,_,.nil=>rfl
 | _,_,.cons _ _ h=>by simp [B4r h]
theorem A9r {k:Str}:∀{ns:List Str} {j:Nat},j<ns.idxOf k->∀h:j<ns.length,(ns[j]'h == k)=false
 | [],j,h,h2=>absurd h2 (by simp)
 | n::ns,j,h,h2=>by
  rw [List.idxOf_cons] at h;by_cases e:n=k
  ·subst e;simp at h
  ·have e':(n == k)=false:=by simpa using e
   rw [e'] at h
   cases j with
   | zero=>simpa using e
   | succ j=>simpa using A9r (k:=k) (ns:=ns) (j:=j) (by simpa using h) (by simpa using h2)
theorem B2c:MtM X "list.index" (λx vs H Q=>∃(l:Addr) (ns:List Str) (k:Str),x= .ref l/\vs=[.str k]/\H l=some (.lst (ns.map V.str))/\k∈ns/\Q (.int (ns.idxOf k:Nat)) H):=by
 intro pins s σ H x vs v us Q I rx rv h;obtain ⟨l,ns,k,rfl,rfl,hH,hk,q⟩:=h;cases rx;obtain ⟨u,rfl,t,rfl⟩:=A7i rv;obtain ⟨z,its,n,r,hl,e⟩:=I.lstM hH;have hi:=A7g r;have hlen:=B4r hi;have hj:ns.idxOf k<ns.length:=List.idxOf_lt_length_iff.mpr hk;rw [Z08,sizeLine_eq] at z
 refine call_meets PySem.F.slot_list_index ⟨_,e,rfl⟩ PySem.F.entry_list_index (PySem.F.args_list_index_2 _ _)
  (SeqAt.list_indexAt l its.toArray n none #[] (.str k t) (isStrOf k) (ns.idxOf k) (by simpa [hlen] using hj) (by lia) ?_ ?_) ⟨e,λy hy=>(eq_isStrOf k t hi y (by simpa using hy)).at _ _,⟨.int (ns.idxOf k:Nat),H,I.tok _,⟨_,rfl⟩,q⟩⟩
 ·show isStrOf k its[ns.idxOf k]=true;rw [A9d k hi _ (by lia) hj]
  simpa using List.getElem_idxOf hj
 ·intro j hjs hlt;show isStrOf k its[j]=false;rw [A9d k hi j (by simpa using hjs) (by lia)];exact A9r hlt _
theorem C1q:MtM X "tuple.index" (λx vs H Q=>∃(l:Addr) (ns:List Str) (k:Str),x= .ref l/\vs=[.str k]/\SqT X.K H l (ns.map V.str)/\k∈ns/\Q (.int (ns.idxOf k:Nat)) H):=by
 intro pins s σ H x vs v us Q I rx rv h;obtain ⟨l,ns,k,rfl,rfl,hH,hk,q⟩:=h;cases rx;obtain ⟨u,rfl,t,rfl⟩:=A7i rv;obtain ⟨its,r,ht,hz⟩:=I.tuple hH;obtain ⟨o,ho,hc,n,hd⟩:=ht;obtain ⟨cls,dd,data,sl⟩:=o;simp only at hc hd;subst hc hd;have hi:=A7g r;have hlen:=B4r hi;have hj:ns.idxOf k<ns.length:=List.idxOf_lt_length_iff.mpr hk
 refine call_meets PySem.F.slot_tuple_index ⟨_,ho,rfl⟩ PySem.F.entry_tuple_index (PySem.F.args_tuple_index_2 _ _)
  (SeqAt.tuple_indexAt l its.toArray n dd sl (.str k t) (isStrOf k) (ns.idxOf k) (by simpa [hlen] using hj) ?_ ?_) ⟨ho,λy hy=>(eq_isStrOf k t hi y (by simpa using hy)).at _ _,⟨.int (ns.idxOf k:Nat),H,I.tok _,⟨_,rfl⟩,q⟩⟩
 ·show isStrOf k its[ns.idxOf k]=true;rw [A9d k hi _ (by lia) hj]
  simpa using List.getElem_idxOf hj
 ·intro j hjs hlt;show isStrOf k its[j]=false;rw [A9d k hi j (by simpa using hjs) (by lia)];exact A9r hlt _
def rSlK (K:Frag):V->Option Int->Option Int->Hp->VK->Prop:=λx lo hi H Q=>∃a xs,x= .ref a/\SqT K H a xs/\∀p H',A1b H H'->SqT K H' p (B0y xs lo hi)->Q (.ref p) H'
theorem C9y:SlR X (rSlK X.K):=by
 intro pins s σ H x v vl vu lo hi sl Q I rx hs pl pu h;obtain ⟨a,xs,rfl,hx,q⟩:=h;cases rx;obtain ⟨its,r,ht,hz⟩:=I.tuple hx;have hlen:its.toArray.size=xs.length:=by rw [Z0g];exact r.length.symm
 refine ⟨"tuple",_,Z2k.lookup,ht.typeIs,?_⟩;by_cases hw:HT.sIx xs.length 0 lo=0/\HT.sIx xs.length xs.length hi=xs.length
 ·refine HT.getItem_tuple_all ht hs pl pu (by rw [hlen];exact hw) ?_;exact ⟨.ref a,H,I,rfl,q a H (A1b.refl _) (by rw [C6p hw];exact hx)⟩
 ·refine HT.getItem_tuple_cut ht hs pl pu (by rw [hlen];exact hw) ?_ (by rw [hlen];exact hz);rw [hlen];have fr:=I.hok.fresh (Z09 _);refine ⟨.ref s.heap.objs.size,_,I.laid (t':=s.toks) (o:= .tup (B0y xs lo hi)) (λb ob q=>Z01 _ q) (Z09 _) ?_,rfl,q _ _ (A0f fr) (SqT.of A0c)⟩;exact ⟨Z1n (B2x xs lo hi) hz,_,(r.drop (HT.sIx xs.length 0 lo)).take (HT.sIx xs.length xs.length hi-HT.sIx xs.length 0 lo),IsTup.new _ _⟩
end
section
variable {X:Cx} {o e:Expr} {es:List Expr} {to:TE} {t:TA} {name:Str} {apos cpos:Pos} {T id:String} {r:V->List V->Hp->VK->Prop}
theorem D5e {K:Frag} (hK:X.K=K) (pa:PlainAttrs T) (slot:Slot T name id) (hty:typeOf (.builtin id)=pure (.type "method_descriptor")) (hm:MtR X id r) (ho:PE X o to) (ha:PA X (e::es) t)
  (hbase:attributeBase o name X.env (eval o X.env)=eval o X.env:=by rfl)
  (hfew:((backTo cpos (starEach (e::es) X.env)).all (λx=> ! x.1)&&(backToKw cpos (keywordEach [] X.env)).all (λx=>x.1.isSome)
   && decide ((e::es).length+([]:List Keyword).length+(if ([]:List Keyword).isEmpty then 0 else 1)<30))=true:=by rfl)
  (hline:(apos.endLine == cpos.line)=true:=by rfl) (hs:starEach (e::es) X.env=(false,eval e X.env)::starEach es X.env:=by rfl) (hplain:(backTo cpos (starEach es X.env)).any (·.1)=false:=by rfl) :
  PE X (.Call (.Attribute o name apos) (e::es) [] cpos) (tBM K T r to t):=hK▸A2r pa slot hty hm ho ha hbase hfew hline hs hplain
end
structure RS (X:Cx) (sts:List Stmt) (t:TS):Prop where
 r:PSs X sts t
structure R1 (X:Cx) (st:Stmt) (t:TS):Prop where
 r:PS X st t
section
variable {X:Cx} {st:Stmt} {rest a b body:List Stmt} {t u tb:TS} {e c:Expr} {te:TE} {tc:TT} {pos pos':Pos}
theorem rq1 (h1:R1 X st t) (h2:RS X rest u):RS X (st::rest) (E0z t u):=⟨A0d h1.r h2.r⟩
theorem rq2 (h1:R1 X st t) (h2:RS X rest u):RS X (st::rest) (E0v t u):=⟨A5f h1.r h2.r⟩
theorem rq3 (h1:R1 X st t):RS X [st] t:=⟨A0h h1.r⟩
theorem rq4 (hc:PT X c tc) (ha:RS X a t) (hb:RS X b u):R1 X (.If c a b pos) (E0s tc t u):=⟨A1w hc ha.r hb.r⟩
theorem rq5 (he:PE X e te):R1 X (.Return (some e) pos) (E1e te):=⟨A0u he⟩
theorem rq6 (i:Nat) {x:Str} (hN:X.N.Nodup) (he:PE X e te) (hi:X.N[i]? =some x:=by exact rfl) (hx:Loc X.env.scope x:=by exact .inl rfl) (hs:swapsWith e (some (.Name x pos')) pos.line X.env=pure false:=by exact rfl) (hf:X.fn x=true\/X.env.scope.names.lookup x=some .local:=by exact .inl rfl):R1 X (.Assign [.Name x pos'] e pos) (D6p te (B8n i)):=⟨A0x hN hi hx he hs hf⟩
theorem rq7 {tg iter:Expr} {wi:TI} {g:TG} (hi:PI X tg iter wi) (hg:PG X tg g) (hb:RS X body tb) (hp:PassesOwn (model X.prog X.w) X.A X.env X.xe:=by exact PassesOwn.never) (hc:X.calm=true:=by exact rfl) (hs:∀x,foldedSetIterable iter X.env x=pure x:=by intro _;rfl):R1 X (.For tg iter body [] pos) (E1b wi g tb):=⟨A5l hp hc hi hg hb.r hs⟩
end
section
variable {X:Cx}
theorem B1g {i₀:Nat} {x₀:Str} {pos₀ spos:Pos} {elt iter tg:Expr} {E:XK} {scope:Scope} {pos:Pos} {N':List Str} {ix:List (Option Nat)} {cl:List (Str×Addr)} {wi:TI} {g:TG} {te:TE} (hN₀:X.N.Nodup) (hi₀:X.N[i₀]? =some x₀) (hx₀:Loc X.env.scope x₀) (hc:X.calm=true) (ck:C7k X scope cl) (io:B1h X N' scope ix) (hi:PI X tg iter wi)
  (hg:∀C s₀ H₀ fp,PG (blk X N' scope cl C s₀ H₀ fp) tg g) (he:∀C s₀ H₀ fp,PE (E0b X N' scope cl C s₀ H₀ fp E) elt te) (hst:X.stack=X.env::X.outer/\X.env.frame=some X.env.locals) (hex:X.ex=[]) (hH:B4d X E) (hs:∀x,foldedSetIterable iter X.env x=pure x:=by intro _;rfl)
  (hsw:swapsWith (.ListComp elt [⟨tg,iter,[],0⟩] scope pos) (some (.Name x₀ pos₀)) spos.line X.env=pure true:=by rfl) (hf₀:X.fn x₀=true\/X.env.scope.names.lookup x₀=some .local:=by first | exact .inl rfl | exact .inr rfl | assumption) :
  PS X (.Assign [.Name x₀ pos₀] (.ListComp elt [⟨tg,iter,[],0⟩] scope pos) spos) (D6p (C8b ix wi g te) (B8n i₀)):=by
 intro pins s σ H D₀ I h;rw [exec_Assign_Name_used _ _ _ _ hsw];refine Z00 (Z1y (Z00 ?_));show wpAny _ X.A (do let _<-comprehension (.ListComp elt [⟨tg,iter,[],0⟩] scope pos) scope X.env _ (newList []) false (eval iter X.env) (some (assign (.Name x₀ pos₀) X.env))) _ _ s;refine Z00 (Z10 (wpAny_comprehension_free (use:=some (assign (.Name x₀ pos₀) X.env)) (Q:=λ_ s'=>∃σ' H',Inv X pins σ' H' s'/\D₀.nx σ' H') rfl hs ck.eq ck.kind ck.names (thn (hi pins s σ H _ I h) λxv s1 h1=>thn h1 λitv s2 h2=> ?_)) (λ_ s' hq=>Z04 (Z04 hq)) λ_ _ e=>e);obtain ⟨it,fp,tn,J,H1,rfl,I1,T,st1,f1,R⟩:=h2;refine Z16 ?_;have hD:H1 s2.heap.objs.size=none:=I1.hok.fresh (Z09 _);obtain ⟨W,⟨m0,w0⟩,turn⟩:=R _ hD;have hfD:∀b∈fp,b<s2.heap.objs.size:=λb hb=>let ⟨o,e,_⟩:=T.obj _ _ st1 b hb;Z0a e;have I2:Inv X pins σ (upd H1 s2.heap.objs.size (.lst [])) { s2 with heap:=s2.heap.push { cls:= .type "list",data:= .seq ([]:List Value).toArray },toks:=s2.toks }:=I1.lnew (its:=[]) .nil (Z1e _);have f2:∀b∈fp,B3c X pins (upd H1 s2.heap.objs.size (.lst [])) b:=λb hb=>⟨by rw [A0l (Z0h (hfD b hb))];exact (f1 b hb).1,(f1 b hb).2⟩
 have lt2:∀b∈fp,b<(s2.heap.push { cls:= .type "list",data:= .seq ([]:List Value).toArray }).objs.size:=λb hb=>by rw [Z1s];exact Nat.lt_succ_of_lt (hfD b hb)
 refine wpAny_newFunctionEnv ck.ncell (by intro y hy;simp at hy) (λh3 hns sb3=> ?_) ck.kind;dsimp only at hns sb3⊢;have k3:∀b o,(s2.heap.push { cls:= .type "list",data:= .seq ([]:List Value).toArray }).get? b=some o->h3.get? b=some o:=λb o e=>(sb3.2 b (Z0h (Z0a e))).trans (Z01 _ e);generalize hs2:({ s2 with heap:=s2.heap.push { cls:= .type "list",data:= .seq ([]:List Value).toArray },toks:=s2.toks }:Shared)=s3 at I2;have e3:s2.heap.push { cls:= .type "list",data:= .seq ([]:List Value).toArray }=s3.heap:=by rw [<-hs2]
 rw [e3] at hns k3 lt2;have I3:=A8u (N':=N') (ix:=ix) I2 ck io f2 lt2 (h':=h3) (t':=s2.toks+([]:List (Str×Value)).length) hns k3;have e4:({ s3 with heap:=h3,toks:=s2.toks+([]:List (Str×Value)).length }:Shared)={ s2 with heap:=h3,toks:=s2.toks+([]:List (Str×Value)).length }:=by rw [<-hs2]
 rw [e4] at I3;have st3:tn 0 h3:=T.keep _ _ _ st1 λb hb o e=>k3 b o (by rw [<-e3];exact Z01 _ e)
 have loop:∀s4:Shared,s4={ s2 with heap:=h3,toks:=s2.toks+([]:List (Str×Value)).length }->
   codeAny (model X.prog X.w) X.A (.compLoop (.ListComp elt [⟨tg,iter,[],0⟩] scope pos) 0 (.ref it) (.ref s2.heap.objs.size) (compEnvC scope cl s3.heap.objs.size X.env))
    (compPost (model X.prog X.w) X.A X.xe (some (assign (.Name x₀ pos₀) X.env)) (λ_ s'=>∃σ' H',Inv X pins σ' H' s'/\D₀.nx σ' H') (.ref s2.heap.objs.size) s3.heap.objs.size) s4:=by
  rintro s4 rfl
  have stat:∀{H':Hp},(∀b∈fp,H' b=none)->∀b∈fp,B3c (blk X N' scope cl s3.heap.objs.size s3 (upd H1 s2.heap.objs.size (.lst [])) fp) [] H' b:=λhn b hb =>
   ⟨hn b hb,Z0h (lt2 b hb),λhs=>I3.ok.exfs b hb hs,.inl hb,λx c e=>(f2 b hb).2.2.2.2.1 x c (ck.sub x c e),(λp hp=>by cases hp)⟩
  refine codeAny_loop rfl (λn s'=>∃i σ' H',Inv (blk X N' scope cl s3.heap.objs.size s3 (upd H1 s2.heap.objs.size (.lst [])) fp) [] σ' H' s'/\(∀(j:Nat) v,(A4d ix σ)[j]? =some (some v)->σ'[j]? =some (some v))/\tn i s'.heap/\(∀b∈fp,H' b=none)/\W i n H')
   (λn s' hI=> ?_) m0 ⟨0,_,_,I3,λ_ _ z=>z,st3,λb hb=>(f2 b hb).1,w0⟩
  obtain ⟨i,σ5,H5,I5,wk,st5,fr5,w5⟩:=hI;show wpAny _ _ ((compTurn (.ListComp elt [⟨tg,iter,[],0⟩] scope pos) 0 (.ref it) (.ref s2.heap.objs.size) (compEnvC scope cl s3.heap.objs.size X.env)).onRaise (λx=>do noteFrame x (compEnvC scope cl s3.heap.objs.size X.env);theTreesLotGoes x)) _ _ s';refine wpAny_noted ?_;rw [compTurn_list1];refine Z00 (Z1y ?_);rcases turn i n H5 w5 with ⟨stop,qn⟩ | ⟨go,NN,hNN,step⟩
  ·refine Z00 (Z10 (T.done (blk X N' scope cl s3.heap.objs.size s3 (upd H1 s2.heap.objs.size (.lst [])) fp) rfl rfl rfl hc i [] s' σ5 H5 (λ_ _=>False) I5 (stat fr5) st5 stop) (λr s6 h6=> ?_) λ_ _ z=>z.elim);obtain ⟨rfl,I6⟩:=h6;refine Z04 ?_;obtain ⟨mm,hm,_⟩:=id I6.loc;have fC:B3c X pins H5 s3.heap.objs.size:=I2.fpOk (Z09 _) I6.free;have Io:Inv X pins σ H5 s6:=B1n I2 f2 I6 (Heap.SameBut.refl _ _);show wpAny _ X.A (assign (.Name x₀ pos₀) X.env (.ref s2.heap.objs.size)) _ _ s6;refine wpAny_assign_Name (B1y Io hN₀ hi₀ hx₀ (v:= .ref s2.heap.objs.size) rfl (λs7 I7 sb7=> ?_) hf₀);obtain ⟨a,sb,ha⟩:=sb7
   have ca:s3.heap.objs.size≠a:=by
    rcases ha with ha | ha
    ·rw [ha];exact fC.2.1
    ·exact λz=>fC.2.2.2.2.1 _ _ ha z.symm
   obtain ⟨oC,es,ep,ho,r⟩:=hm;exact ⟨mm,⟨oC,es,ep,(sb.2 _ ca).trans ho,r⟩,λh' sb'=>⟨_,H5,I7.turned (t':=s7.toks) (λb o hb e=>(sb'.2 b hb).trans e) fC.1 fC.2.1 fC.2.2.2.1 fC.2.2.2.2.1 fC.2.2.2.2.2,qn⟩⟩
  ·refine Z00 (Z10 (T.item (blk X N' scope cl s3.heap.objs.size s3 (upd H1 s2.heap.objs.size (.lst [])) fp) rfl rfl rfl hc i [] s' σ5 H5 (λ_ _=>False) I5 (stat fr5) st5 go) (λr s6 h6=> ?_) λ_ _ z=>z.elim);obtain ⟨u,rfl,h6⟩:=h6;refine Z00 (Z10 h6 (λ_ s7 h7=> ?_) λ_ _ z=>z.elim);obtain ⟨x,H7,I7,r7,y7,st7,fr7⟩:=h7;have I7w:Inv (blk X N' scope cl s3.heap.objs.size s3 (upd H1 s2.heap.objs.size (.lst [])) fp) [] (A4d ix σ) H7 s7:=I7.weak (by rw [I7.len];unfold A4d;rw [Z08];exact io.1) wk;have I7p:=I7w.pinned (stat fr7) (T.obj _ _ st7);refine Z00 (Z10 (hg _ _ _ _ _ s7 _ H7 x u _ I7p r7 (step x H7 y7)) (λ_ s8 h8=> ?_) λ_ _ z=>z.elim);obtain ⟨σ8,H8,I8,kp8,q8⟩:=h8;refine Z00 (Z00 (Z10 (he _ _ _ _ _ s8 σ8 H8 _ (I8.wish _) q8) (λyv s9 h9=> ?_) λev s9 hx=> ?_))
   rotate_left
   ·exact B7a (Q:=λ_ _=>False) (acc:= .none) hst hex hH I2 f2 hx
   obtain ⟨y,H9,I9w,r9,n9⟩:=h9;have I9:=I9w.unwish;obtain ⟨xs,hx9,hz9,m',hm',w9⟩:=hNN _ _ n9;refine Z00 (Z10 (A2d (X:=blk X N' scope cl s3.heap.objs.size s3 (upd H1 s2.heap.objs.size (.lst [])) fp) _ s9 σ8 H9 (.ref s2.heap.objs.size) [y] (.ref s2.heap.objs.size) [yv] (λ_ H'=>W (i+1) m' H') I9 rfl (.cons r9 .nil) ⟨_,xs,y,rfl,rfl,hx9,hz9,w9⟩) (λ_ s10 h10=> ?_) λ_ _ z=>z.elim);obtain ⟨_,H10,I10,_,w10⟩:=h10;refine Z04 (Z04 ⟨rfl,m',hm',i+1,σ8,H10,I10.unpinned,?_,T.keep _ _ _ st7 λb hb o e=>(I10.pin (b,o) (Z02 _ (Z02 _ (A2q hb e)))).1,λb hb=> ?_,w10⟩)
   ·exact kp8.get
   ·obtain ⟨o,e,d⟩:=T.obj _ _ st7 b hb;exact (I10.pin (b,o) (Z02 _ (Z02 _ (A2q hb e)))).2.1
 have e5:s3.heap.objs.size=(s2.heap.push { cls:= .type "list",data:= .seq ([]:List Value).toArray }).objs.size:=by rw [e3]
 rw [e5] at loop;exact codeAny_compStart_list (loop _ rfl) (T.self X.A 0 _ _ _ st3 (loop _ rfl))
theorem B9w (k:Str):∀{vs:List Value} {ns:List Str},StrsAre vs ns->vs.countP (isStrOf k)=ns.count k
 | _,_,.nil=>rfl
 | _,_,.cons n t h=>by
  rw [List.countP_cons,List.count_cons,B9w k h];rfl
theorem C2o:MtM X "list.count" (λx vs H Q=>∃(l:Addr) (ns:List Str) (k:Str),x= .ref l/\vs=[.str k]/\H l=some (.lst (ns.map V.str))/\Q (.int (ns.count k:Nat)) H):=by
 intro pins s σ H x vs v us Q I rx rv h;obtain ⟨l,ns,k,rfl,rfl,hH,q⟩:=h;cases rx;obtain ⟨u,rfl,t,rfl⟩:=A7i rv;obtain ⟨z,its,n,r,hl,e⟩:=I.lstM hH;have hi:=A7g r
 refine call_meets PySem.F.slot_list_count ⟨_,e,rfl⟩ PySem.F.entry_list_count (PySem.F.args_list_count_2 _ _)
  (SeqAt.list_countAt l its.toArray n none #[] (.str k t) (isStrOf k)) ⟨e,λy hy=>(eq_isStrOf k t hi y (by simpa using hy)).at _ _,⟨.int (ns.count k:Nat),H,I.tok _,⟨s.toks,by rw [show its.toArray.toList=its from rfl,B9w k hi]⟩,q⟩⟩
end
end L2
namespace My
open PySem L2
inductive Op3 | plus | minus | times
inductive Tm
 | num (z:Int) | place (x:Str) | read (a:Str) (ix:List (Str×Int)) | sum (x:Str) (b:Tm) | pair (k:Op3) (l r:Tm) | guard (x:Str) (lo hi:Int) (l r:Tm)
def Op3.sign:Op3->Str | .plus=>"+" | .minus=>"-" | .times=>"*"
def C7s (e:Str×Int):PyData:= .tuple [.str e.1,.int e.2]
def A7y (ix:List (Str×Int)):PyData:= .list (ix.map C7s)
def dep:Tm->Nat
 | .sum _ b=>dep b+1
 | .pair _ l r=>max (dep l) (dep r)+1
 | .guard _ _ _ l r=>max (dep l) (dep r)+1
 | _=>1
def nod:Tm->Nat
 | .sum _ b=>nod b+1
 | .pair _ l r=>nod l+nod r+1
 | .guard _ _ _ l r=>nod l+nod r+1
 | _=>1
def Sm (z:Int):Prop:=z.natAbs<=10^32
def D3o (x:Str):Prop:=x.length<=20/\PyData.strOk x=true
def leaf:Tm->Bool
 | .num _ | .place _ | .read _ _=>true
 | _=>false
def B6d (e:Str×Int):Str:=if e.1="" then (toString e.2:Str) else if e.2=0 then e.1 else if 0<e.2 then e.1++"+"++(toString e.2:Str) else e.1++(toString e.2:Str)
def B4a (ix:List (Str×Int)):Str:=Txt.join "," (ix.map B6d)
def A1f:Tm->List Str
 | .num z=>[(toString z:Str)]
 | .place x=>[x]
 | .read a ix=>[a++"["++B4a ix++"]"]
 | .sum x b=>[("sum":Str),x]++A1f b
 | .pair k l r=>[k.sign]++A1f l++A1f r
 | .guard x lo hi l r=>[("if":Str),x,(toString lo:Str),(toString hi:Str)]++A1f l++A1f r
theorem A4j:∀t:Tm,(A1f t).length<=4*nod t
 | .num z=>by simp [A1f,nod]
 | .place x=>by simp [A1f,nod]
 | .read a ix=>by simp [A1f,nod]
 | .sum x b=>by have:=A4j b;simp only [A1f,nod,Z06,Z0y,Z2g];lia
 | .pair k l r=>by have:=A4j l;have:=A4j r;simp only [A1f,nod,Z06,Z0y,Z2g];lia
 | .guard x lo hi l r=>by have:=A4j l;have:=A4j r;simp only [A1f,nod,Z06,Z0y,Z2g];lia
theorem B6c:∀t:Tm,1<=dep t
 | .num z=>by simp [dep]
 | .place x=>by simp [dep]
 | .read a ix=>by simp [dep]
 | .sum x b=>by simp [dep]
 | .pair k l r=>by simp [dep]
 | .guard x lo hi l r=>by simp [dep]
theorem C5k {n:Nat} (h:n<10^33):(Str.ofString (Nat.repr n)).length<=33:=by
 rw [PyProof.Rows.ofString_len]
 simpa [Nat.repr] using PySem.toDigits_len_pow (b:=10) (k:=33) (by decide) (by decide) h
theorem D1o (a b:String):Str.ofString (a++b)=Str.ofString a++Str.ofString b:=by
 rw [Str.ofString_eq_toList,Str.ofString_eq_toList,Str.ofString_eq_toList];apply Str.ext';simp [Str.cps_append,String.toList_append]
theorem D1m {z:Int} (h:Sm z):(toString z:Str).length<=34:=by
 unfold Sm at h
 cases z with
 | ofNat m =>
  have hm:m<10^33:=Z2d (show m<=10^32 from h) (by decide);exact Nat.le_succ_of_le (C5k hm)
 | negSucc m =>
  have hm:m+1<10^33:=Z2d (show m+1<=10^32 from h) (by decide);have e:(toString (Int.negSucc m):Str)=Str.ofString "-"++Str.ofString (Nat.repr (m+1)):=D1o "-" (Nat.repr (m+1));rw [e,Str.length_append];have h1:=C5k hm;have h2:(Str.ofString "-").length=1:=by decide +kernel
  lia
theorem B3v {z:Int} (h:Sm z):z.natAbs.log2<1920:=by
 by_cases h0:z.natAbs=0
 ·rw [h0];decide
 ·exact (Nat.log2_lt h0).mpr (Z2d h (Z0q (show 10^32<2^110 by decide) (Nat.pow_le_pow_right (by decide) (by decide))))
theorem C7m {e:Str×Int} (h1:D3o e.1) (h2:Sm e.2):(B6d e).length<=60:=by
 have l:=D1m h2;have n:=h1.1;have p:("+":Str).length=1:=by decide +kernel
 unfold B6d;split
 ·lia
 ·split
  ·lia
  ·split
   ·rw [Str.length_append,Str.length_append];lia
   ·rw [Str.length_append];lia
theorem C5l:∀ix:List (Str×Int),(∀e∈ix,D3o e.1/\Sm e.2)->((ix.map B6d).map (·.length)).sum<=60*ix.length
 | [],_=>by simp
 | e::r,h=>by
  have:=C5l r λe he=>h e (.tail _ he);have:=C7m (h e (.head _)).1 (h e (.head _)).2;simp only [Z0p,List.sum_cons,Z0y]
  lia
abbrev abc:Str:="abcdefghijklmnopqrstuvwxyz"
theorem D0o:abc.cps.toList.length=26:=by decide +kernel
theorem C7t:abc.length=26:=by decide +kernel
theorem D5p {x:Str}:PyData.strOk x=true↔∀c∈x.cps.toList,c<0x110000:=by
 unfold PyData.strOk;rw [<-Array.all_toList,List.all_eq_true];simp
theorem C6d {ix:List (Str×Int)}:PyData.depth (A7y ix)<=2:=by
 have h:∀l:List (Str×Int),PyData.depthAll (l.map C7s)<=1:=by
  intro l
  induction l with
  | nil=>simp [PyData.depthAll]
  | cons e r ih=>simp [C7s,PyData.depthAll,PyData.depth] at *;lia
 have:=h ix;simp only [A7y,PyData.depth]
 lia
theorem C9g {ix:List (Str×Int)}:cnt (A7y ix)<=1+3*ix.length:=by
 have h:∀l:List (Str×Int),A3j (l.map C7s)<=3*l.length:=by
  intro l
  induction l with
  | nil=>simp [A3j]
  | cons e r ih=>simp only [C7s,A3j,cnt,Z0p,Z0y] at *;lia
 have:=h ix;simp only [A7y,cnt]
 lia
section
variable {G:Hp} {v:V}
end
end My
namespace M84
open PySem PySem.NumText
abbrev sg (x:Str):List Nat:=x.cps.toList
theorem A4l {x y:Str} (h:sg x=sg y):x=y:=Str.ext' (Array.toList_inj.mp h)
theorem A1o (x y:Str):sg (x++y)=sg x++sg y:=PySem.W.KT.app_list x y
theorem A1r (x:Str):(sg x).length=x.length:=by simp [sg,Str.length]
def spl (c:Nat):List Nat->List (List Nat)
 | []=>[[]]
 | a::r=>if a=c then []::spl c r else match spl c r with
  | []=>[[a]]
  | h::t=>(a::h)::t
theorem B5l {c:Nat}:∀{l:List Nat},c∉l->spl c l=[l]
 | [],_=>rfl
 | a::r,h=>by
  have h1:a≠c:=λe=>h (e▸.head _);rw [spl,Z0t h1,B5l λm=>h (.tail _ m)]
theorem A7o (c:Nat):∀l:List Nat,spl c l≠[]
 | []=>by simp [spl]
 | a::r=>by
  rw [spl];split
  ·simp
  ·split <;> simp
theorem C5t (c:Nat) (r:List Nat):∀p:List Nat,spl c (p++c::r)=spl c p++spl c r
 | []=>by simp [spl]
 | a::p=>by
  have ih:=C5t c r p;rw [Z17,spl,spl];by_cases e:a=c
  ·rw [Z12 e,Z12 e,ih,Z17]
  ·rw [Z0t e,Z0t e,ih]
   cases q:spl c p with
   | nil=>exact absurd q (A7o c p)
   | cons h t=>rfl
def jn (c:Nat):List (List Nat)->List Nat
 | []=>[]
 | [p]=>p
 | p::q::r=>p++c::jn c (q::r)
theorem B9x {c:Nat}:∀{ps:List (List Nat)},ps≠[]->(∀p∈ps,c∉p)->spl c (jn c ps)=ps
 | [],h,_=>absurd rfl h
 | [p],_,h=>B5l (h p (.head _))
 | p::q::r,_,h=>by
  rw [jn,C5t,B5l (h p (.head _)),B9x (by simp) λx hx=>h x (.tail _ hx)];rfl
theorem B9j (c:Nat):∀l:List Nat,jn c (spl c l)=l
 | []=>rfl
 | a::r=>by
  have ih:=B9j c r;rw [spl];by_cases e:a=c
  ·rw [Z12 e]
   cases q:spl c r with
   | nil=>exact absurd q (A7o c r)
   | cons h t=>rw [q] at ih;rw [jn,ih,e];rfl
  ·rw [Z0t e]
   cases q:spl c r with
   | nil=>exact absurd q (A7o c r)
   | cons h t =>
    rw [q] at ih
    cases t with
    | nil=>simp only [jn] at ih⊢;rw [ih]
    | cons u v=>simp only [jn] at ih⊢;rw [<-ih];rfl
theorem B1r {c x:Nat}:∀{ps:List (List Nat)},x∈jn c ps->x=c\/∃p∈ps,x∈p
 | [],h=>by cases h
 | [p],h=> .inr ⟨p,.head _,h⟩
 | p::q::r,h=>by
  rw [jn] at h;rcases Z07.mp h with h | h
  ·exact .inr ⟨p,.head _,h⟩
  ·rcases Z0e.mp h with h | h
   ·exact .inl h
   ·rcases B1r h with h | ⟨y,hy,hx⟩
    ·exact .inl h
    ·exact .inr ⟨y,.tail _ hy,hx⟩
theorem B8d (c:Nat):∀ps:List Str,sg (Str.join ⟨#[c]⟩ ps)=jn c (ps.map sg)
 | []=>rfl
 | [p]=>rfl
 | p::q::r=>by
  show sg (p++⟨#[c]⟩++Str.join ⟨#[c]⟩ (q::r))=_;rw [A1o,A1o,B8d c (q::r)];show (sg p++[c])++jn c ((q::r).map sg)=sg p++c::jn c ((q::r).map sg);simp
theorem A2a (c:Nat) (ps:List Str):sg (Txt.join ⟨#[c]⟩ ps)=jn c (ps.map sg):=by
 show sg (Builtin.Str.glued ⟨#[c]⟩ ps)=_;rw [StrLaws.glued_eq_join,B8d]
theorem B4g (x:Str) (c:Nat):Txt.split x ⟨#[c]⟩≠[]:=by
 unfold Txt.split;split
 ·simp
 ·split
  ·simp
  ·rw [StrLaws.partsBetween_eq];cases Builtin.Str.occurrences x ⟨#[c]⟩ 0 x.length (x.length+1) <;> simp [StrLaws.partsFrom]
theorem A4h (x:Str) (c:Nat):(Txt.split x ⟨#[c]⟩).map sg=spl c (sg x):=by
 have h1:=B8d c (Txt.split x ⟨#[c]⟩);rw [StrLaws.join_split] at h1;rw [h1,B9x]
 ·intro e;exact B4g x c (List.map_eq_nil_iff.mp e)
 ·intro p hp;obtain ⟨q,hq,rfl⟩:=Z2c.mp hp;exact StrLaws.split_free x c q hq
structure B0x (u:List Nat):Prop where
 l1:1<=u.length
 l2:u.length<=30
 dg:∀c∈u,48<=c/\c<=57
 z:u.head? =some 48->u.length=1
def B1j (n:Nat):List Nat:=(Nat.toDigits 10 n).map Char.toNat
theorem B9u (n:Nat):sg (Str.ofString (toString (n:Int)))=B1j n:=PySem.W.KIN.signs_num n
theorem C0q (n:Nat):digitsVal (B1j n)=n:=PySem.W.KIN.val_back n
theorem D5x:∀d:Nat,d<10->(Nat.digitChar d).toNat=48+d:=by decide
theorem B2v {n:Nat} (h:n<10):B1j n=[48+n]:=by
 unfold B1j;rw [Nat.toDigits_of_lt_base h];simp [D5x n h]
theorem B5o {n:Nat} (h:10<=n):B1j n=B1j (n/10)++[48+n%10]:=by
 have hm:n%10<10:=Nat.mod_lt n (by decide);have t:Nat.toDigits 10 (n/10)++Nat.toDigits 10 (n%10)=Nat.toDigits 10 (10*(n/10)+n%10):=Nat.toDigits_append_toDigits (by decide) (by lia) hm;rw [Nat.div_add_mod] at t;show (Nat.toDigits 10 n).map Char.toNat=_;rw [<-t,Z0s];show B1j (n/10)++B1j (n%10)=_;rw [B2v hm]
theorem A6y (n:Nat):∀c∈B1j n,48<=c/\c<=57:=by
 induction n using Nat.strongRecOn with
 | _ n ih =>
  intro c hc;by_cases h:n<10
  ·rw [B2v h] at hc;rw [Z0w.mp hc];lia
  ·rw [B5o (by lia)] at hc;rcases Z07.mp hc with hc | hc
   ·exact ih (n/10) (by lia) c hc
   ·rw [Z0w.mp hc];lia
theorem B4h (n:Nat):1<=(B1j n).length:=by
 by_cases h:n<10
 ·rw [B2v h];simp
 ·rw [B5o (by lia)];simp
theorem C7f {k:Nat}:∀{n:Nat},1<=k->n<10^k->(B1j n).length<=k:=by
 induction k with
 | zero=>intro n h;lia
 | succ k ih =>
  intro n _ hn;by_cases h:n<10
  ·rw [B2v h];simp
  ·rw [B5o (by lia),Z06]
   have h2:n/10<10^k:=by
    rw [Nat.pow_succ] at hn;exact Nat.div_lt_of_lt_mul (by lia)
   have:1<=k:=by
    cases k with
    | zero=>simp at hn;lia
    | succ k=>lia
   have:=ih this h2;simp;lia
theorem C4b (n:Nat):(B1j n).head? =some 48->n=0:=by
 induction n using Nat.strongRecOn with
 | _ n ih =>
  intro hc;by_cases h:n<10
  ·rw [B2v h] at hc;simp at hc;lia
  ·rw [B5o (by lia)] at hc;have hp:=B4h (n/10)
   cases q:B1j (n/10) with
   | nil=>rw [q] at hp;simp at hp
   | cons a r =>
    rw [q] at hc;have:=ih (n/10) (by lia) (by rw [q];exact hc)
    lia
theorem B1q {n:Nat} (h:n<10^30):B0x (B1j n):=⟨B4h n,C7f (by decide) h,A6y n,λe=>by
 rw [C4b n e];decide⟩
theorem C8x {x:Str} (h:B0x (sg x)):PySem.intText? x=some ((digitsVal (sg x):Nat):Int) :=
 intText_digits h.dg (λe=>by have:=h.l1;rw [show sg x=[] from e] at this;simp at this) (by rw [<-A1r];have:=h.l2;lia)
section
variable {w:List Nat} {ns:List Nat}
end
end M84
namespace My
open PySem L2 M84
def tx (l:List Nat):Str:=⟨l.toArray⟩
theorem A7k (l:List Nat):sg (tx l)=l:=by simp [sg,tx]
theorem D0g (x:Str):tx (sg x)=x:=by simp [sg,tx]
theorem D3r {x:Str} {l:List Nat} (h:sg x=l):x=tx l:=by rw [<-h,D0g]
structure Ltr (x:Str):Prop where
 ne:sg x≠[]
 dg:∀c∈sg x,97<=c/\c<=122
 ln:x.length<=20
def B30 (z:Int):Prop:=z.natAbs<10^30
def zsg (z:Int):List Nat:=if z<0 then 45::B1j z.natAbs else B1j z.natAbs
theorem D6v (a b:String):sg (Str.ofString (a++b))=sg (Str.ofString a)++sg (Str.ofString b):=by
 show (Str.ofString (a++b)).cps.toList=_;rw [PyProof.Rows.signs_ofString,String.toList_append,Z0s];show _=(Str.ofString a).cps.toList++(Str.ofString b).cps.toList;rw [PyProof.Rows.signs_ofString,PyProof.Rows.signs_ofString]
theorem A7u:∀z:Int,sg (Str.ofString (toString z))=zsg z
 | .ofNat n=>by
  have:=B9u n;show sg (Str.ofString (toString ((n:Nat):Int)))=_;rw [this];unfold zsg;rw [Z0t (by simp)];rfl
 | .negSucc m=>by
  have e:toString (Int.negSucc m)="-"++toString (((m+1:Nat)):Int):=rfl;have h1:sg (Str.ofString "-")=[45]:=by decide +kernel
  rw [e,D6v,h1,B9u];unfold zsg;rw [Z12 (Int.negSucc_lt_zero m)];rfl
theorem B5m {x:Str} {c:Nat} {p r:List Nat} (h:sg x=p++c::r) (hp:c∉p):Txt.partition x ⟨#[c]⟩=(tx p,⟨#[c]⟩,tx r):=by
 have hat:(sg x)[p.length]? =some c:=by rw [h,Z1l (Z09 _),Nat.sub_self];rfl
 rcases PyProof.Rows.partition_whole x ⟨#[c]⟩ with ⟨_,hn⟩ | ⟨i,e,hi,hn⟩
 ·exact absurd ((StrLaws.subAt_one x c p.length).mpr hat) (hn p.length)
 ·have hi':(sg x)[i]? =some c:=(StrLaws.subAt_one x c i).mp hi
  have:i=p.length:=by
   rcases Nat.lt_trichotomy i p.length with z | z | z
   ·rw [h,Z26 z] at hi';exact absurd (Z13 hi') hp
   ·exact z
   ·exact absurd ((StrLaws.subAt_one x c p.length).mpr hat) (hn _ z)
  subst this;rw [e]
  have e1:Builtin.Str.strSub x 0 p.length=tx p:=by
   refine D3r ?_;show (x.cps.extract 0 p.length).toList=p;rw [Array.toList_extract];show ((sg x).extract 0 p.length)=p;rw [h];simp [List.extract]
  have e2:Builtin.Str.strSub x (p.length+(⟨#[c]⟩:Str).length) x.length=tx r:=by
   refine D3r ?_;show (x.cps.extract (p.length+1) x.length).toList=r;rw [Array.toList_extract];have hl:=A1r x;show ((sg x).extract (p.length+1) x.length)=r;rw [<-hl,h];have:(p++c::r).drop (p.length+1)=r:=by rw [show p++c::r=(p++[c])++r by simp,List.drop_append_of_le_length (by simp),show p.length+1=(p++[c]).length by simp,List.drop_length];rfl
   unfold List.extract;rw [this];exact Z2l (by simp;lia)
  rw [e1,e2]
theorem C0k (x:Str) (c:Nat):Txt.startswith x ⟨#[c]⟩=decide ((sg x).head? =some c):=by
 rw [Bool.eq_iff_iff,decide_eq_true_eq,List.head?_eq_getElem?,<-StrLaws.subAt_one]
 unfold Txt.startswith
 rw [Z1x,decide_eq_true_eq]
theorem C6c {x:Str} {n:Nat} (h:n<=x.length):sg (Txt.slice x none (some (n:Int)))=(sg x).take n:=by
 have e:=beq_iff_eq.mp (PyProof.Rows.slice_closes_to (x:=x) (j:=(n:Int)) ⟨by lia,by have:=A1r x;show (n:Int)<=((sg x).length:Nat);lia⟩);rw [e];simp [sg]
theorem B9c {x:Str} {n:Nat} (h:n<=x.length):sg (Txt.slice x (some (n:Int)) none)=(sg x).drop n:=by
 have e:=PyProof.Rows.slice_from_eq (x:=x) (i:=(n:Int)) (b:=(x.length:Nat)) (by lia) (by lia) rfl;rw [e];have hl:=A1r x;show List.take _ (List.drop _ (sg x))=_;rw [show ((n:Int)).toNat=n by lia];exact Z2l (by rw [Z19];lia)
theorem D0p {x:Str} (h:1<=x.length):sg (Txt.slice x none (some (-1:Int)))=(sg x).dropLast:=by
 have e:=beq_iff_eq.mp (PyProof.Rows.slice_closes_to_neg (x:=x) (j:= -1) (k:= -1+x.length) (by decide) (by lia) rfl);rw [e,List.dropLast_eq_take];have hl:=A1r x;show List.take _ (List.drop _ (sg x))=_;rw [show ((-1+(x.length:Int))-0).toNat=(sg x).length-1 by lia];rfl
theorem C3n (n:Nat):B1j n≠[]:=λe=>by have:=B4h n;rw [e] at this;simp at this
theorem C8r {n:Nat} (h:n<10^30):B0x (sg (Str.ofString (toString (n:Int)))):=by rw [B9u];exact B1q h
theorem C8k {n:Nat} (h:n<10^30):(Str.ofString (toString (n:Int))).length<=30:=by rw [<-A1r];exact (C8r h).l2
theorem B1i {z:Int} (h:B30 z):(Str.ofString (toString z)).length<=31:=by
 rw [<-A1r,A7u];have:=(B1q h).l2;unfold zsg;split
 ·simp;lia
 ·lia
theorem B9o (n:Nat):∃c r,B1j n=c::r/\48<=c/\c<=57:=by
 cases e:B1j n with
 | nil=>exact absurd e (C3n n)
 | cons c r=>exact ⟨c,r,rfl,A6y n c (by rw [e];exact .head _)⟩
theorem B4b (z:Int):∃c r,zsg z=c::r/\(c=45/\z<0\/(48<=c/\c<=57)/\0<=z):=by
 unfold zsg;split
 ·exact ⟨_,_,rfl,.inl ⟨rfl,by assumption⟩⟩
 ·obtain ⟨c,r,e,h⟩:=B9o z.natAbs;exact ⟨c,r,e,.inr ⟨h,by lia⟩⟩
theorem C4j (z:Int):∀c∈zsg z,c=45\/(48<=c/\c<=57):=by
 unfold zsg;split
 ·intro c hc;rcases Z0e.mp hc with h | h
  ·exact .inl h
  ·exact .inr (A6y _ c h)
 ·exact λc hc=> .inr (A6y _ c hc)
def B1h (e:Str×Int):Prop:=(e.1=""\/Ltr e.1)/\B30 e.2
theorem C9v:("+":Str)=⟨#[43]⟩:=by decide +kernel
theorem B8z:("-":Str)=⟨#[45]⟩:=by decide +kernel
theorem B9p:("[":Str)=⟨#[91]⟩:=by decide +kernel
theorem B9a:("]":Str)=⟨#[93]⟩:=by decide +kernel
theorem B8u:(",":Str)=⟨#[44]⟩:=by decide +kernel
theorem A2p:(" ":Str)=⟨#[32]⟩:=by decide +kernel
theorem B4p:("\n":Str)=⟨#[10]⟩:=by decide +kernel
def ixS (e:Str×Int):List Nat:=if e.1="" then zsg e.2 else if e.2=0 then sg e.1 else if 0<e.2 then sg e.1++43::B1j e.2.natAbs else sg e.1++45::B1j e.2.natAbs
theorem C4l (e:Str×Int):sg (B6d e)=ixS e:=by
 unfold B6d ixS;split
 ·exact A7u _
 ·split
  ·rfl
  ·split
   ·rw [A1o,A1o,A7u,C9v];unfold zsg;rw [Z0t (by lia)];simp [sg]
   ·rw [A1o,A7u];unfold zsg;rw [Z12 (by lia)]
def IxC (c:Nat):Prop:=(97<=c/\c<=122)\/(48<=c/\c<=57)\/c=43\/c=45
theorem C3h {e:Str×Int} (h:B1h e):∀c∈ixS e,IxC c:=by
 have hd:e.1≠""->∀c∈sg e.1,IxC c:=λn c hc=> .inl ((h.1.resolve_left n).dg c hc);intro c hc;unfold ixS at hc;split at hc
 ·rcases C4j _ c hc with z | z
  ·exact .inr (.inr (.inr z))
  ·exact .inr (.inl z)
 ·rename_i n;split at hc
  ·exact hd n c hc
  ·split at hc
   ·rcases Z07.mp hc with z | z
    ·exact hd n c z
    ·rcases Z0e.mp z with z | z
     ·exact .inr (.inr (.inl z))
     ·exact .inr (.inl (A6y _ c z))
   ·rcases Z07.mp hc with z | z
    ·exact hd n c z
    ·rcases Z0e.mp z with z | z
     ·exact .inr (.inr (.inr z))
     ·exact .inr (.inl (A6y _ c z))
theorem B6r {x:Str} (h:Ltr x) {c:Nat} (hc:c<97):c∉sg x:=λm=>by have:=h.dg c m;lia
theorem D1z {n c:Nat} (hc:c<48\/57<c):c∉B1j n:=λm=>by have:=A6y n c m;lia
theorem B0o (ix:List (Str×Int)):sg (B4a ix)=jn 44 (ix.map ixS):=by
 unfold B4a;rw [B8u,A2a,List.map_map];congr 1;exact List.map_congr_left λe _=>C4l e
theorem D2h {ix:List (Str×Int)} (h:∀e∈ix,B1h e):∀c∈sg (B4a ix),c=44\/IxC c:=by
 intro c hc;rw [B0o] at hc;rcases B1r hc with z | ⟨p,hp,z⟩
 ·exact .inl z
 ·obtain ⟨e,he,rfl⟩:=Z2c.mp hp;exact .inr (C3h (h e he) c z)
def top (i:Nat):Stmt:=PySem.Challenge.pw_arrayloom_k82_no_programs.main.body.getD i (.Pass ⟨0,0,0,0⟩)
abbrev B4z:Stmt:=top 7
abbrev B0e:Stmt:=A2n (top 10) 0
abbrev A4v:Stmt:=A2n (top 11) 0
abbrev A5q:Stmt:=A2n (top 14) 0
abbrev A7s:Stmt:=A2n (top 14) 3
abbrev A6i:Stmt:=A2n (top 15) 0
abbrev A9l:Stmt:=A2n (top 15) 3
abbrev A7z:Stmt:=A2n (top 16) 0
abbrev B0i:Stmt:=A2n (top 16) 4
abbrev B0u:Stmt:=top 17
abbrev A8f:Stmt:=A2n (top 18) 0
abbrev B0j:Stmt:=A2n (top 18) 3
abbrev B2m:Stmt:=A2n (top 19) 1
abbrev B0v:Stmt:=A2n (top 20) 1
abbrev B0p:Stmt:=A2n (top 21) 1
abbrev A9s:Stmt:=A2n (top 22) 0
abbrev B2o:Stmt:=A2n (top 22) 3
abbrev A6t:Stmt:=A2n (top 23) 0
abbrev A9g:Stmt:=A2n (top 23) 6
abbrev A4p:Stmt:=top 25
abbrev A4w:Stmt:=top 32
abbrev A9u:Stmt:=top 33
abbrev A6h:Stmt:=top 34
abbrev A8e:Stmt:=top 35
abbrev A6g:Stmt:=top 36
abbrev A9v:Stmt:=top 37
abbrev A9t:Stmt:=top 38
abbrev A4b:Stmt:=top 39
abbrev A6j:Stmt:=top 40
abbrev A8q:Stmt:=top 41
abbrev A5p:Stmt:=top 42
abbrev A4o:Stmt:=top 43
abbrev A4z:Stmt:=top 44
abbrev A8b:Stmt:=top 45
abbrev A4y:Stmt:=A2n (top 46) 0
abbrev A3g:Stmt:=A2n (top 46) 1
abbrev A8g:Stmt:=top 47
abbrev A7x:Stmt:=top 48
abbrev A8o:Stmt:=top 49
abbrev A6z:Stmt:=top 50
abbrev A8k:Stmt:=top 51
abbrev A4r:Stmt:=top 52
abbrev A8l:Stmt:=top 53
abbrev A6p:Stmt:=top 54
abbrev A8m:Stmt:=top 56
abbrev B2u:Stmt:=top 57
abbrev A8p:Stmt:=top 58
abbrev A9x:Stmt:=top 59
abbrev A5v:Stmt:=top 60
abbrev A8j:Stmt:=top 61
abbrev A6v:Stmt:=top 62
abbrev A6n:Stmt:=top 63
abbrev A5d:Stmt:=top 64
abbrev B5b:Stmt:=top 65
abbrev A8d:Stmt:=top 66
abbrev A6l:Stmt:=top 67
abbrev A5t:Stmt:=top 68
abbrev B1x:Stmt:=top 69
abbrev B5n:Stmt:=top 70
abbrev B1s:Stmt:=top 71
abbrev A4m:Stmt:=top 72
abbrev A9z:Stmt:=top 73
abbrev C7p:Stmt:=top 74
structure TyC (K:Frag) (C:Addr):Prop where
 ha:findIn K (.ref C) "__class__"=some (some (.builtin "object.__class__"))
 hn:specialIn K (.builtin "object.__class__") "__get__"=some (some (.builtin "getset_descriptor.__get__"))
 htk:takesIn K (.builtin "object.__class__")=some true
 hm:mroIn K C (.type "object")=some true
abbrev D8d:List Str:=["self","name","axes","term"]
abbrev D9t:List Str:=["self","wheel","axes","tables","lets","outs"]
abbrev B3a:List Str:=["self"]
abbrev E0n:List Str:=["self","array","indexes"]
abbrev D8z:List Str:=["self","left","right"]
abbrev D7z:List Str:=["self","axis","body"]
abbrev D8y:List Str:=["self","axis","low","high","inner","outer"]
abbrev A9o:List Str:=["words"]
abbrev D7c:List Str:=["words","number"]
abbrev B7u:List Str:=["word"]
abbrev B7o:List Str:=["figures"]
abbrev D2o:List Str:=["_law_script","_law_k"]
abbrev D0c:List Str:=["_law_cell","_law_k"]
abbrev A5a:List Str:=["_law_rest"]
abbrev C1s:List Str:=["_law_cells","_law_at","_law_room"]
abbrev C1b:List Str:=["_law_script"]
abbrev D0r:List Str:=["_law_text","_law_signs","_law_rest"]
abbrev D0b:List Str:=["_law_rows_here","_law_rest"]
abbrev C2a:List Str:=["_law_rows_here","_law_way","_law_rest"]
abbrev pz19z:List Str:=[" ++ insW ix ++ "]
set_option genInjectivity false in
set_option genSizeOf false in
structure Adr where
 j0:Addr
 ke:Addr
 ib:Addr
 am:Addr
 bn:Addr
 ac:Addr
 qL:Addr
 dm:Addr
 fz:Addr
 br:Addr
 qK:Addr
 fh:Addr
 cu:Addr
 cz:Addr
 gz:Addr
 bd:Addr
 aq:Addr
 cw:Addr
 fe:Addr
 fb:FuncData
 jt:Addr
 oh:FuncData
 eu:Addr
 ju:FuncData
 g4:Addr
 kj:FuncData
 fq:Addr
 jp:FuncData
 gk:Addr
 l_:FuncData
 g5:Addr
 ky:FuncData
 i_:Addr
 mr:FuncData
 gi:Addr
 lu:FuncData
 mi:Addr
 m9:FuncData
 di:Addr
 nz:FuncData
 cf:Addr
 m6:FuncData
 im:Addr
 n8:FuncData
 gl:Addr
 m8:FuncData
 gf:Addr
 mj:FuncData
 js:Addr
 o0:FuncData
 ij:Addr
 nq:FuncData
 gq:Addr
 lq:FuncData
 g6:Addr
 kx:FuncData
 ja:Addr
 jg:FuncData
 fj:Addr
 ft:FuncData
 jx:Addr
 jz:FuncData
 gs:Addr
 gr:FuncData
 j5:Addr
 ik:FuncData
 gj:Addr
 g_:FuncData
 kc:Addr
 jw:FuncData
 jv:Addr
 j_:FuncData
 dq:Addr
 dn:FuncData
 gv:Addr
 gu:FuncData
 iq:Addr
 iz:FuncData
 g7:Addr
 g8:FuncData
 ef:Addr
 eh:FuncData
 fo:Addr
 fi:FuncData
 nu:Addr
 nj:FuncData
 fg:Addr
 jr:FuncData
 bh:Addr
 c8:FuncData
 j4:Addr
 j2:FuncData
 bf:Addr
 be:FuncData
 iy:Addr
 iu:FuncData
 gm:Addr
 gn:FuncData
 iw:Addr
 ir:FuncData
 je:Addr
 jb:FuncData
 ip:Addr
 j1:FuncData
 gx:Addr
 gg:FuncData
 nc:Addr
 mv:FuncData
 ou:Addr
 p9:FuncData
 ny:Addr
 mt:FuncData
 oi:Addr
 ol:FuncData
 kh:Addr
 ko:FuncData
 mn:Addr
 ni:FuncData
 cb:Addr
 cg:FuncData
 lj:Addr
 m3:FuncData
 kg:Addr
 jj:FuncData
 pK:Addr
 pj:FuncData
 mw:Addr
 n_:FuncData
 lh:Addr
 mf:FuncData
 kq:Addr
 ki:FuncData
 p8:Addr
 ot:FuncData
 pp:Addr
 pP:FuncData
 pb:Addr
 oz:FuncData
 jf:Addr
 j9:FuncData
 on:Addr
 og:FuncData
 qA:Addr
 qE:FuncData
structure FQ (K:Frag) (mg:Str->Option Value) (x q:Str) (st:Stmt) (f:Addr) (fd:FuncData) (ps:List Str):Prop where
 F:Fun K x q st f fd
 m:mg x=some (.ref f)
 b:B0a K fd ps []
structure FM (K:Frag) (x q:Str) (st:Stmt) (f:Addr) (fd:FuncData) (ps:List Str):Prop where
 F:Fun K x q st f fd
 b:B0a K fd ps []
structure Txt (K:Frag) (mg:Str->Option Value) (t:Adr):Prop where
 av:FQ K mg "copied" "copied" B4z t.fe t.fb ["value"]
 gc:FM K "__init__" "Let.__init__" B0e t.jt t.oh D8d
 cj:FM K "__init__" "Program.__init__" A4v t.eu t.ju D9t
 dk:FM K "__init__" "Number.__init__" A5q t.g4 t.kj ["self","number"]
 pR:FM K "words" "Number.words" A7s t.fq t.jp B3a
 d_:FM K "__init__" "Place.__init__" A6i t.gk t.l_ ["self","axis"]
 p_:FM K "words" "Place.words" A9l t.g5 t.ky B3a
 cy:FM K "__init__" "Read.__init__" A7z t.i_ t.mr E0n
 qc:FM K "words" "Read.words" B0i t.gi t.lu B3a
 qi:FQ K mg "index_word" "index_word" B0u t.mi t.m9 ["axis","shift"]
 bu:FM K "__init__" "Pair.__init__" A8f t.di t.nz D8z
 q9:FM K "words" "Pair.words" B0j t.cf t.m6 B3a
 qq:FM K "sign" "Plus.sign" B2m t.im t.n8 B3a
 qg:FM K "sign" "Minus.sign" B0v t.gl t.m8 B3a
 qk:FM K "sign" "Times.sign" B0p t.gf t.mj B3a
 gb:FM K "__init__" "Sum.__init__" A9s t.js t.o0 D7z
 qm:FM K "words" "Sum.words" B2o t.ij t.nq B3a
 dt:FM K "__init__" "Guard.__init__" A6t t.gq t.lq D8y
 pV:FM K "words" "Guard.words" A9g t.g6 t.kx B3a
 bz:FQ K mg "is_of_letters" "is_of_letters" A4p t.ja t.jg ["text"]
 ao:FQ K mg "read_program" "read_program" A4w t.fj t.ft ["text"]
 dr:FQ K mg "by_sorts" "by_sorts" A9u t.jx t.jz ["rows"]
 ci:FQ K mg "read_wheel" "read_wheel" A6h t.gs t.gr A9o
 de:FQ K mg "read_axis" "read_axis" A8e t.j5 t.ik A9o
 ce:FQ K mg "read_table" "read_table" A6g t.gj t.g_ A9o
 dw:FQ K mg "read_let" "read_let" A9v t.kc t.jw A9o
 du:FQ K mg "read_out" "read_out" A9t t.jv t.j_ A9o
 ag:FQ K mg "look_number_of" "look_number_of" A4b t.dq t.dn D7c
 bb:FQ K mg "read_names" "read_names" A6j t.gv t.gu A9o
 aa:FQ K mg "read_name" "read_name" A8q t.iq t.iz B7u
 ah:FQ K mg "read_number" "read_number" A5p t.g7 t.g8 B7u
 aj:FQ K mg "read_counting" "read_counting" A4o t.ef t.eh B7o
 af:FQ K mg "read_natural" "read_natural" A4z t.fo t.fi B7o
 bo:FQ K mg "is_figure" "is_figure" A8b t.nu t.nj ["sign"]
 cq:FM K "__init__" "WordRow.__init__" A4y t.fg t.jr ["self","row"]
 au:FM K "next_word" "WordRow.next_word" A3g t.bh t.c8 B3a
 dj:FQ K mg "read_term" "read_term" A8g t.j4 t.j2 A9o
 ae:FQ K mg "next_term" "next_term" A7x t.bf t.be ["row"]
 da:FQ K mg "next_pair" "next_pair" A8o t.iy t.iu ["sign","row"]
 cc:FQ K mg "next_guard" "next_guard" A6z t.gm t.gn ["row"]
 dh:FQ K mg "read_leaf" "read_leaf" A8k t.iw t.ir B7u
 bi:FQ K mg "begins_number" "begins_number" A4r t.je t.jb ["text"]
 c_:FQ K mg "read_read" "read_read" A8l t.ip t.j1 B7u
 c9:FQ K mg "read_index" "read_index" A6p t.gx t.gg ["index"]
 ai:FQ K mg "_law_cell_at" "_law_cell_at" A8m t.nc t.mv D2o
 bg:FQ K mg "_law_mixed" "_law_mixed" B2u t.ou t.p9 D0c
 df:FQ K mg "_law_name_by" "_law_name_by" A8p t.ny t.mt A5a
 ba:FQ K mg "_law_any_by" "_law_any_by" A9x t.oi t.ol A5a
 bc:FQ K mg "_law_number_by" "_law_number_by" A5v t.kh t.ko A5a
 fk:FQ K mg "_law_read_by" "_law_read_by" A8j t.mn t.ni A5a
 bq:FQ K mg "_law_words_by" "_law_words_by" A6v t.cb t.cg C1s
 bp:FQ K mg "_law_names_by" "_law_names_by" A6n t.lj t.m3 ["_law_rest","_law_many"]
 cr:FQ K mg "_law_program_by" "_law_program_by" A5d t.kg t.jj C1b
 kd:FQ K mg "_law_rows" "_law_rows" B5b t.pK t.pj ["_law_program"]
 fu:FQ K mg "_law_odd_row" "_law_odd_row" A8d t.mw t.n_ A5a
 ee:FQ K mg "_law_odd_axis" "_law_odd_axis" A6l t.lh t.mf A5a
 dl:FQ K mg "_law_odd_wheel" "_law_odd_wheel" A5t t.kq t.ki A5a
 f_:FQ K mg "_law_place" "_law_place" B1x t.p8 t.ot D0r
 bv:FQ K mg "_law_kind" "_law_kind" B5n t.pp t.pP ["_law_row"]
 i9:FQ K mg "_law_short" "_law_short" B1s t.pb t.oz D0b
 b_:FQ K mg "_law_rows_spoilt" "_law_rows_spoilt" A4m t.jf t.j9 C2a
 g9:FQ K mg "_law_spoilt" "_law_spoilt" A9z t.on t.og C2a
 qo:FQ K mg "law" "law" C7p t.qA t.qE C1b
 jd:∃u,mg "MOST_FIGURES"=some u/\A2v (.int (30)) u
 jo:∃u,mg "LEAST_WHEEL"=some u/\A2v (.int (2)) u
 j6:∃u,mg "LEAST_LENGTH"=some u/\A2v (.int (1)) u
 kf:∃u,mg "MOST_LENGTH"=some u/\A2v (.int (60)) u
 jy:∃u,mg "SORTS"=some u/\A2v (.ref t.cw) u
 pq:∃(o:Obj) (its:Array Value) (n:Nat),K.lookup t.cw=some o/\o.cls= .type "tuple"/\o.data= .seq its n/\its.size<=sizeLine/\A3c [(.str "axis"),(.str "table"),(.str "let"),(.str "out")] its.toList
 pO:∃o:Obj,K.lookup t.cw=some o/\o.cls= .type "tuple"/\o.dict=none
 ng:mg "LoomError"=some (.ref t.j0)
 pi:mg "NoName"=some (.ref t.ke)
 ow:mg "NoShape"=some (.ref t.ib)
 a_:mg "NoText"=some (.ref t.am)
 e_:mroIn K t.am (.type "ValueError")=some true
 ay:excIn K t.am D7f "ValueError.__new__"=true
 fw:PySem.W.XcIn K t.am
 ig:kitOne K (.ref t.am) (.ref t.am)=some true
 ia:kitOne K (.ref t.am) (.ref t.ke)=some false
 gh:kitOne K (.ref t.am) (.ref t.ib)=some false
 g0:exmOne K (.ref t.am) (.ref t.j0)=some true
 qH:mg "Let"=some (.ref t.bn)
 o_:mg "Program"=some (.ref t.ac)
 pM:mg "Number"=some (.ref t.dm)
 qd:mg "Place"=some (.ref t.fz)
 pN:mg "Read"=some (.ref t.br)
 qu:mg "Plus"=some (.ref t.fh)
 q0:mg "Minus"=some (.ref t.cu)
 qh:mg "Times"=some (.ref t.cz)
 qD:mg "Sum"=some (.ref t.gz)
 qa:mg "Guard"=some (.ref t.bd)
 oy:mg "WordRow"=some (.ref t.aq)
 fm:Cls K t.bd
 pQ:Mk K t.bd t.gq
 ku:A1l K t.bd "axis"
 m4:A1l K t.bd "low"
 lg:A1l K t.bd "high"
 jl:A1l K t.bd "inner"
 jq:A1l K t.bd "outer"
 py:C0c K t.bd "words" t.g6
 qG:TyC K t.bd
 mh:Cls K t.bn
 qv:Mk K t.bn t.jt
 ml:A1l K t.bn "name"
 mo:A1l K t.bn "axes"
 mx:A1l K t.bn "term"
 m5:TyC K t.bn
 mq:mroIn K t.bn (.type "list")=some false
 m7:mroIn K t.bn (.type "tuple")=some false
 m_:mroIn K t.bn (.type "dict")=some false
 pL:Cls K t.cu
 pT:Mk K t.cu t.di
 k_:A1l K t.cu "left"
 jk:A1l K t.cu "right"
 pZ:C0c K t.cu "sign" t.gl
 pf:C0c K t.cu "words" t.cf
 qF:TyC K t.cu
 ox:Cls K t.dm
 pc:Mk K t.dm t.g4
 h_:A1l K t.dm "number"
 pd:C0c K t.dm "words" t.fq
 qy:TyC K t.dm
 pe:Cls K t.fz
 pU:Mk K t.fz t.gk
 kt:A1l K t.fz "axis"
 pz:C0c K t.fz "words" t.g5
 qC:TyC K t.fz
 ql:Cls K t.fh
 qb:Mk K t.fh t.di
 ma:A1l K t.fh "left"
 km:A1l K t.fh "right"
 qj:C0c K t.fh "sign" t.im
 pY:C0c K t.fh "words" t.cf
 qI:TyC K t.fh
 bj:Cls K t.ac
 oa:Mk K t.ac t.eu
 bt:A1l K t.ac "wheel"
 j8:A1l K t.ac "axes"
 ge:A1l K t.ac "tables"
 j7:A1l K t.ac "lets"
 jc:A1l K t.ac "outs"
 qr:TyC K t.ac
 oo:Cls K t.br
 oq:Mk K t.br t.i_
 kn:A1l K t.br "array"
 jh:A1l K t.br "indexes"
 pX:C0c K t.br "words" t.gi
 qJ:TyC K t.br
 qx:Cls K t.gz
 qt:Mk K t.gz t.js
 mz:A1l K t.gz "axis"
 nh:A1l K t.gz "body"
 qf:C0c K t.gz "words" t.ij
 qM:TyC K t.gz
 px:Cls K t.cz
 ph:Mk K t.cz t.di
 kz:A1l K t.cz "left"
 ji:A1l K t.cz "right"
 pW:C0c K t.cz "sign" t.gf
 pS:C0c K t.cz "words" t.cf
 qz:TyC K t.cz
 ap:Cls K t.aq
 oj:Mk K t.aq t.fg
 cn:A1l K t.aq "row"
 az:A1l K t.aq "gone"
 aw:C0c K t.aq "next_word" t.bh
 qw:TyC K t.aq
 ak:mg "isinstance"=none
 jm:mg "list"=none
 fv:mg "tuple"=none
 om:mg "dict"=none
 j3:mg "str"=none
 qp:mg "all"=none
 bx:mg "len"=none
 qB:mg "int"=none
 e6:mg "range"=none
 md:mg "ValueError"=none
abbrev FO (P:Program) (w:World) (base:Heap) {K:Frag} {mg:Str->Option Value} {x q:Str} {st:Stmt} {f:Addr} {fd:FuncData} {ps:List Str} (_:FQ K mg x q st f fd ps) (n:Nat) (sp:Sp):Prop:=A3e P w K mg base CX0 n f fd ps sp
abbrev FP (P:Program) (w:World) (mg:Str->Option Value) (base:Heap) {K:Frag} {x q:Str} {st:Stmt} {f:Addr} {fd:FuncData} {ps:List Str} (_:FM K x q st f fd ps) (n:Nat) (sp:Sp):Prop:=A3e P w K mg base CX0 n f fd ps sp
theorem pcl {X:Cx} {k k2:Nat} {f:Addr} {fd:FuncData} {ps:List Str} {sp:Sp} {x q:Str} {st:Stmt} {e:Expr} {es:List Expr} {t:TA} {p pos:Pos} (F:A3e X.prog X.w X.K X.mg X.base CX0 k f fd ps sp) (hr:A9n k2 X.A) (Z:FQ X.K X.mg x q st f fd ps) (ha:PA X (e::es) t) (hk:k<=k2:=by lia) (hg:Gl X x:=by rfl) (hdb:(x == ("__debug__":Str))=false:=by decide) (he:starEach (e::es) X.env=(false,eval e X.env)::starEach es X.env:=by rfl) (hpl:(backTo pos (starEach es X.env)).any (·.1)=false:=by rfl):PE X (.Call (.Name x p) (e::es) [] pos) (D6m sp [] E0 t):=A0s F (hr.mono hk) hg Z.m Z.F.kp Z.b .nil D4b ha hdb he hpl
theorem pmk {X:Cx} {C:Addr} {k k2:Nat} {f:Addr} {fd:FuncData} {ps:List Str} {sp:Sp} {x:Str} {e:Expr} {es:List Expr} {t:TA} {p pos:Pos} (M:Mk X.K C f) (F:A3e X.prog X.w X.K X.mg X.base CX0 k f fd ps sp) (hr:A9n k2 X.A) (hm:X.mg x=some (.ref C)) (hb:B0a X.K fd ps []) (ha:PA X (e::es) t) (hk:k+1<=k2:=by lia) (hg:Gl X x:=by rfl) (hdb:(x == ("__debug__":Str))=false:=by decide) (he:starEach (e::es) X.env=(false,eval e X.env)::starEach es X.env:=by rfl) (hpl:(backTo pos (starEach es X.env)).any (·.1)=false:=by rfl):PE X (.Call (.Name x p) (e::es) [] pos) (D5w C sp [] E0 t):=D1l M F (hr.mono hk) hg hm hb .nil D4b ha hdb he hpl
theorem A0w {n:Nat} (h:Nat.ble n 1000000=true):n<=sizeLine:=A0t (Nat.le_of_ble_eq_true h)
theorem E0e:(0:Int)<12:=by decide
theorem E0g:(0:Int)<14:=by decide
theorem D7g:(0:Int)<2:=by decide
theorem E0o:(0:Int)<25:=by decide
theorem E0l:(0:Int)<26:=by decide
theorem D8b:(0:Int)<3:=by decide
theorem D9r:(0:Int)<32:=by decide
theorem C8z:(0:Int)<4:=by decide
theorem D9w:(0:Int)<60:=by decide
theorem D9j:(0:Int)<7:=by decide
theorem D9s:(0:Int)<8:=by decide
theorem E0u:(0:Int)<9:=by decide
theorem nH {H:Hp} {x:Addr} {o:HO} (h:H x=none):∃H',A1b H H'/\H' x=some o/\upd H x o=H':=⟨_,A0f h,A0c,rfl⟩
abbrev Sro (a:Addr):Option V:=some (.ref a)
abbrev Sio (a:Int):Option V:=some (.int a)
abbrev Sso (a:Str):Option V:=some (.str a)
abbrev Sbo (a:Bool):Option V:=some (.bl a)
local macro_rules | `(tactic| walk_at "ix") => `(tactic| first | exact Or.inl rfl | exact Or.inr rfl | (simp [relabel]; rfl) | (with_unfolding_all exact Or.inl rfl) | (with_unfolding_all exact Or.inr rfl) | (with_unfolding_all decide))
local macro_rules | `(tactic| walk_at "sc") => `(tactic| exact ⟨rfl, rfl, rfl, by decide +kernel, rfl, by decide +kernel, by decide +kernel⟩)
local macro_rules | `(tactic| walk_at "ln") => `(tactic| (intro _ _ _ _ h; first | (cases h; subst_vars; rfl) | ((repeat (obtain ⟨_, h⟩ := h)); subst_vars; rfl)))
theorem B1u:A0o ["value"] ["value"] (A0i B4z):=by walk_at "sc"
theorem B8k:A0o D8d ["self","name","axes","term"] (A0i B0e):=by walk_at "sc"
theorem B1o:A0o D9t ["self","wheel","axes","tables","lets","outs"] (A0i A4v):=by walk_at "sc"
theorem B3j:A0o ["self","number"] ["self","number"] (A0i A5q):=by walk_at "sc"
theorem B4f:A0o ["self","axis"] ["self","axis"] (A0i A6i):=by walk_at "sc"
theorem B7r:A0o E0n ["self","array","indexes"] (A0i A7z):=by walk_at "sc"
theorem B7e:A0o D8z ["self","left","right"] (A0i A8f):=by walk_at "sc"
theorem B9b:A0o D7z ["self","axis","body"] (A0i A9s):=by walk_at "sc"
theorem B5w:A0o D8y ["self","axis","low","high","inner","outer"] (A0i A6t):=by walk_at "sc"
theorem B0z:A0o ["text"] ["text"] (A0i A4p):=by walk_at "sc"
theorem A1s:A0o ["text","rows","wheel","found","axes","tables","lets","outs"] ["text"] (A0i A4w):=by walk_at "sc"
theorem A3p:A0o ["rows","found","sort","latest","words"] ["rows"] (A0i A9u):=by walk_at "sc"
theorem A8x:A0o ["words","wheel"] A9o (A0i A6h):=by walk_at "sc"
theorem B0n:A0o ["words","length"] A9o (A0i A8e):=by walk_at "sc"
theorem A9j:A0o ["words","names"] A9o (A0i A6g):=by walk_at "sc"
theorem A8a:A0o ["words","parting","names"] A9o (A0i A9v):=by walk_at "sc"
theorem B9e:A0o A9o ["words"] (A0i A9t):=by walk_at "sc"
theorem B0g:A0o D7c ["words","number"] (A0i A4b):=by walk_at "sc"
theorem B4k:A0o A9o ["words"] (A0i A6j):=by walk_at "sc"
theorem B7c:A0o B7u ["word"] (A0i A8q):=by walk_at "sc"
theorem B3k:A0o B7u ["word"] (A0i A5p):=by walk_at "sc"
theorem A6c:A0o ["figures","number"] B7o (A0i A4o):=by walk_at "sc"
theorem B2z:A0o B7o ["figures"] (A0i A4z):=by walk_at "sc"
theorem B0r:A0o ["sign"] ["sign"] (A0i A8b):=by walk_at "sc"
theorem B1p:A0o ["self","row"] ["self","row"] (A0i A4y):=by walk_at "sc"
theorem A7m:A0o B3a ["self"] (A0i A3g):=by walk_at "sc"
theorem A6r:A0o ["words","row","term"] A9o (A0i A8g):=by walk_at "sc"
theorem A6s:A0o ["row","word","axis"] ["row"] (A0i A7x):=by walk_at "sc"
theorem A6k:A0o ["sign","row","left","right"] ["sign","row"] (A0i A8o):=by walk_at "sc"
theorem A3k:A0o ["row","axis","low","high","inner"] ["row"] (A0i A6z):=by walk_at "sc"
theorem B7b:A0o B7u ["word"] (A0i A8k):=by walk_at "sc"
theorem B0w:A0o ["text"] ["text"] (A0i A4r):=by walk_at "sc"
theorem A3u:A0o ["word","array","opening","inside","indexes"] B7u (A0i A8l):=by walk_at "sc"
theorem A2l:A0o ["index","axis","sign","figures"] ["index"] (A0i A6p):=by walk_at "sc"
theorem B6e:A0o D2o ["_law_script","_law_k"] (A0i A8m):=by walk_at "sc"
theorem C0x:A0o D0c ["_law_cell","_law_k"] (A0i B2u):=by walk_at "sc"
theorem A3h:A0o ["_law_rest","_law_word","_law_k"] A5a (A0i A8p):=by walk_at "sc"
theorem B8p:A0o A5a ["_law_rest"] (A0i A9x):=by walk_at "sc"
theorem B3e:A0o A5a ["_law_rest"] (A0i A5v):=by walk_at "sc"
theorem A1h:A0o ["_law_rest","_law_word","_law_k","_law_shift"] A5a (A0i A8j):=by walk_at "sc"
theorem A1u:A0o ["_law_cells","_law_at","_law_room","_law_rest","_law_way","_law_left","_law_right","_law_head"] C1s (A0i A6v):=by walk_at "sc"
theorem A4g:A0o ["_law_rest","_law_many","_law_names","_law_k"] ["_law_rest","_law_many"] (A0i A6n):=by walk_at "sc"
theorem A0v:A0o ["_law_script","_law_wheel","_law_axes","_law_k","_law_rest","_law_tables","_law_lets","_law_at","_law_words","_law_outs"] C1b (A0i A5d):=by walk_at "sc"
theorem A1x:A0o ["_law_program","_law_wheel","_law_axes","_law_tables","_law_lets","_law_outs","_law_rows_here","_law_name","_law_length","_law_own","_law_words"] ["_law_program"] (A0i B5b):=by walk_at "sc"
theorem A3y:A0o ["_law_rest","_law_many","_law_some"] A5a (A0i A8d):=by walk_at "sc"
theorem B4j:A0o A5a ["_law_rest"] (A0i A6l):=by walk_at "sc"
theorem B3i:A0o A5a ["_law_rest"] (A0i A5t):=by walk_at "sc"
theorem B0f:A0o ["_law_text","_law_signs","_law_rest","_law_places","_law_k"] D0r (A0i B1x):=by walk_at "sc"
theorem C4d:A0o ["_law_row"] ["_law_row"] (A0i B5n):=by walk_at "sc"
theorem A3i:A0o ["_law_rows_here","_law_rest","_law_made","_law_row","_law_kinds","_law_at"] D0b (A0i B1s):=by walk_at "sc"
theorem A1z:A0o ["_law_rows_here","_law_way","_law_rest","_law_made","_law_at","_law_kinds"] C2a (A0i A4m):=by walk_at "sc"
theorem A3r:A0o ["_law_rows_here","_law_way","_law_rest","_law_text","_law_signs","_law_at"] C2a (A0i A9z):=by walk_at "sc"
theorem A7t:A0o ["_law_script","_law_program","_law_rows_here","_law_rest","_law_text","_law_good","_law_refused","e"] C1b (A0i C7p):=by walk_at "sc"
theorem A5g:(["member"]:List Str).Nodup:=by decide +kernel
theorem C5f:(["sign"]:List Str).Nodup:=by decide +kernel
theorem C4t:(["row"]:List Str).Nodup:=by decide +kernel
theorem C4x:(["words"]:List Str).Nodup:=by decide +kernel
theorem C3s:(["words"]:List Str).Nodup:=by decide +kernel
theorem C4h:(["words"]:List Str).Nodup:=by decide +kernel
theorem C4v:(["words"]:List Str).Nodup:=by decide +kernel
theorem C4m:(["word"]:List Str).Nodup:=by decide +kernel
theorem C5p:(["sign"]:List Str).Nodup:=by decide +kernel
theorem C0z:(["index"]:List Str).Nodup:=by decide +kernel
theorem C1e:(["_law_row"]:List Str).Nodup:=by decide +kernel
theorem C1u:(["_law_row"]:List Str).Nodup:=by decide +kernel
theorem A3e.none {P:Program} {w:World} {K:Frag} {mg:Str->Option Value} {base:Heap} {CX:CXT} {k:Nat} {f:Addr} {fd:FuncData} {ps:List Str} {sp:Sp} (h:∀vs H Q E,¬sp vs H Q E):A3e P w K mg base CX k f fd ps sp :=
 ⟨λvs H Q E q=>(h vs H Q E q).elim,λ_ _ _ H _ _ vs Q E _ _ _ _ q=>(h vs H Q E q).elim⟩
def C9w (e:Str×List Str):PyData:= .tuple [.str e.1,.list (e.2.map PyData.str)]
def B4v (ts:List (Str×List Str)):PyData:= .list (ts.map C9w)
def C2h (xs:List Str):PyData:= .list (xs.map PyData.str)
theorem B7w:∀xs:List Str,PyData.depthAll (xs.map PyData.str)=0/\A3j (xs.map PyData.str)=xs.length
 | []=>⟨rfl,rfl⟩
 | x::r=>by
  obtain ⟨h2,h3⟩:=B7w r;refine ⟨?_,?_⟩
  ·simp [PyData.depthAll,PyData.depth,h2]
  ·simp [A3j,cnt,h3];lia
theorem C2x (xs:List Str):(C2h xs).depth<=1/\cnt (C2h xs)<=1+xs.length:=by
 obtain ⟨h2,h3⟩:=B7w xs;refine ⟨?_,?_⟩
 ·simp [C2h,PyData.depth,h2]
 ·simp only [C2h,cnt,h3];lia
theorem D3b {n:Nat}:∀ts:List (Str×List Str),(∀e∈ts,e.2.length<=n)->PyData.depthAll (ts.map C9w)<=2/\A3j (ts.map C9w)<=ts.length*(n+4)
 | [],_=>⟨by simp [PyData.depthAll],by simp [A3j]⟩
 | e::r,h=>by
  obtain ⟨h2,h3⟩:=D3b r λx hx=>h x (.tail _ hx);obtain ⟨g2,g3⟩:=B7w e.2;have hl:=h e (.head _);refine ⟨?_,?_⟩
  ·simp only [Z0p,C9w,PyData.depthAll,PyData.depth,g2]
   lia
  ·simp only [Z0p,C9w,A3j,cnt,g3,Z0y,Nat.add_mul,Nat.one_mul]
   lia
theorem C6s {n:Nat} (ts:List (Str×List Str)) (h:∀e∈ts,e.2.length<=n):(B4v ts).depth<=3/\cnt (B4v ts)<=1+ts.length*(n+4):=by
 obtain ⟨h2,h3⟩:=D3b ts h;refine ⟨?_,?_⟩
 ·simp only [B4v,PyData.depth];lia
 ·simp only [B4v,cnt];lia
theorem D3j:∀ts:List (Str×Int),PyData.depthAll (ts.map C7s)<=1
 | []=>by simp [PyData.depthAll]
 | e::r=>by
  have h2:=D3j r;simp only [Z0p,C7s,PyData.depthAll,PyData.depth];lia
theorem C5x (ts:List (Str×Int)):(A7y ts).depth<=2:=by
 have h2:=D3j ts;simp only [A7y,PyData.depth];lia
theorem B7f {H:Hp}:∀{ys:List Str} {xs:List V},A5n H xs (ys.map PyData.str)->xs=ys.map V.str
 | [],_,r=>by cases r;rfl
 | y::ys,_,r=>by
  rw [Z0p] at r
  cases r with
  | cons a r =>
   cases a
   rw [Z0p,B7f r]
theorem D4i {H:Hp} {v:V} {ys:List Str} (h:Rep H v (C2h ys)):∃p,v= .ref p/\H p=some (.lst (ys.map V.str)):=by
 obtain ⟨p,xs,rfl,e,r⟩:=B5q (show Rep H v (.list (ys.map PyData.str)) from h);rw [B7f r] at e;exact ⟨p,rfl,e⟩
theorem D1k {H:Hp} {p:Addr} {ys:List Str} (e:H p=some (.lst (ys.map V.str))):Rep H (.ref p) (C2h ys):= .lst e (A5n.strs ys)
theorem D9m {H:Hp} {b c:Addr} {e:Str×List Str} (eb:H b=some (.tup [.str e.1,.ref c])) (ec:H c=some (.lst (e.2.map V.str))):Rep H (.ref b) (C9w e):= .tup eb (.cons (.str _) (.cons (D1k ec) .nil))
abbrev Lt:=Str×List Str×Tm
open PySem L2
local macro_rules | `(tactic| walk_at "lk") => `(tactic| first | with_reducible exact lk0 | (refine lk1 (by decide +kernel) ?_; walk_at "lk") | rfl)
def C0s (K:Frag) (f:Str):Sp:=λvs H Q _=>∃(p C dx:Addr) (v:V),vs=[.ref p,v]/\H p=some (.ins C dx [])/\Cls K C/\A1l K C f/\Q .non (upd H p (.ins C dx [(f,v)]))
def C2z (n:Nat):Sp:=λvs H Q _=>∃(v:V) (d:PyData),vs=[v]/\Rep H v d/\PyData.depth d<=n/\cnt d<=300000/\∀(v':V) (H':Hp),A1b H H'->Rep (A3w (λa=>H a=none) H') v' d->Q v' H'
def D4h (A:Adr):Sp:=λvs H Q _=>∃(a dx:Addr) (fs:List (Str×V)),vs=[.ref a]/\H a=some (.ins A.bn dx fs)/\Q (.ref a) H
def C9t (A:Adr):Sp:=λvs H Q _=>∃(p:Addr) (xs:List V),vs=[.ref p]/\H p=some (.lst xs)/\xs.length<=1000/\(∀x∈xs,∃a dx fs,x= .ref a/\H a=some (.ins A.bn dx fs))/\∀(D:Addr) (H':Hp),H D=none->A1b H H'->H' D=some (.lst xs)->Q (.ref D) H'
def B9m (K:Frag) (f g:Str):Sp:=λvs H Q _=>∃(p C dx:Addr) (v u:V),vs=[.ref p,v,u]/\H p=some (.ins C dx [])/\Cls K C/\A1l K C f/\A1l K C g/\Q .non (upd H p (.ins C dx [(f,v),(g,u)]))
def C6j (A:Adr):Sp:=λvs H Q _=>∃(p dx:Addr) (a b c d e:V),vs=[.ref p,a,b,c,d,e]/\H p=some (.ins A.bd dx [])/\Q .non (upd H p (.ins A.bd dx [("axis",a),("low",b),("high",c),("inner",d),("outer",e)]))
def C7o (A:Adr):Sp:=λvs H Q _=>∃(p dx l:Addr) (x:Str) (ix:List (Str×Int)),vs=[.ref p,.str x,.ref l]/\H p=some (.ins A.br dx [])/\Rep H (.ref l) (A7y ix)/\ix.length<=1001/\
 ∀(l':Addr) (H':Hp),H' p=some (.ins A.br dx [("array",.str x),("indexes",.ref l')])->Rep (A3w (λb=>H b=none) H') (.ref l') (A7y ix)->(∀b o,b≠p->H b=some o->H' b=some o)->Q .non H'
def C6w (A:Adr):Sp:=λvs H Q _=>∃(p dx l:Addr) (n:V) (x:Str) (ys:List Str),vs=[.ref p,.str x,.ref l,n]/\H p=some (.ins A.bn dx [])/\H l=some (.lst (ys.map V.str))/\ys.length<=1000/\
 ∀(c:Addr) (H':Hp),H c=none->H' p=some (.ins A.bn dx [("name",.str x),("axes",.ref c),("term",n)])->H' c=some (.lst (ys.map V.str))->(∀b o,b≠p->H b=some o->H' b=some o)->Q .non H'
def C7e (A:Adr):Sp:=λvs H Q _=>∃(p dx a t l o:Addr) (wh:Int) (ax:List (Str×Int)) (tb:List (Str×List Str)) (xs:List V) (os:List Str),vs=[.ref p,.int wh,.ref a,.ref t,.ref l,.ref o]/\H p=some (.ins A.ac dx [])/\
 Rep H (.ref a) (A7y ax)/\ax.length<=1000/\Rep H (.ref t) (B4v tb)/\tb.length<=1000/\(∀e∈tb,e.2.length<=100)/\H l=some (.lst xs)/\xs.length<=1000/\(∀x∈xs,∃a dx fs,x= .ref a/\a≠p/\H a=some (.ins A.bn dx fs))/\Rep H (.ref o) (C2h os)/\os.length<=1000/\
 ∀(a' t' l' o':Addr) (H':Hp),H' p=some (.ins A.ac dx [("wheel",.int wh),("axes",.ref a'),("tables",.ref t'),("lets",.ref l'),("outs",.ref o')])->Rep (A3w (λb=>H b=none) H') (.ref a') (A7y ax)->Rep (A3w (λb=>H b=none) H') (.ref t') (B4v tb)->H l'=none->H' l'=some (.lst xs)->Rep (A3w (λb=>H b=none) H') (.ref o') (C2h os)->(∀b o,b≠p->H b=some o->H' b=some o)->Q .non H'
variable {P:Program} {w:World} {K:Frag} {mg:Str->Option Value} {base:Heap} {t:Adr}
theorem B3d (T:Txt K mg t):FP P w mg base T.dk 1 (C0s K "number"):=by
 refine T.dk.F.ok B3j (by walk_at "ln") λ_ A _ s H _ Q E hr h=> ?_
 ·obtain ⟨p,C,dx,v,rfl,hp,cl,na,k⟩:=h;exact ⟨_,(A0h (A2u (pv 0) (pv 1) rfl)),_,rfl,_,rfl,p,C,dx,[],rfl,hp,cl,na,(by decide),k⟩
theorem B4s (T:Txt K mg t):FP P w mg base T.d_ 1 (C0s K "axis"):=by
 refine T.d_.F.ok B4f (by walk_at "ln") λ_ A _ s H _ Q E hr h=> ?_
 ·obtain ⟨p,C,dx,v,rfl,hp,cl,na,k⟩:=h;exact ⟨_,(A0h (A2u (pv 0) (pv 1) rfl)),_,rfl,_,rfl,p,C,dx,[],rfl,hp,cl,na,(by decide),k⟩
theorem B7q (T:Txt K mg t):FP P w mg base T.bu 1 (B9m K "left" "right"):=by
 refine T.bu.F.ok B7e (by walk_at "ln") λ_ A _ s H _ Q E hr h=> ?_
 ·obtain ⟨p,C,dx,v,u,rfl,hp,cl,n1,n2,k⟩:=h
  refine ⟨_,(A0d (A2u (pv 0) (pv 1) rfl)
   (A0h (A2u (pv 0) (pv 2) rfl))),_,rfl,_,rfl,p,C,dx,[],rfl,hp,cl,n1,(by decide),_,rfl,_,rfl,p,C,dx,_,rfl,A0c,cl,n2,(by show 1<1000;decide),?_⟩
  show Q V.non (upd (upd H p _) p (.ins C dx (A4s "right" u (A4s "left" v []))));rw [A7a,A1m,A1j (by decide +kernel),A1m];exact k
theorem B7y (T:Txt K mg t):FP P w mg base T.gb 1 (B9m K "axis" "body"):=by
 refine T.gb.F.ok B9b (by walk_at "ln") λ_ A _ s H _ Q E hr h=> ?_
 ·obtain ⟨p,C,dx,v,u,rfl,hp,cl,n1,n2,k⟩:=h
  refine ⟨_,(A0d (A2u (pv 0) (pv 1) rfl)
   (A0h (A2u (pv 0) (pv 2) rfl))),_,rfl,_,rfl,p,C,dx,[],rfl,hp,cl,n1,(by decide),_,rfl,_,rfl,p,C,dx,_,rfl,A0c,cl,n2,(by show 1<1000;decide),?_⟩
  show Q V.non (upd (upd H p _) p (.ins C dx (A4s "body" u (A4s "axis" v []))));rw [A7a,A1m,A1j (by decide +kernel),A1m];exact k
theorem B6b (T:Txt K mg t):FP P w mg base T.dt 1 (C6j t):=by
 refine T.dt.F.ok B5w (by walk_at "ln") λ_ A _ s H _ Q E hr h=> ?_
 ·obtain ⟨p,dx,a,b,c,d,e,rfl,hp,k⟩:=h;have e1:A4s "low" b (A4s "axis" a [])=([("axis",a),("low",b)]:List (Str×V)):=by rw [A1m,A1j (by decide +kernel),A1m]
  have e2:A4s "high" c ([("axis",a),("low",b)]:List (Str×V))=([("axis",a),("low",b),("high",c)]:List (Str×V)):=by rw [A1j (by decide +kernel),A1j (by decide +kernel),A1m]
  have e3:A4s "inner" d ([("axis",a),("low",b),("high",c)]:List (Str×V))=([("axis",a),("low",b),("high",c),("inner",d)]:List (Str×V)):=by rw [A1j (by decide +kernel),A1j (by decide +kernel),A1j (by decide +kernel),A1m]
  have e4:A4s "outer" e ([("axis",a),("low",b),("high",c),("inner",d)]:List (Str×V))=([("axis",a),("low",b),("high",c),("inner",d),("outer",e)]:List (Str×V)):=by rw [A1j (by decide +kernel),A1j (by decide +kernel),A1j (by decide +kernel),A1j (by decide +kernel),A1m]
  refine ⟨_,(A0d (A2u (pv 0) (pv 1) rfl)
   (A0d (A2u (pv 0) (pv 2) rfl)
   (A0d (A2u (pv 0) (pv 3) rfl)
   (A0d (A2u (pv 0) (pv 4) rfl)
   (A0h (A2u (pv 0) (pv 5) rfl)))))),_,rfl,_,rfl,p,_,dx,[],rfl,hp,T.fm,T.ku,(by decide),_,rfl,_,rfl,p,_,dx,_,rfl,A0c,T.fm,T.m4,(by show 1<1000;decide),?_⟩
  rw [A7a,e1];refine ⟨_,rfl,_,rfl,p,_,dx,_,rfl,A0c,T.fm,T.lg,(by show 2<1000;decide),?_⟩;rw [A7a,e2];refine ⟨_,rfl,_,rfl,p,_,dx,_,rfl,A0c,T.fm,T.jl,(by show 3<1000;decide),?_⟩;rw [A7a,e3];refine ⟨_,rfl,_,rfl,p,_,dx,_,rfl,A0c,T.fm,T.jq,(by show 4<1000;decide),?_⟩;show Q V.non (upd (upd H p _) p _);rw [A7a,e4];exact k
theorem A4q {T:String} (h:T="NoneType"\/T="bool"\/T="int"\/T="str"\/T="tuple"):∀u,A2v (.ty "list") u->kitOne K (.type T) u=some false:=by
 rcases h with rfl | rfl | rfl | rfl | rfl <;> exact C2k (by decide +kernel) (by decide +kernel) (by decide +kernel)
theorem A4u {T:String} (h:T="NoneType"\/T="bool"\/T="int"\/T="str"):∀u,A2v (.ty "tuple") u->kitOne K (.type T) u=some false:=by
 rcases h with rfl | rfl | rfl | rfl <;> exact C2k (by decide +kernel) (by decide +kernel) (by decide +kernel)
theorem A5u {T:String} (h:T="NoneType"\/T="bool"\/T="int"\/T="str"):∀u,A2v (.ty "dict") u->kitOne K (.type T) u=some false:=by
 rcases h with rfl | rfl | rfl | rfl <;> exact C2k (by decide +kernel) (by decide +kernel) (by decide +kernel)
theorem C0n (T:Txt K mg t) {m n:Nat} {sp':Sp} (Ga0:A3e P w K mg base CX0 m t.fe t.fb ["value"] sp')
  (hs:∀(v:V) (d:PyData) (H:Hp) (Q:VK),Rep H v d->PyData.depth d+1<=n->cnt d<=300000->(∀(v':V) (H':Hp),A1b H H'->Rep (A3w (λa=>H a=none) H') v' d->Q v' H')->sp' [v] H Q E0) :
  A3e P w K mg base CX0 (m+1) t.fe t.fb ["value"] (C2z n):=by
 refine T.av.F.ok B1u (by walk_at "ln") λ_ A _ s H _ Q E hr h=> ?_
 ·obtain ⟨v,d,rfl,rp,hd,hc,k⟩:=h
  refine ⟨_,(A0d (A1w (A4e (A0y A2o (by rfl) T.ak Z0d (A0a (pv 0) (A0a (A4x (v:=V.ty "list") rfl T.jm Z1o rfl) A0b))))
    (A0h (A0u (A6u (N':=["member"]) (ix:=(List.replicate 1 none)) rfl (A1n rfl (by decide +kernel) (by decide +kernel)) (A1q rfl) (B3q (pv 0)) (λ_ _ _ _=>(A0p (i:=0) A5g rfl (.inl rfl))) (λ_ _ _ _=>(pcl Ga0 hr T.av (A0a (pv 0) A0b))))))
    A0m)
   (A0d (A1w (A4e (A0y A2o (by rfl) T.ak Z0d (A0a (pv 0) (A0a (A4x (v:=V.ty "tuple") rfl T.fv Z0m rfl) A0b))))
    (A0h (A0u (A2b A5r (by rfl) T.fv Z0m (A0a (A6u (N':=["member"]) (ix:=(List.replicate 1 none)) rfl (A1n rfl (by decide +kernel) (by decide +kernel)) (A1q rfl) (B3q (pv 0)) (λ_ _ _ _=>(A0p (i:=0) A5g rfl (.inl rfl))) (λ_ _ _ _=>(pcl Ga0 hr T.av (A0a (pv 0) A0b)))) A0b))))
    A0m)
   (A0d (A1w (A4e (A0y A2o (by rfl) T.ak Z0d (A0a (pv 0) (A0a (A4x (v:=V.ty "dict") rfl T.om Z2q rfl) A0b))))
    (A0h B5h)
    A0m)
   (A0h (A0u (pv 0)))))),?_⟩
  cases rp with
  | non =>
   refine ⟨_,rfl,_,_,_,_,rfl,.non,A4q (.inl rfl),false,rfl,A8s ?_⟩;refine ⟨_,rfl,_,_,_,_,rfl,.non,A4u (.inl rfl),false,rfl,A8s ?_⟩;exact ⟨_,rfl,_,_,_,_,rfl,.non,A5u (.inl rfl),false,rfl,A8s ⟨_,rfl,k _ _ (A1b.refl _) .non⟩⟩
  | bl b =>
   refine ⟨_,rfl,_,_,_,_,rfl,.bl b,A4q (.inr (.inl rfl)),false,rfl,A8s ?_⟩;refine ⟨_,rfl,_,_,_,_,rfl,.bl b,A4u (.inr (.inl rfl)),false,rfl,A8s ?_⟩;exact ⟨_,rfl,_,_,_,_,rfl,.bl b,A5u (.inr (.inl rfl)),false,rfl,A8s ⟨_,rfl,k _ _ (A1b.refl _) (.bl b)⟩⟩
  | int b =>
   refine ⟨_,rfl,_,_,_,_,rfl,.int b,A4q (.inr (.inr (.inl rfl))),false,rfl,A8s ?_⟩;refine ⟨_,rfl,_,_,_,_,rfl,.int b,A4u (.inr (.inr (.inl rfl))),false,rfl,A8s ?_⟩;exact ⟨_,rfl,_,_,_,_,rfl,.int b,A5u (.inr (.inr (.inl rfl))),false,rfl,A8s ⟨_,rfl,k _ _ (A1b.refl _) (.int b)⟩⟩
  | str b =>
   refine ⟨_,rfl,_,_,_,_,rfl,.str b,A4q (.inr (.inr (.inr (.inl rfl)))),false,rfl,A8s ?_⟩;refine ⟨_,rfl,_,_,_,_,rfl,.str b,A4u (.inr (.inr (.inr rfl))),false,rfl,A8s ?_⟩;exact ⟨_,rfl,_,_,_,_,rfl,.str b,A5u (.inr (.inr (.inr rfl))),false,rfl,A8s ⟨_,rfl,k _ _ (A1b.refl _) (.str b)⟩⟩
  | @lst p xs ds e r =>
   have hl1:=r.len;have hl2:=B8v ds;have hc':A3j ds+1<=300000:=hc;have hd':PyData.depthAll ds+1<=n:=hd;refine ⟨_,rfl,_,_,_,_,rfl,.lst e,B5s "list",true,rfl,B2l ?_⟩;refine .inl ⟨_,rfl,p,rfl,⟨_,SqL.of e⟩,λD hD=> ?_⟩
   refine A2h (K:=K) (a:=p) (D:=D) (xs:=xs) (λi ys H2=>A1b H H2/\H2 D=some (.lst ys)/\A5n (A3w (λa=>H a=none/\a≠D) H2) ys (ds.take i)/\ys.length=i)
    ⟨A0f hD,A0c,(by rw [List.take_zero];exact .nil),rfl⟩ (λi ys H2 ⟨s2,_⟩=>SqL.of (s2 _ _ e)) ?_ ?_
   ·rintro i x ys H2 hx ⟨s2,hD2,rs,hyl⟩;obtain ⟨d,hdi,rx⟩:=r.get2 hx;obtain ⟨c1,c2⟩:=C2g hdi;have hi:i<xs.length:=(Z03.mp hx).1;refine ⟨True.intro,_,rfl,hs x d H2 _ (rx.same s2) (by lia) (by lia) λv' H5 s5 rp5=> ?_⟩;have hnS:¬(H D=none/\D≠D):=λz=>z.2 rfl;refine ⟨s5 _ _ hD2,A1p (by lia),A0j (s2.trans s5) hD,A0c,?_,by simp [hyl]⟩;rw [Z14,hdi];show A5n _ (ys++[v']) (ds.take i++[d]);refine (rs.same (A8w (B0c s5) hnS)).snoc (rp5.same ((A8t (A1b.refl _) λa o _ ha=>⟨s2.free ha,λz=> ?_⟩).trans (A8w (A1b.refl _) hnS)));subst z;rw [hD2] at ha;cases ha
   ·rintro ys H2 ⟨s2,hD2,rs,hyl⟩;refine k (.ref D) H2 s2 (.lst (A3a hD hD2) ?_);rw [hl1,Z18] at rs;exact rs.same (A8t (A1b.refl _) λa o _ h=>h.1)
  | @tup p xs ds e r =>
   have hl1:=r.len;have hl2:=B8v ds;have hc':A3j ds+1<=300000:=hc;have hd':PyData.depthAll ds+1<=n:=hd;refine ⟨_,rfl,_,_,_,_,rfl,.tup e,A4q (.inr (.inr (.inr (.inr rfl)))),false,rfl,A8s ?_⟩;refine ⟨_,rfl,_,_,_,_,rfl,.tup e,B5s "tuple",true,rfl,B2l ?_⟩;refine .inr ⟨_,rfl,p,rfl,⟨_,SqT.of e⟩,λD hD=> ?_⟩
   refine C4e (K:=K) (a:=p) (D:=D) (xs:=xs) (λi ys H2=>A1b H H2/\H2 D=some (.lst ys)/\A5n (A3w (λa=>H a=none/\a≠D) H2) ys (ds.take i)/\ys.length=i)
    ⟨A0f hD,A0c,(by rw [List.take_zero];exact .nil),rfl⟩ (λi ys H2 ⟨s2,_⟩=>SqT.of (s2 _ _ e)) ?_ ?_
   ·rintro i x ys H2 hx ⟨s2,hD2,rs,hyl⟩;obtain ⟨d,hdi,rx⟩:=r.get2 hx;obtain ⟨c1,c2⟩:=C2g hdi;have hi:i<xs.length:=(Z03.mp hx).1;refine ⟨True.intro,_,rfl,hs x d H2 _ (rx.same s2) (by lia) (by lia) λv' H5 s5 rp5=> ?_⟩;have hnS:¬(H D=none/\D≠D):=λz=>z.2 rfl;refine ⟨s5 _ _ hD2,A1p (by lia),A0j (s2.trans s5) hD,A0c,?_,by simp [hyl]⟩;rw [Z14,hdi];show A5n _ (ys++[v']) (ds.take i++[d]);refine (rs.same (A8w (B0c s5) hnS)).snoc (rp5.same ((A8t (A1b.refl _) λa o _ ha=>⟨s2.free ha,λz=> ?_⟩).trans (A8w (A1b.refl _) hnS)));subst z;rw [hD2] at ha;cases ha
   ·rintro ys H2 ⟨s2,hD2,rs,hyl⟩;refine ⟨D,ys,rfl,.inl ⟨SqL.of hD2,λl hl=> ?_⟩⟩;refine k (.ref l) _ (s2.trans (A0f hl)) (.tup (A3a (s2.free hl) A0c) ?_);rw [hl1,Z18] at rs;exact rs.same ((A8t (A1b.refl _) λa o _ h=>h.1).trans (B0c (A0f hl)))
theorem B1z (T:Txt K mg t):∀n:Nat,A3e P w K mg base CX0 (n+1) t.fe t.fb ["value"] (C2z n)
 | 0=>C0n T (sp':=λ_ _ _ _=>False) (m:=0) (A3e.none λ_ _ _ _ h=>h) λv d H Q _ h=>absurd h (by lia)
 | n+1=>C0n T (B1z T n) λv d H Q rp hd hc k=>⟨v,d,rfl,rp,by lia,hc,k⟩
theorem B0t (T:Txt K mg t):FP P w mg base T.cy 5 (C7o t):=by
 have Ga0:= @B1z P w K mg base t T 2;refine T.cy.F.ok B7r (by walk_at "ln") λ_ A _ s H _ Q E hr h=> ?_
 ·obtain ⟨p,dx,l,x,ix,rfl,hp,rp,hix,k⟩:=h;have hcn:=C9g (ix:=ix)
  refine ⟨_,(A0d (A2u (pv 0) (pv 1) rfl)
   (A0h (A2u (pv 0) (pcl Ga0 hr T.av (A0a (pv 2) A0b)) rfl))),_,rfl,_,rfl,p,_,dx,[],rfl,hp,T.oo,T.kn,(by decide),?_⟩
  refine ⟨_,rfl,.ref l,A7y ix,rfl,rp.ins hp,C6d,by lia,λv' H2 s2 rp2=> ?_⟩;have hp2:=s2 _ _ (A0c (H:=H) (a:=p));obtain ⟨l',xs,rfl,el,rs⟩:=B5q (show Rep _ v' (.list (ix.map C7s)) from rp2);refine ⟨_,rfl,p,_,dx,_,rfl,hp2,T.oo,T.jh,(by show 1<1000;decide),?_⟩;show Q V.non (upd H2 p (.ins t.br dx (A4s "indexes" (.ref l') (A4s "array" (.str x) []))));rw [A1m,A1j (by decide +kernel),A1m]
  have fr:∀{q:Addr},upd H p (.ins t.br dx (A4s "array" (.str x) [])) q=none->H q=none:=λ{q} z=>by
   by_cases zb:q=p
   ·subst zb;rw [A0c] at z;cases z
   ·rw [A0l zb] at z;exact z
  refine k l' _ A0c (rp2.imp2 (λq ys z=>A3a (fr (A1a z).1) (by rw [A0l (A3q (A1a z).2 hp2 (by intro z;cases z))];exact (A1a z).2)) λq ys z=>A3a (fr (A1a z).1) (by rw [A0l (A3q (A1a z).2 hp2 (by intro z;cases z))];exact (A1a z).2)) λb o hb e=> ?_;rw [A0l hb];exact s2 _ _ (by rw [A0l hb];exact e)
theorem D1g (T:Txt K mg t):FO P w base T.av 1 (D4h t):=by
 refine T.av.F.ok B1u (by walk_at "ln") λ_ A _ s H _ Q E hr h=> ?_
 ·obtain ⟨a,dx,fs,rfl,e,k⟩:=h;have Ga0:A3e P w K mg base CX0 0 t.fe t.fb ["value"] (λ_ _ _ _=>False):=A3e.none λ_ _ _ _ h=>h;have ty:C0u K H (.ref a) (.ref t.bn):= .ins e T.mh T.m5.ha T.m5.hn T.m5.htk T.m5.hm
  refine ⟨_,(A0d (A1w (A4e (A0y A2o (by rfl) T.ak Z0d (A0a (pv 0) (A0a (A4x (v:=V.ty "list") rfl T.jm Z1o rfl) A0b))))
    (A0h (A0u (A6u (N':=["member"]) (ix:=(List.replicate 1 none)) rfl (A1n rfl (by decide +kernel) (by decide +kernel)) (A1q rfl) (B3q (pv 0)) (λ_ _ _ _=>(A0p (i:=0) A5g rfl (.inl rfl))) (λ_ _ _ _=>(pcl Ga0 hr T.av (A0a (pv 0) A0b))))))
    A0m)
   (A0d (A1w (A4e (A0y A2o (by rfl) T.ak Z0d (A0a (pv 0) (A0a (A4x (v:=V.ty "tuple") rfl T.fv Z0m rfl) A0b))))
    (A0h (A0u (A2b A5r (by rfl) T.fv Z0m (A0a (A6u (N':=["member"]) (ix:=(List.replicate 1 none)) rfl (A1n rfl (by decide +kernel) (by decide +kernel)) (A1q rfl) (B3q (pv 0)) (λ_ _ _ _=>(A0p (i:=0) A5g rfl (.inl rfl))) (λ_ _ _ _=>(pcl Ga0 hr T.av (A0a (pv 0) A0b)))) A0b))))
    A0m)
   (A0d (A1w (A4e (A0y A2o (by rfl) T.ak Z0d (A0a (pv 0) (A0a (A4x (v:=V.ty "dict") rfl T.om Z2q rfl) A0b))))
    (A0h B5h)
    A0m)
   (A0h (A0u (pv 0)))))),?_⟩
  refine ⟨_,rfl,_,_,_,_,rfl,ty,C0d T.mq (by decide +kernel),false,rfl,A8s ?_⟩;refine ⟨_,rfl,_,_,_,_,rfl,ty,C0d T.m7 (by decide +kernel),false,rfl,A8s ?_⟩;exact ⟨_,rfl,_,_,_,_,rfl,ty,C0d T.m_ (by decide +kernel),false,rfl,A8s ⟨_,rfl,k⟩⟩
theorem D2i (T:Txt K mg t):FO P w base T.av 2 (C9t t):=by
 have Ga0:= @D1g P w K mg base t T;refine T.av.F.ok B1u (by walk_at "ln") λ_ A _ s H _ Q E hr h=> ?_
 ·obtain ⟨p,xs,rfl,e,hl,hx,k⟩:=h
  refine ⟨_,(A0d (A1w (A4e (A0y A2o (by rfl) T.ak Z0d (A0a (pv 0) (A0a (A4x (v:=V.ty "list") rfl T.jm Z1o rfl) A0b))))
    (A0h (A0u (A6u (N':=["member"]) (ix:=(List.replicate 1 none)) rfl (A1n rfl (by decide +kernel) (by decide +kernel)) (A1q rfl) (B3q (pv 0)) (λ_ _ _ _=>(A0p (i:=0) A5g rfl (.inl rfl))) (λ_ _ _ _=>(pcl Ga0 hr T.av (A0a (pv 0) A0b))))))
    A0m)
   (A0d (A1w (A4e (A0y A2o (by rfl) T.ak Z0d (A0a (pv 0) (A0a (A4x (v:=V.ty "tuple") rfl T.fv Z0m rfl) A0b))))
    (A0h (A0u (A2b A5r (by rfl) T.fv Z0m (A0a (A6u (N':=["member"]) (ix:=(List.replicate 1 none)) rfl (A1n rfl (by decide +kernel) (by decide +kernel)) (A1q rfl) (B3q (pv 0)) (λ_ _ _ _=>(A0p (i:=0) A5g rfl (.inl rfl))) (λ_ _ _ _=>(pcl Ga0 hr T.av (A0a (pv 0) A0b)))) A0b))))
    A0m)
   (A0d (A1w (A4e (A0y A2o (by rfl) T.ak Z0d (A0a (pv 0) (A0a (A4x (v:=V.ty "dict") rfl T.om Z2q rfl) A0b))))
    (A0h B5h)
    A0m)
   (A0h (A0u (pv 0)))))),?_⟩
  refine ⟨_,rfl,_,_,_,_,rfl,.lst e,B5s "list",true,rfl,B2l ?_⟩;refine .inl ⟨_,rfl,p,rfl,⟨_,SqL.of e⟩,λD hD=> ?_⟩
  refine A2h (K:=K) (a:=p) (D:=D) (xs:=xs) (λi ys H2=>A1b H H2/\H2 D=some (.lst ys)/\ys=xs.take i)
   ⟨A0f hD,A0c,rfl⟩ (λi ys H2 ⟨s2,_⟩=>SqL.of (s2 _ _ e)) ?_ ?_
  ·rintro i x ys H2 hxi ⟨s2,hD2,rfl⟩;obtain ⟨a,dx,fs,rfl,ea⟩:=hx x (Z13 hxi);have hlt:(xs.take i).length<=xs.length:=by rw [Z0x];lia
   refine ⟨True.intro,_,rfl,a,dx,fs,rfl,s2 _ _ ea,hD2,A1p (by lia),A0j s2 hD,A0c,?_⟩;rw [Z14,hxi];rfl
  ·rintro ys H2 ⟨s2,hD2,rfl⟩;rw [Z18] at hD2;exact k D H2 hD s2 hD2
theorem C9b (T:Txt K mg t):FO P w base T.av 4 (λvs H Q E=>C2z 3 vs H Q E\/C9t t vs H Q E):=A3e.or (B1z T 3) ((D2i T).mono (by lia))
theorem B2g (T:Txt K mg t):FP P w mg base T.gc 5 (C6w t):=by
 have Ga0:= @C9b P w K mg base t T;refine T.gc.F.ok B8k (by walk_at "ln") λ_ A _ s H _ Q E hr h=> ?_
 ·obtain ⟨p,dx,l,n,x,ys,rfl,hp,hl,hy,k⟩:=h;obtain ⟨c2,c3⟩:=C2x ys;have lp:l≠p:=A3q hl hp (by intro z;cases z)
  refine ⟨_,(A0d (A2u (pv 0) (pv 1) rfl)
   (A0d (A2u (pv 0) (pcl Ga0 hr T.av (A0a (pv 2) A0b)) rfl)
   (A0h (A2u (pv 0) (pv 3) rfl)))),_,rfl,_,rfl,p,_,dx,[],rfl,hp,T.mh,T.ml,(by decide),?_⟩
  refine ⟨_,rfl,.inl ⟨.ref l,C2h ys,rfl,(D1k hl).ins hp,by lia,by lia,λv' H2 s2 rp2=> ?_⟩⟩;have hp2:=s2 _ _ (A0c (H:=H) (a:=p));obtain ⟨c,rfl,ec⟩:=D4i rp2;obtain ⟨hc0,ec⟩:=A1a ec
  have hcn:H c=none:=by
   by_cases z:c=p
   ·subst z;rw [A0c] at hc0;cases hc0
   ·rw [A0l z] at hc0;exact hc0
  have cp:c≠p:=λz=>by subst z;rw [hp] at hcn;cases hcn
  refine ⟨_,rfl,p,_,dx,_,rfl,hp2,T.mh,T.mo,(by show 1<1000;decide),?_⟩;refine ⟨_,rfl,_,rfl,p,_,dx,_,rfl,A0c,T.mh,T.mx,(by show 2<1000;decide),?_⟩;show Q V.non (upd (upd H2 p _) p (.ins t.bn dx (A4s "term" n (A4s "axes" (.ref c) (A4s "name" (.str x) [])))));have e1:A4s "axes" (V.ref c) (A4s "name" (.str x) [])=([("name",.str x),("axes",.ref c)]:List (Str×V)):=by rw [A1m,A1j (by decide +kernel),A1m]
  have e2:A4s "term" n ([("name",.str x),("axes",.ref c)]:List (Str×V))=([("name",.str x),("axes",.ref c),("term",n)]:List (Str×V)):=by rw [A1j (by decide +kernel),A1j (by decide +kernel),A1m]
  rw [A7a,e1,e2];refine k c _ hcn A0c (by rw [A0l cp];exact ec) λb o hb e=> ?_;rw [A0l hb];exact s2 _ _ (by rw [A0l hb];exact e)
theorem A6w (T:Txt K mg t):FP P w mg base T.cj 5 (C7e t):=by
 have Ga0:= @C9b P w K mg base t T;refine T.cj.F.ok B1o (by walk_at "ln") λ_ A _ s H _ Q E hr h=> ?_
 ·obtain ⟨p,dx,a,tt,l,o,wh,ax,tb,xs,os,rfl,hp,ra,la,rt,lt,lt2,hl,ll,hx,ro,lo,k⟩:=h;have a2:=C5x ax;have a3:=C9g (ix:=ax);obtain ⟨t2,t3⟩:=C6s tb lt2;obtain ⟨o2,o3⟩:=C2x os
  have fr:∀{H':Hp} {u:HO} {b:Addr},A1b (upd H p u) H'->H' b=none->H b=none:=λ{H' u b} s z=>by
   have z2:=s.free z;by_cases zb:b=p
   ·subst zb;rw [A0c] at z2;cases z2
   ·rw [A0l zb] at z2;exact z2
  have e1:∀v:V,A4s "axes" v [("wheel",.int wh)]=([("wheel",.int wh),("axes",v)]:List (Str×V)):=λv=>by rw [A1j (by decide +kernel),A1m]
  have e2:∀u v:V,A4s "tables" v [("wheel",.int wh),("axes",u)]=([("wheel",.int wh),("axes",u),("tables",v)]:List (Str×V)):=λu v=>by rw [A1j (by decide +kernel),A1j (by decide +kernel),A1m]
  have e3:∀u1 u v:V,A4s "lets" v [("wheel",.int wh),("axes",u1),("tables",u)]=([("wheel",.int wh),("axes",u1),("tables",u),("lets",v)]:List (Str×V)):=λu1 u v=>by rw [A1j (by decide +kernel),A1j (by decide +kernel),A1j (by decide +kernel),A1m]
  have e4:∀u1 u2 u v:V,A4s "outs" v [("wheel",.int wh),("axes",u1),("tables",u2),("lets",u)]=([("wheel",.int wh),("axes",u1),("tables",u2),("lets",u),("outs",v)]:List (Str×V)):=λu1 u2 u v=>by rw [A1j (by decide +kernel),A1j (by decide +kernel),A1j (by decide +kernel),A1j (by decide +kernel),A1m]
  refine ⟨_,(A0d (A2u (pv 0) (pv 1) rfl)
   (A0d (A2u (pv 0) (pcl Ga0 hr T.av (A0a (pv 2) A0b)) rfl)
   (A0d (A2u (pv 0) (pcl Ga0 hr T.av (A0a (pv 3) A0b)) rfl)
   (A0d (A2u (pv 0) (pcl Ga0 hr T.av (A0a (pv 4) A0b)) rfl)
   (A0h (A2u (pv 0) (pcl Ga0 hr T.av (A0a (pv 5) A0b)) rfl)))))),_,rfl,_,rfl,p,_,dx,[],rfl,hp,T.bj,T.bt,(by decide),?_⟩
  rw [A1m];refine ⟨_,rfl,.inl ⟨.ref a,A7y ax,rfl,ra.ins hp,by lia,by lia,λva H2 s2 rp2=> ?_⟩⟩;have hp2:=s2 _ _ (A0c (H:=H) (a:=p));obtain ⟨a',xa,rfl,ea,_⟩:=B5q (show Rep _ va (.list (ax.map C7s)) from rp2);refine ⟨_,rfl,p,_,dx,_,rfl,hp2,T.bj,T.j8,(by show 1<1000;decide),?_⟩;rw [e1];have sA:∀b u,b≠p->H b=some u->upd H2 p (.ins t.ac dx [("wheel",.int wh),("axes",.ref a')]) b=some u:=λb u hb e=>by rw [A0l hb];exact s2 _ _ (by rw [A0l hb];exact e)
  have rA:Rep (A3w (λb=>H b=none) (upd H2 p (.ins t.ac dx [("wheel",.int wh),("axes",.ref a')]))) (.ref a') (A7y ax):=by
   refine rp2.imp2 (λq ys z=> ?_) λq ys z=> ?_
   ·obtain ⟨z1,z2⟩:=A1a z;have hq:H q=none:=fr (A1b.refl _) z1;exact A3a hq (by rw [A0l (A3q z2 hp2 (by intro z;cases z))];exact z2)
   ·obtain ⟨z1,z2⟩:=A1a z;have hq:H q=none:=fr (A1b.refl _) z1;exact A3a hq (by rw [A0l (A3q z2 hp2 (by intro z;cases z))];exact z2)
  have nap:∀{b:Addr} {u:HO},H b=some u->(∀C d fs,u≠.ins C d fs)->b≠p:=λe n z=>by subst z;rw [hp] at e;cases e;exact n _ _ _ rfl
  have rt2:Rep (upd H2 p (.ins t.ac dx [("wheel",.int wh),("axes",.ref a')])) (.ref tt) (B4v tb):=rt.imp2 (λq ys z=>sA _ _ (nap z (by intros;intro z;cases z)) z) λq ys z=>sA _ _ (nap z (by intros;intro z;cases z)) z;refine ⟨_,rfl,.inl ⟨.ref tt,B4v tb,rfl,rt2,by lia,by lia,λvt H3 s3 rp3=> ?_⟩⟩;have hp3:=s3 _ _ (A0c (H:=H2) (a:=p));obtain ⟨t',xt,rfl,et,_⟩:=B5q (show Rep _ vt (.list (tb.map C9w)) from rp3);refine ⟨_,rfl,p,_,dx,_,rfl,hp3,T.bj,T.ge,(by show 2<1000;decide),?_⟩;rw [e2]
  have f3:∀{b:Addr},upd H2 p (.ins t.ac dx [("wheel",.int wh),("axes",.ref a')]) b=none->H b=none:=λ{b} z=>by
   by_cases zb:b=p
   ·subst zb;rw [A0c] at z;cases z
   ·rw [A0l zb] at z;exact fr s2 z
  have mv3:∀{v:V} {d:PyData} {G:Hp},A1b G H3->(∀b o,G b=some o->H b=none)->Rep G v d->Rep (A3w (λb=>H b=none) (upd H3 p (.ins t.ac dx [("wheel",.int wh),("axes",.ref a'),("tables",.ref t')]))) v d:=λ{v d G} sg hg r=>r.imp2 (λq ys z=>A3a (hg _ _ z) (by rw [A0l (A3q (sg _ _ z) hp3 (by intro z;cases z))];exact sg _ _ z)) λq ys z=>A3a (hg _ _ z) (by rw [A0l (A3q (sg _ _ z) hp3 (by intro z;cases z))];exact sg _ _ z);have sB:∀b u,b≠p->H b=some u->upd H3 p (.ins t.ac dx [("wheel",.int wh),("axes",.ref a'),("tables",.ref t')]) b=some u:=λb u hb e=>by rw [A0l hb];exact s3 _ _ (sA b u hb e)
  have rA3:=mv3 (A3t.trans s3) (λb o z=>(A1a z).1) rA;have rT3:=mv3 A3t (λb o z=>f3 (A1a z).1) rp3;refine ⟨_,rfl,.inr ⟨l,xs,rfl,sB _ _ (nap hl (by intros;intro z;cases z)) hl,ll,λx hxx=> ?_,λl' H4 hl' s4 hl4=> ?_⟩⟩
  ·obtain ⟨b,db,fs,rfl,nb,eb⟩:=hx x hxx;exact ⟨b,db,fs,rfl,sB _ _ nb eb⟩
  have hp4:=s4 _ _ (A0c (H:=H3) (a:=p));refine ⟨_,rfl,p,_,dx,_,rfl,hp4,T.bj,T.j7,(by show 3<1000;decide),?_⟩;rw [e3]
  have hln:H l'=none:=by
   by_cases zb:l'=p
   ·subst zb;rw [A0c] at hl';cases hl'
   ·rw [A0l zb] at hl';exact f3 (s3.free hl')
  have lp:l'≠p:=λz=>by subst z;rw [hp] at hln;cases hln
  have sC:∀b u,b≠p->H b=some u->upd H4 p (.ins t.ac dx [("wheel",.int wh),("axes",.ref a'),("tables",.ref t'),("lets",.ref l')]) b=some u:=λb u hb e=>by rw [A0l hb];exact s4 _ _ (sB b u hb e)
  have ro4:Rep (upd H4 p (.ins t.ac dx [("wheel",.int wh),("axes",.ref a'),("tables",.ref t'),("lets",.ref l')])) (.ref o) (C2h os):=ro.imp2 (λq ys z=>sC _ _ (nap z (by intros;intro z;cases z)) z) λq ys z=>sC _ _ (nap z (by intros;intro z;cases z)) z;refine ⟨_,rfl,.inl ⟨.ref o,C2h os,rfl,ro4,by lia,by lia,λvo H5 s5 rp5=> ?_⟩⟩;have hp5:=s5 _ _ (A0c (H:=H4) (a:=p));obtain ⟨o',rfl,eo⟩:=D4i rp5;refine ⟨_,rfl,p,_,dx,_,rfl,hp5,T.bj,T.jc,(by show 4<1000;decide),?_⟩;show Q V.non (upd H5 p _);rw [e4]
  have f5:∀{b:Addr},upd H4 p (.ins t.ac dx [("wheel",.int wh),("axes",.ref a'),("tables",.ref t'),("lets",.ref l')]) b=none->H b=none:=λ{b} z=>by
   by_cases zb:b=p
   ·subst zb;rw [A0c] at z;cases z
   ·rw [A0l zb] at z;have z:=s4.free z;rw [A0l zb] at z;exact f3 (s3.free z)
  have mv5:∀{v:V} {d:PyData} {G:Hp},(∀b xs,G b=some (.lst xs)->H5 b=some (.lst xs))->(∀b xs,G b=some (.tup xs)->H5 b=some (.tup xs))->(∀b o,G b=some o->H b=none)->Rep G v d->Rep (A3w (λb=>H b=none) (upd H5 p (.ins t.ac dx [("wheel",.int wh),("axes",.ref a'),("tables",.ref t'),("lets",.ref l'),("outs",.ref o')]))) v d:=λ{v d G} s1 s2 hg r=>r.imp2 (λq ys z=>A3a (hg _ _ z) (by rw [A0l (A3q (s1 _ _ z) hp5 (by intro z;cases z))];exact s1 _ _ z)) λq ys z=>A3a (hg _ _ z) (by rw [A0l (A3q (s2 _ _ z) hp5 (by intro z;cases z))];exact s2 _ _ z)
  have up4:∀{b:Addr} {u:HO},(∀C d fs,u≠.ins C d fs)->upd H3 p (.ins t.ac dx [("wheel",.int wh),("axes",.ref a'),("tables",.ref t')]) b=some u->H5 b=some u:=λ{b u} n z=>s5 _ _ (by
   have z4:=s4 _ _ z;rw [A0l (A3q z4 hp4 (n _ _ _))]
   exact z4)
  refine k a' t' l' o' _ A0c (mv5 (λb ys z=>up4 (by intros;intro z;cases z) (A3t _ _ z)) (λb ys z=>up4 (by intros;intro z;cases z) (A3t _ _ z)) (λb o z=>(A1a z).1) rA3)
   (mv5 (λb ys z=>up4 (by intros;intro z;cases z) (A3t _ _ z)) (λb ys z=>up4 (by intros;intro z;cases z) (A3t _ _ z)) (λb o z=>(A1a z).1) rT3) hln ?_
   (mv5 (λb ys z=>A3t _ _ z) (λb ys z=>A3t _ _ z) (λb o z=>f5 (A1a z).1) rp5) λb u hb e=> ?_
  ·rw [A0l lp];exact s5 _ _ (by rw [A0l lp];exact hl4)
  ·rw [A0l hb];exact s5 _ _ (sC b u hb e)
theorem D7b {b:Bool} {A B:Prop} (h1:b=false->A) (h2:b=true->B):if (! b)=true then A else B:=by
 cases b
 ·exact h1 rfl
 ·exact h2 rfl
theorem D9u {b:Bool} {A B:Prop} (h1:b=true->A) (h2:b=false->B):if b=true then A else B:=by
 cases b
 ·exact h2 rfl
 ·exact h1 rfl
theorem lt1 (a b:Nat):decide (([a]:List Nat)<[b])=decide (a<b):=by
 rw [decide_eq_decide,List.cons_lt_cons_iff];constructor
 ·rintro (h | ⟨_,h⟩)
  ·exact h
  ·exact absurd h (List.not_lt_nil _)
 ·exact .inl
def la (c:Nat):Bool:= !(decide (([c]:List Nat)<("a":Str).cps.toList))
def lz (c:Nat):Bool:= !(decide (("z":Str).cps.toList<[c]))
theorem D5z (c:Nat):la c=decide (97<=c):=by
 have e:("a":Str).cps.toList=[97]:=by decide +kernel
 unfold la;rw [e];by_cases h:97<=c
 ·have:¬([c]<[97]):=λz=>by
   rcases List.cons_lt_cons_iff.mp z with z | ⟨_,z⟩
   ·lia
   ·exact absurd z (by simp)
  rw [Z1j this,Z20 h];rfl
 ·have:[c]<[97]:=List.cons_lt_cons_iff.mpr (.inl (by lia));rw [Z20 this,Z1j h];rfl
theorem D3t (c:Nat):lz c=decide (c<=122):=by
 have e:("z":Str).cps.toList=[122]:=by decide +kernel
 unfold lz;rw [e];by_cases h:c<=122
 ·have:¬([122]<[c]):=λz=>by
   rcases List.cons_lt_cons_iff.mp z with z | ⟨_,z⟩
   ·lia
   ·exact absurd z (by simp)
  rw [Z1j this,Z20 h];rfl
 ·have:[122]<[c]:=List.cons_lt_cons_iff.mpr (.inl (by lia));rw [Z20 this,Z1j h];rfl
theorem D7h {n:Nat} (h:n<=1001):n<=sizeLine:=by rw [sizeLine_eq];lia
theorem D9e {n:Nat} (h:n<=1001):n<sizeLine:=by rw [sizeLine_eq];lia
def A7l (u:List Nat):Bool:= ! u.isEmpty&&u.all λc=>decide (97<=c)&&decide (c<=122)
def D0i (x:Str):Bool:=(!(decide (x="")))&&x.cps.toList.all λc=>la c&&lz c
theorem C2p {x:Str}:x=""↔sg x=[]:=⟨λe=>by rw [e];decide +kernel,λe=>A4l (e.trans (by decide +kernel))⟩
theorem D1y (x:Str):D0i x=A7l (sg x):=by
 unfold D0i A7l
 have e1:(decide (x=""))=(sg x).isEmpty:=by
  rw [Bool.eq_iff_iff,decide_eq_true_iff,C2p,List.isEmpty_iff]
 rw [e1];congr 1;show (sg x).all _=_;congr 1;funext c;rw [D5z,D3t]
def B8l (u:List Nat):Bool:=decide (1<=u.length)&&decide (u.length<=30)&&u.all (λc=>decide (48<=c)&&decide (c<=57))&&(!(decide (u.head? =some 48))||decide (u.length=1))
theorem A3n (u:List Nat):B8l u=true↔B0x u:=by
 unfold B8l;simp only [Z1x,Bool.or_eq_true,decide_eq_true_iff,List.all_eq_true,Bool.not_eq_true',decide_eq_false_iff_not];constructor
 ·rintro ⟨⟨⟨h1,h2⟩,h3⟩,h4⟩;exact ⟨h1,h2,h3,λz=>h4.resolve_left λn=>n z⟩
 ·intro h;refine ⟨⟨⟨h.l1,h.l2⟩,h.dg⟩,?_⟩;by_cases z:u.head? =some 48
  ·exact .inr (h.z z)
  ·exact .inl z
theorem C3b:∀(u:List Nat) (a:Nat),(∀c∈u,48<=c/\c<=57)->u.foldl (λa c=>a*10+(c-48)) a=0->a=0/\∀c∈u,c=48
 | [],a,_,h=>⟨h,λc hc=>by cases hc⟩
 | c::u,a,d,h=>by
  obtain ⟨h1,h2⟩:=C3b u _ (λc hc=>d c (.tail _ hc)) h;have dc:=d c (.head _);have h1:a*10+(c-48)=0:=h1;refine ⟨by lia,λx hx=> ?_⟩;rcases Z0e.mp hx with rfl | hx
  ·lia
  ·exact h2 x hx
theorem B4y {u:List Nat} (n:B0x u):NumText.digitsVal u=0↔u=[48]:=by
 constructor
 ·intro h;obtain ⟨_,h2⟩:=C3b u 0 n.dg h;have l1:=n.l1
  cases u with
  | nil=>simp at l1
  | cons c r =>
   have e:=h2 c (.head _);have lz:=n.z (by rw [e];rfl)
   cases r with
   | nil=>rw [e]
   | cons _ _=>simp at lz
 ·intro h;rw [h];rfl
def C2d (u:List Nat):Bool:=B8l u&& !(decide (u=[48]))
def B2k (u:List Nat):Bool:=if u.head? =some 45 then C2d u.tail else B8l u
def A1v (c:Nat):Bool:=decide (48<=c/\c<=57)
def Out (A:Adr) (b:Bool) (H:Hp) (E:XK) (k:Prop):Prop:=(b=true->k)/\(b=false->∀H',A1b H H'->E (.ref A.am) none H')
def D3v:Sp:=λvs H Q _=>∃x:Str,vs=[.str x]/\x.length<=1000/\∀H',A1b H H'->Q (.bl (D0i x)) H'
def D3l:Sp:=λvs H Q _=>∃c:Nat,vs=[.str ⟨#[c]⟩]/\∀H',A1b H H'->Q (.bl (A1v c)) H'
def D2a (A:Adr):Sp:=λvs H Q E=>∃x:Str,vs=[.str x]/\x.length<=1000/\Out A (A7l (sg x)) H E (∀H',A1b H H'->Q (.str x) H')
def C6r (A:Adr):Sp:=λvs H Q E=>∃(l:Addr) (xs:List Str),vs=[.ref l]/\H l=some (.lst (xs.map V.str))/\xs.length<=1000/\(∀x∈xs,x.length<=1000)/\Out A (! xs.isEmpty&&xs.all λx=>A7l (sg x)) H E (∀(D:Addr) (H':Hp),H D=none->A1b H H'->H' D=some (.lst (xs.map V.str))->Q (.ref D) H')
def D0j (A:Adr):Sp:=λvs H Q E=>∃(l:Addr) (xs:List V) (n:Nat),vs=[.ref l,.int n]/\H l=some (.lst xs)/\Out A (decide (xs.length=n)) H E (Q .non H)
def D4v (A:Adr):Sp:=λvs H Q E=>∃x:Str,vs=[.str x]/\x.length<=1000/\(B0x (sg x)->∀H',A1b H H'->Q (.int (NumText.digitsVal (sg x):Nat)) H')/\(¬B0x (sg x)->∀H',A1b H H'->E (.ref A.am) none H')
def C6y (A:Adr):Sp:=λvs H Q E=>∃x:Str,vs=[.str x]/\x.length<=1000/\Out A (C2d (sg x)) H E (∀H',A1b H H'->Q (.int (NumText.digitsVal (sg x):Nat)) H')
def D3i (A:Adr):Sp:=λvs H Q E=>∃x:Str,vs=[.str x]/\x.length<=1000/\Out A (B2k (sg x)) H E (∀(z:Int) H',A1b H H'->Q (.int z) H')
theorem C3d (x:Str):Txt.startswith x "0"=true↔(sg x).head? =some 48:=by
 have e:("0":Str)=⟨#[48]⟩:=by decide +kernel
 rw [e,List.head?_eq_getElem?,<-StrLaws.subAt_one]
 unfold Txt.startswith
 rw [Z1x,decide_eq_true_eq]
theorem B1c (T:Txt K mg t):FO P w base T.bz 1 D3v:=by
 refine T.bz.F.ok B0z (by walk_at "ln") λ_ A _ s H _ Q E hr h=> ?_
 ·obtain ⟨x,rfl,lx,k⟩:=h;refine ⟨_,(A0h (A0u (B6o (C2n C2q (pv 0) A0g (A0z _)) (B6x (A0y (B9n rfl) (by rfl) T.qp PyProof.Rows.boot_all (A0a (A6u (N':=["sign"]) (ix:=(List.replicate 1 none)) rfl (A1n rfl (by decide +kernel) (by decide +kernel)) (A1q rfl) (C8y (pv 0)) (λ_ _ _ _=>(A0p (i:=0) C5f rfl (.inl rfl))) (λ_ _ _ _=>(B4n B3x B3x A0g (pv 0) A0g))) A0b)))))),?_⟩;by_cases hx:x=""
  ·have n0:(!(decide ((V.str x)=V.str "")))=false:=by rw [hx];decide
   have e:D0i x=false:=by unfold D0i;rw [Z20 hx];rfl
   refine ⟨_,rfl,rfl,false,congrArg V.bl n0,A8s ?_⟩;have:=k H (A1b.refl _);rw [e] at this;exact this
  have n0:(!(decide ((V.str x)=V.str "")))=true:=by
   rw [Z1j (λe=>hx (by injection e))];rfl
  refine ⟨_,rfl,rfl,true,congrArg V.bl n0,B2l ?_⟩;refine ⟨_,rfl,x,rfl,λD hD=> ?_⟩;have lc:x.cps.size<=1000:=lx;refine B7h (J:=Its x) (D:=D) x.cps.size (λi ys H2=>A1b H H2/\H2 D=some (.lst ys)/\ys=(((x.cps.toList.take i).map λc=>la c&&lz c).map V.bl)) ⟨A0f hD,A0c,rfl⟩ (λi ys H2 hi _=>hi) (λys H2 _=>rfl) ?_ ?_
  ·rintro i ys H2 hi ⟨s2,hD2,rfl⟩ v H3 ⟨rfl,c,hc,rfl⟩;have hc':x.cps.toList[i]? =some c:=by simpa using hc
   have lt:(((x.cps.toList.take i).map λc=>la c&&lz c).map V.bl).length<=1000:=by
    rw [Z08,Z08,Z0x]
    lia
   have nx:∀b:Bool,b=(la c&&lz c)->((x.cps.toList.take i).map λc=>la c&&lz c).map V.bl++[V.bl b]=((x.cps.toList.take (i+1)).map λc=>la c&&lz c).map V.bl:=λb hb=>by
    rw [Z14,hc',Z2f,Z0s,Z0s,hb];rfl
   by_cases h1:la c=true
   ·refine ⟨True.intro,_,rfl,_,_,rfl,rfl,true,congrArg V.bl h1,B2l ⟨_,_,rfl,rfl,hD2,D9e (by lia),A0j s2 hD,A0c,?_⟩⟩;exact nx (lz c) (by rw [h1];rfl)
   ·have h1:la c=false:=by simpa using h1
    refine ⟨True.intro,_,rfl,_,_,rfl,rfl,false,congrArg V.bl h1,A8s ⟨hD2,D9e (by lia),A0j s2 hD,A0c,?_⟩⟩;exact nx false (by rw [h1];rfl)
  ·rintro ys H2 ⟨s2,hD2,rfl⟩;rw [show x.cps.size=x.cps.toList.length by simp,Z18] at hD2;refine ⟨D,x.cps.toList.map λc=>la c&&lz c,rfl,SqL.of hD2,?_⟩
   have e:D0i x=(x.cps.toList.map λc=>la c&&lz c).all id:=by
    unfold D0i;rw [Z1j hx,List.all_map];rfl
   rw [<-e];exact k H2 s2
theorem B0m (T:Txt K mg t):FO P w base T.bo 1 D3l:=by
 refine T.bo.F.ok B0r (by walk_at "ln") λ_ A _ s H _ Q E hr h=> ?_
 ·obtain ⟨c,rfl,q⟩:=h;have e0:("0":Str).cps.toList=[48]:=by decide +kernel
  have e9:("9":Str).cps.toList=[57]:=by decide +kernel
  have q':=q H (A1b.refl _);refine ⟨_,(A0h (A0u (B4n B3x B3x A0g (pv 0) A0g))),?_⟩;refine ⟨_,rfl,_,_,rfl,rfl,decide (48<=c),?_,?_⟩
  ·show V.bl (!(decide (([c]:List Nat)<("0":Str).cps.toList)))=_;rw [e0,lt1];congr 1;rw [Bool.eq_iff_iff];simp
  ·refine A3z (λh=>⟨_,_,rfl,rfl,?_⟩) (λh=> ?_)
   ·have e:(!(decide (("9":Str).cps.toList<([c]:List Nat))))=A1v c:=by
     rw [e9,lt1];unfold A1v;rw [Bool.eq_iff_iff];simp;lia
    show Q (.bl (!(decide (("9":Str).cps.toList<([c]:List Nat))))) H;rw [e];exact q'
   ·have e:A1v c=false:=by unfold A1v;simp;lia
    rw [e] at q';exact q'
theorem A3l (T:Txt K mg t):A3e P w K mg base (CXF P w) 2 t.fo t.fi B7o (D4v t):=by
 have Ga1:= @B0m P w K mg base t T;refine T.af.F.okF B2z (by walk_at "ln") λ_ A _ s H _ Q E hr h=> ?_
 ·obtain ⟨x,rfl,lx,q,qe⟩:=h;have lz:x.length<=sizeLine:=D7h (by lia);have one:([V.str "a number is at most 30 figures"]:List V).length<=sizeLine:=A0w rfl;have sl:=A1r x
  refine ⟨_,(A0d (A1w (PW.pt (C3u (B3l (C0t C6x C6x A0e (A0y A3x (by rfl) T.bx Z0r (A0a (pv 0) A0b)) (A5s T.jd rfl))) (B6i (B3l (A4e (A0y (B9n rfl) (by rfl) T.qp PyProof.Rows.boot_all (A0a (A6u (N':=["sign"]) (ix:=(List.replicate 1 none)) rfl (A1n rfl (by decide +kernel) (by decide +kernel)) (A1q rfl) (C8y (pv 0)) (λ_ _ _ _=>(A0p (i:=0) C5p rfl (.inl rfl))) (λ_ _ _ _=>(pcl Ga1 hr T.bo (A0a (pv 0) A0b)))) A0b)))))))
    (A0h (A3b A5m T.ay rfl T.a_ rfl (A0a A0g A0b)))
    A0m)
   (A0d (A1w (PW.pt (B1w (A4e (A2r PySem.F.plainAttrs_str PySem.F.slot_str_startswith PySem.F.type_str_startswith B2j (pv 0) (A0a A0g A0b))) (A9w (A0n C1h (A0y A3x (by rfl) T.bx Z0r (A0a (pv 0) A0b)) A0e (A0z _)))))
    (A0h (A3b A5m T.ay rfl T.a_ rfl (A0a A0g A0b)))
    A0m)
   (A0h (A0u (A2b B5r (by rfl) T.qB PyProof.Rows.boot_int (A0a (pv 0) A0b)))))),?_⟩
  refine ⟨_,rfl,x,rfl,lz,_,_,rfl,rfl,_,rfl,A3z (λh1=>⟨_,_,rfl,rfl,_,rfl,?_⟩) (λh1=>⟨false,rfl,B2l ⟨one,qe (λn=>h1 ?_) H (A1b.refl _)⟩⟩)⟩
  rotate_left
  ·have:=n.l1;lia
  refine D2v (λh2=>⟨one,qe (λn=> ?_) H (A1b.refl _)⟩) (λh2=> ?_)
  ·have:=n.l2;simp at h2
   lia
  have l30:x.length<=30:=by simp at h2;lia
  refine ⟨_,rfl,x,rfl,λD hD=> ?_⟩;refine B7h (J:=Its x) (D:=D) x.cps.size (λi ys H2=>A1b H H2/\H2 D=some (.lst ys)/\ys=((sg x).take i).map λc=>V.bl (A1v c)) ⟨A0f hD,A0c,rfl⟩ (λi ys H2 hi _=>hi) (λys H2 _=>rfl) ?_ ?_
  ·rintro i ys H2 hi ⟨s2,hD2,rfl⟩ v H3 ⟨rfl,c,hc,rfl⟩;refine ⟨True.intro,_,rfl,c,rfl,λH4 s4=> ?_⟩;have hc':(sg x)[i]? =some c:=by rw [<-hc];simp [sg]
   refine ⟨s4 _ _ hD2,A1p (by rw [Z08,Z0x];lia),A0j (s2.trans s4) hD,A0c,?_⟩;rw [Z14,hc',Z0s];rfl
  ·rintro ys H2 ⟨s2,hD2,rfl⟩;have et:(sg x).take x.cps.size=sg x:=Z2l (by rw [sl];exact Z09 _);rw [et] at hD2;refine ⟨D,(sg x).map A1v,rfl,SqL.of (by rw [List.map_map];exact hD2),_,rfl,?_⟩
   have al:((sg x).map A1v).all id=true↔∀c∈sg x,48<=c/\c<=57:=by
    rw [List.all_map,List.all_eq_true];simp [A1v]
   refine D2v (λh3=>⟨one,qe (λn=> ?_) H2 s2⟩) (λh3=> ?_)
   ·rw [al.mpr n.dg] at h3;cases h3
   have dg:∀c∈sg x,48<=c/\c<=57:=al.mp (by simpa using h3);refine ⟨_,rfl,rfl,x,_,rfl,rfl,_,rfl,D2v (λh4=>⟨_,rfl,x,rfl,lz,_,_,rfl,rfl,_,rfl,?_⟩) (λh4=> ?_)⟩
   ·refine D2v (λh5=>⟨A0w rfl,qe (λn=> ?_) H2 s2⟩) (λh5=> ?_)
    ·have:=n.z ((C3d x).mp h4);simp at h5
     lia
    ·have n:B0x (sg x):=⟨by lia,by lia,dg,λ_=>by simp at h5;lia⟩;exact ⟨_,rfl,x,_,rfl,C8x n,by lia,q n H2 s2⟩
   ·have n:B0x (sg x):=⟨by lia,by lia,dg,λz=>absurd ((C3d x).mpr z) h4⟩;exact ⟨_,rfl,x,_,rfl,C8x n,by lia,q n H2 s2⟩
theorem A2j (T:Txt K mg t):A3e P w K mg base (CXF P w) 2 t.iq t.iz B7u (D2a t):=by
 have Ga2:= @B1c P w K mg base t T;refine T.aa.F.okF B7c (by walk_at "ln") λ_ A _ s H _ Q E hr h=> ?_
 ·obtain ⟨x,rfl,lx,k1,k2⟩:=h
  refine ⟨_,(A0d (A1w (B3l (A4e (pcl Ga2 hr T.bz (A0a (pv 0) A0b))))
    (A0h (A3b A5m T.ay rfl T.a_ rfl (A0a A0g A0b)))
    A0m)
   (A0h (A0u (pv 0)))),?_⟩
  refine ⟨_,rfl,x,rfl,lx,λH2 s2=>⟨_,rfl,?_⟩⟩;rw [D1y]
  cases hb:A7l (sg x) with
  | true=>exact A8s ⟨_,rfl,k1 hb H2 s2⟩
  | false=>exact B2l ⟨A0w rfl,k2 hb H2 s2⟩
theorem A3s (T:Txt K mg t):A3e P w K mg base (CXF P w) 1 t.dq t.dn D7c (D0j t):=by
 refine T.ag.F.okF B0g (by walk_at "ln") λ_ A _ s H _ Q E hr h=> ?_
 ·obtain ⟨l,xs,n,rfl,hl,k1,k2⟩:=h
  refine ⟨_,(A0h (A1w (A0n C2q (A0y A1i (by rfl) T.bx Z0r (A0a (pv 0) A0b)) (pv 1) (A0z _))
    (A0h (A3b A5m T.ay rfl T.a_ rfl (A0a A0g A0b)))
    A0m)),?_⟩
  refine ⟨_,rfl,l,_,rfl,.inl (SqL.of hl),_,rfl,rfl,_,rfl,C6o (λe=> ?_) (λe=> ?_)⟩
  ·exact ⟨A0w rfl,k2 (Z1j λz=>e (by rw [z])) H (A1b.refl _)⟩
  ·exact k1 (Z20 (by have:=V.int.inj e;lia))
theorem A6a (T:Txt K mg t):A3e P w K mg base (CXF P w) 3 t.ef t.eh B7o (C6y t):=by
 have Ga3:= @A3l P w K mg base t T;refine T.aj.F.okF A6c (by walk_at "ln") λ_ A _ s H _ Q E hr h=> ?_
 ·obtain ⟨x,rfl,lx,k1,k2⟩:=h
  refine ⟨_,(A0d (A0x (i:=1) A6c.nd rfl (.inl rfl) (A0s Ga3 (hr.mono (by lia)) rfl T.af.m T.af.F.kp T.af.b .nil A2c (A0a (pv 0) A0b)))
   (A0d (A1w (A0n A2s (pv 1) A0e (A0z _))
    (A0h (A3b A5m T.ay rfl T.a_ rfl (A0a A0g A0b)))
    A0m)
   (A0h (A0u (pv 1))))),?_⟩
  refine ⟨_,rfl,x,rfl,lx,λhn H2 s2=> ?_,λhn H2 s2=>k2 (by unfold C2d;rw [show B8l (sg x)=false from Bool.eq_false_iff.mpr λz=>hn ((A3n _).mp z)];rfl) H2 s2⟩;refine ⟨_,rfl,rfl,_,rfl,A3z (λe=> ?_) (λe=> ?_)⟩
  ·refine ⟨A0w rfl,k2 ?_ H2 s2⟩;have e:NumText.digitsVal (sg x)=0:=by have:=V.int.inj e;lia
   unfold C2d;rw [Z20 ((B4y hn).mp e),Bool.not_true,Bool.and_false]
  ·refine ⟨_,rfl,k1 ?_ H2 s2⟩;unfold C2d;rw [(A3n _).mpr hn,Z1j λz=>e (by rw [(B4y hn).mpr z];rfl)];rfl
theorem A5b (T:Txt K mg t):A3e P w K mg base (CXF P w) 4 t.g7 t.g8 B7u (D3i t):=by
 have Ga4:= @A6a P w K mg base t T;have Ga3:= @A3l P w K mg base t T;refine T.ah.F.okF B3k (by walk_at "ln") λ_ A _ s H _ Q E hr h=> ?_
 ·obtain ⟨x,rfl,lx,k1,k2⟩:=h
  refine ⟨_,(A0d (A1w (B3l (A4e (A2r PySem.F.plainAttrs_str PySem.F.slot_str_startswith PySem.F.type_str_startswith B2j (pv 0) (A0a A0g A0b))))
    (A0h (A0u (A0s Ga3 (hr.mono (by lia)) rfl T.af.m T.af.F.kp T.af.b .nil A2c (A0a (pv 0) A0b))))
    A0m)
   (A0h (A0u (D0u C3x (A0s Ga4 (hr.mono (by lia)) rfl T.aj.m T.aj.F.kp T.aj.b .nil A2c (A0a (A1t A7n (pv 0) (A2g A0e) A2t) A0b)))))),?_⟩
  refine ⟨_,rfl,rfl,x,_,rfl,rfl,_,rfl,?_⟩;rw [B8z,C0k];refine D7b (λh1=> ?_) (λh1=> ?_)
  ·have h1:=of_decide_eq_false h1;have en:B2k (sg x)=B8l (sg x):=by unfold B2k;rw [Z0t h1]
   rw [en] at k1 k2;exact ⟨_,rfl,x,rfl,lx,λhn H2 s2=>k1 ((A3n _).mpr hn) _ H2 s2,λhn H2 s2=>k2 (Bool.eq_false_iff.mpr λz=>hn ((A3n _).mp z)) H2 s2⟩
  ·have h1:=of_decide_eq_true h1;have en:B2k (sg x)=C2d (sg x).tail:=by unfold B2k;rw [Z12 h1]
   rw [en] at k1 k2
   have l1:1<=x.length:=by
    rw [<-A1r]
    cases e:sg x with
    | nil=>rw [e] at h1;cases h1
    | cons _ _=>simp
   have e1:=B9c (x:=x) (n:=1) l1;rw [List.drop_one] at e1;have l2:(Txt.slice x (some ((1:Nat):Int)) none).length<=1000:=by rw [<-A1r,e1,List.length_tail,A1r];lia
   refine ⟨_,rfl,_,rfl,x,rfl,D7h (by lia),_,rfl,l2,λhb H2 s2=>⟨_,rfl,k1 (by rw [<-e1];exact hb) _ H2 s2⟩,λhb H2 s2=>k2 (by rw [<-e1];exact hb) H2 s2⟩
def E0x (u:List Nat):Bool:=match u.head? with | some c=>A1v c | none=>false
def C5b (u:List Nat):Bool:=decide (u.head? =some 45)||E0x u
theorem B5u (T:Txt K mg t):FO P w base T.bo 1 (λvs H Q _=>vs=[.str ""]/\Q (.bl false) H):=by
 refine T.bo.F.ok B0r (by walk_at "ln") λ_ A _ s H _ Q E hr h=> ?_
 ·obtain ⟨rfl,q⟩:=h;refine ⟨_,(A0h (A0u (B4n B3x B3x A0g (pv 0) A0g))),?_⟩;refine ⟨_,rfl,_,_,rfl,rfl,false,?_,A8s q⟩;have e:decide (("":Str).cps.toList<("0":Str).cps.toList)=true:=by decide +kernel
  show V.bl (!(decide (("":Str).cps.toList<("0":Str).cps.toList)))=V.bl false;rw [e];rfl
def C3l:Sp:=λvs H Q _=>∃x:Str,vs=[.str x]/\x.length<=1000/\∀H',A1b H H'->Q (.bl (C5b (sg x))) H'
theorem A5y (T:Txt K mg t):FO P w base T.bi 2 C3l:=by
 have Ga1:=A3e.or (@B0m P w K mg base t T) (B5u T);refine T.bi.F.ok B0w (by walk_at "ln") λ_ A _ s H _ Q E hr h=> ?_
 ·obtain ⟨x,rfl,lx,k⟩:=h;refine ⟨_,(A0h (A0u (D9g (A2r PySem.F.plainAttrs_str PySem.F.slot_str_startswith PySem.F.type_str_startswith B2j (pv 0) (A0a A0g A0b)) (B6x (pcl Ga1 hr T.bo (A0a (A1t A7n (pv 0) A2t (A2g A0e)) A0b)))))),?_⟩;refine ⟨_,rfl,rfl,x,_,rfl,rfl,_,rfl,?_⟩;rw [B8z,C0k];unfold C5b at k;refine D9u (λh1=> ?_) (λh1=> ?_)
  ·have:=k H (A1b.refl _);rw [h1] at this;exact this
  ·rw [h1] at k
   cases e:sg x with
   | nil =>
    have x0:x="":=C2p.mpr e;have e2:Txt.slice x none (some 1)=("":Str):=by rw [x0];decide +kernel
    refine ⟨_,rfl,_,rfl,x,rfl,D7h (by lia),.inr ⟨congrArg (λy=>[V.str y]) e2,?_⟩⟩;have:=k H (A1b.refl _);rw [e] at this;exact this
   | cons c r =>
    have l1:1<=x.length:=by rw [<-A1r,e];simp
    have e1:=C6c (x:=x) (n:=1) l1;rw [e] at e1;have e2:Txt.slice x none (some 1)=(⟨#[c]⟩:Str):=A4l e1;refine ⟨_,rfl,_,rfl,x,rfl,D7h (by lia),.inl ⟨c,congrArg (λy=>[V.str y]) e2,λH2 s2=> ?_⟩⟩;have:=k H2 s2;rw [e] at this;exact this
theorem A9e (T:Txt K mg t):A3e P w K mg base (CXF P w) 3 t.gv t.gu A9o (C6r t):=by
 have Ga5:= @A2j P w K mg base t T;refine T.bb.F.okF B4k (by walk_at "ln") λ_ A _ s H _ Q E hr h=> ?_
 ·obtain ⟨l,xs,rfl,hl,lx,lw,k1,k2⟩:=h
  refine ⟨_,(A0d (A1w (A0n A2s (A0y A1i (by rfl) T.bx Z0r (A0a (pv 0) A0b)) A0e (A0z _))
    (A0h (A3b A5m T.ay rfl T.a_ rfl (A0a A0g A0b)))
    A0m)
   (A0h (A0u (B9z (E:=E) (N':=["word"]) (ix:=(List.replicate 1 none)) rfl (A1n rfl (by decide +kernel) (by decide +kernel)) (A1q rfl) (A3f (pv 0)) (λ_ _ _ _=>(A0p (i:=0) C4m rfl (.inl rfl))) (λ_ _ _ _=>(A0s Ga5 (hr.mono (by lia)) rfl T.aa.m T.aa.F.kp T.aa.b .nil C1v (A0a (pv 0) A0b))) ⟨rfl,rfl⟩ rfl B3o)))),?_⟩
  refine ⟨_,rfl,l,_,rfl,.inl (SqL.of hl),rfl,_,rfl,A3z (λe=> ?_) (λe=> ?_)⟩
  ·have e:xs=[]:=Z2n.mp (by have:=V.int.inj e;rw [Z08] at this;lia);exact ⟨A0w rfl,k2 (by rw [e];rfl) H (A1b.refl _)⟩
  have ne:xs≠[]:=λz=>e (by rw [z];rfl);have ie:xs.isEmpty=false:=by cases xs with | nil=>exact absurd rfl ne | cons _ _=>rfl
  rw [ie] at k1 k2;refine ⟨_,rfl,l,rfl,⟨_,SqL.of hl⟩,λD hD=> ?_⟩;refine A2h (K:=K) (a:=l) (D:=D) (xs:=xs.map V.str) (λi ys H2=>A1b H H2/\H2 D=some (.lst ys)/\ys=(xs.take i).map V.str/\∀x∈xs.take i,A7l (sg x)=true) ⟨A0f hD,A0c,rfl,λx hx=>by cases hx⟩ (by rintro i ys H2 ⟨s2,_⟩;exact SqL.of (s2 _ _ hl)) ?_ ?_
  ·rintro i x ys H2 hx ⟨s2,hD2,rfl,al⟩;rw [Z1z] at hx;obtain ⟨y,hy,rfl⟩:=Z0i.mp hx;have my:=Z13 hy;refine ⟨True.intro,_,rfl,y,rfl,lw y my,λhb H3 s3=>⟨s3 _ _ hD2,D9e (by rw [Z08,Z0x];lia),A0j (s2.trans s3) hD,A0c,?_,λz hz=> ?_⟩,λhb H3 s3=>k2 ?_ H3 (s2.trans s3)⟩
   ·rw [Z14,hy,Z2f,Z0s];rfl
   ·rw [Z14,hy] at hz;rcases Z07.mp hz with hz | hz
    ·exact al z hz
    ·rw [Z0w.mp hz];exact hb
   ·show xs.all _=false;rw [List.all_eq_false];exact ⟨y,my,by rw [hb];decide⟩
  ·rintro ys H2 ⟨s2,hD2,rfl,al⟩;rw [Z08,Z18] at hD2 al;exact k1 (List.all_eq_true.mpr al) D H2 hD s2 hD2
def bef (c:Nat) (u:List Nat):List Nat:=u.takeWhile λx=>decide (x≠c)
def aft (c:Nat) (u:List Nat):List Nat:=(u.dropWhile λx=>decide (x≠c)).tail
theorem A9k {c:Nat}:∀{u:List Nat},c∈u->u=bef c u++c::aft c u/\c∉bef c u
 | x::u,h=>by
  unfold bef aft;by_cases e:x=c
  ·subst e;simp
  ·have h2:c∈u:=(Z0e.mp h).resolve_left λz=>e z.symm;obtain ⟨h3,h4⟩:=A9k h2;unfold bef aft at h3;unfold bef at h4;rw [List.takeWhile_cons_of_pos (by simpa using e),List.dropWhile_cons_of_pos (by simpa using e)];refine ⟨by rw [Z17,<-h3],λz=> ?_⟩;rcases Z0e.mp z with z | z
   ·exact e z.symm
   ·exact h4 z
theorem B8g {c:Nat} {u:List Nat} (h:c∈u):(bef c u).length<=u.length/\(aft c u).length<=u.length:=by
 have:=congrArg List.length (A9k h).1;rw [Z06,Z0y] at this
 lia
def ixB (u:List Nat):Bool:=if C5b u=true then B2k u else if 43∈u then A7l (bef 43 u)&&C2d (aft 43 u) else if 45∈u then A7l (bef 45 u)&&C2d (aft 45 u) else A7l u
def rdB (u:List Nat):Bool:=decide ((aft 91 u).getLast? =some 93)&&A7l (bef 91 u)&&(decide ((aft 91 u).dropLast=[])||(spl 44 (aft 91 u).dropLast).all ixB)
def B3f (u:List Nat):Bool:=if 91∈u then rdB u else if C5b u=true then B2k u else A7l u
def D6h (A:Adr):Sp:=λvs H Q E=>∃x:Str,vs=[.str x]/\x.length<=1000/\Out A (ixB (sg x)) H E (∀(p:Addr) (y:Str) (z:Int) (H':Hp),A1b H H'->H' p=some (.tup [.str y,.int z])->Q (.ref p) H')
def D9d (A:Adr):Sp:=λvs H Q E=>∃x:Str,vs=[.str x]/\x.length<=1000/\91∈sg x/\Out A (rdB (sg x)) H E (∀(v:V) (H':Hp),A1b H H'->Q v H')
def D2g (A:Adr):Sp:=λvs H Q E=>∃x:Str,vs=[.str x]/\x.length<=1000/\Out A (B3f (sg x)) H E (∀(v:V) (H':Hp),A1b H H'->Q v H')
theorem inS {x:Str} {c:Nat}:(!(Builtin.Str.occurrences x ⟨#[c]⟩ 0 x.length 1).isEmpty)=decide (c∈sg x):=StrLaws.found_one x c
theorem C5e (c:Nat):∀l:List Nat,(spl c l).length<=l.length+1
 | []=>by simp [spl]
 | x::l=>by
  have ih:=C5e c l;have ne:=A7o c l;unfold spl;by_cases e:x=c
  ·rw [Z12 e];simp only [Z0y]
   lia
  ·rw [Z0t e]
   cases h:spl c l with
   | nil=>exact absurd h ne
   | cons a r =>
    rw [h] at ih;simp only [Z0y] at ih⊢
    lia
theorem A9c (u:List Nat):(tx u).length=u.length:=by rw [<-A1r,A7k]
theorem C8d (x:Str) (c:Nat):Txt.endswith x ⟨#[c]⟩=decide ((sg x).getLast? =some c):=by
 rw [Bool.eq_iff_iff,decide_eq_true_eq,List.getLast?_eq_getElem?,A1r]
 unfold Txt.endswith
 rw [Z1x,decide_eq_true_eq];have e1:x.length-(⟨#[c]⟩:Str).length=x.length-1:=rfl;rw [e1];constructor
 ·rintro ⟨h1,h2⟩;have h1:0+1<=x.length:=h1;exact (StrLaws.subAt_one x c (x.length-1)).mp ⟨by show x.length-1+1<=x.length;lia,h2⟩
 ·intro h;have hl:=(Z03.mp h).1;rw [A1r] at hl;exact ⟨by show 0+1<=x.length;lia,((StrLaws.subAt_one x c (x.length-1)).mpr h).2⟩
theorem B4m (T:Txt K mg t):A3e P w K mg base (CXF P w) 5 t.gx t.gg ["index"] (D6h t):=by
 have Ga6:= @A5y P w K mg base t T;have Ga4:= @A6a P w K mg base t T;have Ga5:= @A2j P w K mg base t T;have Ga7:= @A5b P w K mg base t T;refine T.c9.F.okF A2l (by walk_at "ln") λ_ A _ s H _ Q E hr h=> ?_
 ·obtain ⟨x,rfl,lx,k1,k2⟩:=h;have l2:∀a b:V,([a,b]:List V).length<=sizeLine:=λa b=>A0w rfl
  refine ⟨_,(A0d (A1w (A4e (pcl Ga6 hr T.bi (A0a (pv 0) A0b)))
    (A0h (A0u (A3v (A0a A0g (A0a (A0s Ga7 (hr.mono (by lia)) rfl T.ah.m T.ah.F.kp T.ah.b .nil A2c (A0a (pv 0) A0b)) A0b)))))
    A0m)
   (A0d (A1w (A0n A9h A0g (pv 0) (by with_unfolding_all rfl))
    (A0d (A5k (A2r PySem.F.plainAttrs_str PySem.F.slot_str_partition PySem.F.type_str_partition B4q (pv 0) (A0a A0g A0b)) (A7r (n:=3) rfl (A1c (A0p (i:=1) A2l.nd rfl (.inl rfl)) (A1c (A0p (i:=2) A2l.nd rfl (.inl rfl)) (A1c (A0p (i:=3) A2l.nd rfl (.inl rfl)) A5c)))))
    (A0h (A0u (A3v (A0a (A0s Ga5 (hr.mono (by lia)) rfl T.aa.m T.aa.F.kp T.aa.b .nil A2c (A0a (pv 1) A0b)) (A0a (A0s Ga4 (hr.mono (by lia)) rfl T.aj.m T.aj.F.kp T.aj.b .nil A2c (A0a (pv 3) A0b)) A0b))))))
    A0m)
   (A0d (A1w (A0n A9h A0g (pv 0) (by with_unfolding_all rfl))
    (A0d (A5k (A2r PySem.F.plainAttrs_str PySem.F.slot_str_partition PySem.F.type_str_partition B4q (pv 0) (A0a A0g A0b)) (A7r (n:=3) rfl (A1c (A0p (i:=1) A2l.nd rfl (.inl rfl)) (A1c (A0p (i:=2) A2l.nd rfl (.inl rfl)) (A1c (A0p (i:=3) A2l.nd rfl (.inl rfl)) A5c)))))
    (A0h (A0u (A3v (A0a (A0s Ga5 (hr.mono (by lia)) rfl T.aa.m T.aa.F.kp T.aa.b .nil A2c (A0a (pv 1) A0b)) (A0a (D0u C3x (A0s Ga4 (hr.mono (by lia)) rfl T.aj.m T.aj.F.kp T.aj.b .nil A2c (A0a (pv 3) A0b))) A0b))))))
    A0m)
   (A0h (A0u (A3v (A0a (A0s Ga5 (hr.mono (by lia)) rfl T.aa.m T.aa.F.kp T.aa.b .nil A2c (A0a (pv 0) A0b)) (A0a A0e A0b)))))))),?_⟩
  refine ⟨_,rfl,x,rfl,lx,λH1 s1=>⟨_,rfl,?_⟩⟩;unfold ixB at k1 k2
  cases hb:C5b (sg x) with
  | true =>
   rw [Z12 hb] at k1 k2;exact B2l ⟨_,rfl,x,rfl,lx,λhn z H2 s2=>⟨l2 _ _,λq hq=>k1 hn q _ z _ (s1.trans (s2.trans (A0f hq))) A0c⟩,λhn H2 s2=>k2 hn H2 (s1.trans s2)⟩
  | false =>
   rw [Z0t (by rw [hb];decide)] at k1 k2;refine A8s ⟨_,rfl,_,_,rfl,rfl,_,rfl,?_⟩;rw [C9v,inS];by_cases p:43∈sg x
   ·rw [Z12 p] at k1 k2;rw [Z20 p];obtain ⟨c1,c2⟩:=A9k p;obtain ⟨c3,c4⟩:=B8g p;rw [A1r] at c3 c4;refine B2l ⟨_,rfl,rfl,x,_,rfl,rfl,rfl,A0t (by lia),λq hq=> ?_⟩;rw [B5m c1 c2];refine ⟨q,_,rfl,SqT.of A0c,rfl,_,_,rfl,_,_,rfl,_,_,rfl,rfl,?_⟩;refine ⟨_,rfl,_,rfl,by rw [A9c];lia,λh1 H2 s2=>⟨_,rfl,_,rfl,by rw [A9c];lia,λh2 H3 s3=>⟨l2 _ _,λq2 hq2=> ?_⟩,λh2 H3 s3=> ?_⟩,λh1 H2 s2=> ?_⟩
    ·rw [A7k] at h1 h2;exact k1 (by rw [h1,h2];rfl) q2 _ _ _ (s1.trans ((A0f hq).trans (s2.trans (s3.trans (A0f hq2))))) A0c
    ·rw [A7k] at h2;exact k2 (by rw [h2,Bool.and_false]) H3 (s1.trans ((A0f hq).trans (s2.trans s3)))
    ·rw [A7k] at h1;exact k2 (by rw [h1,Bool.false_and]) H2 (s1.trans ((A0f hq).trans s2))
   ·rw [Z0t p] at k1 k2;rw [Z1j p];refine A8s ⟨_,rfl,_,_,rfl,rfl,_,rfl,?_⟩;rw [B8z,inS];by_cases m:45∈sg x
    ·rw [Z12 m] at k1 k2;rw [Z20 m];obtain ⟨c1,c2⟩:=A9k m;obtain ⟨c3,c4⟩:=B8g m;rw [A1r] at c3 c4;refine B2l ⟨_,rfl,rfl,x,_,rfl,rfl,rfl,A0t (by lia),λq hq=> ?_⟩;rw [B5m c1 c2];refine ⟨q,_,rfl,SqT.of A0c,rfl,_,_,rfl,_,_,rfl,_,_,rfl,rfl,?_⟩;refine ⟨_,rfl,_,rfl,by rw [A9c];lia,λh1 H2 s2=>⟨_,rfl,_,rfl,by rw [A9c];lia,λh2 H3 s3=>⟨_,rfl,l2 _ _,λq2 hq2=> ?_⟩,λh2 H3 s3=> ?_⟩,λh1 H2 s2=> ?_⟩
     ·rw [A7k] at h1 h2;exact k1 (by rw [h1,h2];rfl) q2 _ _ _ (s1.trans ((A0f hq).trans (s2.trans (s3.trans (A0f hq2))))) A0c
     ·rw [A7k] at h2;exact k2 (by rw [h2,Bool.and_false]) H3 (s1.trans ((A0f hq).trans (s2.trans s3)))
     ·rw [A7k] at h1;exact k2 (by rw [h1,Bool.false_and]) H2 (s1.trans ((A0f hq).trans s2))
    ·rw [Z0t m] at k1 k2;rw [Z1j m];exact A8s ⟨_,rfl,x,rfl,lx,λh1 H2 s2=>⟨l2 _ _,λq2 hq2=>k1 h1 q2 _ _ _ (s1.trans (s2.trans (A0f hq2))) A0c⟩,λh1 H2 s2=>k2 h1 H2 (s1.trans s2)⟩
theorem B7p (T:Txt K mg t):A3e P w K mg base (CXF P w) 7 t.ip t.j1 B7u (D9d t):=by
 have Ga8:= @B0t P w K mg base t T;have Ga9:= @B4m P w K mg base t T;have Ga5:= @A2j P w K mg base t T;have Ga8:= @B0t P w K mg base t T;refine T.c_.F.okF A3u (by walk_at "ln") λ_ A _ s H _ Q E hr h=> ?_
 ·obtain ⟨x,rfl,lx,m91,k1,k2⟩:=h;obtain ⟨c1,c2⟩:=A9k m91;obtain ⟨c3,c4⟩:=B8g m91;rw [A1r] at c3 c4
  refine ⟨_,(A0d (A5k (A2r PySem.F.plainAttrs_str PySem.F.slot_str_partition PySem.F.type_str_partition B4q (pv 0) (A0a A0g A0b)) (A7r (n:=3) rfl (A1c (A0p (i:=1) A3u.nd rfl (.inl rfl)) (A1c (A0p (i:=2) A3u.nd rfl (.inl rfl)) (A1c (A0p (i:=3) A3u.nd rfl (.inl rfl)) A5c)))))
   (A0d (A1w (B3l (A4e (A2r PySem.F.plainAttrs_str PySem.F.slot_str_endswith PySem.F.type_str_endswith D1a (pv 3) (A0a A0g A0b))))
    (A0h (A3b A5m T.ay rfl T.a_ rfl (A0a A0g A0b)))
    A0m)
   (A0d (A0x (i:=4) A3u.nd rfl (.inl rfl) (A1t A7n (pv 3) A2t (A2g (D0u C3x A0e))))
   (A0d (A1w (A0n A2s (pv 4) A0g (A0z _))
    (A0h (A0u (pmk T.oq Ga8 hr T.pN T.cy.b (A0a (A0s Ga5 (hr.mono (by lia)) rfl T.aa.m T.aa.F.kp T.aa.b .nil A2c (A0a (pv 1) A0b)) (A0a (A2e A0b) A0b)))))
    A0m)
   (A0h (A0u (pmk T.oq Ga8 hr T.pN T.cy.b (A0a (A0s Ga5 (hr.mono (by lia)) rfl T.aa.m T.aa.F.kp T.aa.b .nil A2c (A0a (pv 1) A0b)) (A0a (B9z (E:=E) (N':=["index"]) (ix:=(List.replicate 1 none)) rfl (A1n rfl (by decide +kernel) (by decide +kernel)) (A1q rfl) (A3f (A2r PySem.F.plainAttrs_str PySem.F.slot_str_split PySem.F.type_str_split B4l (pv 4) (A0a A0g A0b))) (λ_ _ _ _=>(A0p (i:=0) C0z rfl (.inl rfl))) (λ_ _ _ _=>(A0s Ga9 (hr.mono (by lia)) rfl T.c9.m T.c9.F.kp T.c9.b .nil C1v (A0a (pv 0) A0b))) ⟨rfl,rfl⟩ rfl B3o) A0b))))))))),?_⟩
  refine ⟨_,rfl,rfl,x,_,rfl,rfl,rfl,A0t (by lia),λq hq=> ?_⟩;rw [B9p,B5m c1 c2];unfold rdB at k1 k2;generalize bef 91 (sg x)=a at c3 k1 k2;generalize aft 91 (sg x)=i at c4 k1 k2;clear c1 c2;have s1:=A0f (o:= .tup [V.str (tx a),.str ⟨#[91]⟩,.str (tx i)]) hq;refine ⟨q,_,rfl,SqT.of A0c,rfl,_,_,rfl,_,_,rfl,_,_,rfl,rfl,?_⟩;generalize upd H q (.tup [V.str (tx a),.str ⟨#[91]⟩,.str (tx i)])=H1 at s1⊢;have la:(tx a).length<=1000:=by rw [A9c];lia
  have li:(tx i).length<=1000:=by rw [A9c];lia
  refine ⟨_,rfl,rfl,_,_,rfl,rfl,_,rfl,?_⟩;rw [B9a,C8d,A7k];by_cases h93:i.getLast? =some 93
  ·rw [Z20 h93] at k1 k2⊢;rw [Bool.true_and] at k1 k2
   have l1:1<=(tx i).length:=by
    rw [A9c]
    cases i with
    | nil=>cases h93
    | cons _ _=>simp
   have es:Txt.slice (tx i) none (some (-1))=tx i.dropLast:=by
    refine A4l ?_;rw [D0p l1,A7k,A7k]
   refine A8s ⟨_,rfl,_,rfl,_,rfl,_,rfl,A0t (Z1n li (by decide)),?_⟩;rw [es];have ld:(tx i.dropLast).length<=1000:=by rw [A9c,List.length_dropLast];lia
   generalize i.dropLast=j at k1 k2 ld;have sj:tx j=""↔j=[]:=by rw [C2p,A7k]
   refine ⟨_,rfl,rfl,_,rfl,A3z (λh0=> ?_) (λh0=> ?_)⟩
   ·have e0:j=[]:=sj.mp (V.str.inj h0);rw [e0] at k1 k2;refine ⟨_,rfl,_,rfl,la,λha H2 s2=>⟨A0w rfl,λl hl=> ?_⟩,λha H2 s2=>k2 (by rw [A7k] at ha;rw [ha];rfl) H2 (s1.trans s2)⟩;rw [A7k] at ha;have s3:=A0f (o:= .lst []) hl;have hl3:upd H2 l (.lst []) l=some (.lst []):=A0c;generalize upd H2 l (.lst [])=H3 at s3 hl3⊢;intro y dx hy hdx hne;have u3:A1b H3 (upd (upd H3 dx (.own y)) y (.ins t.br dx [])):=A0j (A0f hdx) hy;refine ⟨y,dx,l,tx a,[],rfl,A0c,.lst (u3 _ _ hl3) .nil,by simp,λl1 H4 hy4 rp4 kb4=>⟨rfl,?_⟩⟩;have s4:A1b H3 H4:=λb o e=>kb4 b o (A0r e hy) (u3 _ _ e);exact k1 (by rw [ha];rfl) _ _ (s1.trans (s2.trans (s3.trans s4)))
   ·have ne:j≠[]:=λe=>h0 (by rw [e];rfl);rw [Z1j ne,Bool.false_or] at k1 k2;refine ⟨_,rfl,_,rfl,la,λha H2 s2=>⟨_,rfl,rfl,_,",",rfl,rfl,by decide +kernel,A0t (by lia),λl hl=> ?_⟩,λha H2 s2=>k2 (by rw [A7k] at ha;rw [ha];rfl) H2 (s1.trans s2)⟩;rw [A7k] at ha;rw [ha,Bool.true_and] at k1 k2;have sp:(Txt.split (tx j) ",").map sg=spl 44 j:=by rw [B8u,A4h,A7k]
    have pl:∀y∈Txt.split (tx j) ",",y.length<=1000:=λy hy=>Z1n (PyProof.Rows.part_short hy) ld
    have ln:(Txt.split (tx j) ",").length<=1001:=by
     have:=C5e 44 j;rw [<-sp,Z08] at this;rw [A9c] at ld
     lia
    generalize Txt.split (tx j) ","=ys at sp pl ln⊢;rw [<-sp] at k1 k2;have s3:=A0f (o:= .lst (ys.map V.str)) hl;have hl3:upd H2 l (.lst (ys.map V.str)) l=some (.lst (ys.map V.str)):=A0c;generalize upd H2 l (.lst (ys.map V.str))=H3 at s3 hl3⊢;refine ⟨l,rfl,⟨_,SqL.of hl3⟩,λD hD=> ?_⟩;refine A2h (K:=K) (a:=l) (D:=D) (xs:=ys.map V.str) (λi zs G=>A1b H3 G/\G D=some (.lst zs)/\(∀y∈ys.take i,ixB (sg y)=true)/\∃ix:List (Str×Int),ix.length=i/\Paired (λv e=>∃q,v=V.ref q/\G q=some (.tup [.str e.1,.int e.2])) zs ix) ⟨A0f hD,A0c,(λy hy=>by cases hy),[],rfl,.nil⟩ (by rintro i zs G ⟨s2,_⟩;exact SqL.of (s2 _ _ hl3)) ?_ ?_
    ·rintro i v zs G hv ⟨sG,hD2,al,ix,lix,pr⟩;rw [Z1z] at hv;obtain ⟨y,hy,rfl⟩:=Z0i.mp hv;have hi:=(Z03.mp hy).1;have my:=Z13 hy;have lp:=Paired.length pr;refine ⟨True.intro,_,rfl,y,rfl,pl y my,λhb p y' z' G2 sg2 hp=>⟨sg2 _ _ hD2,A1p (by lia),A0j (sG.trans sg2) hD,A0c,λy2 hy2=> ?_,ix++[(y',z')],by simp [lix],?_⟩,λhb G2 sg2=>k2 ?_ G2 (s1.trans (s2.trans (s3.trans (sG.trans sg2))))⟩
     ·rw [Z14,hy] at hy2;rcases Z07.mp hy2 with z | z
      ·exact al y2 z
      ·rw [Z0w.mp z];exact hb
     ·have pD:p≠D:=A3q hp (sg2 _ _ hD2) (by intro z;cases z);refine Paired.snoc ⟨p,rfl,by rw [A0l pD];exact hp⟩ (Paired.mapP pr λ_ _ z=> ?_);obtain ⟨q',e1,e2⟩:=z;exact ⟨q',e1,by rw [A0l (A3q e2 hD2 (by intro z;cases z))];exact sg2 _ _ e2⟩
     ·rw [List.all_eq_false];exact ⟨sg y,Z2c.mpr ⟨y,my,rfl⟩,by rw [hb];decide⟩
    ·rintro zs G ⟨sG,hD2,al,ix,lix,pr⟩;rw [Z08] at lix al;rw [Z18] at al
     have rp:Rep G (.ref D) (A7y ix):=by
      refine .lst hD2 ?_;clear hD2 lix al
      induction pr with
      | nil=>exact .nil
      | cons a _ ih =>
       obtain ⟨q',e1,e2⟩:=a;subst e1;exact .cons (.tup e2 (.cons (.str _) (.cons (.int _) .nil))) ih
     intro y dx hy hdx hne;have u3:A1b G (upd (upd G dx (.own y)) y (.ins t.br dx [])):=A0j (A0f hdx) hy;refine ⟨y,dx,D,tx a,ix,rfl,A0c,rp.same u3,by lia,λl1 H4 hy4 rp4 kb4=>⟨rfl,?_⟩⟩;have s4:A1b G H4:=λb o e=>kb4 b o (A0r e hy) (u3 _ _ e);refine k1 (List.all_eq_true.mpr λu hu=> ?_) _ _ (s1.trans (s2.trans (s3.trans (sG.trans s4))));obtain ⟨y2,hy2,rfl⟩:=Z2c.mp hu;exact al y2 hy2
  ·rw [Z1j h93] at k1 k2⊢;exact B2l ⟨A0w rfl,k2 rfl H1 s1⟩
theorem B6t (T:Txt K mg t):A3e P w K mg base (CXF P w) 8 t.iw t.ir B7u (D2g t):=by
 have Gb0:= @B3d P w K mg base t T;have Gb1:= @B4s P w K mg base t T;have Ga6:= @A5y P w K mg base t T;have Ga5:= @A2j P w K mg base t T;have Ga7:= @A5b P w K mg base t T;have Gb2:= @B7p P w K mg base t T;refine T.dh.F.okF B7b (by walk_at "ln") λ_ A _ s H _ Q E hr h=> ?_
 ·obtain ⟨x,rfl,lx,k1,k2⟩:=h
  refine ⟨_,(A0d (A1w (A0n A9h A0g (pv 0) (by with_unfolding_all rfl))
    (A0h (A0u (A0s Gb2 (hr.mono (by lia)) rfl T.c_.m T.c_.F.kp T.c_.b .nil A2c (A0a (pv 0) A0b))))
    A0m)
   (A0d (A1w (A4e (pcl Ga6 hr T.bi (A0a (pv 0) A0b)))
    (A0h (A0u (pmk T.pc Gb0 hr T.pM T.dk.b (A0a (A0s Ga7 (hr.mono (by lia)) rfl T.ah.m T.ah.F.kp T.ah.b .nil A2c (A0a (pv 0) A0b)) A0b))))
    A0m)
   (A0h (A0u (pmk T.pU Gb1 hr T.qd T.d_.b (A0a (A0s Ga5 (hr.mono (by lia)) rfl T.aa.m T.aa.F.kp T.aa.b .nil A2c (A0a (pv 0) A0b)) A0b)))))),?_⟩
  refine ⟨_,rfl,_,_,rfl,rfl,_,rfl,?_⟩;rw [B9p,inS];unfold B3f at k1 k2;by_cases m:91∈sg x
  ·rw [Z12 m] at k1 k2;rw [Z20 m];exact B2l ⟨_,rfl,x,rfl,lx,m,k1,k2⟩
  ·rw [Z0t m] at k1 k2;rw [Z1j m];refine A8s ⟨_,rfl,x,rfl,lx,λH1 s1=>⟨_,rfl,?_⟩⟩
   cases hb:C5b (sg x) with
   | true =>
    rw [Z12 hb] at k1 k2;refine B2l ⟨_,rfl,x,rfl,lx,λhn z H2 s2=> ?_,λhn H2 s2=>k2 hn H2 (s1.trans s2)⟩;refine λy dx hy hdx hne=>⟨y,_,dx,_,rfl,A0c,T.ox,T.h_,rfl,?_⟩;exact k1 hn _ _ (s1.trans (s2.trans (A5o hy hdx)))
   | false =>
    rw [Z0t (by rw [hb];decide)] at k1 k2;refine A8s ⟨_,rfl,x,rfl,lx,λhn H2 s2=> ?_,λhn H2 s2=>k2 hn H2 (s1.trans s2)⟩;refine λy dx hy hdx hne=>⟨y,_,dx,_,rfl,A0c,T.pe,T.kt,rfl,?_⟩;exact k1 hn _ _ (s1.trans (s2.trans (A5o hy hdx)))
def KB (p:Addr) (H H':Hp):Prop:=∀b o,b≠p->H b=some o->H' b=some o
theorem KB.refl {p:Addr} {H:Hp}:KB p H H:=λ_ _ _ e=>e
theorem KB.trans {p:Addr} {H H' H2:Hp} (a:KB p H H') (b:KB p H' H2):KB p H H2:=λc o hc e=>b c o hc (a c o hc e)
theorem KB.of {p:Addr} {H H':Hp} (s:A1b H H'):KB p H H':=λb o _ e=>s _ _ e
theorem KB.put {p:Addr} {H:Hp} {o:HO}:KB p H (upd H p o):=λb u hb e=>by rw [A0l hb];exact e
theorem A9q (z:Str):∀bs:List Str,inV (.str z) (bs.map V.str)=decide (z∈bs)
 | []=>rfl
 | b::r=>by
  have ih:=A9q z r;unfold inV at ih⊢;rw [Z0p,List.any_cons,ih];show ((b == z)||decide (z∈r))=decide (z∈b::r);by_cases e:b=z
  ·subst e;simp
  ·have:¬z=b:=λh=>e h.symm;simp [e,this]
theorem A6o:∀bs:List Str,(bs.map V.str).all B5c=true
 | []=>rfl
 | b::r=>by rw [Z0p,List.all_cons,A6o r];rfl
def C7j (x:Str):Bool:=decide (x∈([("+":Str),"-","*"]:List Str))
noncomputable def prT:Nat->List Str->Option (List Str)
 | 0,_=>none
 | _+1,[]=>none
 | n+1,x::r=>if C7j x=true then (prT n r).bind (prT n) else if x="sum" then (match r with | []=>none | y::r2=>if A7l (sg y)=true then prT n r2 else none) else if x="if" then (match r with | y::a::b::r2=>if (A7l (sg y)&&B2k (sg a)&&B2k (sg b))=true then (prT n r2).bind (prT n) else none | _=>none) else if B3f (sg x)=true then some r else none
def prG (n:Nat) (l:List Str):Option (List Str):=match l with | y::a::b::r2=>if (A7l (sg y)&&B2k (sg a)&&B2k (sg b))=true then (prT n r2).bind (prT n) else none | _=>none
theorem B0h:∀{n:Nat} {l r:List Str},prT n l=some r->∃p,l=p++r/\p≠[]
 | 0,_,_,h=>by cases h
 | _+1,[],_,h=>by cases h
 | n+1,x::l,r,h=>by
  unfold prT at h;split at h
  ·obtain ⟨m,h1,h2⟩:=Option.bind_eq_some_iff.mp h;obtain ⟨p1,e1,_⟩:=B0h h1;obtain ⟨p2,e2,_⟩:=B0h h2;exact ⟨x::(p1++p2),by rw [e1,e2];simp,by simp⟩
  ·split at h
   ·split at h
    ·cases h
    ·split at h
     ·obtain ⟨p1,e1,_⟩:=B0h h;exact ⟨x::_::p1,by rw [e1];rfl,by simp⟩
     ·cases h
   ·split at h
    ·split at h
     ·split at h
      ·obtain ⟨m,h1,h2⟩:=Option.bind_eq_some_iff.mp h;obtain ⟨p1,e1,_⟩:=B0h h1;obtain ⟨p2,e2,_⟩:=B0h h2;exact ⟨x::_::_::_::(p1++p2),by rw [e1,e2,<-Z0z];rfl,by simp⟩
      ·cases h
     ·cases h
    ·split at h
     ·cases h
      exact ⟨[x],rfl,by simp⟩
     ·cases h
abbrev wr (A:Adr) (dx L:Addr) (g:Nat):HO:= .ins A.aq dx [("row",.ref L),("gone",.int (g:Nat))]
structure C0o (A:Adr) (H:Hp) (r dx L:Addr) (ws:List Str) (l:List Str):Prop where
 er:H r=some (wr A dx L (ws.length-l.length))
 eL:H L=some (.lst (ws.map V.str))
 su:∃p,ws=p++l
 n:ws.length<=1000
 w:∀x∈ws,x.length<=1000
theorem C0o.ne {A:Adr} {H:Hp} {r dx L:Addr} {ws l:List Str} (h:C0o A H r dx L ws l):L≠r:=A3q h.eL h.er (by intro z;cases z)
theorem C0o.kb {A:Adr} {H H':Hp} {r dx L:Addr} {ws l l':List Str} (h:C0o A H r dx L ws l) (k:KB r H H') (e:H' r=some (wr A dx L (ws.length-l'.length))) (s:∃p,l=p++l'):C0o A H' r dx L ws l':=by
 obtain ⟨p,e1⟩:=h.su;obtain ⟨q,e2⟩:=s;exact ⟨e,k _ _ h.ne h.eL,⟨p++q,by rw [e1,e2,Z0z]⟩,h.n,h.w⟩
def C6n (A:Adr):Sp:=λvs H Q _=>∃(p dx:Addr) (v:V),vs=[.ref p,v]/\H p=some (.ins A.aq dx [])/\Q .non (upd H p (.ins A.aq dx [("row",v),("gone",.int (0:Nat))]))
def D0q (A:Adr):Sp:=λvs H Q E=>∃(r dx L:Addr) (ws l:List Str),vs=[.ref r]/\C0o A H r dx L ws l/\(∀x l',l=x::l'->C0o A (upd H r (wr A dx L (ws.length-l'.length))) r dx L ws l'->x.length<=1000->Q (.str x) (upd H r (wr A dx L (ws.length-l'.length))))/\(l=[]->E (.ref A.am) none H)
def D7u (A:Adr) (o:Option (List Str)) (H:Hp) (r dx L:Addr) (ws:List Str) (Q:VK) (E:XK):Prop:=(∀l',o=some l'->∀v H',KB r H H'->C0o A H' r dx L ws l'->Q v H')/\(o=none->∀H',KB r H H'->E (.ref A.am) none H')
def C1g (A:Adr) (n:Nat):Sp:=λvs H Q E=>∃(r dx L:Addr) (ws l:List Str),vs=[.ref r]/\C0o A H r dx L ws l/\l.length<n/\D7u A (prT n l) H r dx L ws Q E
def D7m (A:Adr) (n:Nat):Sp:=λvs H Q E=>∃(x:Str) (r dx L:Addr) (ws l:List Str),vs=[.str x,.ref r]/\C0o A H r dx L ws l/\l.length<n/\D7u A ((prT n l).bind (prT n)) H r dx L ws Q E
def D8h (A:Adr) (n:Nat):Sp:=λvs H Q E=>∃(r dx L:Addr) (ws l:List Str),vs=[.ref r]/\C0o A H r dx L ws l/\l.length<n/\D7u A (prG n l) H r dx L ws Q E
theorem B2f (T:Txt K mg t):FP P w mg base T.cq 1 (C6n t):=by
 refine T.cq.F.ok B1p (by walk_at "ln") λ_ A _ s H _ Q E hr h=> ?_
 ·obtain ⟨p,dx,v,rfl,hp,k⟩:=h
  refine ⟨_,(A0d (A2u (pv 0) (pv 1) rfl)
   (A0h (A2u (pv 0) A0e rfl))),_,rfl,_,rfl,p,_,dx,[],rfl,hp,T.ap,T.cn,(by decide),_,rfl,p,_,dx,_,rfl,A0c,T.ap,T.az,(by show 1<1000;decide),?_⟩
  show Q V.non (upd (upd H p _) p (.ins _ dx (A4s "gone" (.int 0) (A4s "row" v []))));rw [A7a,A1m,A1j (by decide +kernel),A1m];exact k
theorem A4f (T:Txt K mg t):A3e P w K mg base (CXF P w) 1 t.bh t.c8 B3a (D0q t):=by
 refine T.au.F.okF A7m (by walk_at "ln") λ_ A _ s H _ Q E hr h=> ?_
 ·obtain ⟨r,dx,L,ws,l,rfl,wa,k1,k2⟩:=h;have h1:=wa.er;have h2:=wa.eL;obtain ⟨p,ep⟩:=wa.su;have ll:ws.length=p.length+l.length:=by rw [ep,Z06]
  refine ⟨_,(A0d (A1w (A0n A2s (B0l (pv 0) rfl) (A0y A1i (by rfl) T.bx Z0r (A0a (B0l (pv 0) rfl) A0b)) (A0z _))
    (A0h (A3b A5m T.ay rfl T.a_ rfl (A0a A0g A0b)))
    A0m)
   (A0d (A2u (pv 0) (A0k A2w (B0l (pv 0) rfl) A0e) rfl)
   (A0h (A0u (A2i A1d (B0l (pv 0) rfl) (A0k A7q (B0l (pv 0) rfl) A0e) (λ_ _=>rfl)))))),?_⟩
  refine ⟨_,rfl,r,_,dx,_,_,rfl,h1,T.ap,T.az,(by walk_at "lk"),_,rfl,r,_,dx,_,_,rfl,h1,T.ap,T.cn,(by walk_at "lk"),L,_,rfl,.inl (SqL.of h2),rfl,_,rfl,?_⟩
  cases l with
  | nil =>
   refine A3z (λ_=>⟨A0w rfl,k2 rfl⟩) (λe=>absurd ?_ e);show V.int (((ws.length-0:Nat)):Int)=V.int ((ws.map V.str).length:Nat);rw [Z08,Nat.sub_zero]
  | cons x l' =>
   rw [Z0y] at ll;have eg:ws.length-(x::l').length=p.length:=by rw [Z0y];lia
   have eg2:ws.length-l'.length=p.length+1:=by lia
   rw [eg] at h1;rw [eg];have hx:ws[p.length]? =some x:=by rw [ep,Z1l (Z09 _),Nat.sub_self];rfl
   refine A3z (λe=>absurd (show ((p.length:Nat):Int)=((ws.map V.str).length:Nat) by injection e) (by rw [Z08];lia)) (λ_=> ?_);refine ⟨_,rfl,r,_,dx,_,_,rfl,h1,T.ap,T.az,(by walk_at "lk"),_,_,rfl,rfl,_,rfl,r,_,dx,_,rfl,h1,T.ap,T.az,(by show 2<1000;decide),?_⟩
   have e:A4s "gone" (.int ((p.length:Int)+1)) ([("row",V.ref L),("gone",.int (p.length:Nat))]:List (Str×V))=([("row",V.ref L),("gone",.int ((p.length+1:Nat):Int))]:List (Str×V)):=by
    rw [A1j (by decide +kernel)];show _::(if ("gone":Str)="gone" then _ else _)=_;rw [Z12 rfl];rfl
   dsimp only;rw [e];have n:L≠r:=wa.ne;have k:=k1 x l' rfl (wa.kb KB.put A0c ⟨[x],rfl⟩) (wa.w x (Z13 hx));rw [eg2] at k;refine ⟨_,rfl,r,_,dx,_,_,rfl,A0c,T.ap,T.cn,(by walk_at "lk"),_,rfl,r,_,dx,_,_,rfl,A0c,T.ap,T.az,(by walk_at "lk"),_,_,rfl,rfl,L,_,_,_,rfl,rfl,SqL.of (by rw [A0l n];exact h2),?_,k⟩;rw [show ((p.length+1:Nat):Int)-1=(p.length:Nat) by lia];refine A4a ?_;rw [Z1z,hx];rfl
theorem C4i {n:Nat} {l r:List Str} (h:prT n l=some r):r.length<l.length:=by
 obtain ⟨p,e,ne⟩:=B0h h;have:=List.length_pos_iff.mpr ne;rw [e,Z06]
 lia
theorem D0t (T:Txt K mg t) {n m:Nat} (hm:8<=m) (Gb3:A3e P w K mg base (CXF P w) m t.bf t.be ["row"] (C1g t n)):A3e P w K mg base (CXF P w) (m+1) t.iy t.iu ["sign","row"] (D7m t n):=by
 have Gb4:= @B7q P w K mg base t T;refine T.da.F.okF A6k (by walk_at "ln") λ_ A _ s H _ Q E hr h=> ?_
 ·obtain ⟨x,r,dx,L,ws,l,rfl,wa,ln,k1,k2⟩:=h
  refine ⟨_,(A0d (A0x (i:=2) A6k.nd rfl (.inl rfl) (A0s Gb3 (hr.mono (by lia)) rfl T.ae.m T.ae.F.kp T.ae.b .nil A2c (A0a (pv 1) A0b)))
   (A0d (A0x (i:=3) A6k.nd rfl (.inl rfl) (A0s Gb3 (hr.mono (by lia)) rfl T.ae.m T.ae.F.kp T.ae.b .nil A2c (A0a (pv 1) A0b)))
   (A0d (A1w (A0n A2s (pv 0) A0g (A0z _))
    (A0h (A0u (pmk T.qb Gb4 hr T.qu T.bu.b (A0a (pv 2) (A0a (pv 3) A0b)))))
    A0m)
   (A0d (A1w (A0n A2s (pv 0) A0g (A0z _))
    (A0h (A0u (pmk T.pT Gb4 hr T.q0 T.bu.b (A0a (pv 2) (A0a (pv 3) A0b)))))
    A0m)
   (A0h (A0u (pmk T.ph Gb4 hr T.qh T.bu.b (A0a (pv 2) (A0a (pv 3) A0b))))))))),?_⟩
  refine ⟨_,rfl,r,dx,L,ws,l,rfl,wa,ln,λl1 e1 v1 H1 kb1 wa1=> ?_,λe1 H1 kb1=>k2 (by rw [e1];rfl) H1 kb1⟩;rw [e1] at k1 k2;have sl:=C4i e1;refine ⟨_,rfl,r,dx,L,ws,l1,rfl,wa1,by lia,λl2 e2 v2 H2 kb2 wa2=> ?_,λe2 H2 kb2=>k2 e2 H2 (kb1.trans kb2)⟩
  have fin:∀(C y dy:Addr),H2 y=none->H2 dy=none->Q (.ref y) (upd (upd (upd H2 dy (.own y)) y (.ins C dy [])) y (.ins C dy [("left",v1),("right",v2)])):=λC y dy hy hdy=>by
   have s3:A1b H2 (upd (upd (upd H2 dy (.own y)) y (.ins C dy [])) y (.ins C dy [("left",v1),("right",v2)])):=A5o hy hdy;exact k1 l2 e2 _ _ ((kb1.trans kb2).trans (KB.of s3)) (wa2.kb (KB.of s3) (s3 _ _ wa2.er) ⟨[],rfl⟩)
  refine ⟨_,rfl,rfl,_,rfl,A3z (λ_=> ?_) (λ_=>⟨_,rfl,rfl,_,rfl,A3z (λ_=> ?_) (λ_=> ?_)⟩)⟩
  ·exact ⟨_,rfl,_,rfl,λy dy hy hdy hne=>⟨y,_,dy,_,_,rfl,A0c,T.ql,T.ma,T.km,rfl,fin _ y dy hy hdy⟩⟩
  ·exact ⟨_,rfl,_,rfl,λy dy hy hdy hne=>⟨y,_,dy,_,_,rfl,A0c,T.pL,T.k_,T.jk,rfl,fin _ y dy hy hdy⟩⟩
  ·exact ⟨_,rfl,_,rfl,λy dy hy hdy hne=>⟨y,_,dy,_,_,rfl,A0c,T.px,T.kz,T.ji,rfl,fin _ y dy hy hdy⟩⟩
theorem D2j (T:Txt K mg t) {n m:Nat} (hm:8<=m) (Gb3:A3e P w K mg base (CXF P w) m t.bf t.be ["row"] (C1g t n)):A3e P w K mg base (CXF P w) (m+1) t.gm t.gn ["row"] (D8h t n):=by
 have Gb5:= @B6b P w K mg base t T;have Ga5:= @A2j P w K mg base t T;have Ga7:= @A5b P w K mg base t T;have Gb6:= @A4f P w K mg base t T;refine T.cc.F.okF A3k (by walk_at "ln") λ_ A _ s H _ Q E hr h=> ?_
 ·obtain ⟨r,dx,L,ws,l,rfl,wa,ln,k1,k2⟩:=h
  refine ⟨_,(A0d (A0x (i:=1) A3k.nd rfl (.inl rfl) (A0s Ga5 (hr.mono (by lia)) rfl T.aa.m T.aa.F.kp T.aa.b .nil A2c (A0a (A8z (pv 0) T.ap T.aw Gb6 (hr.mono (by lia)) T.au.b .nil A2c) A0b)))
   (A0d (A0x (i:=2) A3k.nd rfl (.inl rfl) (A0s Ga7 (hr.mono (by lia)) rfl T.ah.m T.ah.F.kp T.ah.b .nil A2c (A0a (A8z (pv 0) T.ap T.aw Gb6 (hr.mono (by lia)) T.au.b .nil A2c) A0b)))
   (A0d (A0x (i:=3) A3k.nd rfl (.inl rfl) (A0s Ga7 (hr.mono (by lia)) rfl T.ah.m T.ah.F.kp T.ah.b .nil A2c (A0a (A8z (pv 0) T.ap T.aw Gb6 (hr.mono (by lia)) T.au.b .nil A2c) A0b)))
   (A0d (A0x (i:=4) A3k.nd rfl (.inl rfl) (A0s Gb3 (hr.mono (by lia)) rfl T.ae.m T.ae.F.kp T.ae.b .nil A2c (A0a (pv 0) A0b)))
   (A0h (A0u (pmk T.pQ Gb5 hr T.qa T.dt.b (A0a (pv 1) (A0a (pv 2) (A0a (pv 3) (A0a (pv 4) (A0a (A0s Gb3 (hr.mono (by lia)) rfl T.ae.m T.ae.F.kp T.ae.b .nil A2c (A0a (pv 0) A0b)) A0b)))))))))))),?_⟩
  refine ⟨_,rfl,r,dx,_,rfl,wa.er,(by walk_at "lk"),r,dx,L,ws,l,rfl,wa,λx l1 el wa1 lx=> ?_,λel=>k2 (by rw [el];rfl) H KB.refl⟩;have kb1:KB r H (upd H r (wr t dx L (ws.length-l1.length))):=KB.put;generalize upd H r (wr t dx L (ws.length-l1.length))=H1 at wa1 kb1;refine ⟨x,rfl,lx,λhx H2 s2=> ?_,λhx H2 s2=>k2 ?_ H2 (kb1.trans (KB.of s2))⟩
  rotate_left
  ·rw [el];rcases l1 with _ | ⟨a,_ | ⟨b,l3⟩⟩
   ·rfl
   ·rfl
   ·show (if (A7l (sg x)&&B2k (sg a)&&B2k (sg b))=true then _ else _)=_;rw [hx];rfl
  have wa2:=wa1.kb (KB.of s2) (s2 _ _ wa1.er) ⟨[],rfl⟩;have kb2:=kb1.trans (KB.of s2);refine ⟨_,rfl,r,dx,_,rfl,wa2.er,(by walk_at "lk"),r,dx,L,ws,l1,rfl,wa2,λa l2 el1 wa3 la=> ?_,λel1=>k2 (by rw [el,el1];rfl) H2 kb2⟩;have kb3:KB r H (upd H2 r (wr t dx L (ws.length-l2.length))):=kb2.trans KB.put;generalize upd H2 r (wr t dx L (ws.length-l2.length))=H3 at wa3 kb3;refine ⟨a,rfl,la,λha za H4 s4=> ?_,λha H4 s4=>k2 ?_ H4 (kb3.trans (KB.of s4))⟩
  rotate_left
  ·rw [el,el1];rcases l2 with _ | ⟨b,l3⟩
   ·rfl
   ·show (if (A7l (sg x)&&B2k (sg a)&&B2k (sg b))=true then _ else _)=_;rw [ha,Bool.and_false];rfl
  have wa4:=wa3.kb (KB.of s4) (s4 _ _ wa3.er) ⟨[],rfl⟩;have kb4:=kb3.trans (KB.of s4);refine ⟨_,rfl,r,dx,_,rfl,wa4.er,(by walk_at "lk"),r,dx,L,ws,l2,rfl,wa4,λb l3 el2 wa5 lb=> ?_,λel2=>k2 (by rw [el,el1,el2];rfl) H4 kb4⟩;have kb5:KB r H (upd H4 r (wr t dx L (ws.length-l3.length))):=kb4.trans KB.put;generalize upd H4 r (wr t dx L (ws.length-l3.length))=H5 at wa5 kb5;have eg:prG n l=if (A7l (sg x)&&B2k (sg a)&&B2k (sg b))=true then (prT n l3).bind (prT n) else none:=by rw [el,el1,el2];rfl
  rw [eg] at k1 k2;refine ⟨b,rfl,lb,λhb zb H6 s6=> ?_,λhb H6 s6=>k2 (by rw [hb,Bool.and_false];rfl) H6 (kb5.trans (KB.of s6))⟩;rw [hx,ha,hb] at k1 k2;have k1:∀l',(prT n l3).bind (prT n)=some l'->∀v H',KB r H H'->C0o t H' r dx L ws l'->Q v H':=k1;have k2:(prT n l3).bind (prT n)=none->∀H',KB r H H'->E (.ref t.am) none H':=k2;have wa6:=wa5.kb (KB.of s6) (s6 _ _ wa5.er) ⟨[],rfl⟩;have kb6:=kb5.trans (KB.of s6);have ll:l3.length+3<n:=by rw [el,el1,el2] at ln;simpa using ln
  refine ⟨_,rfl,r,dx,L,ws,l3,rfl,wa6,by lia,λl4 e4 v1 H7 kb7 wa7=> ?_,λe4 H7 kb7=>k2 (by rw [e4];rfl) H7 (kb6.trans kb7)⟩;rw [e4] at k1 k2;have sl:=C4i e4;refine ⟨_,rfl,_,rfl,_,rfl,_,rfl,_,rfl,r,dx,L,ws,l4,rfl,wa7,by lia,λl5 e5 v2 H8 kb8 wa8=> ?_,λe5 H8 kb8=>k2 e5 H8 (kb6.trans (kb7.trans kb8))⟩;refine λy dy hy hdy hne=>⟨y,dy,_,_,_,_,_,rfl,A0c,rfl,?_⟩;have s9:A1b H8 (upd (upd (upd H8 dy (.own y)) y (.ins t.bd dy [])) y (.ins t.bd dy [("axis",.str x),("low",.int za),("high",.int zb),("inner",v1),("outer",v2)])):=A5o hy hdy;exact k1 l5 e5 _ _ ((kb6.trans (kb7.trans kb8)).trans (KB.of s9)) (wa8.kb (KB.of s9) (s9 _ _ wa8.er) ⟨[],rfl⟩)
theorem D2c (T:Txt K mg t) {n m:Nat} (hm:8<=m) (Gb3:A3e P w K mg base (CXF P w) m t.bf t.be ["row"] (C1g t n)):A3e P w K mg base (CXF P w) (m+2) t.bf t.be ["row"] (C1g t (n+1)):=by
 have Gb7:=D0t T hm Gb3;have Gb8:=D2j T hm Gb3;have Gb9:= @B7y P w K mg base t T;have Ga5:= @A2j P w K mg base t T;have Gc0:= @B6t P w K mg base t T;have Gb6:= @A4f P w K mg base t T;refine T.ae.F.okF A6s (by walk_at "ln") λ_ A _ s H _ Q E hr h=> ?_
 ·obtain ⟨r,dx,L,ws,l,rfl,wa,ln,k1,k2⟩:=h
  refine ⟨_,(A0d (A0x (i:=1) A6s.nd rfl (.inl rfl) (A8z (pv 0) T.ap T.aw Gb6 (hr.mono (by lia)) T.au.b .nil A2c))
   (A0d (A1w (A0n C2m (pv 1) (A3v (A0a A0g (A0a A0g (A0a A0g A0b)))) (by with_unfolding_all rfl))
    (A0h (A0u (A0s Gb7 (hr.mono (by lia)) rfl T.da.m T.da.F.kp T.da.b .nil A2c (A0a (pv 1) (A0a (pv 0) A0b)))))
    A0m)
   (A0d (A1w (A0n A2s (pv 1) A0g (A0z _))
    (A0d (A0x (i:=2) A6s.nd rfl (.inl rfl) (A0s Ga5 (hr.mono (by lia)) rfl T.aa.m T.aa.F.kp T.aa.b .nil A2c (A0a (A8z (pv 0) T.ap T.aw Gb6 (hr.mono (by lia)) T.au.b .nil A2c) A0b)))
    (A0h (A0u (pmk T.qt Gb9 hr T.qD T.gb.b (A0a (pv 2) (A0a (A0s Gb3 (hr.mono (by lia)) rfl T.ae.m T.ae.F.kp T.ae.b .nil A2c (A0a (pv 0) A0b)) A0b))))))
    A0m)
   (A0d (A1w (A0n A2s (pv 1) A0g (A0z _))
    (A0h (A0u (A0s Gb8 (hr.mono (by lia)) rfl T.cc.m T.cc.F.kp T.cc.b .nil A2c (A0a (pv 0) A0b))))
    A0m)
   (A0h (A0u (A0s Gc0 (hr.mono (by lia)) rfl T.dh.m T.dh.F.kp T.dh.b .nil A2c (A0a (pv 1) A0b)))))))),?_⟩
  refine ⟨_,rfl,r,dx,_,rfl,wa.er,(by walk_at "lk"),r,dx,L,ws,l,rfl,wa,λx l1 el wa1 lx=> ?_,λel=>k2 (by rw [el];rfl) H KB.refl⟩;have kb1:KB r H (upd H r (wr t dx L (ws.length-l1.length))):=KB.put;generalize upd H r (wr t dx L (ws.length-l1.length))=H1 at wa1 kb1;rw [el,Z0y] at ln;rw [el] at k1 k2;clear el wa;unfold prT at k1 k2;have ev:inV (V.str x) [V.str "+",V.str "-",V.str "*"]=C7j x:=A9q x ["+","-","*"];refine ⟨_,rfl,A0w rfl,λq hq=>⟨q,_,rfl,.inr (SqT.of A0c),rfl,rfl,C7j x,congrArg V.bl ev,?_⟩⟩;have s2:=A0f (o:= .tup [V.str "+",.str "-",.str "*"]) hq;generalize upd H1 q (.tup [V.str "+",.str "-",.str "*"])=H2 at s2⊢;have wa2:=wa1.kb (KB.of s2) (s2 _ _ wa1.er) ⟨[],rfl⟩;have kb2:=kb1.trans (KB.of s2)
  cases hop:C7j x with
  | true =>
   rw [Z12 hop] at k1 k2;exact B2l ⟨_,rfl,_,rfl,x,r,dx,L,ws,l1,rfl,wa2,by lia,λl2 e2 v H3 kb3 wa3=>k1 l2 e2 v H3 (kb2.trans kb3) wa3,λe2 H3 kb3=>k2 e2 H3 (kb2.trans kb3)⟩
  | false =>
   rw [Z0t (by rw [hop];decide)] at k1 k2;refine A8s ⟨_,rfl,rfl,_,rfl,A3z (λhs=> ?_) (λhs=> ?_)⟩
   ·have hs:x="sum":=V.str.inj hs;rw [Z12 hs] at k1 k2;refine ⟨_,rfl,r,dx,_,rfl,wa2.er,(by walk_at "lk"),r,dx,L,ws,l1,rfl,wa2,λy l2 el1 wa3 ly=> ?_,λel1=>k2 (by rw [el1]) H2 kb2⟩;rw [el1] at k1 k2;have kb3:KB r H (upd H2 r (wr t dx L (ws.length-l2.length))):=kb2.trans KB.put;generalize upd H2 r (wr t dx L (ws.length-l2.length))=H3 at wa3 kb3;have k1:∀l',(if A7l (sg y)=true then prT n l2 else none)=some l'->∀v H',KB r H H'->C0o t H' r dx L ws l'->Q v H':=k1;have k2:(if A7l (sg y)=true then prT n l2 else none)=none->∀H',KB r H H'->E (.ref t.am) none H':=k2;refine ⟨y,rfl,ly,λhy H4 s4=> ?_,λhy H4 s4=>k2 (by rw [Z0t (by rw [hy];decide)]) H4 (kb3.trans (KB.of s4))⟩;rw [Z12 hy] at k1 k2;have wa4:=wa3.kb (KB.of s4) (s4 _ _ wa3.er) ⟨[],rfl⟩;have kb4:=kb3.trans (KB.of s4);rw [el1,Z0y] at ln;refine ⟨_,rfl,_,rfl,r,dx,L,ws,l2,rfl,wa4,by lia,λl3 e3 v1 H5 kb5 wa5=> ?_,λe3 H5 kb5=>k2 e3 H5 (kb4.trans kb5)⟩;refine λz dz hz hdz hne=>⟨z,_,dz,_,_,rfl,A0c,T.qx,T.mz,T.nh,rfl,?_⟩;have s6:A1b H5 (upd (upd (upd H5 dz (.own z)) z (.ins t.gz dz [])) z (.ins t.gz dz [("axis",.str y),("body",v1)])):=A5o hz hdz;exact k1 l3 e3 _ _ ((kb4.trans kb5).trans (KB.of s6)) (wa5.kb (KB.of s6) (s6 _ _ wa5.er) ⟨[],rfl⟩)
   ·have hs:¬x="sum":=λz=>hs (by rw [z]);rw [Z0t hs] at k1 k2;refine ⟨_,rfl,rfl,_,rfl,A3z (λhi=> ?_) (λhi=> ?_)⟩
    ·have hi:x="if":=V.str.inj hi;rw [Z12 hi] at k1 k2;exact ⟨_,rfl,r,dx,L,ws,l1,rfl,wa2,by lia,λl2 e2 v H3 kb3 wa3=>k1 l2 e2 v H3 (kb2.trans kb3) wa3,λe2 H3 kb3=>k2 e2 H3 (kb2.trans kb3)⟩
    ·have hi:¬x="if":=λz=>hi (by rw [z]);rw [Z0t hi] at k1 k2;refine ⟨_,rfl,x,rfl,lx,λhb v H3 s3=> ?_,λhb H3 s3=>k2 (by rw [Z0t (by rw [hb];decide)]) H3 (kb2.trans (KB.of s3))⟩;rw [Z12 hb] at k1;exact k1 l1 rfl v H3 (kb2.trans (KB.of s3)) (wa2.kb (KB.of s3) (s3 _ _ wa2.er) ⟨[],rfl⟩)
theorem D4l (T:Txt K mg t):∀n:Nat,A3e P w K mg base (CXF P w) (2*n+9) t.bf t.be ["row"] (C1g t n)
 | 0=>A3e.none λvs H Q E h=>by
  obtain ⟨r,dx,L,ws,l,_,_,ln,_⟩:=h
  lia
 | n+1=>D2c T (by lia) (D4l T n)
theorem B7n (T:Txt K mg t):A3e P w K mg base (CXF P w) 209 t.bf t.be ["row"] (C1g t 100):=D4l T 100
def tmB (ws:List Str):Bool:=decide (prT 100 ws=some [])
def D1q (A:Adr):Sp:=λvs H Q E=>∃(L:Addr) (ws:List Str),vs=[.ref L]/\H L=some (.lst (ws.map V.str))/\ws.length<100/\(∀x∈ws,x.length<=1000)/\Out A (tmB ws) H E (∀(v:V) (H':Hp),A1b H H'->Q v H')
theorem B6n (T:Txt K mg t):A3e P w K mg base (CXF P w) 210 t.j4 t.j2 A9o (D1q t):=by
 have Gb3:= @B7n P w K mg base t T;have Gc1:= @B2f P w K mg base t T;refine T.dj.F.okF A6r (by walk_at "ln") λ_ A _ s H _ Q E hr h=> ?_
 ·obtain ⟨L,ws,rfl,hL,ln,lw,k1,k2⟩:=h
  refine ⟨_,(A0d (A0x (i:=1) A6r.nd rfl (.inl rfl) (pmk T.oj Gc1 hr T.oy T.cq.b (A0a (pv 0) A0b)))
   (A0d (A0x (i:=2) A6r.nd rfl (.inl rfl) (A0s Gb3 (hr.mono (by lia)) rfl T.ae.m T.ae.F.kp T.ae.b .nil A2c (A0a (pv 1) A0b)))
   (A0d (A1w (A0n C2q (B0l (pv 1) rfl) (A0y A1i (by rfl) T.bx Z0r (A0a (pv 0) A0b)) (A0z _))
    (A0h (A3b A5m T.ay rfl T.a_ rfl (A0a A0g A0b)))
    A0m)
   (A0h (A0u (pv 2)))))),?_⟩
  refine ⟨_,rfl,λr dx hr0 hdx hne=>⟨r,dx,_,rfl,A0c,rfl,?_⟩⟩;have s1:A1b H (upd (upd (upd H dx (.own r)) r (.ins t.aq dx [])) r (.ins t.aq dx [("row",.ref L),("gone",.int (0:Nat))])):=A5o hr0 hdx;have e1:upd (upd (upd H dx (.own r)) r (.ins t.aq dx [])) r (.ins t.aq dx [("row",.ref L),("gone",.int (0:Nat))]) r=some (wr t dx L 0):=A0c;generalize upd (upd (upd H dx (.own r)) r (.ins t.aq dx [])) r (.ins t.aq dx [("row",.ref L),("gone",.int (0:Nat))])=H1 at s1 e1;have wa:C0o t H1 r dx L ws ws:=⟨by rw [Nat.sub_self];exact e1,s1 _ _ hL,⟨[],rfl⟩,by lia,lw⟩;have toS:∀{H':Hp},KB r H1 H'->A1b H H':=λkb b o e=>kb b o (λz=>by rw [z,hr0] at e;cases e) (s1 _ _ e);refine ⟨_,rfl,r,dx,L,ws,ws,rfl,wa,ln,λl' el v H2 kb wa2=> ?_,λel H2 kb=>k2 (by unfold tmB;rw [el];rfl) H2 (toS kb)⟩;refine ⟨_,rfl,r,_,dx,_,_,rfl,wa2.er,T.ap,T.az,(by walk_at "lk"),_,rfl,L,_,rfl,.inl (SqL.of wa2.eL),rfl,_,rfl,C6o (λe=> ?_) (λe=> ?_)⟩
  ·refine ⟨A0w rfl,k2 ?_ H2 (toS kb)⟩;unfold tmB;rw [el];refine Z1j λz=>e ?_;have z:l'=[]:=Z1a z;rw [z,Z08];rfl
  ·refine ⟨_,rfl,k1 ?_ v H2 (toS kb)⟩;unfold tmB;rw [el];refine Z20 ?_;have e:=V.int.inj e;rw [Z08] at e;obtain ⟨p,ep⟩:=wa2.su;have ll:ws.length=p.length+l'.length:=by rw [ep,Z06]
   rw [Z2n.mp (show l'.length=0 by lia)]
theorem A8y {ys:List Str} {i:Nat} (hi:i<=ys.length):B0y (ys.map V.str) (some (i:Int)) none=(ys.drop i).map V.str:=by
 unfold B0y
 have e1:HT.sIx (ys.map V.str).length 0 (some (i:Int))=i:=by
  unfold HT.sIx;rw [Z08];simp only [show¬((i:Int)<0) by lia,if_false]
  lia
 have e2:HT.sIx (ys.map V.str).length (ys.map V.str).length none=(ys.map V.str).length:=rfl;rw [e1,e2,List.map_drop];exact Z2l (by rw [Z19];exact Z09 _)
theorem C6i {ys:List Str} {i:Nat} (hi:i<=ys.length):B0y (ys.map V.str) none (some (i:Int))=(ys.take i).map V.str:=by
 unfold B0y;have e1:HT.sIx (ys.map V.str).length 0 none=0:=rfl
 have e2:HT.sIx (ys.map V.str).length (ys.map V.str).length (some (i:Int))=i:=by
  unfold HT.sIx;rw [Z08];simp only [show¬((i:Int)<0) by lia,if_false]
  lia
 rw [e1,e2,List.drop_zero,Nat.sub_zero,List.map_take]
def A9p (x:Str):Nat:=NumText.digitsVal (sg x)
def A6x (ws:List Str):Bool:=decide (ws.length=2)&&B8l (sg (ws.getD 1 ""))&&decide (ws.getD 0 ""="wheel")&&decide (2<=A9p (ws.getD 1 ""))
def B3b (ws:List Str):Bool:=decide (ws.length=2)&&B8l (sg (ws.getD 1 ""))&&decide (1<=A9p (ws.getD 1 ""))&&decide (A9p (ws.getD 1 "")<=60)&&A7l (sg (ws.getD 0 ""))
def A6b (ws:List Str):Bool:= ! ws.isEmpty&&ws.all λx=>A7l (sg x)
def C5y (ws:List Str):Bool:=decide (ws.length=1)&&A7l (sg (ws.getD 0 ""))
def C1w (ws:List Str):Bool:=decide (("=":Str)∈ws)&&A6b (ws.take (ws.idxOf ("=":Str)))&&tmB (ws.drop (ws.idxOf ("=":Str)+1))
structure RwW (H:Hp) (l:Addr) (ws:List Str):Prop where
 e:H l=some (.lst (ws.map V.str))
 n:ws.length<100
 w:∀x∈ws,x.length<=1000
def C7w (A:Adr):Sp:=λvs H Q E=>∃(l:Addr) (ws:List Str),vs=[.ref l]/\RwW H l ws/\Out A (A6x ws) H E (∀H',A1b H H'->Q (.int (A9p (ws.getD 1 ""):Nat)) H')
def D0m (A:Adr):Sp:=λvs H Q E=>∃(l:Addr) (ws:List Str),vs=[.ref l]/\RwW H l ws/\Out A (B3b ws) H E (∀(p:Addr) (y:Str) (n:Int) (H':Hp),A1b H H'->H' p=some (.tup [.str y,.int n])->Q (.ref p) H')
def C8f (A:Adr):Sp:=λvs H Q E=>∃(l:Addr) (ws:List Str),vs=[.ref l]/\RwW H l ws/\Out A (A6b ws) H E (∀(p c:Addr) (y:Str) (ys:List Str) (H':Hp),A1b H H'->H' p=some (.tup [.str y,.ref c])->H' c=some (.lst (ys.map V.str))->ys.length<=100->H c=none->Q (.ref p) H')
def D6q (A:Adr):Sp:=λvs H Q E=>∃(l:Addr) (ws:List Str),vs=[.ref l]/\RwW H l ws/\Out A (C5y ws) H E (∀(y:Str) (H':Hp),A1b H H'->Q (.str y) H')
def D1i (A:Adr):Sp:=λvs H Q E=>∃(l:Addr) (ws:List Str),vs=[.ref l]/\RwW H l ws/\Out A (C1w ws) H E (∀(a dx:Addr) (fs:List (Str×V)) (H':Hp),A1b H H'->H' a=some (.ins A.bn dx fs)->Q (.ref a) H')
theorem A8r {ws:List Str} {j:Nat} (h:j<ws.length):atI (ws.map V.str) ((j:Nat):Int)=some (.str (ws.getD j "")):=A4a (by rw [Z1z,Z0b h,List.getD_eq_getElem?_getD,Z0b h];rfl)
theorem B1k {ws:List Str} {j:Nat} (h:j<ws.length):ws.getD j ""∈ws:=by rw [List.getD_eq_getElem?_getD,Z0b h];exact List.getElem_mem h
theorem nB {u:List Nat} (h:¬B0x u):B8l u=false:=Bool.eq_false_iff.mpr λz=>h ((A3n u).mp z)
theorem D5q:∀(u:List Nat) (a:Nat),(∀c∈u,48<=c/\c<=57)->u.foldl (λa c=>a*10+(c-48)) a<(a+1)*10^u.length
 | [],a,_=>by show a<(a+1)*10^0;lia
 | c::u,a,d=>by
  have ih:=D5q u (a*10+(c-48)) λc hc=>d c (.tail _ hc);have dc:=d c (.head _);refine Z0q ih ?_;rw [Z0y,Nat.pow_succ,<-Nat.mul_assoc,Nat.mul_right_comm];exact Nat.mul_le_mul_right _ (by lia)
theorem E0i {x:Str} (h:B0x (sg x)):A9p x<10^30:=by
 have h1:=D5q (sg x) 0 h.dg;rw [Nat.zero_add,Nat.one_mul] at h1;exact Z0q h1 (Nat.pow_le_pow_right (by decide) h.l2)
theorem D4p {n:Nat} (h:n<10^30):((n:Int)).natAbs.log2<1920:=by
 show n.log2<1920;by_cases z:n=0
 ·rw [z];decide
 ·exact (Nat.log2_lt z).mpr (Nat.lt_trans h (by decide +kernel))
theorem B6a (T:Txt K mg t):A3e P w K mg base (CXF P w) 3 t.gs t.gr A9o (C7w t):=by
 have Gc2:= @A3s P w K mg base t T;have Ga3:= @A3l P w K mg base t T;refine T.ci.F.okF A8x (by walk_at "ln") λ_ A _ s H _ Q E hr h=> ?_
 ·obtain ⟨l,ws,rfl,rw0,k1,k2⟩:=h;have hl:=rw0.e;unfold A6x at k1 k2
  refine ⟨_,(A0d (A2z (A0s Gc2 (hr.mono (by lia)) rfl T.ag.m T.ag.F.kp T.ag.b .nil A2c (A0a (pv 0) (A0a A0e A0b))))
   (A0d (A0x (i:=1) A8x.nd rfl (.inl rfl) (A0s Ga3 (hr.mono (by lia)) rfl T.af.m T.af.F.kp T.af.b .nil A2c (A0a (A2i A1d (pv 0) A0e (λ_ _=>rfl)) A0b)))
   (A0d (A1w (PW.pt (C3u (A0n C2q (A2i A1d (pv 0) A0e (λ_ _=>rfl)) A0g (A0z _)) (B6i (A0n C1l (pv 1) (A5s T.jo rfl) (A0z _)))))
    (A0h (A3b A5m T.ay rfl T.a_ rfl (A0a A0g A0b)))
    A0m)
   (A0h (A0u (pv 1)))))),?_⟩
  refine ⟨_,rfl,l,_,2,rfl,hl,λh2=> ?_,λh2 H1 s1=>k2 (by rw [Z08] at h2;rw [h2];rfl) H1 s1⟩;rw [Z08] at h2;have l2:=of_decide_eq_true h2;rw [h2] at k1 k2;have a1:=A8r (ws:=ws) (j:=1) (by lia);have a0:=A8r (ws:=ws) (j:=0) (by lia);have w1:=rw0.w _ (B1k (ws:=ws) (j:=1) (by lia));refine ⟨_,rfl,l,_,_,_,rfl,rfl,SqL.of hl,a1,_,rfl,w1,λhn H1 s1=> ?_,λhn H1 s1=>k2 (by rw [nB hn];rfl) H1 s1⟩;rw [(A3n _).mpr hn] at k1 k2;refine ⟨_,rfl,l,_,_,_,rfl,rfl,SqL.of (s1 _ _ hl),a0,rfl,_,rfl,C6o (λe=> ?_) (λe=> ?_)⟩
  ·exact ⟨A0w rfl,k2 (by rw [Z1j λz=>e (by rw [z])];rfl) H1 s1⟩
  ·rw [Z20 (V.str.inj e)] at k1 k2;refine ⟨_,rfl,_,_,rfl,rfl,_,rfl,A3z (λe=> ?_) (λe=> ?_)⟩
   ·exact ⟨A0w rfl,k2 (by rw [Z1j (by have e:((A9p (ws.getD 1 ""):Nat):Int)<2:=e;lia)];rfl) H1 s1⟩
   ·exact ⟨_,rfl,k1 (by rw [Z20 (by have e:¬((A9p (ws.getD 1 ""):Nat):Int)<2:=e;lia)];rfl) H1 s1⟩
theorem B7d (T:Txt K mg t):A3e P w K mg base (CXF P w) 3 t.j5 t.ik A9o (D0m t):=by
 have Gc2:= @A3s P w K mg base t T;have Ga5:= @A2j P w K mg base t T;have Ga3:= @A3l P w K mg base t T;refine T.de.F.okF B0n (by walk_at "ln") λ_ A _ s H _ Q E hr h=> ?_
 ·obtain ⟨l,ws,rfl,rw0,k1,k2⟩:=h;have hl:=rw0.e;unfold B3b at k1 k2
  refine ⟨_,(A0d (A2z (A0s Gc2 (hr.mono (by lia)) rfl T.ag.m T.ag.F.kp T.ag.b .nil A2c (A0a (pv 0) (A0a A0e A0b))))
   (A0d (A0x (i:=1) B0n.nd rfl (.inl rfl) (A0s Ga3 (hr.mono (by lia)) rfl T.af.m T.af.F.kp T.af.b .nil A2c (A0a (A2i A1d (pv 0) A0e (λ_ _=>rfl)) A0b)))
   (A0d (A1w (B3l (C0t C6x C6x (A5s T.j6 rfl) (pv 1) (A5s T.kf rfl)))
    (A0h (A3b A5m T.ay rfl T.a_ rfl (A0a (D2e (D3u (pv 1) (D4e D6k))) A0b)))
    A0m)
   (A0h (A0u (A3v (A0a (A0s Ga5 (hr.mono (by lia)) rfl T.aa.m T.aa.F.kp T.aa.b .nil A2c (A0a (A2i A1d (pv 0) A0e (λ_ _=>rfl)) A0b)) (A0a (pv 1) A0b)))))))),?_⟩
  refine ⟨_,rfl,l,_,2,rfl,hl,λh2=> ?_,λh2 H1 s1=>k2 (by rw [Z08] at h2;rw [h2];rfl) H1 s1⟩;rw [Z08] at h2;have l2:=of_decide_eq_true h2;rw [h2] at k1 k2;have a1:=A8r (ws:=ws) (j:=1) (by lia);have a0:=A8r (ws:=ws) (j:=0) (by lia);have w1:=rw0.w _ (B1k (ws:=ws) (j:=1) (by lia));have w0:=rw0.w _ (B1k (ws:=ws) (j:=0) (by lia));refine ⟨_,rfl,l,_,_,_,rfl,rfl,SqL.of hl,a1,_,rfl,w1,λhn H1 s1=> ?_,λhn H1 s1=>k2 (by rw [nB hn];rfl) H1 s1⟩;rw [(A3n _).mpr hn] at k1 k2;have v30:=E0i hn;have t1:=C8k v30;have t2:(Str.empty++(Str.ofString (toString ((A9p (ws.getD 1 ""):Nat):Int)))).length<=40:=by rw [Str.length_append];show 0+_<=40;lia
  have t3:(Str.empty++(Str.ofString (toString ((A9p (ws.getD 1 ""):Nat):Int)))++(" is no length of an axis":Str)).length<=100:=by
   rw [Str.length_append];have:(" is no length of an axis":Str).length<=40:=by decide +kernel
   lia
  refine ⟨_,rfl,_,_,rfl,rfl,_,rfl,A3z (λh1=> ?_) (λh1=> ?_)⟩
  ·have h1:(1:Int)<=((A9p (ws.getD 1 ""):Nat):Int):=h1;rw [Z20 (show 1<=A9p (ws.getD 1 "") by lia)] at k1 k2;refine ⟨_,_,rfl,rfl,_,rfl,D7b (λe'=> ?_) (λe'=> ?_)⟩
   ·have e':¬((A9p (ws.getD 1 ""):Nat):Int)<=60:=of_decide_eq_false e';exact ⟨_,rfl,_,.inr ⟨_,rfl,D4p v30,rfl⟩,A0t (Z1n t2 (by decide)),A0t (Z1n t3 (by decide)),A0t (Z1n t3 (by decide)),A0w rfl,k2 (by rw [Z1j (show¬A9p (ws.getD 1 "")<=60 by lia)];rfl) H1 s1⟩
   ·have e':((A9p (ws.getD 1 ""):Nat):Int)<=60:=of_decide_eq_true e';rw [Z20 (show A9p (ws.getD 1 "")<=60 by lia)] at k1 k2;exact ⟨_,rfl,l,_,_,_,rfl,rfl,SqL.of (s1 _ _ hl),a0,_,rfl,w0,λhb H2 s2=>⟨_,rfl,A0w rfl,λq hq=>k1 hb q _ _ _ (s1.trans (s2.trans (A0f hq))) A0c⟩,λhb H2 s2=>k2 hb H2 (s1.trans s2)⟩
  ·have h1:¬(1:Int)<=((A9p (ws.getD 1 ""):Nat):Int):=h1;exact ⟨_,rfl,B2l ⟨_,rfl,_,.inr ⟨_,rfl,D4p v30,rfl⟩,A0t (Z1n t2 (by decide)),A0t (Z1n t3 (by decide)),A0t (Z1n t3 (by decide)),A0w rfl,k2 (by rw [Z1j (show¬1<=A9p (ws.getD 1 "") by lia)];rfl) H1 s1⟩⟩
theorem B7z (T:Txt K mg t):A3e P w K mg base (CXF P w) 3 t.jv t.j_ A9o (D6q t):=by
 have Gc2:= @A3s P w K mg base t T;have Ga5:= @A2j P w K mg base t T;refine T.du.F.okF B9e (by walk_at "ln") λ_ A _ s H _ Q E hr h=> ?_
 ·obtain ⟨l,ws,rfl,rw0,k1,k2⟩:=h;have hl:=rw0.e;unfold C5y at k1 k2
  refine ⟨_,(A0d (A2z (A0s Gc2 (hr.mono (by lia)) rfl T.ag.m T.ag.F.kp T.ag.b .nil A2c (A0a (pv 0) (A0a A0e A0b))))
   (A0h (A0u (A0s Ga5 (hr.mono (by lia)) rfl T.aa.m T.aa.F.kp T.aa.b .nil A2c (A0a (A2i A1d (pv 0) A0e (λ_ _=>rfl)) A0b))))),?_⟩
  refine ⟨_,rfl,l,_,1,rfl,hl,λh2=> ?_,λh2 H1 s1=>k2 (by rw [Z08] at h2;rw [h2];rfl) H1 s1⟩;rw [Z08] at h2;have l2:=of_decide_eq_true h2;rw [h2] at k1 k2;exact ⟨_,rfl,l,_,_,_,rfl,rfl,SqL.of hl,A8r (ws:=ws) (j:=0) (by lia),_,rfl,rw0.w _ (B1k (ws:=ws) (j:=0) (by lia)),λhb H1 s1=>k1 hb _ H1 s1,λhb H1 s1=>k2 hb H1 s1⟩
theorem B4u (T:Txt K mg t):A3e P w K mg base (CXF P w) 4 t.gj t.g_ A9o (C8f t):=by
 have Gc3:= @A9e P w K mg base t T;refine T.ce.F.okF A9j (by walk_at "ln") λ_ A _ s H _ Q E hr h=> ?_
 ·obtain ⟨l,ws,rfl,rw0,k1,k2⟩:=h;have ln:=rw0.n
  refine ⟨_,(A0d (A0x (i:=1) A9j.nd rfl (.inl rfl) (A0s Gc3 (hr.mono (by lia)) rfl T.bb.m T.bb.F.kp T.bb.b .nil A2c (A0a (pv 0) A0b)))
   (A0h (A0u (A3v (A0a (A2i A1d (pv 1) A0e (λ_ _=>rfl)) (A0a (A1t A6e (pv 1) (A2g A0e) A2t) A0b)))))),?_⟩
  refine ⟨_,rfl,l,ws,rfl,rw0.e,by lia,rw0.w,λhb D H1 hD s1 h1=> ?_,λhb H1 s1=>k2 hb H1 s1⟩
  have l1:0<ws.length:=by
   cases ws with
   | nil=>cases hb
   | cons _ _=>simp
  refine ⟨_,rfl,D,_,_,_,rfl,rfl,SqL.of h1,A8r (ws:=ws) (j:=0) l1,_,rfl,_,rfl,D,_,rfl,SqL.of h1,λc hc=> ?_⟩;rw [show B0y (ws.map V.str) (some 1) none=(ws.drop 1).map V.str from A8y (ys:=ws) (i:=1) (by lia)];refine ⟨A0w rfl,λq hq=> ?_⟩;have s2:=A0f (o:= .lst ((ws.drop 1).map V.str)) hc;have s3:=A0f (o:= .tup [V.str (ws.getD 0 ""),.ref c]) hq;exact k1 hb q c _ (ws.drop 1) _ (s1.trans (s2.trans s3)) A0c (s3 _ _ A0c) (by rw [Z19];lia) (s1.free hc)
theorem B9g (T:Txt K mg t):A3e P w K mg base (CXF P w) 211 t.kc t.jw A9o (D1i t):=by
 have Gc4:= @B2g P w K mg base t T;have Gc3:= @A9e P w K mg base t T;have Gc5:= @B6n P w K mg base t T;have Gc4:= @B2g P w K mg base t T;refine T.dw.F.okF A8a (by walk_at "ln") λ_ A _ s H _ Q E hr h=> ?_
 ·obtain ⟨l,ws,rfl,rw0,k1,k2⟩:=h;have hl:=rw0.e;have ln:=rw0.n;unfold C1w at k1 k2
  refine ⟨_,(A0d (A1w (A0n B0k A0g (pv 0) (by with_unfolding_all rfl))
    (A0h (A3b A5m T.ay rfl T.a_ rfl (A0a A0g A0b)))
    A0m)
   (A0d (A0x (i:=1) A8a.nd rfl (.inl rfl) (A2r Z0k PySem.F.slot_list_index PySem.F.type_list_index B2c (pv 0) (A0a A0g A0b)))
   (A0d (A0x (i:=2) A8a.nd rfl (.inl rfl) (A0s Gc3 (hr.mono (by lia)) rfl T.bb.m T.bb.F.kp T.bb.b .nil A2c (A0a (A1t A6e (pv 0) A2t (A2g (pv 1))) A0b)))
   (A0h (A0u (pmk T.qv Gc4 hr T.qH T.gc.b (A0a (A2i A1d (pv 2) A0e (λ_ _=>rfl)) (A0a (A1t A6e (pv 2) (A2g A0e) A2t) (A0a (A0s Gc5 (hr.mono (by lia)) rfl T.dj.m T.dj.F.kp T.dj.b .nil A2c (A0a (A1t A6e (pv 0) (A2g (A0k A2w (pv 1) A0e)) A2t) A0b)) A0b))))))))),?_⟩
  by_cases me:("=":Str)∈ws
  ·rw [Z20 me,Bool.true_and] at k1 k2;have ev:(!(inV (V.str "=") (ws.map V.str)))=false:=by rw [A9q,Z20 me];rfl
   have hi:=List.idxOf_lt_length_iff.mpr me;refine ⟨_,rfl,l,_,rfl,.inl (SqL.of hl),rfl,A6o _,false,congrArg V.bl ev,A8s ?_⟩;refine ⟨_,rfl,.inl ⟨rfl,_,SqL.of hl⟩,l,ws,"=",rfl,rfl,hl,me,?_⟩;generalize ws.idxOf ("=":Str)=i at hi k1 k2;refine ⟨_,rfl,_,rfl,_,rfl,l,_,rfl,SqL.of hl,λc hc=> ?_⟩;rw [C6i (ys:=ws) (i:=i) (by lia)];have s1:=A0f (o:= .lst ((ws.take i).map V.str)) hc;refine ⟨c,ws.take i,rfl,A0c,by rw [Z0x];lia,λx hx=>rw0.w x (Z2p hx),λhb D H1 hD s2 h1=> ?_,λhb H1 s2=>k2 (by rw [show A6b (ws.take i)=false from hb];rfl) H1 (s1.trans s2)⟩;have hb:A6b (ws.take i)=true:=hb;rw [hb,Bool.true_and] at k1 k2
   have l1:0<(ws.take i).length:=by
    cases hz:ws.take i with
    | nil=>rw [hz] at hb;cases hb
    | cons _ _=>simp
   have lt:(ws.take i).length<100:=by rw [Z0x];lia
   have s12:=s1.trans s2;have hl1:=s12 _ _ hl;generalize ws.take i=ns at h1 l1 lt;refine ⟨_,rfl,D,_,_,_,rfl,rfl,SqL.of h1,A8r (ws:=ns) (j:=0) l1,_,rfl,_,rfl,D,_,rfl,SqL.of h1,λc2 hc2=> ?_⟩;rw [show B0y (ns.map V.str) (some 1) none=(ns.drop 1).map V.str from A8y (ys:=ns) (i:=1) (by lia)];have s3:=A0f (o:= .lst ((ns.drop 1).map V.str)) hc2;have hc3:upd H1 c2 (.lst ((ns.drop 1).map V.str)) c2=some (.lst ((ns.drop 1).map V.str)):=A0c;generalize upd H1 c2 (.lst ((ns.drop 1).map V.str))=H3 at s3 hc3⊢;refine ⟨_,rfl,_,rfl,_,_,rfl,rfl,_,rfl,l,_,rfl,SqL.of (s3 _ _ hl1),λc4 hc4=> ?_⟩
   have ed:B0y (ws.map V.str) (some ((i:Nat)+1:Int)) none=(ws.drop (i+1)).map V.str:=by
    have:=A8y (ys:=ws) (i:=i+1) (by lia);rw [show (((i+1:Nat)):Int)=(i:Nat)+1 by lia] at this;exact this
   rw [show B0y (ws.map V.str) (some ((i:Nat)+1:Int)) none=(ws.drop (i+1)).map V.str from ed];have s4:=A0f (o:= .lst ((ws.drop (i+1)).map V.str)) hc4;have s04:=s12.trans (s3.trans s4);refine ⟨c4,ws.drop (i+1),rfl,A0c,by rw [Z19];lia,λx hx=>rw0.w x (List.mem_of_mem_drop hx),λht v H5 s5=> ?_,λht H5 s5=>k2 ht H5 (s04.trans s5)⟩;have s35:=s4.trans s5;have hc5:=s35 _ _ hc3;intro y dy hy hdy hne;have u:A1b H5 (upd (upd H5 dy (.own y)) y (.ins t.bn dy [])):=A0j (A0f hdy) hy;refine ⟨y,dy,c2,v,_,ns.drop 1,rfl,A0c,u _ _ hc5,by rw [Z19];lia,λc6 H6 hc6 hy6 hcc kb=>⟨rfl,?_⟩⟩;have s6:A1b H5 H6:=λb o e=>kb b o (A0r e hy) (u _ _ e);exact k1 ht _ _ _ _ (s04.trans (s5.trans s6)) hy6
  ·have ev:(!(inV (V.str "=") (ws.map V.str)))=true:=by rw [A9q,Z1j me];rfl
   rw [Z1j me] at k2;exact ⟨_,rfl,l,_,rfl,.inl (SqL.of hl),rfl,A6o _,true,congrArg V.bl ev,B2l ⟨A0w rfl,k2 rfl H (A1b.refl _)⟩⟩
def S4:List Str:=["axis","table","let","out"]
def D7s (H:Hp) (v:V) (ws:List Str):Prop:=∃a,v= .ref a/\H a=some (.lst (ws.map V.str))
def A7j (s:Str) (kw:List (Str×List Str)):List (List Str):=(kw.filter λe=>decide (e.1=s)).map (·.2)
def ksS (ad:Str->Addr):List (Key×V):=S4.map λs=>(Sum.inr s,V.ref (ad s))
theorem C7l {kvs:List (Key×V)} {k:Key} {v:V} (h:∀e∈kvs,e.1≠k):C1o kvs k v=kvs++[(k,v)]:=by
 unfold C1o;rw [Z0t];intro z;obtain ⟨e,he,ez⟩:=List.any_eq_true.mp z;exact h e he (of_decide_eq_true ez)
theorem C0b {α β:Type} {s:α} {z:β}:∀{l:List α} {m:List β},l[m.length]? =some s->l.zip (m++[z])=l.zip m++[(s,z)]
 | [],m,h=>by simp at h
 | a::l,[],h=>by simp at h;simp [h]
 | a::l,b::m,h=>by
  have h':l[m.length]? =some s:=by simpa using h
  rw [Z17,List.zip_cons_cons,List.zip_cons_cons,C0b h',Z17]
theorem C4u {s:Str} {z:Addr}:∀{l:List Str} {m:List Addr},(s,z)∈l.zip m->∃j,j<m.length/\l[j]? =some s
 | [],m,h=>by simp at h
 | a::l,[],h=>by simp at h
 | a::l,b::m,h=>by
  rw [List.zip_cons_cons] at h;rcases Z0e.mp h with h | h
  ·injection h with h1 h2;exact ⟨0,by simp,by simp [h1]⟩
  ·obtain ⟨j,h1,h2⟩:=C4u h;exact ⟨j+1,by simp;lia,by simpa using h2⟩
theorem C8g:S4.Nodup:=by decide +kernel
theorem D5i {i j:Nat} {s:Str} (h:S4[i]? =some s) (h':S4[j]? =some s):i=j:=by
 have hi:=(Z03.mp h).1;have hj:=(Z03.mp h').1;exact (List.getElem?_inj hi C8g).mp (h.trans h'.symm)
theorem E0f {as:List Addr} (h:as.length=4) (nd:as.Nodup):∃ad:Str->Addr,((S4.zip as).map λe=>((Sum.inr e.1:Key),V.ref e.2))=ksS ad/\(∀s∈S4,ad s∈as)/\∀s∈S4,∀s'∈S4,ad s=ad s'->s=s':=by
 match as,h with
 | [a1,a2,a3,a4],_ =>
  have n1:("table":Str)≠"axis":=by decide
  have n2:("let":Str)≠"axis":=by decide
  have n3:("let":Str)≠"table":=by decide
  have n4:("out":Str)≠"axis":=by decide
  have n5:("out":Str)≠"table":=by decide
  have n6:("out":Str)≠"let":=by decide
  refine ⟨λs=>if s="axis" then a1 else if s="table" then a2 else if s="let" then a3 else a4,?_,?_,?_⟩
  ·simp [S4,ksS,n1,n2,n3,n4,n5,n6]
  ·intro s hs;simp only [S4,Z0e,Z1i,or_false] at hs;rcases hs with rfl | rfl | rfl | rfl <;> simp [n1,n2,n3,n4,n5,n6]
  ·simp only [Z15,Z0e,Z1i,or_false,not_or] at nd;obtain ⟨⟨p1,p2,p3⟩,⟨p4,p5⟩,p6,_⟩:=nd;intro s hs s' hs';simp only [S4,Z0e,Z1i,or_false] at hs hs';rcases hs with rfl | rfl | rfl | rfl <;> rcases hs' with rfl | rfl | rfl | rfl <;> simp [n1,n2,n3,n4,n5,n6,p1,p2,p3,p4,p5,p6,Ne.symm p1,Ne.symm p2,Ne.symm p3,Ne.symm p4,Ne.symm p5,Ne.symm p6]
theorem C8w {ad:Str->Addr} {s:Str} (h:s∈S4):some (V.ref (ad s))=C2c (ksS ad) (Sum.inr s):=by
 have n1:("table":Str)≠"axis":=by decide
 have n2:("let":Str)≠"axis":=by decide
 have n3:("let":Str)≠"table":=by decide
 have n4:("out":Str)≠"axis":=by decide
 have n5:("out":Str)≠"table":=by decide
 have n6:("out":Str)≠"let":=by decide
 simp only [S4,Z0e,Z1i,or_false] at h;rcases h with rfl | rfl | rfl | rfl <;> simp [C2c,ksS,S4,Ne.symm n1,Ne.symm n2,Ne.symm n3,Ne.symm n4,Ne.symm n5,Ne.symm n6]
theorem C0r {s:Str} (h:s∈S4):S4[S4.idxOf s]? =some s:=by
 have hl:=List.idxOf_lt_length_iff.mpr h;rw [Z0b hl,List.getElem_idxOf hl]
theorem C6m {s:Str} {L:Nat} (h:s∈S4) (hL:L<=S4.idxOf s):s∈S4.drop L:=by
 have:(S4.drop L)[S4.idxOf s-L]? =some s:=by
  rw [List.getElem?_drop,show L+(S4.idxOf s-L)=S4.idxOf s by lia];exact C0r h
 exact Z13 this
theorem B6q {s:Str} {kw:List (Str×List Str)} {i:Nat} {e:Str×List Str} (he:kw[i]? =some e):A7j s (kw.take (i+1))=A7j s (kw.take i)++(if e.1=s then [e.2] else []):=by
 unfold A7j;rw [Z14,he,Z2f,List.filter_append,Z0s];by_cases h:e.1=s <;> simp [h]
def RwX (ad:Str->Addr) (G:Hp) (v:V) (ws:List Str):Prop:=∃a,v= .ref a/\(∀s∈S4,a≠ad s)/\G a=some (.lst (ws.map V.str))
def B7t:Nat->List (Str×List Str)->Bool
 | _,[]=>true
 | L,e::r=>decide (e.1∈S4.drop L)&&B7t (S4.idxOf e.1) r
def C8m (A:Adr):Sp:=λvs H Q E=>∃(R:Addr) (rs:List V) (kw:List (Str×List Str)),vs=[.ref R]/\H R=some (.lst rs)/\Paired (λv e=>D7s H v (e.1::e.2)) rs kw/\kw.length<=1000/\
 Out A (B7t 0 kw) H E (∀(d:Addr) (ad:Str->Addr) (H':Hp),A1b H H'->H' d=some (.dK (ksS ad))->(∀s∈S4,∃vs,H' (ad s)=some (.lst vs)/\Paired (D7s H') vs (A7j s kw))->Q (.ref d) H')
theorem B8w (T:Txt K mg t):A3e P w K mg base (CXF P w) 1 t.jx t.jz ["rows"] (C8m t):=by
 refine T.dr.F.okF A3p (by walk_at "ln") λ_ A _ s H _ Q E hr h=> ?_
 ·obtain ⟨R,rs,kw,rfl,hR,pr,lk,k1,k2⟩:=h;have hu:=D0x hr;have lp:=Paired.length pr;have tS:∀G:Hp,SqT K G t.cw (S4.map V.str):=λG=> .inr T.pq
  refine ⟨_,(A0d (A0x (i:=1) A3p.nd rfl (.inl rfl) C8j)
   (A0d (A5l PassesOwn.leaving rfl (C9k (A5s T.jy rfl)) (A0p (i:=2) A3p.nd rfl (.inl rfl))
    (A0h (D0v hu (pv 1) (pv 2) (A2e A0b) rfl)))
   (A0d (A0x (i:=3) A3p.nd rfl (.inl rfl) A0e)
   (A0d (A5l PassesOwn.leaving rfl (A3f (pv 0)) (A0p (i:=4) A3p.nd rfl (.inl rfl))
    (A0d (A1w (A0n B0k (A2i A1d (pv 4) A0e (λ_ _=>rfl)) (A1t C9y (A5s T.jy rfl) (A2g (pv 3)) A2t) (by with_unfolding_all rfl))
     (A0h (A3b A5m T.ay rfl T.a_ rfl (A0a A0g A0b)))
     A0m)
    (A0d (A0x (i:=3) A3p.nd rfl (.inl rfl) (A2r PySem.F.plainAttrs_tuple PySem.F.slot_tuple_index PySem.F.type_tuple_index C1q (A5s T.jy rfl) (A0a (A2i A1d (pv 4) A0e (λ_ _=>rfl)) A0b)))
    (A0h (A2z (A2r Z0k Z0n Z0o A2d (B2h hu (pv 1) (A2i A1d (pv 4) A0e (λ_ _=>rfl)) (λ_ _=>rfl)) (A0a (A1t A6e (pv 4) (A2g A0e) A2t) A0b)))))))
   (A0h (A0u (pv 1))))))),?_⟩
  intro d hd;have hdG:upd H d (.dK []) d=some (.dK []):=A0c;have sd:A1b H (upd H d (.dK [])):=A0f hd;refine ⟨t.cw,rfl,⟨_,tS _⟩,?_⟩;refine D2f (K:=K) (a:=t.cw) (xs:=S4.map V.str) (λi σ G=>∃(o2:Option V) (as:List Addr),σ=[Sro R,Sro d,o2,none,none]/\A1b H G/\G d=some (.dK ((S4.zip as).map λe=>(Sum.inr e.1,V.ref e.2)))/\as.length=i/\as.Nodup/\∀a∈as,G a=some (.lst [])/\H a=none) ⟨none,[],rfl,sd,hdG,rfl,.nil,λ_ z=>nomatch z⟩ (λi σ G _ _=>tS G) ?_ ?_
  ·rintro i x σ G hx ⟨o2,as,rfl,sG,hdG,la,nd,al⟩;rw [Z1z] at hx;obtain ⟨s,hs,rfl⟩:=Z0i.mp hx;have i4:i<4:=(Z03.mp hs).1;refine ⟨A0w rfl,λz hz=> ?_⟩;have zd:z≠d:=(A0r hdG hz).symm;have zl:((S4.zip as).map λe=>((Sum.inr e.1:Key),V.ref e.2)).length<=4:=by rw [Z08,List.length_zip];exact Nat.min_le_left _ _
   refine ⟨_,rfl,_,rfl,d,_,rfl,D5g.k (k:=Sum.inr s) (by rw [A0l zd.symm];exact hdG) (A1p (by lia)),?_⟩
   rw [C7l (λe he=>by
    obtain ⟨⟨s',z'⟩,h1,rfl⟩:=Z2c.mp he;intro c;obtain ⟨j,hj,hj'⟩:=C4u h1;have:s'=s:=by injection c
    subst this;have:=D5i hs hj'
    lia)]
   refine ⟨_,as++[z],rfl,A0j (sG.trans (A0f hz)) hd,?_,by simp;lia,?_,λa ha=> ?_⟩
   ·rw [A0c,C0b (by rw [la];exact hs),Z0s];rfl
   ·refine List.nodup_append.mpr ⟨nd,by simp,λa ha b hb=> ?_⟩;rw [Z0w.mp hb];exact A0r (al a ha).1 hz
   ·rcases Z07.mp ha with ha | ha
    ·obtain ⟨h1,h2⟩:=al a ha;exact ⟨by rw [A0l (A3q h1 hdG (by intro z;cases z)),A0l (A0r h1 hz)];exact h1,h2⟩
    ·rw [Z0w.mp ha];exact ⟨by rw [A0l zd];exact A0c,sG.free hz⟩
  rintro σ G ⟨o2,as,rfl,sG,hdG,la,nd,al⟩;obtain ⟨ad,e1,e2,e3⟩:=E0f (show as.length=4 from la) nd;rw [e1] at hdG;have fA:∀s∈S4,H (ad s)=none:=λs hs=>(al _ (e2 s hs)).2;have lA:∀s∈S4,G (ad s)=some (.lst []):=λs hs=>(al _ (e2 s hs)).1;clear e1 e2 al nd la;refine ⟨_,rfl,R,rfl,⟨_,SqL.of (sG _ _ hR)⟩,?_⟩;refine A9f (K:=K) (a:=R) (xs:=rs) (λi σ G=>∃(o2 o4:Option V) (L:Nat),σ=[Sro R,Sro d,o2,Sio (L:Nat),o4]/\A1b H G/\G d=some (.dK (ksS ad))/\L<=4/\B7t 0 kw=B7t L (kw.drop i)/\∀s∈S4,∃vs,G (ad s)=some (.lst vs)/\Paired (RwX ad G) vs (A7j s (kw.take i))) ⟨o2,none,0,rfl,sG,hdG,by decide,rfl,λs hs=>⟨[],lA s hs,.nil⟩⟩ (λi σ G _ h=>by obtain ⟨_,_,_,_,s',_⟩:=h;exact SqL.of (s' _ _ hR)) ?_ ?_
  ·rintro i x σ G hx ⟨o2,o4,L,rfl,sG,hdG,L4,hL,al⟩;obtain ⟨e,he,a,rfl,ha⟩:=B4e pr hx;have hi:=(Z03.mp he).1
   have ed:kw.drop i=e::kw.drop (i+1):=by
    rw [Z1u hi];congr 1;exact (Z03.mp he).2
   rw [ed] at hL;have hL:B7t 0 kw=(decide (e.1∈S4.drop L)&&B7t (S4.idxOf e.1) (kw.drop (i+1))):=hL;refine ⟨_,rfl,a,_,_,_,rfl,rfl,SqL.of (sG _ _ ha),A4a (j:=0) rfl,_,rfl,_,rfl,t.cw,_,rfl,tS _,λp G2 s2 sq=> ?_⟩;rw [A8y L4] at sq;have hs2:=sG.trans s2;by_cases em:e.1∈S4.drop L
   rotate_left
   ·have ev:(!(inV (V.str e.1) ((S4.drop L).map V.str)))=true:=by rw [A9q,Z1j em];rfl
    rw [Z1j em] at hL;exact ⟨p,_,rfl,.inr sq,rfl,A6o _,true,congrArg V.bl ev,B2l ⟨A0w rfl,k2 hL G2 hs2⟩⟩
   have ev:(!(inV (V.str e.1) ((S4.drop L).map V.str)))=false:=by rw [A9q,Z20 em];rfl
   have es:e.1∈S4:=List.mem_of_mem_drop em;rw [Z20 em,Bool.true_and] at hL;refine ⟨p,_,rfl,.inr sq,rfl,A6o _,false,congrArg V.bl ev,A8s ?_⟩;have ha2:=hs2 _ _ ha;refine ⟨.inr (.inl ⟨rfl,T.pO⟩),_,rfl,a,_,_,_,rfl,rfl,SqL.of ha2,A4a (j:=0) rfl,t.cw,S4,e.1,rfl,rfl,tS _,es,?_⟩;obtain ⟨vs,hv,pv⟩:=al e.1 es;have hd2:=s2 _ _ hdG;have hv2:=s2 _ _ hv;have gd:D4q G2 d (.str e.1) (some (.ref (ad e.1))):= .inl ⟨_,Sum.inr e.1,.inl hd2,rfl,C8w es⟩;refine ⟨_,rfl,_,rfl,a,_,_,_,rfl,rfl,SqL.of ha2,A4a (j:=0) rfl,d,_,rfl,gd,.inl ⟨rfl,_,SqL.of hv2⟩,_,rfl,_,rfl,a,_,rfl,SqL.of ha2,λc hc=> ?_⟩;rw [show B0y ((e.1::e.2).map V.str) (some 1) none=e.2.map V.str from A8y (ys:=e.1::e.2) (i:=1) (by simp)];have cv:c≠ad e.1:=(A0r hv2 hc).symm;have lv:=Paired.length pv
   have ls:(A7j e.1 (kw.take i)).length<=1000:=by
    unfold A7j;rw [Z08];refine Z1n (List.length_filter_le _ _) ?_;rw [Z0x];lia
   refine ⟨ad e.1,_,_,rfl,rfl,by rw [A0l cv.symm];exact hv2,A1p (by lia),?_⟩
   have cA:∀s∈S4,c≠ad s:=λs hs=>by
    obtain ⟨vs',h1,_⟩:=al s hs;exact (A0r (s2 _ _ h1) hc).symm
   have dv:d≠ad e.1:=A3q hd2 hv2 (by intro z;cases z);refine ⟨_,_,_,rfl,A0j (hs2.trans (A0f hc)) (fA _ es),by rw [A0l dv,A0l (A0r hd2 hc)];exact hd2,?_,hL,λs hs=> ?_⟩
   ·have:=List.idxOf_lt_length_iff.mpr es;have:S4.length=4:=rfl
    lia
   ·obtain ⟨vs',h1,p1⟩:=al s hs
    have up:∀v ws,RwX ad G v ws->RwX ad (upd (upd G2 c (.lst (e.2.map V.str))) (ad e.1) (.lst (vs++[.ref c]))) v ws:=λv ws z=>by
     obtain ⟨b,z1,z2,z3⟩:=z;exact ⟨b,z1,z2,by rw [A0l (z2 _ es),A0l (A0r (s2 _ _ z3) hc)];exact s2 _ _ z3⟩
    by_cases se:s=e.1
    ·subst se;rw [hv] at h1;cases h1;refine ⟨vs++[.ref c],A0c,?_⟩;rw [B6q he,Z12 rfl];exact Paired.snoc ⟨c,rfl,cA,by rw [A0l cv];exact A0c⟩ (Paired.mapP pv up)
    ·have ns:ad s≠ad e.1:=λz=>se (e3 s hs _ es z);refine ⟨vs',by rw [A0l ns,A0l (A0r (s2 _ _ h1) hc)];exact s2 _ _ h1,?_⟩;rw [B6q he,Z0t (λz=>se z.symm),Z0u];exact Paired.mapP p1 up
  ·rintro σ G ⟨o2,o4,L,rfl,sG,hdG,_,hL,al⟩;rw [lp,List.drop_length] at hL;refine ⟨_,rfl,k1 hL d ad G sG hdG λs hs=> ?_⟩;obtain ⟨vs,h1,p1⟩:=al s hs;rw [lp,Z18] at p1;exact ⟨vs,h1,Paired.mapP p1 λ_ _ z=>by obtain ⟨b,z1,_,z3⟩:=z;exact ⟨b,z1,z3⟩⟩
theorem lt5 {n:Nat} (h:n<=12000000):n+2<=sizeLine:=by rw [sizeLine_eq];lia
theorem B7i {xs:List V} {p:Nat} (h:p<=xs.length):B0y xs (some (p:Int)) none=xs.drop p:=by
 unfold B0y;rw [HT.sIx_none,HT.sIx_nat,Nat.min_eq_left h];exact Z2l (by rw [Z19];lia)
theorem B8y {α:Type} {G:Hp} {F:V->α->Prop} {d:α->PyData} (h:∀v e,F v e->Rep G v (d e)):∀{vs:List V} {es:List α},Paired F vs es->A5n G vs (es.map d)
 | _,_,.nil=> .nil
 | _,_,.cons r t=> .cons (h _ _ r) (B8y h t)
theorem prm {α β γ:Type} {F:α->β->Prop} {G:α->γ->Prop} {f:β->γ}:∀{l:List α} {m:List β},Paired F l m->(∀v x,x∈m->F v x->G v (f x))->Paired G l (m.map f)
 | _,_,.nil,_=> .nil
 | _,_,.cons r t,h=> .cons (h _ _ (.head _) r) (prm t λv x hx=>h v x (.tail _ hx))
def A4t (x:Str):List (List Str):=(Txt.split x "\n").map λr=>Txt.split r " "
def kwR (rs:List (List Str)):List (Str×List Str):=rs.map λws=>(ws.headD "",ws.tail)
def A2f (rs:List (List Str)):Bool:=A6x (rs.headD [])&&B7t 0 (kwR rs.tail)&&(A7j "axis" (kwR rs.tail)).all B3b&&(A7j "table" (kwR rs.tail)).all A6b&&(A7j "let" (kwR rs.tail)).all C1w&&(A7j "out" (kwR rs.tail)).all C5y
structure D2y (x:Str):Prop where
 l:x.length<=12000000
 n:(Txt.split x "\n").length<=1000
 r:∀r∈Txt.split x "\n",r.length<=12000000/\(Txt.split r " ").length<100/\∀y∈Txt.split r " ",y.length<=1000
def D2b (A:Adr):Sp:=λvs H Q E=>∃x:Str,vs=[.str x]/\D2y x/\Out A (A2f (A4t x)) H E (∀(a dx:Addr) (fs:List (Str×V)) (H':Hp),A1b H H'->H' a=some (.ins A.ac dx (("wheel",.int (A9p (((A4t x).headD []).getD 1 ""):Nat))::fs))->Q (.ref a) H')
theorem D0f {s:Str} {rs:List (List Str)} {ws:List Str} (h:ws∈A7j s (kwR rs)):∃r∈rs,ws=r.tail:=by
 unfold A7j kwR at h;obtain ⟨e,he,rfl⟩:=Z2c.mp h;obtain ⟨r,hr,rfl⟩:=Z2c.mp (List.mem_filter.mp he).1;exact ⟨r,hr,rfl⟩
theorem C0l {α:Type} {f:α->Bool} {l:List α} {x:α} (h:x∈l) (e:f x=false):l.all f=false:=by
 rw [List.all_eq_false];exact ⟨x,h,by rw [e];decide⟩
theorem B2q (T:Txt K mg t):A3e P w K mg base (CXF P w) 212 t.fj t.ft ["text"] (D2b t):=by
 have Gc6:= @A6w P w K mg base t T;have Gc7:= @B8w P w K mg base t T;have Gc8:= @B7d P w K mg base t T;have Gc9:= @B9g P w K mg base t T;have Gd0:= @B7z P w K mg base t T;have Gd1:= @B4u P w K mg base t T;have Gd2:= @B6a P w K mg base t T;have Gc6:= @A6w P w K mg base t T;refine T.ao.F.okF A1s (by walk_at "ln") λ_ A _ s H _ Q E hr h=> ?_
 ·obtain ⟨x,rfl,ok,k1,k2⟩:=h;have hu:=D0x hr;have lr:=ok.n;have okr:=ok.r
  refine ⟨_,(A0d (B8j (i₀:=1) (N':=["row"]) (ix:=(List.replicate 1 none)) A1s.nd rfl (.inl rfl) rfl (A1n rfl (by decide +kernel) (by decide +kernel)) (A1q rfl) (A3f (A2r PySem.F.plainAttrs_str PySem.F.slot_str_split PySem.F.type_str_split B4l (pv 0) (A0a A0g A0b))) (λ_ _ _ _=>(A0p (i:=0) C4t rfl (.inl rfl))) (λ_ _ _ _=>(D5e (K:=K) rfl PySem.F.plainAttrs_str PySem.F.slot_str_split PySem.F.type_str_split B4l (pv 0) (A0a A0g A0b))))
   (A0d (A0x (i:=2) A1s.nd rfl (.inl rfl) (A0s Gd2 (hr.mono (by lia)) rfl T.ci.m T.ci.F.kp T.ci.b .nil A2c (A0a (A2i A1d (pv 1) A0e (λ_ _=>rfl)) A0b)))
   (A0d (A0x (i:=3) A1s.nd rfl (.inl rfl) (A0s Gc7 (hr.mono (by lia)) rfl T.dr.m T.dr.F.kp T.dr.b .nil A2c (A0a (A1t A6e (pv 1) (A2g A0e) A2t) A0b)))
   (A0d (B1g (i₀:=4) (E:=E) (N':=["words"]) (ix:=(List.replicate 1 none)) A1s.nd rfl (.inl rfl) rfl (A1n rfl (by decide +kernel) (by decide +kernel)) (A1q rfl) (A3f (B2h hu (pv 3) A0g (λ_ _=>rfl))) (λ_ _ _ _=>(A0p (i:=0) C4x rfl (.inl rfl))) (λ_ _ _ _=>(A0s Gc8 (hr.mono (by lia)) rfl T.de.m T.de.F.kp T.de.b .nil C1v (A0a (pv 0) A0b))) ⟨rfl,rfl⟩ rfl B3o)
   (A0d (B1g (i₀:=5) (E:=E) (N':=["words"]) (ix:=(List.replicate 1 none)) A1s.nd rfl (.inl rfl) rfl (A1n rfl (by decide +kernel) (by decide +kernel)) (A1q rfl) (A3f (B2h hu (pv 3) A0g (λ_ _=>rfl))) (λ_ _ _ _=>(A0p (i:=0) C3s rfl (.inl rfl))) (λ_ _ _ _=>(A0s Gd1 (hr.mono (by lia)) rfl T.ce.m T.ce.F.kp T.ce.b .nil C1v (A0a (pv 0) A0b))) ⟨rfl,rfl⟩ rfl B3o)
   (A0d (B1g (i₀:=6) (E:=E) (N':=["words"]) (ix:=(List.replicate 1 none)) A1s.nd rfl (.inl rfl) rfl (A1n rfl (by decide +kernel) (by decide +kernel)) (A1q rfl) (A3f (B2h hu (pv 3) A0g (λ_ _=>rfl))) (λ_ _ _ _=>(A0p (i:=0) C4h rfl (.inl rfl))) (λ_ _ _ _=>(A0s Gc9 (hr.mono (by lia)) rfl T.dw.m T.dw.F.kp T.dw.b .nil C1v (A0a (pv 0) A0b))) ⟨rfl,rfl⟩ rfl B3o)
   (A0d (B1g (i₀:=7) (E:=E) (N':=["words"]) (ix:=(List.replicate 1 none)) A1s.nd rfl (.inl rfl) rfl (A1n rfl (by decide +kernel) (by decide +kernel)) (A1q rfl) (A3f (B2h hu (pv 3) A0g (λ_ _=>rfl))) (λ_ _ _ _=>(A0p (i:=0) C4v rfl (.inl rfl))) (λ_ _ _ _=>(A0s Gd0 (hr.mono (by lia)) rfl T.du.m T.du.F.kp T.du.b .nil C1v (A0a (pv 0) A0b))) ⟨rfl,rfl⟩ rfl B3o)
   (A0h (A0u (pmk T.oa Gc6 hr T.o_ T.cj.b (A0a (pv 2) (A0a (pv 4) (A0a (pv 5) (A0a (pv 6) (A0a (pv 7) A0b))))))))))))))),?_⟩
  refine ⟨_,rfl,rfl,x,"\n",rfl,rfl,by decide +kernel,lt5 ok.l,λl hl=> ?_⟩;have ne:Txt.split x "\n"≠[]:=by rw [B4p];exact B4g x 10
  have er:A4t x=(Txt.split x "\n").map λr=>Txt.split r " ":=rfl;generalize Txt.split x "\n"=ts at lr okr ne er
  have okw:∀ws∈A4t x,ws≠[]/\ws.length<100/\∀y∈ws,y.length<=1000:=λws hws=>by
   rw [er] at hws;obtain ⟨r,hr,rfl⟩:=Z2c.mp hws;exact ⟨by show Txt.split r " "≠[];rw [A2p];exact B4g r 32,(okr r hr).2⟩
  have s1:=A0f (o:= .lst (ts.map V.str)) hl;have h1:upd H l (.lst (ts.map V.str)) l=some (.lst (ts.map V.str)):=A0c;generalize upd H l (.lst (ts.map V.str))=H1 at s1 h1⊢;refine ⟨l,rfl,⟨_,SqL.of h1⟩,λD hD=> ?_⟩;refine A2h (K:=K) (a:=l) (D:=D) (xs:=ts.map V.str) (λi ys G=>A1b H1 G/\G D=some (.lst ys)/\Paired (λv ws=>∃a,v=V.ref a/\a≠D/\G a=some (.lst (ws.map V.str))) ys ((A4t x).take i)) ⟨A0f hD,A0c,.nil⟩ (by rintro i ys G ⟨s2,_⟩;exact SqL.of (s2 _ _ h1)) ?_ ?_
  ·rintro i v ys G hv ⟨sG,hDG,pr⟩;rw [Z1z] at hv;obtain ⟨r,hr,rfl⟩:=Z0i.mp hv;have hi:=(Z03.mp hr).1;have lp:=Paired.length pr;rw [Z0x] at lp;refine ⟨True.intro,_,rfl,rfl,_," ",rfl,rfl,by decide +kernel,lt5 (okr r (Z13 hr)).1,λc hc=> ?_⟩;have cD:c≠D:=(A0r hDG hc).symm;have he:(A4t x)[i]? =some (Txt.split r " "):=by rw [er,Z1z,hr];rfl
   refine ⟨by rw [A0l cD.symm];exact hDG,A1p (by lia),A0j (sG.trans (A0f hc)) hD,A0c,?_⟩;rw [Z14,he,Z2f];refine Paired.snoc ⟨c,rfl,cD,by rw [A0l cD];exact A0c⟩ (Paired.mapP pr λ_ _ z=> ?_);obtain ⟨b,z1,z2,z3⟩:=z;exact ⟨b,z1,z2,by rw [A0l z2,A0l (A0r z3 hc)];exact z3⟩
  rintro ys H2 ⟨s2,hD2,pr⟩;have lrx:(A4t x).length=ts.length:=by rw [er,Z08]
  rw [Z08,<-lrx,Z18] at pr;have nex:A4t x≠[]:=λz=>ne (Z2n.mp (by rw [<-lrx,z];rfl));clear er okr h1;generalize A4t x=rs at k1 k2 okw pr lrx nex
  cases rs with
  | nil=>exact absurd rfl nex
  | cons r0 rr =>
  cases pr with
  | @cons y0 _ yr _ hy pr =>
  obtain ⟨a0,rfl,_,ha0⟩:=hy;have ok0:=okw r0 (.head _);rw [Z0y] at lrx;have k1:A2f (r0::rr)=true->∀(a dx:Addr) (fs:List (Str×V)) (H':Hp),A1b H H'->H' a=some (.ins t.ac dx (("wheel",.int (A9p (r0.getD 1 ""):Nat))::fs))->Q (.ref a) H':=k1;unfold A2f at k1 k2;rw [List.headD_cons,List.tail_cons] at k1 k2;refine ⟨_,rfl,D,_,_,_,rfl,rfl,SqL.of hD2,A4a (j:=0) rfl,a0,r0,rfl,⟨ha0,ok0.2.1,ok0.2.2⟩,λhw H3 s3=> ?_,λhw H3 s3=>k2 (by rw [hw];simp) H3 (s1.trans (s2.trans s3))⟩;rw [hw,Bool.true_and] at k1 k2;refine ⟨_,rfl,_,rfl,D,_,rfl,SqL.of (s3 _ _ hD2),λc hc=> ?_⟩;rw [show B0y (V.ref a0::yr) (some 1) none=yr from B7i (xs:=V.ref a0::yr) (p:=1) (by simp)];have s4:=A0f (o:= .lst yr) hc;have h4:upd H3 c (.lst yr) c=some (.lst yr):=A0c;generalize upd H3 c (.lst yr)=H4 at s4 h4⊢;have s24:=s3.trans s4;have s04:=s1.trans (s2.trans s24)
  have pk:Paired (λv e=>D7s H4 v (e.1::e.2)) yr (kwR rr):=prm pr λv ws hws z=>by
   obtain ⟨b,z1,_,z3⟩:=z
   have e:ws.headD ""::ws.tail=ws:=by
    cases ws with
    | nil=>exact absurd rfl (okw [] (.tail _ hws)).1
    | cons _ _=>rfl
   refine ⟨b,z1,?_⟩;show H4 b=some (.lst ((ws.headD ""::ws.tail).map V.str));rw [e];exact s24 _ _ z3
  refine ⟨c,yr,kwR rr,rfl,h4,pk,by unfold kwR;rw [Z08];lia,λhs d ad H5 s5 hd5 al=> ?_,λhs H5 s5=>k2 (by rw [hs];simp) H5 (s04.trans s5)⟩;rw [hs,Bool.true_and] at k1 k2;have gd:∀s∈S4,∀G,A1b H5 G->D4q G d (.str s) (some (.ref (ad s))):=λs hs G sG=> .inl ⟨_,Sum.inr s,.inl (sG _ _ hd5),rfl,C8w hs⟩;obtain ⟨va,hva,pa⟩:=al "axis" (by simp [S4]);obtain ⟨vt,hvt,pt⟩:=al "table" (by simp [S4]);obtain ⟨vl,hvl,pl⟩:=al "let" (by simp [S4]);obtain ⟨vo,hvo,po⟩:=al "out" (by simp [S4]);have s05:=s04.trans s5
  have okS:∀{s:Str} {ws:List Str},ws∈A7j s (kwR rr)->ws.length<100/\∀y∈ws,y.length<=1000:=λ{s ws} hws=>by
   obtain ⟨r,hr,rfl⟩:=D0f hws;obtain ⟨_,o2,o3⟩:=okw r (.tail _ hr);exact ⟨by rw [List.length_tail];lia,λy hy=>o3 y (List.mem_of_mem_tail hy)⟩
  have lS:∀s:Str,(A7j s (kwR rr)).length<=1000:=λs=>by
   unfold A7j;rw [Z08];refine Z1n (List.length_filter_le _ _) ?_;unfold kwR;rw [Z08];lia
  have la:=Paired.length pa;have lt:=Paired.length pt;have ll:=Paired.length pl;have lo:=Paired.length po;have n1:=lS "axis";have n2:=lS "table";have n3:=lS "let";have n4:=lS "out";refine ⟨_,rfl,d,_,rfl,gd "axis" (by simp [S4]) _ (A1b.refl _),ad "axis",rfl,⟨_,SqL.of hva⟩,λD1 hD1=> ?_⟩;refine A2h (K:=K) (a:=ad "axis") (D:=D1) (xs:=va) (λi ys G=>A1b H5 G/\G D1=some (.lst ys)/\(∀ws∈(A7j "axis" (kwR rr)).take i,B3b ws=true)/\∃ax:List (Str×Int),ax.length=i/\Paired (λv (e:Str×Int)=>∃q,v=V.ref q/\G q=some (.tup [.str e.1,.int e.2])) ys ax) ⟨A0f hD1,A0c,(λws hws=>by cases hws),[],rfl,.nil⟩ (by rintro i ys G ⟨s2,_⟩;exact SqL.of (s2 _ _ hva)) ?_ ?_
  ·rintro i v ys G hv ⟨sG,hDG,al,ax,lax,pr⟩;have hi:=(Z03.mp hv).1;obtain ⟨e,he,a,rfl,ha⟩:=B4e pa hv;have me:=Z13 he;have oke:=okS me;have lp:=Paired.length pr;refine ⟨True.intro,_,rfl,a,e,rfl,⟨sG _ _ ha,oke.1,oke.2⟩,λhb q y n G2 s2 hq=>⟨s2 _ _ hDG,A1p (by lia),A0j (sG.trans s2) hD1,A0c,λws hws=> ?_,ax++[(y,n)],by simp [lax],?_⟩,λhb G2 s2=>k2 (by rw [C0l me hb];simp) G2 (s05.trans (sG.trans s2))⟩
   ·rw [Z14,he] at hws;rcases Z07.mp hws with z | z
    ·exact al ws z
    ·rw [Z0w.mp z];exact hb
   ·refine Paired.snoc ⟨q,rfl,by rw [A0l (A3q hq (s2 _ _ hDG) (by intro z;cases z))];exact hq⟩ (Paired.mapP pr λ_ _ z=> ?_);obtain ⟨b,z1,z3⟩:=z;exact ⟨b,z1,by rw [A0l (A3q (s2 _ _ z3) (s2 _ _ hDG) (by intro z;cases z))];exact s2 _ _ z3⟩
  rintro y1 H6 ⟨s6,hD6,al1,ax,lax,p6⟩;rw [la,Z18] at al1;rw [List.all_eq_true.mpr al1,Bool.true_and] at k1 k2;have s06:=s05.trans s6;refine ⟨_,rfl,d,_,rfl,gd "table" (by simp [S4]) _ s6,ad "table",rfl,⟨_,SqL.of (s6 _ _ hvt)⟩,λD2 hD2=> ?_⟩;refine A2h (K:=K) (a:=ad "table") (D:=D2) (xs:=vt) (λi ys G=>A1b H6 G/\G D2=some (.lst ys)/\(∀ws∈(A7j "table" (kwR rr)).take i,A6b ws=true)/\∃tb:List (Str×List Str),tb.length=i/\(∀e∈tb,e.2.length<=100)/\Paired (λv (e:Str×List Str)=>∃q c,v=V.ref q/\c≠D2/\G q=some (.tup [.str e.1,.ref c])/\G c=some (.lst (e.2.map V.str))) ys tb) ⟨A0f hD2,A0c,(λws hws=>by cases hws),[],rfl,(λe he=>by cases he),.nil⟩ (by rintro i ys G ⟨s2,_⟩;exact SqL.of (s2 _ _ (s6 _ _ hvt))) ?_ ?_
  ·rintro i v ys G hv ⟨sG,hDG,al,tb,ltb,ob,pr⟩;have hi:=(Z03.mp hv).1;obtain ⟨e,he,a,rfl,ha⟩:=B4e pt hv;have me:=Z13 he;have oke:=okS me;have lp:=Paired.length pr;refine ⟨True.intro,_,rfl,a,e,rfl,⟨sG _ _ (s6 _ _ ha),oke.1,oke.2⟩,λhb q c y zs G2 s2 hq hc lz fc=>⟨s2 _ _ hDG,A1p (by lia),A0j (sG.trans s2) hD2,A0c,λws hws=> ?_,tb++[(y,zs)],by simp [ltb],λf hf=> ?_,?_⟩,λhb G2 s2=>k2 (by rw [C0l me hb];simp) G2 (s06.trans (sG.trans s2))⟩
   ·rw [Z14,he] at hws;rcases Z07.mp hws with z | z
    ·exact al ws z
    ·rw [Z0w.mp z];exact hb
   ·rcases Z07.mp hf with z | z
    ·exact ob f z
    ·rw [Z0w.mp z];exact lz
   ·have cD:c≠D2:=(A0r hDG fc).symm;refine Paired.snoc ⟨q,c,rfl,cD,by rw [A0l (A3q hq (s2 _ _ hDG) (by intro z;cases z))];exact hq,by rw [A0l cD];exact hc⟩ (Paired.mapP pr λ_ _ z=> ?_);obtain ⟨b,c',z1,z2,z3,z4⟩:=z;exact ⟨b,c',z1,z2,by rw [A0l (A3q (s2 _ _ z3) (s2 _ _ hDG) (by intro z;cases z))];exact s2 _ _ z3,by rw [A0l z2];exact s2 _ _ z4⟩
  rintro y2 H7 ⟨s7,hD7,al2,tb,ltb,otb,p7⟩;rw [lt,Z18] at al2;rw [List.all_eq_true.mpr al2,Bool.true_and] at k1 k2;have s57:=s6.trans s7;have s07:=s05.trans s57;refine ⟨_,rfl,d,_,rfl,gd "let" (by simp [S4]) _ s57,ad "let",rfl,⟨_,SqL.of (s57 _ _ hvl)⟩,λD3 hD3=> ?_⟩;refine A2h (K:=K) (a:=ad "let") (D:=D3) (xs:=vl) (λi ys G=>A1b H7 G/\G D3=some (.lst ys)/\(∀ws∈(A7j "let" (kwR rr)).take i,C1w ws=true)/\ys.length=i/\∀v∈ys,∃a dx fs,v=V.ref a/\G a=some (.ins t.bn dx fs)) ⟨A0f hD3,A0c,(λws hws=>by cases hws),rfl,λv hv=>by cases hv⟩ (by rintro i ys G ⟨s2,_⟩;exact SqL.of (s2 _ _ (s57 _ _ hvl))) ?_ ?_
  ·rintro i v ys G hv ⟨sG,hDG,al,ly,ob⟩;have hi:=(Z03.mp hv).1;obtain ⟨e,he,a,rfl,ha⟩:=B4e pl hv;have me:=Z13 he;have oke:=okS me;refine ⟨True.intro,_,rfl,a,e,rfl,⟨sG _ _ (s57 _ _ ha),oke.1,oke.2⟩,λhb b dx fs G2 s2 hq=>⟨s2 _ _ hDG,A1p (by lia),A0j (sG.trans s2) hD3,A0c,λws hws=> ?_,by simp [ly],λv hv=> ?_⟩,λhb G2 s2=>k2 (by rw [C0l me hb];simp) G2 (s07.trans (sG.trans s2))⟩
   ·rw [Z14,he] at hws;rcases Z07.mp hws with z | z
    ·exact al ws z
    ·rw [Z0w.mp z];exact hb
   ·rcases Z07.mp hv with z | z
    ·obtain ⟨a',dx',fs',z1,z2⟩:=ob v z;exact ⟨a',dx',fs',z1,by rw [A0l (A3q z2 hDG (by intro z;cases z))];exact s2 _ _ z2⟩
    ·exact ⟨b,dx,fs,Z0w.mp z,by rw [A0l (A3q hq (s2 _ _ hDG) (by intro z;cases z))];exact hq⟩
  rintro y3 H8 ⟨s8,hD8,al3,ly3,ob3⟩;rw [ll,Z18] at al3;rw [List.all_eq_true.mpr al3,Bool.true_and] at k1 k2;have s58:=s57.trans s8;have s08:=s05.trans s58;refine ⟨_,rfl,d,_,rfl,gd "out" (by simp [S4]) _ s58,ad "out",rfl,⟨_,SqL.of (s58 _ _ hvo)⟩,λD4 hD4=> ?_⟩;refine A2h (K:=K) (a:=ad "out") (D:=D4) (xs:=vo) (λi ys G=>A1b H8 G/\G D4=some (.lst ys)/\(∀ws∈(A7j "out" (kwR rr)).take i,C5y ws=true)/\∃os:List Str,os.length=i/\ys=os.map V.str) ⟨A0f hD4,A0c,(λws hws=>by cases hws),[],rfl,rfl⟩ (by rintro i ys G ⟨s2,_⟩;exact SqL.of (s2 _ _ (s58 _ _ hvo))) ?_ ?_
  ·rintro i v ys G hv ⟨sG,hDG,al,os,los,rfl⟩;have hi:=(Z03.mp hv).1;obtain ⟨e,he,a,rfl,ha⟩:=B4e po hv;have me:=Z13 he;have oke:=okS me;refine ⟨True.intro,_,rfl,a,e,rfl,⟨sG _ _ (s58 _ _ ha),oke.1,oke.2⟩,λhb y G2 s2=>⟨s2 _ _ hDG,A1p (by rw [Z08];lia),A0j (sG.trans s2) hD4,A0c,λws hws=> ?_,os++[y],by simp [los],by rw [Z0s];rfl⟩,λhb G2 s2=>k2 (by rw [C0l me hb]) G2 (s08.trans (sG.trans s2))⟩;rw [Z14,he] at hws;rcases Z07.mp hws with z | z
   ·exact al ws z
   ·rw [Z0w.mp z];exact hb
  rintro y4 H9 ⟨s9,hD9,al4,os,los,rfl⟩;rw [lo,Z18] at al4;have s89:=s8.trans s9;have s79:=s7.trans s89;have s09:=s08.trans s9;refine ⟨_,rfl,_,rfl,_,rfl,_,rfl,_,rfl,λy dy hy hdy hne=> ?_⟩;have u:A1b H9 (upd (upd H9 dy (.own y)) y (.ins t.ac dy [])):=A0j (A0f hdy) hy;have r1:Rep H9 (.ref D1) (A7y ax):= .lst (s79 _ _ hD6) (B8y (λv e z=>by obtain ⟨q,rfl,hq⟩:=z;exact .tup (s79 _ _ hq) (.cons (.str _) (.cons (.int _) .nil))) p6);have r2:Rep H9 (.ref D2) (B4v tb):= .lst (s89 _ _ hD7) (B8y (λv e z=>by obtain ⟨q,c,rfl,_,hq,hc⟩:=z;exact D9m (s89 _ _ hq) (s89 _ _ hc)) p7);refine ⟨y,dy,D1,D2,D3,D4,_,ax,tb,y3,os,rfl,A0c,r1.same u,by lia,r2.same u,by lia,otb,u _ _ (s9 _ _ hD8),by lia,λv hv=> ?_,(D1k hD9).same u,by lia,λa' t' l' o' H' e1 x1 x2 n1 e2 x3 kb=>⟨rfl,?_⟩⟩
  ·obtain ⟨a,dx,fs,rfl,ha⟩:=ob3 v hv;have ha9:=s9 _ _ ha;exact ⟨a,dx,fs,rfl,A0r ha9 hy,u _ _ ha9⟩
  ·have sF:A1b H9 H':=λb o e=>kb b o (A0r e hy) (u _ _ e);exact k1 (List.all_eq_true.mpr al4) y _ _ H' (s09.trans sF) e1
theorem D9x:(0:Int)<10^(60:Int).toNat:=by decide +kernel
theorem D4r:sg ("if":Str)=[105,102]:=by decide +kernel
theorem C4w:sg ("sum":Str)=[115,117,109]:=by decide +kernel
theorem C3g:Ltr "if":=⟨by rw [D4r];simp,by rw [D4r];decide,by decide +kernel⟩
theorem B8b:Ltr "sum":=⟨by rw [C4w];simp,by rw [C4w];decide,by decide +kernel⟩
theorem D2d:∀c∈abc.cps.toList,97<=c/\c<=122:=by decide +kernel
def D0w (K:Frag):Sp:=λvs H Q _=>∃(a:Addr) (ns:List Int) (k:Int),vs=[.ref a,.int k]/\SqL K H a (ns.map V.int)/\0<=k/\∀z:Int,Q (.int z) H
def C8e:Sp:=λvs H Q _=>∃c k:Int,vs=[.int c,.int k]/\∀z:Int,Q (.int z) H
def D7j:Sp:=λvs H Q _=>∃r:Int,vs=[.int r]/\∀x:Str,Ltr x->x≠"sum"->x≠"if"->Q (.str x) H
def D6l:Sp:=λvs H Q _=>∃r:Int,vs=[.int r]/\∀(x:Str) (H':Hp),A1b H H'->Ltr x->Q (.str x) H'
def E0d:Sp:=λvs H Q _=>∃r:Int,vs=[.int r]/\∀z:Int,B30 z->Q (.int z) H
theorem A6m (T:Txt K mg t):FO P w base T.ai 1 (D0w K):=by
 refine T.ai.F.ok B6e (by walk_at "ln") λ_ A _ s H _ Q E hr h=> ?_
 ·obtain ⟨a,ns,k,rfl,hS,k0,q⟩:=h
  refine ⟨_,(A0d (A1w (A0n C1l (pv 1) (A0y A1i (by rfl) T.bx Z0r (A0a (pv 0) A0b)) (A0z _))
    (A0h (A0u (A2i A1d (pv 0) (pv 1) (λ_ _=>rfl))))
    A0m)
   (A0h (A0u A0e))),?_⟩
  refine ⟨_,rfl,_,rfl,a,_,rfl,.inl hS,_,_,rfl,rfl,_,rfl,A3z (λhk=> ?_) (λ_=>q 0)⟩;obtain ⟨z,_,e⟩:=A5e (f:=V.int) (xs:=ns) k0 (by simpa using hk);exact ⟨_,rfl,_,rfl,a,_,_,_,rfl,rfl,hS,e,q _⟩
theorem B0b (T:Txt K mg t):FO P w base T.bg 1 C8e:=by
 refine T.bg.F.ok C0x (by walk_at "ln") λ_ A _ s H _ Q E hr h=> ?_
 ·obtain ⟨c,k,rfl,q⟩:=h;refine ⟨_,(A0h (A0u (A0k A2w (A0k C0m (A0k A1g (pv 0) (A0k A7v A0e A0e)) A0e) (A0k C0m (A0k A2w (pv 1) A0e) A0e)))),?_⟩;exact ⟨_,rfl,_,_,rfl,rfl,⟨by decide,by decide,by decide⟩,_,_,rfl,rfl,D9x,_,_,rfl,rfl,.inr ⟨by decide,by decide⟩,_,rfl,_,_,rfl,rfl,_,_,rfl,rfl,.inr ⟨by decide,by decide⟩,_,_,rfl,rfl,q _⟩
theorem B0q (T:Txt K mg t):FO P w base T.df 1 D7j:=by
 refine T.df.F.ok A3h (by walk_at "ln") λ_ A _ s H _ Q E hr h=> ?_
 ·obtain ⟨r,rfl,q⟩:=h
  refine ⟨_,(A0d (A0x (i:=1) A3h.nd rfl (.inl rfl) A0g)
   (A0d (A5l PassesOwn.never rfl (A4i rfl T.e6 (A0a (A0k A2w (A0k A2w A0e (A0k A1g (pv 0) A0e)) (A0k C0m (A0k A1g (A0k A1k (pv 0) A0e) A0e) (A0k A1g (A0k A1k (pv 0) A0e) A0e))) A0b)) (A0p (i:=2) A3h.nd rfl (.inl rfl))
    (A0d (A0x (i:=1) A3h.nd rfl (.inl rfl) (A0k A0q (pv 1) (A2i B9q A0g (A0k A1g (A0k A1k (pv 0) A0e) A0e) (λ_ _=>rfl))))
    (A0h (A0x (i:=0) A3h.nd rfl (.inl rfl) (A0k A1k (pv 0) A0e)))))
   (A5f (A1w (PW.pt (C3u (A0n A2s (pv 1) A0g (A0z _)) (B6i (A0n A2s (pv 1) A0g (A0z _)))))
    (A0h (A0x (i:=1) A3h.nd rfl (.inl rfl) (A0k A0q A0g (pv 1))))
    A0m)
   (A0h (A0u (pv 1)))))),?_⟩
  obtain ⟨n,hn,n1,n12⟩:∃n:Nat,1+r%3+r/3%4*(r/12%4)=(n:Int)/\1<=n/\n<=12:=by
   have a1:0<=r%3/\r%3<=2:=by lia
   have a2:0<=r/3%4/\r/3%4<=3:=by lia
   have a3:0<=r/12%4/\r/12%4<=3:=by lia
   generalize r/3%4=b at a2⊢;generalize r/12%4=c at a3⊢;have b4:b=0\/b=1\/b=2\/b=3:=by lia
   refine ⟨(1+r%3+b*c).toNat,?_,?_,?_⟩ <;> rcases b4 with rfl | rfl | rfl | rfl <;> lia
  refine ⟨_,rfl,_,_,rfl,rfl,D8b,_,_,rfl,rfl,_,rfl,_,_,rfl,rfl,⟨by decide,by decide⟩,_,_,rfl,rfl,C8z,_,rfl,_,_,rfl,rfl,⟨by decide,by decide⟩,_,_,rfl,rfl,C8z,_,_,rfl,rfl,.inr ⟨by show -(2^64)<r/12%4;lia,by show r/12%4<2^64;lia⟩,_,_,rfl,rfl,(n:Int),congrArg (λz=>[V.int z]) hn,by lia,by lia,?_⟩;refine A4k (n:=((n:Int)).toNat) (λi σ G=>H=G/\∃(r':Int) (o2:Option V) (x:Str),σ=[Sio r',Sso x,o2]/\(sg x).length=i/\∀c∈sg x,97<=c/\c<=122) ⟨rfl,r,none,"",rfl,rfl,by intro c hc;rw [show sg ("":Str)=[] by decide +kernel] at hc;cases hc⟩ ?_ ?_
  ·rintro i σ G hi ⟨rfl,r',o2,x,rfl,lx,cx⟩;obtain ⟨ch,e1,e2⟩:=C5n (xs:=abc.cps.toList) (i:=r'/48%26) (by lia) (by rw [D0o];lia);have sl:=A1r x;have l1:(⟨#[ch]⟩:Str).length=1:=rfl;refine ⟨_,rfl,_,rfl,_,_,rfl,rfl,⟨by decide,by decide⟩,_,_,rfl,rfl,E0l,_,_,ch,rfl,rfl,A0t (by show abc.length<=_;rw [C7t];decide),e2,_,_,rfl,rfl,A0t (by lia),?_⟩;refine ⟨_,rfl,_,_,rfl,rfl,⟨by decide,by decide⟩,rfl,_,_,_,rfl,?_,λc hc=> ?_⟩
   ·rw [A1o,Z06,lx];rfl
   ·rw [A1o] at hc;rcases Z07.mp hc with h | h
    ·exact cx c h
    ·rw [show c=ch by simpa [sg] using h];exact D2d ch (Z13 e1)
  rintro σ G ⟨rfl,r',o2,x,rfl,lx,cx⟩;have lx:(sg x).length=n:=by rw [lx];lia
  have ne:sg x≠[]:=λe=>by rw [e] at lx;simp at lx;lia
  have lt:Ltr x:=⟨ne,cx,by rw [<-A1r];lia⟩;refine ⟨λσ G=>H=G/\∃y:Str,σ=[Sio r',Sso y,o2]/\Ltr y/\y≠"sum"/\y≠"if",?_,?_⟩
  ·have fin:(x="if"\/x="sum")->Ltr ("i"++x)/\("i"++x)≠"sum"/\("i"++x)≠"if":=λh=>by
    rcases h with rfl | rfl
    ·have e:sg (("i":Str)++"if")=[105,105,102]:=by decide +kernel
     exact ⟨⟨by rw [e];simp,by rw [e];decide,by decide +kernel⟩,by decide +kernel,by decide +kernel⟩
    ·have e:sg (("i":Str)++"sum")=[105,115,117,109]:=by decide +kernel
     exact ⟨⟨by rw [e];simp,by rw [e];decide,by decide +kernel⟩,by decide +kernel,by decide +kernel⟩
   have l20:=lt.ln;have li:("i":Str).length=1:=by decide +kernel
   refine ⟨_,rfl,rfl,_,rfl,A3z (λh1=> ?_) (λh1=> ?_)⟩
   ·obtain ⟨f1,f2,f3⟩:=fin (.inl (by injection h1));exact ⟨_,rfl,_,_,rfl,rfl,A0t (by lia),rfl,_,rfl,f1,f2,f3⟩
   ·refine ⟨_,rfl,rfl,_,rfl,A3z (λh2=> ?_) (λh2=> ?_)⟩
    ·obtain ⟨f1,f2,f3⟩:=fin (.inr (by injection h2));exact ⟨_,rfl,_,_,rfl,rfl,A0t (by lia),rfl,_,rfl,f1,f2,f3⟩
    ·exact ⟨rfl,x,rfl,lt,λe=>h2 (by rw [e]),λe=>h1 (by rw [e])⟩
  rintro σ G ⟨rfl,y,rfl,y1,y2,y3⟩;exact ⟨_,rfl,q y y1 y2 y3⟩
theorem A5x (T:Txt K mg t):FO P w base T.ba 2 D6l:=by
 have Gd3:= @B0q P w K mg base t T;refine T.ba.F.ok B8p (by walk_at "ln") λ_ A _ s H _ Q E hr h=> ?_
 ·obtain ⟨r,rfl,q⟩:=h
  refine ⟨_,(A0d (A1w (A0n A2s (A0k A1g (A0k A1k (pv 0) A0e) A0e) A0e (A0z _))
    (A0h (A0u (A2i A1d (A2e (A0a A0g (A0a A0g A0b))) (A0k A1g (A0k A1k (pv 0) A0e) A0e) (λ_ _=>rfl))))
    A0m)
   (A0h (A0u (pcl Gd3 hr T.df (A0a (pv 0) A0b))))),?_⟩
  refine ⟨_,rfl,_,_,rfl,rfl,⟨by decide,by decide⟩,_,_,rfl,rfl,D9s,rfl,_,rfl,A3z (λ_=> ?_) (λ_=> ?_)⟩
  ·refine ⟨A0w rfl,λz hz=> ?_⟩;obtain ⟨x,hx,e⟩:=A5e (f:=V.str) (xs:=(["if","sum"]:List Str)) (i:=r/88%2) (by lia) (by show r/88%2<2;lia)
   have lx:Ltr x:=by
    have:=Z13 hx;simp only [Z0e,Z1i,or_false] at this;rcases this with rfl | rfl
    ·exact C3g
    ·exact B8b
   exact ⟨_,rfl,_,_,rfl,rfl,⟨by decide,by decide⟩,_,_,rfl,rfl,D7g,z,_,_,_,rfl,rfl,SqL.of A0c,e,q x _ (A0f hz) lx⟩
  ·exact ⟨_,rfl,r,rfl,λx lx _ _=>q x H (A1b.refl _) lx⟩
theorem A7p (T:Txt K mg t):FO P w base T.bc 1 E0d:=by
 refine T.bc.F.ok B3e (by walk_at "ln") λ_ A _ s H _ Q E hr h=> ?_
 ·obtain ⟨r,rfl,q⟩:=h;have e30:((10:Int)^(30:Int).toNat)=1000000000000000000000000000000:=by decide +kernel
  have n30:(10:Nat)^30=1000000000000000000000000000000:=by decide +kernel
  have hp:(0:Int)<2*(10:Int)^(30:Int).toNat-1:=by rw [e30];decide
  refine ⟨_,(A0d (A1w (A0n A2s (A0k A1g (pv 0) A0e) A0e (A0z _))
    (A0h (A0u (A0k A7q (A0k A1g (A0k A1k (pv 0) A0e) (A0k A7q (A0k C0m A0e (A0k A7v A0e A0e)) A0e)) (A0k A7q (A0k A7v A0e A0e) A0e))))
    A0m)
   (A0h (A0u (A0k A7q (A0k A1g (A0k A1k (pv 0) A0e) A0e) A0e)))),?_⟩
  refine ⟨_,rfl,_,_,rfl,rfl,D8b,rfl,_,rfl,A3z (λ_=> ?_) (λ_=> ?_)⟩
  ·refine ⟨_,rfl,_,_,rfl,rfl,⟨by decide,by decide⟩,_,_,rfl,rfl,⟨by decide,by decide,by decide⟩,_,_,rfl,rfl,.inl ⟨by decide,by decide⟩,_,_,rfl,rfl,_,_,rfl,rfl,hp,_,_,rfl,rfl,⟨by decide,by decide,by decide⟩,_,_,rfl,rfl,_,_,rfl,rfl,q _ ?_⟩;have h1:=Z1v (r/3) (show (2*(10:Int)^(30:Int).toNat-1)≠0 by lia);have h2:=Z1p (r/3) hp;unfold B30;rw [e30] at h1 h2⊢;rw [n30]
   lia
  ·refine ⟨_,rfl,_,_,rfl,rfl,⟨by decide,by decide⟩,_,_,rfl,rfl,E0o,_,_,rfl,rfl,q _ ?_⟩;unfold B30;rw [n30]
   lia
theorem B6s {ix:List (Str×Int)} (h:∀e∈ix,D3o e.1/\Sm e.2) (hl:ix.length<=12):(B4a ix).length<=800:=by
 have j:=StrLaws.join_length_le "," (ix.map B6d);have s:=C5l ix h;have p:((",":Str)).length=1:=by decide +kernel
 have e:B4a ix=Str.join "," (ix.map B6d):=StrLaws.glued_eq_join _ _;rw [e];rw [p,Z08] at j
 lia
def C5v:Tm->Prop
 | .num z=>B30 z
 | .place x=>Ltr x/\x≠"sum"/\x≠"if"
 | .read a ix=>Ltr a/\ix.length<=12/\∀e∈ix,B1h e
 | .sum x b=>Ltr x/\C5v b
 | .pair _ l r=>C5v l/\C5v r
 | .guard x lo hi l r=>Ltr x/\B30 lo/\B30 hi/\C5v l/\C5v r
theorem D6c {x:Str} (h:Ltr x):D3o x:=⟨h.ln,D5p.mpr λc hc=>by have:=h.dg c hc;lia⟩
theorem B2r {z:Int} (h:B30 z):Sm z:=by unfold Sm;unfold B30 at h;exact Z1n (Nat.le_of_lt h) (by decide)
theorem ixW {e:Str×Int} (h:B1h e):D3o e.1/\Sm e.2:=⟨by exact h.1.elim (λz=>by rw [z];exact ⟨by decide,by decide +kernel⟩) D6c,B2r h.2⟩
def axW (e:Str×Nat):List Str:=[e.1,(toString (e.2:Int):Str)]
def tbW (e:Str×List Str):List Str:=e.1::e.2
def ltW (e:Lt):List Str:=e.1::(e.2.1++("=":Str)::A1f e.2.2)
structure D8w (e:Str×List Str):Prop where
 nm:Ltr e.1
 ax:∀y∈e.2,Ltr y
 ln:e.2.length<=3
structure D7e (e:Lt):Prop where
 nm:Ltr e.1
 ax:∀y∈e.2.1,Ltr y
 ln:e.2.1.length<=3
 tm:C5v e.2.2
 dp:dep e.2.2<=5
theorem C8o {x:Str} (h:Ltr x):x≠"=":=λe=>by
 have:sg ("=":Str)=[61]:=by decide +kernel
 exact B6r h (c:=61) (by decide) (by rw [e,this];simp)
structure Prg where
 wh:Nat
 ax:List (Str×Nat)
 tb:List (Str×List Str)
 ls:List Lt
 os:List Str
structure B2y (p:Prg):Prop where
 w2:2<=p.wh
 w30:p.wh<10^30
 ax:∀e∈p.ax,Ltr e.1/\1<=e.2/\e.2<=60
 tb:∀e∈p.tb,D8w e
 ls:∀e∈p.ls,D7e e
 os:∀x∈p.os,Ltr x
 l1:p.ax.length<=20
 l2:p.tb.length<=20
 l3:p.ls.length<=20
 l4:p.os.length<=20
def kwP (p:Prg):List (Str×List Str):=p.ax.map (λe=>(("axis":Str),axW e))++(p.tb.map (λe=>(("table":Str),tbW e))++(p.ls.map (λe=>(("let":Str),ltW e))++p.os.map (λx=>(("out":Str),[x]))))
def A2x (p:Prg):List (List Str):=[("wheel":Str),(toString (p.wh:Int):Str)]::(kwP p).map λe=>e.1::e.2
theorem D6f (p:Prg):∀e∈kwP p,e.1∈S4:=by
 intro e he;unfold kwP at he;simp only [Z07,Z2c] at he;rcases he with ⟨_,_,rfl⟩ | ⟨_,_,rfl⟩ | ⟨_,_,rfl⟩ | ⟨_,_,rfl⟩ <;> simp [S4]
theorem D9k (p:Prg):(kwP p).Pairwise λa b=>S4.idxOf a.1<=S4.idxOf b.1:=by
 have i0:S4.idxOf ("axis":Str)=0:=by decide +kernel
 have i1:S4.idxOf ("table":Str)=1:=by decide +kernel
 have i2:S4.idxOf ("let":Str)=2:=by decide +kernel
 have i3:S4.idxOf ("out":Str)=3:=by decide +kernel
 have one:∀{α:Type} (f:α->List Str) (c:Str) (l:List α),(l.map λe=>(c,f e)).Pairwise λa b=>S4.idxOf a.1<=S4.idxOf b.1:=λf c l=>by
  rw [List.pairwise_map];exact List.pairwise_of_forall λ_ _=>Z09 _
 unfold kwP;rw [List.pairwise_append,List.pairwise_append,List.pairwise_append];refine ⟨one _ _ _,⟨one _ _ _,⟨one _ _ _,one _ _ _,?_⟩,?_⟩,?_⟩
 ·intro a ha b hb;obtain ⟨_,_,rfl⟩:=Z2c.mp ha;obtain ⟨_,_,rfl⟩:=Z2c.mp hb;show S4.idxOf ("let":Str)<=S4.idxOf ("out":Str)
  lia
 ·intro a ha b hb;obtain ⟨_,_,rfl⟩:=Z2c.mp ha;show S4.idxOf ("table":Str)<=_;rcases Z07.mp hb with hb | hb <;> obtain ⟨_,_,rfl⟩:=Z2c.mp hb
  ·show _<=S4.idxOf ("let":Str);lia
  ·show _<=S4.idxOf ("out":Str);lia
 ·intro a ha b hb;obtain ⟨_,_,rfl⟩:=Z2c.mp ha;show S4.idxOf ("axis":Str)<=_;rw [i0];exact Z1e _
theorem D6x {p:Prg} (h:B2y p):(kwP p).length<=80:=by
 have:=h.l1;have:=h.l2;have:=h.l3;have:=h.l4;unfold kwP;simp only [Z06,Z08]
 lia
theorem A5i:∀(u:Tm) (n:Nat),dep u<=n+1->(A1f u).length+4<=5*2^n
 | .num _,n,_=>by have:=Nat.one_le_two_pow (n:=n);simp only [A1f,Z0y,Z2g];lia
 | .place _,n,_=>by have:=Nat.one_le_two_pow (n:=n);simp only [A1f,Z0y,Z2g];lia
 | .read _ _,n,_=>by have:=Nat.one_le_two_pow (n:=n);simp only [A1f,Z0y,Z2g];lia
 | .sum _ b,0,h=>by have:=B6c b;simp only [dep] at h;lia
 | .sum _ b,n+1,h=>by
  have:=A5i b n (by simp only [dep] at h;lia);have:=Nat.one_le_two_pow (n:=n);rw [Nat.pow_succ];simp only [A1f,Z0y,Z06,Z2g];lia
 | .pair _ l _,0,h=>by have:=B6c l;simp only [dep] at h;lia
 | .pair _ l r,n+1,h=>by
  have:=A5i l n (by simp only [dep] at h;lia);have:=A5i r n (by simp only [dep] at h;lia);rw [Nat.pow_succ];simp only [A1f,Z0y,Z06,Z2g];lia
 | .guard _ _ _ l _,0,h=>by have:=B6c l;simp only [dep] at h;lia
 | .guard _ _ _ l r,n+1,h=>by
  have:=A5i l n (by simp only [dep] at h;lia);have:=A5i r n (by simp only [dep] at h;lia);rw [Nat.pow_succ];simp only [A1f,Z0y,Z06,Z2g];lia
theorem B8c {c:Nat} {p:List Nat}:∀{ps:List (List Nat)},ps≠[]->jn c (ps++[p])=jn c ps++c::p
 | [],h=>absurd rfl h
 | [q],_=>rfl
 | q::r::ps,_=>by
  have:=B8c (c:=c) (p:=p) (ps:=r::ps) (by simp);rw [Z17,Z17,jn,<-Z17,this,jn];simp
def B9r (ix:List (Str×Int)):Str:=if ix=[] then B4a ix else B4a ix++","
theorem B8t (ix:List (Str×Int)) (e:Str×Int):B4a (ix++[e])=B9r ix++B6d e:=by
 refine A4l ?_;unfold B9r;by_cases h:ix=[]
 ·rw [Z12 h,h,A1o,B0o,B0o,C4l];rfl
 ·rw [Z0t h,A1o,A1o,B0o,B0o,C4l,Z0s,Z0p,List.map_nil,B8c (by simpa using h),B8u];simp [sg]
theorem D6j (a b c d:Str):a++b++c++d=a++b++(c++d):=A4l (by simp only [A1o,Z0z])
def D9v:Sp:=λvs H Q _=>∃r:Int,vs=[.int r]/\∀(a:Str) (ix:List (Str×Int)) (H':Hp),A1b H H'->Ltr a->ix.length<=12->(∀e∈ix,B1h e)->Q (.str (a++"["++B4a ix++"]")) H'
theorem D1c {ix:List (Str×Int)} {e:Str×Int} (h:∀e∈ix,B1h e) (he:B1h e):∀e'∈ix++[e],B1h e':=λe' h'=>(Z07.mp h').elim (h e') (λz=>by rw [Z0w.mp z];exact he)
theorem D6y:B30 0:=by unfold B30;decide
theorem B6g (T:Txt K mg t):FO P w base T.fk 3 D9v:=by
 have Gd4:= @A5x P w K mg base t T;have Gd5:= @A7p P w K mg base t T;refine T.fk.F.ok A1h (by walk_at "ln") λ_ A _ s H _ Q E hr h=> ?_
 ·obtain ⟨r,rfl,q⟩:=h;have lo:("[":Str).length=1:=by decide +kernel
  have lc:("]":Str).length=1:=by decide +kernel
  have lk:(",":Str).length=1:=by decide +kernel
  have lp:("+":Str).length=1:=by decide +kernel
  refine ⟨_,(A0d (A0x (i:=1) A1h.nd rfl (.inl rfl) (A0k A0q (pcl Gd4 hr T.ba (A0a (pv 0) A0b)) A0g))
   (A0d (A0x (i:=0) A1h.nd rfl (.inl rfl) (A0k A1k (pv 0) (A0k A7v A0e A0e)))
   (A0d (A5l PassesOwn.never rfl (A4i rfl T.e6 (A0a (A0k A1g (pv 0) A0e) A0b)) (A0p (i:=2) A1h.nd rfl (.inl rfl))
    (A0d (A0x (i:=0) A1h.nd rfl (.inl rfl) (A0k A1k (pv 0) A0e))
    (A5f (A1w (A0n C1h (pv 2) A0e (A0z _))
     (A0h (A0x (i:=1) A1h.nd rfl (.inl rfl) (A0k A0q (pv 1) A0g)))
     A0m)
    (A0d (A0x (i:=3) A1h.nd rfl (.inl rfl) (pcl Gd5 hr T.bc (A0a (A0k A1k (pv 0) A0e) A0b)))
    (A5f (A1w (A0n A2s (A0k A1g (pv 0) A0e) A0e (A0z _))
     (A0h (A0x (i:=1) A1h.nd rfl (.inl rfl) (A0k A0q (pv 1) (A2b A2k (by rfl) T.j3 PyProof.Rows.boot_str (A0a (pv 3) A0b)))))
     (A0d (A0x (i:=1) A1h.nd rfl (.inl rfl) (A0k A0q (pv 1) (pcl Gd4 hr T.ba (A0a (A0k A1k (pv 0) A0e) A0b))))
     (A5f (A1w (PW.pt (B1w (A0n A2s (A0k A1g (pv 0) A0e) A0e (A0z _)) (A9w (A0n C1l (pv 3) A0e (A0z _)))))
      (A0h (A0x (i:=1) A1h.nd rfl (.inl rfl) (A0k A0q (pv 1) (A2b A2k (by rfl) T.j3 PyProof.Rows.boot_str (A0a (pv 3) A0b)))))
      A0m)
     (A0h (A1w (PW.pt (B1w (A0n A2s (A0k A1g (pv 0) A0e) A0e (A0z _)) (A9w (A0n C1h (pv 3) A0e (A0z _)))))
      (A0h (A0x (i:=1) A1h.nd rfl (.inl rfl) (A0k A0q (A0k A0q (pv 1) A0g) (A2b A2k (by rfl) T.j3 PyProof.Rows.boot_str (A0a (pv 3) A0b)))))
      A0m)))))
    (A0h (A0x (i:=0) A1h.nd rfl (.inl rfl) (A0k A1k (pv 0) A0e))))))))
   (A0h (A0u (A0k A0q (pv 1) A0g)))))),?_⟩
  refine ⟨_,rfl,r,rfl,λa H1 s1 la=> ?_⟩;have l20:=la.ln;refine ⟨_,_,rfl,rfl,A0t (by lia),?_⟩;refine ⟨_,rfl,_,_,rfl,rfl,⟨by decide,by decide,by decide⟩,_,_,rfl,rfl,⟨by decide,by decide⟩,?_⟩;have hm0:=Z1v (r/10^(4:Int).toNat) (show (4:Int)≠0 by decide);have hm4:=Z1p (r/10^(4:Int).toNat) (show (0:Int)<4 by decide);obtain ⟨m,em⟩:∃m:Nat,(r/10^(4:Int).toNat)%4=(m:Int):=⟨_,(Int.toNat_of_nonneg hm0).symm⟩;rw [em] at hm0 hm4;refine ⟨_,rfl,_,_,rfl,rfl,C8z,?_⟩;refine ⟨_,congrArg (λz=>[V.int z]) em,by lia,by lia,?_⟩
  have lW:∀ix:List (Str×Int),ix.length<=12->(∀e∈ix,B1h e)->(a++"["++B4a ix).length<=821:=λix h1 h2=>by
   have:=B6s (λe he=>ixW (h2 e he)) h1;rw [Str.length_append,Str.length_append];lia
  refine A4k (n:=((m:Nat):Int).toNat) (λi σ G=>∃(r':Int) (o2 o3:Option V) (ix:List (Str×Int)),σ=[Sio r',Sso (a++"["++B4a ix),o2,o3]/\A1b H1 G/\ix.length=i/\∀e∈ix,B1h e) ⟨_,none,none,[],by rw [show a++"["++B4a []=a++"[" from A4l (by rw [A1o,B0o];simp [jn])];rfl,A1b.refl _,rfl,by intro e he;cases he⟩ ?_ ?_
  ·rintro i σ G hi ⟨r',o2,o3,ix,rfl,sG,li,ok⟩;have hi:i<12:=by lia
   have lw:=lW ix (by lia) ok;refine ⟨_,rfl,_,_,rfl,rfl,⟨by decide,by decide⟩,?_⟩
   have lpre:(a++"["++B9r ix).length<=822:=by
    unfold B9r;split
    ·lia
    ·rw [<-D6j,Str.length_append];lia
   refine ⟨λσ G'=>σ=[Sio (r'/4),Sso (a++"["++B9r ix),Sio (0+(i:Int)),o3]/\G=G',?_,?_⟩
   ·refine ⟨_,rfl,_,_,rfl,rfl,_,rfl,A3z (λh0=> ?_) (λh0=> ?_)⟩
    ·have h0:0+(i:Int)>0:=h0;have ne:ix≠[]:=λe=>by rw [e] at li;simp at li;lia
     refine ⟨_,rfl,_,_,rfl,rfl,A0t (by lia),?_,rfl⟩;unfold B9r;rw [Z0t ne,<-D6j];rfl
    ·have h0:¬0+(i:Int)>0:=h0;have e0:ix=[]:=Z2n.mp (by lia);refine ⟨?_,rfl⟩;unfold B9r;rw [Z12 e0];rfl
   rintro σ G' ⟨rfl,rfl⟩;refine ⟨_,rfl,_,_,rfl,rfl,⟨by decide,by decide⟩,_,rfl,λz hz=> ?_⟩;have hl:=B3v (B2r hz);have lz:=B1i hz;refine ⟨λσ G'=>∃e:Str×Int,σ=[Sio (r'/4),Sso (a++"["++B4a (ix++[e])),Sio (0+(i:Int)),Sio z]/\A1b G G'/\B1h e,?_,?_⟩
   ·refine ⟨_,rfl,_,_,rfl,rfl,C8z,rfl,_,rfl,A3z (λh0=> ?_) (λh0=> ?_)⟩
    ·refine ⟨_,rfl,_,rfl,z,rfl,hl,_,_,rfl,rfl,A0t (by lia),("",z),?_,A1b.refl _,.inl rfl,hz⟩;rw [B8t,<-D6j];rfl
    ·refine ⟨_,rfl,_,rfl,_,_,rfl,rfl,⟨by decide,by decide⟩,_,rfl,λx G2 s2 lx=>⟨_,_,rfl,rfl,A0t (by have:=lx.ln;lia),?_⟩⟩;have nx:x≠"":=λe=>lx.ne (by rw [e];decide +kernel);have l2:=lx.ln;have lwx:(a++"["++B9r ix++x).length<=842:=by rw [Str.length_append];lia
     refine ⟨λσ G'=>∃y:Str,σ=[Sio (r'/4),Sso y,Sio (0+(i:Int)),Sio z]/\G2=G'/\(r'/4%4=1/\z<0/\y=a++"["++B9r ix++x++(toString z:Str)\/¬(r'/4%4=1/\z<0)/\y=a++"["++B9r ix++x),?_,?_⟩
     ·refine ⟨_,rfl,_,_,rfl,rfl,C8z,rfl,_,rfl,A3z (λh1=> ?_) (λh1=> ?_)⟩
      ·have h1:r'/4%4=1:=by injection h1
       refine ⟨_,rfl,_,_,rfl,rfl,_,rfl,A3z (λh2=> ?_) (λh2=> ?_)⟩
       ·exact ⟨_,rfl,_,rfl,z,rfl,hl,_,_,rfl,rfl,A0t (by lia),_,rfl,rfl,.inl ⟨h1,h2,rfl⟩⟩
       ·exact ⟨_,rfl,rfl,.inr ⟨λc=>h2 c.2,rfl⟩⟩
      ·exact ⟨_,rfl,rfl,.inr ⟨λc=>h1 (by show V.int (r'/4%4)=V.int 1;rw [c.1]),rfl⟩⟩
     rintro σ G' ⟨y,rfl,rfl,hy⟩;have fin:∀e:Str×Int,B1h e->y=a++"["++B9r ix++B6d e->∃e:Str×Int,([some (.int (r'/4)),some (.str y),some (.int (0+(i:Int))),some (.int z)]:St)=[some (.int (r'/4)),some (.str (a++"["++B4a (ix++[e]))),some (.int (0+(i:Int))),some (.int z)]/\A1b G G2/\B1h e:=λe he hy=>⟨e,by rw [hy,B8t,D6j],s2,he⟩;refine ⟨_,rfl,_,_,rfl,rfl,C8z,rfl,_,rfl,A3z (λh1=> ?_) (λh1=> ?_)⟩
     ·have h1:r'/4%4=1:=by injection h1
      refine ⟨_,rfl,_,_,rfl,rfl,_,rfl,A3z (λh2=> ?_) (λh2=> ?_)⟩
      ·have h2:z>0:=h2;rcases hy with ⟨_,h3,_⟩ | ⟨_,hy⟩
       ·lia
       ·subst hy;have l4:(a++"["++B9r ix++x++"+").length<=843:=by rw [Str.length_append];lia
        refine ⟨_,rfl,_,_,rfl,rfl,A0t (by lia),_,rfl,z,rfl,hl,_,_,rfl,rfl,A0t (by lia),(x,z),?_,s2,.inr lx,hz⟩
        have e:B6d (x,z)=x++"+"++(toString z:Str):=by
         unfold B6d;rw [Z0t nx,Z0t (by show¬z=0;lia),Z12 h2]
        rw [B8t,<-D6j,e];rw [show a++"["++B9r ix++(x++"+"++(toString z:Str))=a++"["++B9r ix++x++"+"++(toString z:Str) from A4l (by simp only [A1o,Z0z])];rfl
      ·have h2:¬z>0:=h2;rcases hy with ⟨_,h3,hy⟩ | ⟨h3,hy⟩
       ·refine fin (x,z) ⟨.inr lx,hz⟩ ?_
        have e:B6d (x,z)=x++(toString z:Str):=by
         unfold B6d;rw [Z0t nx,Z0t (by show¬z=0;lia),Z0t h2]
        rw [hy,e];exact A4l (by simp only [A1o,Z0z])
       ·refine fin (x,0) ⟨.inr lx,D6y⟩ ?_;have e:B6d (x,0)=x:=by unfold B6d;rw [Z0t nx,Z12 rfl]
        rw [hy,e]
     ·rcases hy with ⟨h3,_,hy⟩ | ⟨h3,hy⟩
      ·exact absurd (show V.int (r'/4%4)=V.int 1 by rw [h3]) h1
      ·refine fin (x,0) ⟨.inr lx,D6y⟩ ?_;have e:B6d (x,0)=x:=by unfold B6d;rw [Z0t nx,Z12 rfl]
       rw [hy,e]
   rintro σ G' ⟨e,rfl,s2,oe⟩;exact ⟨_,rfl,_,_,rfl,rfl,⟨by decide,by decide⟩,_,_,_,_,rfl,sG.trans s2,by rw [Z06,li];rfl,D1c ok oe⟩
  ·rintro σ G ⟨r',o2,o3,ix,rfl,sG,li,ok⟩;have:=lW ix (by lia) ok;exact ⟨_,rfl,_,_,rfl,rfl,A0t (by lia),q a ix G (s1.trans sG) la (by lia) ok⟩
def C7a (K:Frag) (n:Nat):Sp:=λvs H Q _=>∃(a:Addr) (ns:List Int) (at_:Int),vs=[.ref a,.int at_,.int (n:Nat)]/\SqL K H a (ns.map V.int)/\0<=at_/\
 ∀(p W:Addr) (u:Tm) (at':Int) (H':Hp),A1b H H'->H' p=some (.tup [.ref W,.int at'])->H' W=some (.lst ((A1f u).map V.str))->H W=none->C5v u->dep u<=n+1->nod u+1<=2^(n+1)->0<=at'->Q (.ref p) H'
theorem D9l {x:Str} (h:x∈(["+","-","*"]:List Str)):∃o:Op3,x=o.sign:=by
 simp only [Z0e,Z1i,or_false] at h;rcases h with rfl | rfl | rfl
 ·exact ⟨.plus,rfl⟩
 ·exact ⟨.minus,rfl⟩
 ·exact ⟨.times,rfl⟩
theorem C5r (T:Txt K mg t) {n m:Nat} {sp':Sp} (hn:n<=4) (hm:4<=m) (Gd6:A3e P w K mg base CX0 m t.cb t.cg C1s sp') (hs0:∀vs H Q,1<=n->C7a K (n-1) vs H Q E0->sp' vs H Q E0):A3e P w K mg base CX0 (m+1) t.cb t.cg C1s (C7a K n):=by
 have Gd4:= @A5x P w K mg base t T;have Gd7:= @A6m P w K mg base t T;have Gd8:= @B0b P w K mg base t T;have Gd3:= @B0q P w K mg base t T;have Gd5:= @A7p P w K mg base t T;have Gd9:= @B6g P w K mg base t T;refine T.bq.F.ok A1u (by walk_at "ln") λ_ A _ s H _ Q E hr h=> ?_
 ·obtain ⟨a,ns,at_,rfl,hS,h0,k⟩:=h;have p32:2^(n+1)<=32:=Nat.pow_le_pow_right (by decide) (by lia:n+1<=5);refine ⟨_,(@A0d _ _ _ _ _ (@A0x _ _ 3 _ _ _ _ A1u.nd rfl (.inl rfl) (pcl Gd8 hr T.bg (@A0a _ _ _ _ _ (pcl Gd7 hr T.ai (@A0a _ _ _ _ _ (pv 0) (@A0a _ _ _ _ _ (pv 1) A0b rfl) rfl)) (@A0a _ _ _ _ _ (pv 1) A0b rfl) rfl)) rfl (by first | exact Or.inl rfl | exact Or.inr rfl | assumption)) (@A0d _ _ _ _ _ (@A0x _ _ 4 _ _ _ _ A1u.nd rfl (.inl rfl) (@A0k _ _ _ _ _ _ _ _ A1g (pv 3) A0e) rfl (by first | exact Or.inl rfl | exact Or.inr rfl | assumption)) (@A0d _ _ _ _ _ (@A0x _ _ 3 _ _ _ _ A1u.nd rfl (.inl rfl) (@A0k _ _ _ _ _ _ _ _ A1k (pv 3) A0e) rfl (by first | exact Or.inl rfl | exact Or.inr rfl | assumption)) (@A5f _ _ _ _ _ (@A1w _ _ _ _ _ _ _ _ (PW.pt (B1w (@A0n _ _ _ _ _ _ _ _ C1h (pv 2) A0e (A0z _)) (A9w (@A0n _ _ _ _ _ _ _ _ C1h (pv 4) A0e (A0z _))))) (@A0d _ _ _ _ _ (A5k (pcl Gd6 hr T.bq (@A0a _ _ _ _ _ (pv 0) (@A0a _ _ _ _ _ (@A0k _ _ _ _ _ _ _ _ A2w (pv 1) A0e) (@A0a _ _ _ _ _ (@A0k _ _ _ _ _ _ _ _ A7q (pv 2) A0e) A0b rfl) rfl) rfl)) (A7r (n:=2) rfl (A1c (A0p (i:=5) A1u.nd rfl (.inl rfl)) (A1c (A0p (i:=1) A1u.nd rfl (.inl rfl)) A5c)))) (@A5f _ _ _ _ _ (@A1w _ _ _ _ _ _ _ _ (@A0n _ _ _ _ _ _ _ _ A2s (pv 4) A0e (A0z _)) (@A0h _ _ _ (@A0u _ _ _ _ (@A3v _ _ _ _ _ (@A0a _ _ _ _ _ (@A0k _ _ _ _ _ _ _ _ A6q (@A2e _ _ _ _ (@A0a _ _ _ _ _ A0g (@A0a _ _ _ _ _ (pcl Gd4 hr T.ba (@A0a _ _ _ _ _ (pv 3) A0b rfl)) A0b rfl) rfl)) (pv 5)) (@A0a _ _ _ _ _ (pv 1) A0b rfl) rfl)))) A0m) (@A0d _ _ _ _ _ (A5k (pcl Gd6 hr T.bq (@A0a _ _ _ _ _ (pv 0) (@A0a _ _ _ _ _ (pv 1) (@A0a _ _ _ _ _ (@A0k _ _ _ _ _ _ _ _ A7q (pv 2) A0e) A0b rfl) rfl) rfl)) (A7r (n:=2) rfl (A1c (A0p (i:=6) A1u.nd rfl (.inl rfl)) (A1c (A0p (i:=1) A1u.nd rfl (.inl rfl)) A5c)))) (@A5f _ _ _ _ _ (@A1w _ _ _ _ _ _ _ _ (@A0n _ _ _ _ _ _ _ _ A2s (pv 4) A0e (A0z _)) (@A0h _ _ _ (@A0u _ _ _ _ (@A3v _ _ _ _ _ (@A0a _ _ _ _ _ (@A0k _ _ _ _ _ _ _ _ A6q (@A0k _ _ _ _ _ _ _ _ A6q (@A2e _ _ _ _ (@A0a _ _ _ _ _ (@A2i _ _ _ _ _ _ _ A1d (@A2e _ _ _ _ (@A0a _ _ _ _ _ A0g (@A0a _ _ _ _ _ A0g (@A0a _ _ _ _ _ A0g A0b rfl) rfl) rfl)) (@A0k _ _ _ _ _ _ _ _ A1g (pv 3) A0e) (λ_ _=>rfl)) A0b rfl)) (pv 5)) (pv 6)) (@A0a _ _ _ _ _ (pv 1) A0b rfl) rfl)))) A0m) (@A0d _ _ _ _ _ (@A0x _ _ 7 _ _ _ _ A1u.nd rfl (.inl rfl) (@A2e _ _ _ _ (@A0a _ _ _ _ _ A0g (@A0a _ _ _ _ _ (pcl Gd4 hr T.ba (@A0a _ _ _ _ _ (pv 3) A0b rfl)) (@A0a _ _ _ _ _ (A2b A2k (by rfl) T.j3 PyProof.Rows.boot_str (@A0a _ _ _ _ _ (pcl Gd5 hr T.bc (@A0a _ _ _ _ _ (@A0k _ _ _ _ _ _ _ _ A1k (pv 3) (@A0k _ _ _ _ _ _ _ _ A7v A0e A0e)) A0b rfl)) A0b rfl)) (@A0a _ _ _ _ _ (A2b A2k (by rfl) T.j3 PyProof.Rows.boot_str (@A0a _ _ _ _ _ (pcl Gd5 hr T.bc (@A0a _ _ _ _ _ (@A0k _ _ _ _ _ _ _ _ A1k (pv 3) A0e) A0b rfl)) A0b rfl)) A0b rfl) rfl) rfl) rfl)) rfl (by first | exact Or.inl rfl | exact Or.inr rfl | assumption)) (@A0h _ _ _ (@A0u _ _ _ _ (@A3v _ _ _ _ _ (@A0a _ _ _ _ _ (@A0k _ _ _ _ _ _ _ _ A6q (@A0k _ _ _ _ _ _ _ _ A6q (pv 7) (pv 5)) (pv 6)) (@A0a _ _ _ _ _ (pv 1) A0b rfl) rfl))))))))) A0m) (@A5f _ _ _ _ _ (@A1w _ _ _ _ _ _ _ _ (@A0n _ _ _ _ _ _ _ _ C1l (pv 4) A0e (A0z _)) (@A0h _ _ _ (@A0u _ _ _ _ (@A3v _ _ _ _ _ (@A0a _ _ _ _ _ (@A2e _ _ _ _ (@A0a _ _ _ _ _ (A2b A2k (by rfl) T.j3 PyProof.Rows.boot_str (@A0a _ _ _ _ _ (pcl Gd5 hr T.bc (@A0a _ _ _ _ _ (pv 3) A0b rfl)) A0b rfl)) A0b rfl)) (@A0a _ _ _ _ _ (@A0k _ _ _ _ _ _ _ _ A2w (pv 1) A0e) A0b rfl) rfl)))) A0m) (@A5f _ _ _ _ _ (@A1w _ _ _ _ _ _ _ _ (@A0n _ _ _ _ _ _ _ _ A2s (pv 4) A0e (A0z _)) (@A0h _ _ _ (@A0u _ _ _ _ (@A3v _ _ _ _ _ (@A0a _ _ _ _ _ (@A2e _ _ _ _ (@A0a _ _ _ _ _ (pcl Gd3 hr T.df (@A0a _ _ _ _ _ (pv 3) A0b rfl)) A0b rfl)) (@A0a _ _ _ _ _ (@A0k _ _ _ _ _ _ _ _ A2w (pv 1) A0e) A0b rfl) rfl)))) A0m) (@A0h _ _ _ (@A0u _ _ _ _ (@A3v _ _ _ _ _ (@A0a _ _ _ _ _ (@A2e _ _ _ _ (@A0a _ _ _ _ _ (pcl Gd9 hr T.fk (@A0a _ _ _ _ _ (pv 3) A0b rfl)) A0b rfl)) (@A0a _ _ _ _ _ (@A0k _ _ _ _ _ _ _ _ A2w (pv 1) A0e) A0b rfl) rfl)))))))))),?_⟩;refine ⟨_,rfl,_,rfl,a,ns,at_,rfl,hS,h0,λz=>⟨_,rfl,_,_,rfl,λr=> ?_⟩⟩;refine ⟨_,rfl,_,_,rfl,rfl,D9s,?_⟩;refine ⟨_,rfl,_,_,rfl,rfl,⟨by decide,by decide⟩,?_⟩;refine ⟨λσ G=>σ=[Sro a,Sio at_,Sio (n:Nat),Sio (r/8),Sio (r%8),none,none,none]/\H=G,?_,?_⟩
  ·refine ⟨_,rfl,_,_,rfl,rfl,_,rfl,A3z (λh1=>⟨_,rfl,_,_,rfl,rfl,_,rfl,A3z (λh2=> ?_) (λh2=>⟨rfl,rfl⟩)⟩) (λh1=>⟨rfl,rfl⟩)⟩;have h1:((n:Nat):Int)>0:=h1;have n1:1<=n:=by lia
   have en:((n:Nat):Int)-1=((n-1:Nat):Int):=by lia
   have e2:2^(n+1)=2^n+2^n:=by rw [Nat.pow_succ];lia
   refine ⟨_,rfl,_,rfl,_,_,rfl,rfl,_,rfl,_,_,rfl,rfl,hs0 _ _ _ n1 ⟨a,ns,at_+1,congrArg (λz=>[V.ref a,V.int (at_+1),V.int z]) en,hS,by lia,λp1 W1 u1 at1 H1 s1 hp1 hW1 fW1 k1 d1 m1 a1=> ?_⟩⟩;rw [show n-1+1=n by lia] at d1 m1;have w1:=A4j u1;refine ⟨p1,_,rfl,SqT.of hp1,rfl,_,_,rfl,_,_,rfl,rfl,?_⟩;refine ⟨λσ G=>σ=[Sro a,Sio at1,Sio (n:Nat),Sio (r/8),Sio (r%8),Sro W1,none,none]/\H1=G,?_,?_⟩
   ·refine ⟨_,rfl,rfl,_,rfl,A3z (λ_=> ?_) (λ_=>⟨rfl,rfl⟩)⟩;refine ⟨_,rfl,_,rfl,λx H2 s2 lx=>⟨A0w rfl,λz hz=> ?_⟩⟩;have s3:=A0f (o:= .lst [V.str "sum",.str x]) hz;have hz3:upd H2 z (.lst [V.str "sum",.str x]) z=some (.lst [V.str "sum",.str x]):=A0c;generalize upd H2 z (.lst [V.str "sum",.str x])=H3 at s3 hz3⊢;have s13:=s2.trans s3;refine ⟨_,rfl,z,W1,_,_,rfl,rfl,hz3,s13 _ _ hW1,A0t (by simp;lia),λq hq=>⟨_,rfl,A0w rfl,λp hp=> ?_⟩⟩;have s4:=A0f (o:= .lst ([V.str "sum",.str x]++(A1f u1).map V.str)) hq;have s5:=A0f (o:= .tup [V.ref q,.int at1]) hp;exact k p q (.sum x u1) at1 _ (s1.trans (s13.trans (s4.trans s5))) A0c (s5 _ _ (by rw [A0c];simp [A1f])) (s1.free (s13.free hq)) ⟨lx,k1⟩ (by simp only [dep];lia) (by simp only [nod];lia) a1
   rintro σ G ⟨rfl,rfl⟩;refine ⟨_,rfl,_,rfl,_,rfl,_,_,rfl,rfl,hs0 _ _ _ n1 ⟨a,ns,at1,congrArg (λz=>[V.ref a,V.int at1,V.int z]) en,s1.seq hS,a1,λp2 W2 u2 at2 H2 s2 hp2 hW2 fW2 k2 d2 m2 a2=> ?_⟩⟩;rw [show n-1+1=n by lia] at d2 m2;have w2:=A4j u2;have hW12:=s2 _ _ hW1;refine ⟨p2,_,rfl,SqT.of hp2,rfl,_,_,rfl,_,_,rfl,rfl,?_⟩;refine ⟨λσ G=>σ=[Sro a,Sio at2,Sio (n:Nat),Sio (r/8),Sio (r%8),Sro W1,Sro W2,none]/\H2=G,?_,?_⟩
   ·refine ⟨_,rfl,rfl,_,rfl,A3z (λ_=> ?_) (λ_=>⟨rfl,rfl⟩)⟩;refine ⟨A0w rfl,λz0 hz0=> ?_⟩;obtain ⟨x,hx,e⟩:=A5e (f:=V.str) (xs:=(["+","-","*"]:List Str)) (i:=r/8%3) (by lia) (by show r/8%3<3;lia);obtain ⟨o,rfl⟩:=D9l (Z13 hx);have s30:=A0f (o:= .lst [V.str "+",.str "-",.str "*"]) hz0;refine ⟨_,rfl,_,_,rfl,rfl,D8b,z0,_,_,_,rfl,rfl,SqL.of A0c,e,A0w rfl,λz hz=> ?_⟩;have s3:=s30.trans (A0f (o:= .lst [V.str o.sign]) hz);have hz3:upd (upd H2 z0 (.lst [V.str "+",.str "-",.str "*"])) z (.lst [V.str o.sign]) z=some (.lst [V.str o.sign]):=A0c;generalize upd (upd H2 z0 (.lst [V.str "+",.str "-",.str "*"])) z (.lst [V.str o.sign])=H3 at s3 hz3⊢;refine ⟨_,rfl,z,W1,_,_,rfl,rfl,hz3,s3 _ _ hW12,A0t (by simp;lia),λq1 hq1=> ?_⟩;have s4:=A0f (o:= .lst ([V.str o.sign]++(A1f u1).map V.str)) hq1;refine ⟨_,rfl,q1,W2,_,_,rfl,rfl,A0c,s4 _ _ (s3 _ _ hW2),A0t (by simp;lia),λq hq=>⟨_,rfl,A0w rfl,λp hp=> ?_⟩⟩;have s5:=A0f (o:= .lst ([V.str o.sign]++(A1f u1).map V.str++(A1f u2).map V.str)) hq;have s6:=A0f (o:= .tup [V.ref q,.int at2]) hp;exact k p q (.pair o u1 u2) at2 _ (s1.trans (s2.trans (s3.trans (s4.trans (s5.trans s6))))) A0c (s6 _ _ (by rw [A0c];simp [A1f])) (s1.free (s2.free (s3.free (s4.free hq)))) ⟨k1,k2⟩ (by simp only [dep];lia) (by simp only [nod];lia) a2
   rintro σ G ⟨rfl,rfl⟩;refine ⟨_,rfl,_,rfl,λx H3 s3 lx=>⟨_,rfl,_,_,rfl,rfl,⟨by decide,by decide,by decide⟩,_,_,rfl,rfl,⟨by decide,by decide⟩,_,rfl,λlo hlo=>⟨lo,rfl,B3v (B2r hlo),_,rfl,_,_,rfl,rfl,⟨by decide,by decide⟩,_,rfl,λhi hhi=>⟨hi,rfl,B3v (B2r hhi),A0w rfl,λz hz=> ?_⟩⟩⟩⟩;have s4:=A0f (o:= .lst [V.str "if",.str x,.str (toString lo),.str (toString hi)]) hz;have hz4:upd H3 z (.lst [V.str "if",.str x,.str (toString lo),.str (toString hi)]) z=some (.lst [V.str "if",.str x,.str (toString lo),.str (toString hi)]):=A0c;generalize upd H3 z (.lst [V.str "if",.str x,.str (toString lo),.str (toString hi)])=H4 at s4 hz4⊢;have s24:=s3.trans s4;refine ⟨_,rfl,_,rfl,z,W1,_,_,rfl,rfl,hz4,s24 _ _ hW12,A0t (by simp;lia),λq1 hq1=> ?_⟩;have s5:=A0f (o:= .lst ([V.str "if",.str x,.str (toString lo),.str (toString hi)]++(A1f u1).map V.str)) hq1;refine ⟨_,rfl,q1,W2,_,_,rfl,rfl,A0c,s5 _ _ (s24 _ _ hW2),A0t (by simp;lia),λq hq=>⟨_,rfl,A0w rfl,λp hp=> ?_⟩⟩;have s6:=A0f (o:= .lst ([V.str "if",.str x,.str (toString lo),.str (toString hi)]++(A1f u1).map V.str++(A1f u2).map V.str)) hq;have s7:=A0f (o:= .tup [V.ref q,.int at2]) hp;exact k p q (.guard x lo hi u1 u2) at2 _ (s1.trans (s2.trans (s24.trans (s5.trans (s6.trans s7))))) A0c (s7 _ _ (by rw [A0c];simp [A1f])) (s1.free (s2.free (s24.free (s5.free hq)))) ⟨lx,hlo,hhi,k1,k2⟩ (by simp only [dep];lia) (by simp only [nod];lia) a2
  rintro σ G ⟨rfl,rfl⟩;have p2:2<=2^(n+1):=by have:=Nat.pow_le_pow_right (n:=2) (by decide) (show 1<=n+1 by lia);lia
  have lf:∀(W p:Addr) (u:Tm) (x:Str) (H2:Hp),leaf u=true->A1f u=[x]->C5v u->A1b H H2->H2 W=none->upd H2 W (.lst [.str x]) p=none->Q (.ref p) (upd (upd H2 W (.lst [.str x])) p (.tup [.ref W,.int (at_+1)])):=λW p u x H2 l hw ok s2 hW hp=>by
   have s3:=A0f (o:= .lst [V.str x]) hW;have s4:=A0f (o:= .tup [V.ref W,.int (at_+1)]) hp;have e:dep u=1/\nod u=1:=by cases u <;> first | exact ⟨rfl,rfl⟩ | cases l
   exact k p W u (at_+1) _ (s2.trans (s3.trans s4)) A0c (s4 _ _ (by rw [A0c,hw];rfl)) (s2.free hW) ok (by lia) (by lia) (by lia)
  refine ⟨λσ G=>σ=[Sro a,Sio at_,Sio (n:Nat),Sio (r/8),Sio (r%8),none,none,none]/\H=G,?_,?_⟩
  ·refine ⟨_,rfl,_,_,rfl,rfl,_,rfl,A3z (λ_=> ?_) (λ_=>⟨rfl,rfl⟩)⟩;exact ⟨_,rfl,_,rfl,λz hz=>⟨z,rfl,B3v (B2r hz),A0w rfl,λW hW=>⟨_,rfl,_,_,rfl,rfl,A0w rfl,λp hp=>lf W p (.num z) _ H rfl rfl hz (A1b.refl _) hW hp⟩⟩⟩
  rintro σ G ⟨rfl,rfl⟩;refine ⟨λσ G=>σ=[Sro a,Sio at_,Sio (n:Nat),Sio (r/8),Sio (r%8),none,none,none]/\H=G,?_,?_⟩
  ·refine ⟨_,rfl,rfl,_,rfl,A3z (λ_=> ?_) (λ_=>⟨rfl,rfl⟩)⟩;exact ⟨_,rfl,_,rfl,λx x1 x2 x3=>⟨A0w rfl,λW hW=>⟨_,rfl,_,_,rfl,rfl,A0w rfl,λp hp=>lf W p (.place x) _ H rfl rfl ⟨x1,x2,x3⟩ (A1b.refl _) hW hp⟩⟩⟩
  rintro σ G ⟨rfl,rfl⟩;exact ⟨_,rfl,_,rfl,λb ix H2 s2 lb li ok=>⟨A0w rfl,λW hW=>⟨_,rfl,_,_,rfl,rfl,A0w rfl,λp hp=>lf W p (.read b ix) _ H2 rfl rfl ⟨lb,li,ok⟩ s2 hW hp⟩⟩⟩
theorem D5c (T:Txt K mg t):∀n:Nat,n<=4->A3e P w K mg base CX0 (n+5) t.cb t.cg C1s (C7a K n)
 | 0,h=>C5r T h (m:=4) (by lia) (A3e.none (sp:=λ_ _ _ _=>False) λ_ _ _ _ h=>h) λ_ _ _ h=>absurd h (by lia)
 | n+1,h=>C5r T h (by lia) (D5c T n (by lia)) λ_ _ _ _ h=>h
theorem B4t (T:Txt K mg t):FO P w base T.bq 9 (C7a K 4):=D5c T 4 (by lia)
def AxP (G:Hp) (v:V) (e:Str×Nat):Prop:=∃q,v= .ref q/\G q=some (.tup [.str e.1,.int (e.2:Nat)])
def TbP (L:Addr->Prop) (G:Hp) (v:V) (e:Str×List Str):Prop:=∃q c,v= .ref q/\L c/\G q=some (.tup [.str e.1,.ref c])/\G c=some (.lst (e.2.map V.str))
def LtP (L:Addr->Prop) (G:Hp) (v:V) (e:Lt):Prop:=∃q c W,v= .ref q/\(L c/\L W)/\G q=some (.tup [.str e.1,.ref c,.ref W])/\G c=some (.lst (e.2.1.map V.str))/\G W=some (.lst ((A1f e.2.2).map V.str))
theorem AxP.same {G G':Hp} {v:V} {e:Str×Nat} (h:AxP G v e) (s:∀b o,(∀xs,o≠.lst xs)->G b=some o->G' b=some o):AxP G' v e:=by
 obtain ⟨q,rfl,h1⟩:=h;exact ⟨q,rfl,s _ _ (by intro xs z;cases z) h1⟩
theorem TbP.same {L L':Addr->Prop} {G G':Hp} {v:V} {e:Str×List Str} (h:TbP L G v e) (l:∀c,L c->L' c) (s:∀b o,(∀xs,o≠.lst xs)\/L b->G b=some o->G' b=some o):TbP L' G' v e:=by
 obtain ⟨q,c,rfl,hc,h1,h2⟩:=h;exact ⟨q,c,rfl,l _ hc,s _ _ (.inl (by intro xs z;cases z)) h1,s _ _ (.inr hc) h2⟩
theorem LtP.same {L L':Addr->Prop} {G G':Hp} {v:V} {e:Lt} (h:LtP L G v e) (l:∀c,L c->L' c) (s:∀b o,(∀xs,o≠.lst xs)\/L b->G b=some o->G' b=some o):LtP L' G' v e:=by
 obtain ⟨q,c,W,rfl,hc,h1,h2,h3⟩:=h;exact ⟨q,c,W,rfl,⟨l _ hc.1,l _ hc.2⟩,s _ _ (.inl (by intro xs z;cases z)) h1,s _ _ (.inr hc.1) h2,s _ _ (.inr hc.2) h3⟩
theorem B5e {B:Addr} {G G2:Hp} {xs ys:List V} (s:A1b G G2) (hB:G2 B=some (.lst xs)):∀b o,(∀xs,o≠.lst xs)\/b≠B->G b=some o->upd G2 B (.lst ys) b=some o:=λb o h e=>by
 have nb:b≠B:=h.elim (λz e'=>by rw [e'] at e;rw [s _ _ e] at hB;cases hB;exact z _ rfl) id;rw [A0l nb];exact s _ _ e
theorem cutI (ns:List Int) (lo hi:Option Int):∃cs:List Int,B0y (ns.map V.int) lo hi=cs.map V.int:=by
 refine ⟨(ns.drop (HT.sIx ns.length 0 lo)).take (HT.sIx ns.length ns.length hi-HT.sIx ns.length 0 lo),?_⟩;unfold B0y;rw [Z08,List.map_take,List.map_drop]
theorem w2 {i:Int} (h0:0<=i) (h4:i<2):∃v:Int,atI [V.int 30,V.int (10^(30:Int).toNat-2)] i=some (.int v)/\0<v/\v<=999999999999999999999999999998:=by
 have e:(10:Int)^(30:Int).toNat-2=999999999999999999999999999998:=by decide
 rw [e];have:i=0\/i=1:=by lia
 rcases this with rfl | rfl
 ·exact ⟨30,rfl,by decide,by decide⟩
 ·exact ⟨_,rfl,by decide,by decide⟩
def D7p:Sp:=λvs H Q _=>∃(r:Int) (n:Nat),vs=[.int r,.int n]/\n<=14/\∀(D:Addr) (xs:List Str) (H':Hp),A1b H H'->H D=none->H' D=some (.lst (xs.map V.str))->xs.length=n->(∀x∈xs,Ltr x)->Q (.ref D) H'
def D9q (K:Frag):Sp:=λvs H Q _=>∃(sc:Addr) (ns:List Int),vs=[.ref sc]/\SqL K H sc (ns.map V.int)/\∀(q A B C D:Addr) (p:Prg) (va vt vl:List V) (H':Hp),A1b H H'->H' q=some (.tup [.int p.wh,.ref A,.ref B,.ref C,.ref D])->H' A=some (.lst va)->Paired (AxP H') va p.ax->H' B=some (.lst vt)->Paired (TbP (λ_=>True) H') vt p.tb->
 H' C=some (.lst vl)->Paired (LtP (λ_=>True) H') vl p.ls->H' D=some (.lst (p.os.map V.str))->B2y p->(∀e∈p.ls,nod e.2.2<=31)->1<=p.os.length->Q (.ref q) H'
theorem B1f {α:Type} {F:α->Prop} {l:List α} {a:α} (h:∀x∈l,F x) (ha:F a):∀x∈l++[a],F x:=λx hx=>(Z07.mp hx).elim (h x) (λz=>by rw [Z0w.mp z];exact ha)
theorem B5t (T:Txt K mg t):FO P w base T.bp 3 D7p:=by
 have Gd4:= @A5x P w K mg base t T;refine T.bp.F.ok A4g (by walk_at "ln") λ_ A _ s H _ Q E hr h=> ?_
 ·obtain ⟨r,n,rfl,hn,k⟩:=h;refine ⟨_,(@A0d _ _ _ _ _ (@A0x _ _ 2 _ _ _ _ A4g.nd rfl (.inl rfl) (@A2e _ _ _ _ A0b) rfl (by first | exact Or.inl rfl | exact Or.inr rfl | assumption)) (@A0d _ _ _ _ _ (A5l PassesOwn.never rfl (A4i rfl T.e6 (@A0a _ _ _ _ _ (pv 1) A0b rfl)) (A0p (i:=3) A4g.nd rfl (.inl rfl)) (@A0d _ _ _ _ _ (A2z (A2r Z0k Z0n Z0o A2d (pv 2) (@A0a _ _ _ _ _ (pcl Gd4 hr T.ba (@A0a _ _ _ _ _ (@A0k _ _ _ _ _ _ _ _ A1k (pv 0) (@A0k _ _ _ _ _ _ _ _ A7v A0e A0e)) A0b rfl)) A0b rfl))) (@A0h _ _ _ (@A0x _ _ 0 _ _ _ _ A4g.nd rfl (.inl rfl) (@A0k _ _ _ _ _ _ _ _ A1k (pv 0) A0e) rfl (by first | exact Or.inl rfl | exact Or.inr rfl | assumption))))) (@A0h _ _ _ (@A0u _ _ _ _ (pv 2))))),?_⟩;refine ⟨A0w rfl,λD hD=> ?_⟩;refine ⟨_,rfl,_,rfl,by lia,by lia,?_⟩;refine A4k (n:=((n:Nat):Int).toNat) (λi σ G=>∃(r':Int) (o3:Option V) (xs:List Str),σ=[Sio r',Sio (n:Nat),Sro D,o3]/\A1b H G/\G D=some (.lst (xs.map V.str))/\xs.length=i/\∀x∈xs,Ltr x) ⟨r,none,[],rfl,A0f hD,A0c,rfl,by intro x hx;cases hx⟩ ?_ ?_
  ·rintro i σ G hi ⟨r',o3,xs,rfl,sG,hG,lx,ok⟩;refine ⟨_,rfl,.inl ⟨rfl,_,SqL.of hG⟩,_,rfl,_,_,rfl,rfl,⟨by decide,by decide,by decide⟩,_,_,rfl,rfl,⟨by decide,by decide⟩,_,rfl,λx G2 s2 ltr=>⟨D,_,_,rfl,rfl,s2 _ _ hG,A1p (by rw [Z08];lia),?_⟩⟩;refine ⟨_,rfl,_,_,rfl,rfl,⟨by decide,by decide⟩,_,_,xs++[x],rfl,A0j (sG.trans s2) hD,by rw [A0c];simp,by simp [lx],B1f ok ltr⟩
  ·rintro σ G ⟨r',o3,xs,rfl,sG,hG,lx,ok⟩;exact ⟨_,rfl,k D xs G sG hD hG (by lia) ok⟩
theorem B2t (T:Txt K mg t):FO P w base T.cr 10 (D9q K):=by
 have Gd4:= @A5x P w K mg base t T;have Gd7:= @A6m P w K mg base t T;have Gd8:= @B0b P w K mg base t T;have Ge0:= @B5t P w K mg base t T;have Gd6:= @B4t P w K mg base t T;refine T.cr.F.ok A0v (by walk_at "ln") λ_ A _ s H _ Q E hr h=> ?_
 ·obtain ⟨sc,ns,rfl,hS,k⟩:=h;refine ⟨_,(@A0d _ _ _ _ _ (@A0x _ _ 1 _ _ _ _ A0v.nd rfl (.inl rfl) (@A0k _ _ _ _ _ _ _ _ A2w A0e (@A0k _ _ _ _ _ _ _ _ A1g (@A0k _ _ _ _ _ _ _ _ A1k (pcl Gd7 hr T.ai (@A0a _ _ _ _ _ (pv 0) (@A0a _ _ _ _ _ A0e A0b rfl) rfl)) A0e) (@A2i _ _ _ _ _ _ _ A1d (@A2e _ _ _ _ (@A0a _ _ _ _ _ A0e (@A0a _ _ _ _ _ (@A0k _ _ _ _ _ _ _ _ A7q (@A0k _ _ _ _ _ _ _ _ A7v A0e A0e) A0e) A0b rfl) rfl)) (@A0k _ _ _ _ _ _ _ _ A1g (pcl Gd7 hr T.ai (@A0a _ _ _ _ _ (pv 0) (@A0a _ _ _ _ _ A0e A0b rfl) rfl)) A0e) (λ_ _=>rfl)))) rfl (by first | exact Or.inl rfl | exact Or.inr rfl | assumption)) (@A0d _ _ _ _ _ (@A0x _ _ 2 _ _ _ _ A0v.nd rfl (.inl rfl) (@A2e _ _ _ _ A0b) rfl (by first | exact Or.inl rfl | exact Or.inr rfl | assumption)) (@A0d _ _ _ _ _ (A5l PassesOwn.never rfl (A4i rfl T.e6 (@A0a _ _ _ _ _ (@A0k _ _ _ _ _ _ _ _ A1g (pcl Gd7 hr T.ai (@A0a _ _ _ _ _ (pv 0) (@A0a _ _ _ _ _ A0e A0b rfl) rfl)) A0e) A0b rfl)) (A0p (i:=3) A0v.nd rfl (.inl rfl)) (@A0d _ _ _ _ _ (@A0x _ _ 4 _ _ _ _ A0v.nd rfl (.inl rfl) (pcl Gd8 hr T.bg (@A0a _ _ _ _ _ (pcl Gd7 hr T.ai (@A0a _ _ _ _ _ (pv 0) (@A0a _ _ _ _ _ A0e A0b rfl) rfl)) (@A0a _ _ _ _ _ (pv 3) A0b rfl) rfl)) rfl (by first | exact Or.inl rfl | exact Or.inr rfl | assumption)) (@A0h _ _ _ (A2z (A2r Z0k Z0n Z0o A2d (pv 2) (@A0a _ _ _ _ _ (@A3v _ _ _ _ _ (@A0a _ _ _ _ _ (pcl Gd4 hr T.ba (@A0a _ _ _ _ _ (pv 4) A0b rfl)) (@A0a _ _ _ _ _ (@A0k _ _ _ _ _ _ _ _ A2w A0e (@A0k _ _ _ _ _ _ _ _ A1g (@A0k _ _ _ _ _ _ _ _ A1k (pv 4) (@A0k _ _ _ _ _ _ _ _ A7v A0e A0e)) A0e)) A0b rfl) rfl)) A0b rfl)))))) (@A0d _ _ _ _ _ (@A0x _ _ 5 _ _ _ _ A0v.nd rfl (.inl rfl) (@A2e _ _ _ _ A0b) rfl (by first | exact Or.inl rfl | exact Or.inr rfl | assumption)) (@A0d _ _ _ _ _ (A5l PassesOwn.never rfl (A4i rfl T.e6 (@A0a _ _ _ _ _ (@A0k _ _ _ _ _ _ _ _ A1g (pcl Gd7 hr T.ai (@A0a _ _ _ _ _ (pv 0) (@A0a _ _ _ _ _ A0e A0b rfl) rfl)) A0e) A0b rfl)) (A0p (i:=3) A0v.nd rfl (.inl rfl)) (@A0d _ _ _ _ _ (@A0x _ _ 4 _ _ _ _ A0v.nd rfl (.inl rfl) (pcl Gd8 hr T.bg (@A0a _ _ _ _ _ (pcl Gd7 hr T.ai (@A0a _ _ _ _ _ (pv 0) (@A0a _ _ _ _ _ A0e A0b rfl) rfl)) (@A0a _ _ _ _ _ (pv 3) A0b rfl) rfl)) rfl (by first | exact Or.inl rfl | exact Or.inr rfl | assumption)) (@A0h _ _ _ (A2z (A2r Z0k Z0n Z0o A2d (pv 5) (@A0a _ _ _ _ _ (@A3v _ _ _ _ _ (@A0a _ _ _ _ _ (pcl Gd4 hr T.ba (@A0a _ _ _ _ _ (pv 4) A0b rfl)) (@A0a _ _ _ _ _ (pcl Ge0 hr T.bp (@A0a _ _ _ _ _ (@A0k _ _ _ _ _ _ _ _ A1k (pv 4) A0e) (@A0a _ _ _ _ _ (@A0k _ _ _ _ _ _ _ _ A1g (@A0k _ _ _ _ _ _ _ _ A1k (pv 4) (@A0k _ _ _ _ _ _ _ _ A7v A0e A0e)) A0e) A0b rfl) rfl)) A0b rfl) rfl)) A0b rfl)))))) (@A0d _ _ _ _ _ (@A0x _ _ 6 _ _ _ _ A0v.nd rfl (.inl rfl) (@A2e _ _ _ _ A0b) rfl (by first | exact Or.inl rfl | exact Or.inr rfl | assumption)) (@A0d _ _ _ _ _ (@A0x _ _ 7 _ _ _ _ A0v.nd rfl (.inl rfl) A0e rfl (by first | exact Or.inl rfl | exact Or.inr rfl | assumption)) (@A0d _ _ _ _ _ (A5l PassesOwn.never rfl (A4i rfl T.e6 (@A0a _ _ _ _ _ (@A0k _ _ _ _ _ _ _ _ A1g (pcl Gd7 hr T.ai (@A0a _ _ _ _ _ (pv 0) (@A0a _ _ _ _ _ A0e A0b rfl) rfl)) A0e) A0b rfl)) (A0p (i:=3) A0v.nd rfl (.inl rfl)) (@A0d _ _ _ _ _ (@A0x _ _ 4 _ _ _ _ A0v.nd rfl (.inl rfl) (pcl Gd8 hr T.bg (@A0a _ _ _ _ _ (pcl Gd7 hr T.ai (@A0a _ _ _ _ _ (pv 0) (@A0a _ _ _ _ _ A0e A0b rfl) rfl)) (@A0a _ _ _ _ _ (pv 3) A0b rfl) rfl)) rfl (by first | exact Or.inl rfl | exact Or.inr rfl | assumption)) (@A0d _ _ _ _ _ (A5k (pcl Gd6 hr T.bq (@A0a _ _ _ _ _ (@A1t _ _ _ _ _ _ _ _ _ _ A6e (pv 0) (A2g A0e) (A2g A0e)) (@A0a _ _ _ _ _ (pv 7) (@A0a _ _ _ _ _ A0e A0b rfl) rfl) rfl)) (A7r (n:=2) rfl (A1c (A0p (i:=8) A0v.nd rfl (.inl rfl)) (A1c (A0p (i:=7) A0v.nd rfl (.inl rfl)) A5c)))) (@A0h _ _ _ (A2z (A2r Z0k Z0n Z0o A2d (pv 6) (@A0a _ _ _ _ _ (@A3v _ _ _ _ _ (@A0a _ _ _ _ _ (pcl Gd4 hr T.ba (@A0a _ _ _ _ _ (pv 4) A0b rfl)) (@A0a _ _ _ _ _ (pcl Ge0 hr T.bp (@A0a _ _ _ _ _ (@A0k _ _ _ _ _ _ _ _ A1k (pv 4) A0e) (@A0a _ _ _ _ _ (@A0k _ _ _ _ _ _ _ _ A1g (@A0k _ _ _ _ _ _ _ _ A1k (pv 4) (@A0k _ _ _ _ _ _ _ _ A7v A0e A0e)) A0e) A0b rfl) rfl)) (@A0a _ _ _ _ _ (pv 8) A0b rfl) rfl) rfl)) A0b rfl))))))) (@A0d _ _ _ _ _ (@A0x _ _ 9 _ _ _ _ A0v.nd rfl (.inl rfl) (pcl Ge0 hr T.bp (@A0a _ _ _ _ _ (pcl Gd8 hr T.bg (@A0a _ _ _ _ _ (pcl Gd7 hr T.ai (@A0a _ _ _ _ _ (pv 0) (@A0a _ _ _ _ _ A0e A0b rfl) rfl)) (@A0a _ _ _ _ _ A0e A0b rfl) rfl)) (@A0a _ _ _ _ _ (@A0k _ _ _ _ _ _ _ _ A2w A0e (@A0k _ _ _ _ _ _ _ _ A1g (pcl Gd7 hr T.ai (@A0a _ _ _ _ _ (pv 0) (@A0a _ _ _ _ _ A0e A0b rfl) rfl)) A0e)) A0b rfl) rfl)) rfl (by first | exact Or.inl rfl | exact Or.inr rfl | assumption)) (@A0h _ _ _ (@A0u _ _ _ _ (@A3v _ _ _ _ _ (@A0a _ _ _ _ _ (pv 1) (@A0a _ _ _ _ _ (pv 2) (@A0a _ _ _ _ _ (pv 5) (@A0a _ _ _ _ _ (pv 6) (@A0a _ _ _ _ _ (pv 9) A0b rfl) rfl) rfl) rfl) rfl))))))))))))),?_⟩;refine ⟨_,rfl,sc,ns,0,rfl,hS,by decide,λc0=>⟨_,_,rfl,rfl,⟨by decide,by decide⟩,_,_,rfl,rfl,⟨by decide,by decide,by decide⟩,_,_,rfl,rfl,A0w rfl,λz1 hz1=> ?_⟩⟩;obtain ⟨H1,u1,f1,eNH⟩:=nH (o:= .lst [.int 30,.int (10^(30:Int).toNat-2)]) hz1;rw [eNH];refine ⟨_,rfl,sc,ns,0,rfl,u1.seq hS,by decide,λc1=> ?_⟩;obtain ⟨v,hv,v0,v30⟩:=w2 (i:=c1%2) (by lia) (by lia);refine ⟨_,_,rfl,rfl,D7g,z1,_,_,.int v,rfl,rfl,SqL.of f1,hv,_,_,rfl,rfl,v0,_,_,rfl,rfl,?_⟩;dsimp only
  obtain ⟨wh,hwh,wp⟩:∃wh:Nat,2+c0/2%v=(wh:Nat)/\(2<=wh/\wh<10^30):=by
   have h1:=Z1v (c0/2) (show v≠0 by lia);have h2:=Z1p (c0/2) v0;have e:(10:Nat)^30=1000000000000000000000000000000:=by decide
   rw [e];exact ⟨(2+c0/2%v).toNat,by lia,by lia,by lia⟩
  rw [hwh];refine ⟨A0w rfl,λA0 hA0=> ?_⟩;have sA:A1b H1 (upd H1 A0 (.lst [])):=A0f hA0;refine ⟨_,rfl,sc,ns,1,rfl,(u1.trans sA).seq hS,by decide,λc2=>⟨_,_,rfl,rfl,E0u,_,rfl,by lia,by lia,?_⟩⟩;refine A4k (n:=(c2%9).toNat) (λi σ G=>∃(o3 o4:Option V) (vs:List V) (es:List (Str×Nat)),σ=[Sro sc,Sio (wh:Nat),Sro A0,o3,o4,none,none,none,none,none]/\A1b H1 G/\G A0=some (.lst vs)/\Paired (AxP G) vs es/\es.length=i/\∀e∈es,Ltr e.1/\1<=e.2/\e.2<=60) ⟨none,none,[],[],rfl,sA,A0c,.nil,rfl,by intro e he;cases he⟩ ?_ ?_
  ·rintro i σ G hi ⟨o3,o4,vs,es,rfl,sG,hG,pr,le,ok⟩;have lv:=Paired.length pr;refine ⟨_,rfl,sc,ns,1,rfl,(u1.trans sG).seq hS,by decide,λc3=>⟨_,rfl,_,_,rfl,λr=> ?_⟩⟩;refine ⟨_,rfl,.inl ⟨rfl,_,SqL.of hG⟩,_,rfl,_,rfl,λx G2 s2 lx=>⟨_,rfl,_,_,rfl,rfl,⟨by decide,by decide,by decide⟩,_,_,rfl,rfl,⟨by decide,by decide⟩,_,_,rfl,rfl,D9w,_,_,rfl,rfl,A0w rfl,λq hq=> ?_⟩⟩;obtain ⟨m,hm,m1,m60⟩:∃m:Nat,1+r/10^(9:Int).toNat%60=(m:Int)/\1<=m/\m<=60:=⟨(1+r/10^(9:Int).toNat%60).toNat,by lia,by lia,by lia⟩;dsimp only;rw [hm];have s3:=s2.trans (A0f (o:= .tup [V.str x,.int (m:Nat)]) hq);have hq3:upd G2 q (.tup [V.str x,.int (m:Nat)]) q=some (.tup [V.str x,.int (m:Nat)]):=A0c;generalize upd G2 q (.tup [V.str x,.int (m:Nat)])=G3 at s3 hq3⊢;refine ⟨A0,_,_,rfl,rfl,s3 _ _ hG,A1p (by lia),_,_,_,es++[(x,m)],rfl,A0j (sG.trans s3) hA0,A0c,Paired.snoc ⟨q,rfl,by rw [A0l (A3q hq3 (s3 _ _ hG) (by intro z;cases z))];exact hq3⟩ (Paired.mapP pr λ_ _ z=>z.same λb o h e=>B5e s3 (s3 _ _ hG) b o (.inl h) e),by simp [le],B1f ok ⟨lx,m1,m60⟩⟩
  rintro σ H2 ⟨o3,o4,va,ax,rfl,s2,hA2,pA,lA,okA⟩;refine ⟨A0w rfl,λB0 hB0=> ?_⟩;have sB:A1b H2 (upd H2 B0 (.lst [])):=A0f hB0;have u2:=u1.trans s2;refine ⟨_,rfl,sc,ns,2,rfl,(u2.trans sB).seq hS,by decide,λc4=>⟨_,_,rfl,rfl,D9j,_,rfl,by lia,by lia,?_⟩⟩;refine A4k (n:=(c4%7).toNat) (λi σ G=>∃(o3 o4:Option V) (vs:List V) (es:List (Str×List Str)),σ=[Sro sc,Sio (wh:Nat),Sro A0,o3,o4,Sro B0,none,none,none,none]/\A1b H2 G/\G B0=some (.lst vs)/\Paired (TbP (λc=>c≠B0) G) vs es/\es.length=i/\∀e∈es,D8w e) ⟨o3,o4,[],[],rfl,sB,A0c,.nil,rfl,by intro e he;cases he⟩ ?_ ?_
  ·rintro i σ G hi ⟨o3,o4,vs,es,rfl,sG,hG,pr,le,ok⟩;have lv:=Paired.length pr;refine ⟨_,rfl,sc,ns,2,rfl,(u2.trans sG).seq hS,by decide,λc3=>⟨_,rfl,_,_,rfl,λr=> ?_⟩⟩;refine ⟨_,rfl,.inl ⟨rfl,_,SqL.of hG⟩,_,rfl,_,rfl,λx G2 s2 lx=>⟨_,rfl,_,_,rfl,rfl,⟨by decide,by decide⟩,_,rfl,_,_,rfl,rfl,⟨by decide,by decide,by decide⟩,_,_,rfl,rfl,⟨by decide,by decide⟩,_,_,rfl,rfl,C8z,_,(r/10^(9:Int).toNat%4).toNat,congrArg (λz=>[V.int (r/7),V.int z]) (Int.toNat_of_nonneg (Z1v _ (by decide))).symm,by lia,λD xs G3 s3 hD hx lx3 ok3=>⟨A0w rfl,λq hq=> ?_⟩⟩⟩;have s4:=(s2.trans s3).trans (A0f (o:= .tup [V.str x,.ref D]) hq);have hq4:upd G3 q (.tup [V.str x,.ref D]) q=some (.tup [V.str x,.ref D]):=A0c;have hD4:upd G3 q (.tup [V.str x,.ref D]) D=some (.lst (xs.map V.str)):=A0f hq _ _ hx;have dB:D≠B0:=(A0r (s2 _ _ hG) hD).symm;generalize upd G3 q (.tup [V.str x,.ref D])=G4 at s4 hq4 hD4⊢;refine ⟨B0,_,_,rfl,rfl,s4 _ _ hG,A1p (by lia),_,_,_,es++[(x,xs)],rfl,A0j (sG.trans s4) hB0,A0c,Paired.snoc ⟨q,D,rfl,dB,by rw [A0l (A3q hq4 (s4 _ _ hG) (by intro z;cases z))];exact hq4,by rw [A0l dB];exact hD4⟩ (Paired.mapP pr λ_ _ z=>z.same (λ_ z=>z) λb o h e=>B5e s4 (s4 _ _ hG) b o h e),by simp [le],B1f ok ⟨lx,ok3,by show xs.length<=3;lia⟩⟩
  rintro σ H3 ⟨o3,o4,vt,tb,rfl,s3,hB3,pB,lB,okB⟩;refine ⟨A0w rfl,λC0 hC0=> ?_⟩;have sC:A1b H3 (upd H3 C0 (.lst [])):=A0f hC0;have u3:=u2.trans s3;refine ⟨_,rfl,sc,ns,3,rfl,(u3.trans sC).seq hS,by decide,λc5=>⟨_,_,rfl,rfl,E0u,_,rfl,by lia,by lia,?_⟩⟩;refine A4k (n:=(c5%9).toNat) (λi σ G=>∃(o3 o4 o8:Option V) (at_:Int) (vs:List V) (es:List Lt),σ=[Sro sc,Sio (wh:Nat),Sro A0,o3,o4,Sro B0,Sro C0,Sio at_,o8,none]/\A1b H3 G/\G C0=some (.lst vs)/\Paired (LtP (λc=>c≠C0) G) vs es/\es.length=i/\0<=at_/\∀e∈es,D7e e/\nod e.2.2<=31) ⟨o3,o4,none,0,[],[],rfl,sC,A0c,.nil,rfl,by decide,by intro e he;cases he⟩ ?_ ?_
  ·rintro i σ G hi ⟨o3,o4,o8,at_,vs,es,rfl,sG,hG,pr,le,a0,ok⟩;have lv:=Paired.length pr;refine ⟨_,rfl,sc,ns,3,rfl,(u3.trans sG).seq hS,by decide,λc3=>⟨_,rfl,_,_,rfl,λr=> ?_⟩⟩;obtain ⟨cs,hcs⟩:=cutI ns (some 5) (some 68);refine ⟨_,rfl,_,rfl,_,rfl,sc,_,rfl,(u3.trans sG).seq hS,λc hc=> ?_⟩;rw [hcs];have s1:=A0f (o:= .lst (cs.map V.int)) hc;refine ⟨_,rfl,c,cs,at_,rfl,SqL.of A0c,a0,λp1 W1 u at1 G1 s1' hp1 hW1 fW k1 d1 m1 a1=> ?_⟩;have sg1:=s1.trans s1';refine ⟨p1,_,rfl,SqT.of hp1,rfl,_,_,rfl,_,_,rfl,rfl,?_⟩;refine ⟨_,rfl,.inl ⟨rfl,_,SqL.of (sg1 _ _ hG)⟩,_,rfl,_,rfl,λx G2 s2 lx=>⟨_,rfl,_,_,rfl,rfl,⟨by decide,by decide⟩,_,rfl,_,_,rfl,rfl,⟨by decide,by decide,by decide⟩,_,_,rfl,rfl,⟨by decide,by decide⟩,_,_,rfl,rfl,C8z,_,(r/10^(9:Int).toNat%4).toNat,congrArg (λz=>[V.int (r/7),V.int z]) (Int.toNat_of_nonneg (Z1v _ (by decide))).symm,by lia,λD xs G3 s3 hD hx lx3 ok3=>⟨_,rfl,A0w rfl,λq hq=> ?_⟩⟩⟩;have sq:=A0f (o:= .tup [V.str x,.ref D,.ref W1]) hq;have s4:=(sg1.trans (s2.trans s3)).trans sq;have hq4:upd G3 q (.tup [V.str x,.ref D,.ref W1]) q=some (.tup [V.str x,.ref D,.ref W1]):=A0c;have hD4:upd G3 q (.tup [V.str x,.ref D,.ref W1]) D=some (.lst (xs.map V.str)):=sq _ _ hx;have hW4:upd G3 q (.tup [V.str x,.ref D,.ref W1]) W1=some (.lst ((A1f u).map V.str)):=sq _ _ ((s2.trans s3) _ _ hW1);have dC:D≠C0:=(A0r ((sg1.trans s2) _ _ hG) hD).symm;have wC:W1≠C0:=(A0r (s1 _ _ hG) fW).symm;generalize upd G3 q (.tup [V.str x,.ref D,.ref W1])=G4 at s4 hq4 hD4 hW4⊢;refine ⟨C0,_,_,rfl,rfl,s4 _ _ hG,A1p (by lia),_,_,_,_,_,es++[(x,xs,u)],rfl,A0j (sG.trans s4) hC0,A0c,Paired.snoc ⟨q,D,W1,rfl,⟨dC,wC⟩,by rw [A0l (A3q hq4 (s4 _ _ hG) (by intro z;cases z))];exact hq4,by rw [A0l dC];exact hD4,by rw [A0l wC];exact hW4⟩ (Paired.mapP pr λ_ _ z=>z.same (λ_ z=>z) λb o h e=>B5e s4 (s4 _ _ hG) b o h e),by simp [le],a1,B1f ok ⟨⟨lx,ok3,by show xs.length<=3;lia,k1,d1⟩,by show nod u<=31;have:2^(4+1)=32:=rfl;lia⟩⟩
  rintro σ H4 ⟨o3,o4,o8,at_,vl,ls,rfl,s4,hC4,pC,lC,_,okC⟩;have u4:=u3.trans s4;refine ⟨_,rfl,sc,ns,4,rfl,u4.seq hS,by decide,λc6=>⟨_,_,rfl,λr=>⟨_,rfl,sc,ns,4,rfl,u4.seq hS,by decide,λc7=>⟨_,_,rfl,rfl,E0g,_,_,rfl,rfl,r,(1+c7%14).toNat,?_,by lia,λD xs H5 s5 hD hx lx5 ok5=> ?_⟩⟩⟩⟩
  ·show [V.int r,V.int (1+c7%14)]=_;rw [show ((1+c7%14).toNat:Int)=1+c7%14 by lia]
  refine ⟨_,rfl,_,rfl,_,rfl,_,rfl,_,rfl,A0w rfl,λq hq=> ?_⟩;have s6:=A0f (o:= .tup [V.int (wh:Nat),.ref A0,.ref B0,.ref C0,.ref D]) hq;have s46:=s5.trans s6;have s36:=s4.trans s46;have s26:=s3.trans s36;refine k q A0 B0 C0 D ⟨wh,ax,tb,ls,xs⟩ va vt vl _ (u4.trans s46) A0c (s26 _ _ hA2) (Paired.mapP pA λ_ _ z=>z.same λb o _ e=>s26 _ _ e) (s36 _ _ hB3) (Paired.mapP pB λ_ _ z=>z.same (λ_ _=>trivial) λb o _ e=>s36 _ _ e) (s46 _ _ hC4) (Paired.mapP pC λ_ _ z=>z.same (λ_ _=>trivial) λb o _ e=>s46 _ _ e) (s6 _ _ hx) ⟨wp.1,wp.2,okA,okB,λe he=>(okC e he).1,ok5,by show ax.length<=20;lia,by show tb.length<=20;lia,by show ls.length<=20;lia,by show xs.length<=20;lia⟩ (λe he=>(okC e he).2) (by show 1<=xs.length;lia)
structure B4i (x:Str):Prop where
 ln:x.length<=900
 sg:∀c∈sg x,33<=c
theorem A6f {x:Str} (h:Ltr x):B4i x:=⟨by have:=h.ln;lia,λc hc=>by have:=h.dg c hc;lia⟩
theorem B6z {z:Int} (h:B30 z):B4i (toString z:Str):=⟨by have:=B1i h;lia,λc hc=>by
 have hc:c∈M84.sg (Str.ofString (toString z)):=hc;rw [A7u] at hc;have:=C4j z c hc
 lia⟩
theorem A7c:∀{u:Tm},C5v u->∀x∈A1f u,B4i x
 | .num z,h,x,hx=>by rw [Z0w.mp hx];exact B6z h
 | .place y,h,x,hx=>by rw [Z0w.mp hx];exact A6f h.1
 | .read a ix,h,x,hx=>by
  rw [Z0w.mp hx];have li:=B6s (λe he=>ixW (h.2.2 e he)) h.2.1;have l20:=h.1.ln;have lo:("[":Str).length=1:=by decide +kernel
  have lc:("]":Str).length=1:=by decide +kernel
  refine ⟨by rw [Str.length_append,Str.length_append,Str.length_append];lia,λc hc=> ?_⟩;rw [A1o,A1o,A1o,B9p,B9a] at hc;simp only [Z07] at hc;rcases hc with ((hc | hc) | hc) | hc
  ·have:=h.1.dg c hc;lia
  ·rw [show c=91 by simpa [M84.sg] using hc];decide
  ·have:=D2h h.2.2 c hc;unfold IxC at this
   lia
  ·rw [show c=93 by simpa [M84.sg] using hc];decide
 | .sum y b,h,x,hx=>by
  simp only [A1f,Z07,Z0e,Z1i,or_false] at hx;rcases hx with (rfl | rfl) | hx
  ·exact A6f B8b
  ·exact A6f h.1
  ·exact A7c h.2 x hx
 | .pair o l r,h,x,hx=>by
  simp only [A1f,Z07,Z0e,Z1i,or_false] at hx;rcases hx with (rfl | hx) | hx
  ·cases o <;> exact ⟨by decide +kernel,by decide +kernel⟩
  ·exact A7c h.1 x hx
  ·exact A7c h.2 x hx
 | .guard y lo hi l r,h,x,hx=>by
  simp only [A1f,Z07,Z0e,Z1i,or_false] at hx;rcases hx with ((rfl | rfl | rfl | rfl) | hx) | hx
  ·exact A6f C3g
  ·exact A6f h.1
  ·exact B6z h.2.1
  ·exact B6z h.2.2.1
  ·exact A7c h.2.2.2.1 x hx
  ·exact A7c h.2.2.2.2 x hx
structure C2e (ws:List Str):Prop where
 gw:∀x∈ws,B4i x
 ne:ws≠[]
 ln:ws.length<=90
theorem b60 {n:Nat} (h:n<=60):B30 (n:Int):=by unfold B30;exact Z2d (show (n:Int).natAbs<=60 by lia) (by decide)
theorem D4y {e:Str×Nat} (h:Ltr e.1) (h60:e.2<=60):C2e (("axis":Str)::axW e):=⟨λx hx=>by
 simp only [axW,Z0e,Z1i,or_false] at hx;rcases hx with rfl | rfl | rfl
 ·exact ⟨by decide +kernel,by decide +kernel⟩
 ·exact A6f h
 ·exact B6z (b60 h60),by simp,by simp [axW]⟩
theorem C9c {e:Str×List Str} (h:D8w e):C2e (("table":Str)::tbW e):=⟨λx hx=>by
 simp only [tbW,Z0e] at hx;rcases hx with rfl | rfl | hx
 ·exact ⟨by decide +kernel,by decide +kernel⟩
 ·exact A6f h.nm
 ·exact A6f (h.ax x hx),by simp,by have:=h.ln;simp [tbW];lia⟩
theorem C9p {e:Lt} (h:D7e e):C2e (("let":Str)::ltW e):=⟨λx hx=>by
 simp only [ltW,Z0e,Z07] at hx;rcases hx with rfl | rfl | hx | rfl | hx
 ·exact ⟨by decide +kernel,by decide +kernel⟩
 ·exact A6f h.nm
 ·exact A6f (h.ax x hx)
 ·exact ⟨by decide +kernel,by decide +kernel⟩
 ·exact A7c h.tm x hx,by simp,by
  have:=h.ln;have:=A5i e.2.2 4 h.dp;simp only [ltW,Z0y,Z06]
  lia⟩
theorem D5v {x:Str} (h:Ltr x):C2e [("out":Str),x]:=⟨λy hy=>by
 simp only [Z0e,Z1i,or_false] at hy;rcases hy with rfl | rfl
 ·exact ⟨by decide +kernel,by decide +kernel⟩
 ·exact A6f h,by simp,by simp⟩
theorem A8n {p:Prg} (h:B2y p):∀ws∈A2x p,C2e ws:=by
 intro ws hw;unfold A2x at hw;rcases Z0e.mp hw with rfl | hw
 ·refine ⟨λx hx=> ?_,by simp,by simp⟩;simp only [Z0e,Z1i,or_false] at hx;rcases hx with rfl | rfl
  ·exact ⟨by decide +kernel,by decide +kernel⟩
  ·exact B6z (show B30 (p.wh:Int) from h.w30)
 ·obtain ⟨e,he,rfl⟩:=Z2c.mp hw;unfold kwP at he;simp only [Z07,Z2c] at he;rcases he with ⟨a,ha,rfl⟩ | ⟨a,ha,rfl⟩ | ⟨a,ha,rfl⟩ | ⟨a,ha,rfl⟩
  ·exact D4y (h.ax a ha).1 (h.ax a ha).2.2
  ·exact C9c (h.tb a ha)
  ·exact C9p (h.ls a ha)
  ·exact D5v (h.os a ha)
theorem B3w:∀{l m:List Str},l.map sg=m.map sg->l=m
 | [],[],_=>rfl
 | [],b::m,e=>by cases e
 | a::l,[],e=>by cases e
 | a::l,b::m,e=>by
  rw [Z0p,Z0p] at e;injection e with e1 e2;rw [A4l e1,B3w e2]
theorem A7b {c:Nat} {ws:List Str} (ne:ws≠[]) (h:∀x∈ws,c∉sg x):Txt.split (Txt.join ⟨#[c]⟩ ws) ⟨#[c]⟩=ws:=by
 refine B3w ?_;rw [A4h,A2a,B9x (by simpa using ne)];intro p hp;obtain ⟨x,hx,rfl⟩:=Z2c.mp hp;exact h x hx
theorem C5h {k:Nat}:∀{ws:List Str},(∀x∈ws,x.length<=k)->(ws.map (·.length)).sum<=k*ws.length
 | [],_=>by simp
 | x::r,h=>by
  have:=C5h (k:=k) (ws:=r) λy hy=>h y (.tail _ hy);have:=h x (.head _);simp only [Z0p,List.sum_cons,Z0y,Nat.mul_add,Nat.mul_one]
  lia
theorem B5a (c:Nat) (ws:List Str):(Txt.join ⟨#[c]⟩ ws).length<=(ws.map (·.length)).sum+ws.length:=by
 have e:Txt.join ⟨#[c]⟩ ws=Str.join ⟨#[c]⟩ ws:=StrLaws.glued_eq_join _ _;have j:=StrLaws.join_length_le ⟨#[c]⟩ ws;have p:(⟨#[c]⟩:Str).length=1:=rfl;rw [e];rw [p] at j
 lia
theorem A5j {ws:List Str} (h:C2e ws):Txt.split (Txt.join " " ws) " "=ws:=by
 rw [A2p];exact A7b h.ne λx hx m=>by have:=(h.gw x hx).sg _ m;lia
theorem D4x {ws:List Str} (h:C2e ws):10∉sg (Txt.join " " ws):=λm=>by
 rw [A2p,A2a] at m;rcases B1r m with z | ⟨p,hp,z⟩
 ·lia
 ·obtain ⟨x,hx,rfl⟩:=Z2c.mp hp;have:=(h.gw x hx).sg _ z
  lia
def txP (p:Prg):Str:=Txt.join "\n" ((A2x p).map (Txt.join " "))
theorem C6u {p:Prg} (h:B2y p):(A2x p).length<=81:=by have:=D6x h;unfold A2x;simp;lia
theorem C3c {p:Prg} (h:B2y p):Txt.split (txP p) "\n"=(A2x p).map (Txt.join " "):=by
 unfold txP;rw [B4p];refine A7b (by unfold A2x;simp) λx hx=> ?_;obtain ⟨ws,hw,rfl⟩:=Z2c.mp hx;exact D4x (A8n h ws hw)
theorem D2z (a b:Str):Txt.join " " [a,b]=a++" "++b:=by
 refine A4l ?_;rw [A2p,A2a,A1o,A1o];simp [jn,sg]
theorem D7n (a b c:Str):Txt.join " " [a,b,c]=a++" "++b++" "++c:=by
 refine A4l ?_;rw [A2p,A2a,A1o,A1o,A1o,A1o];simp [jn,sg]
structure E1g (H:Hp) (A B C D:Addr) (p:Prg):Prop where
 a:∃va,H A=some (.lst va)/\Paired (AxP H) va p.ax
 b:∃vt,H B=some (.lst vt)/\Paired (TbP (λ_=>True) H) vt p.tb
 c:∃vl,H C=some (.lst vl)/\Paired (LtP (λ_=>True) H) vl p.ls
 d:H D=some (.lst (p.os.map V.str))
def D1x:Sp:=λvs H Q _=>∃(q A B C D:Addr) (p:Prg),vs=[.ref q]/\H q=some (.tup [.int p.wh,.ref A,.ref B,.ref C,.ref D])/\E1g H A B C D p/\B2y p/\∀(R:Addr) (H':Hp),A1b H H'->H R=none->H' R=some (.lst (((A2x p).map (Txt.join " ")).map V.str))->Q (.ref R) H'
theorem B1l {α:Type} {xs:List Str} {l:List α} {f:α->Str} {i:Nat} {e:α} (he:l[i]? =some e):(xs++(l.take (i+1)).map f).map V.str=(xs++(l.take i).map f).map V.str++[V.str (f e)]:=by
 rw [Z14,he,Z2f];simp
theorem C4n (T:Txt K mg t):FO P w base T.kd 1 D1x:=by
 refine T.kd.F.ok A1x (by walk_at "ln") λ_ A _ s H _ Q E hr h=> ?_
 ·obtain ⟨q,A0,B0,C0,D0,p,rfl,hq,⟨⟨va,hA,pA⟩,⟨vt,hB,pB⟩,⟨vl,hC,pC⟩,hD⟩,ok,k⟩:=h;have l1:=ok.l1;have l2:=ok.l2;have l3:=ok.l3;have l4:=ok.l4;refine ⟨_,(@A0d _ _ _ _ _ (A5k (pv 0) (A7r (n:=5) rfl (A1c (A0p (i:=1) A1x.nd rfl (.inl rfl)) (A1c (A0p (i:=2) A1x.nd rfl (.inl rfl)) (A1c (A0p (i:=3) A1x.nd rfl (.inl rfl)) (A1c (A0p (i:=4) A1x.nd rfl (.inl rfl)) (A1c (A0p (i:=5) A1x.nd rfl (.inl rfl)) A5c))))))) (@A0d _ _ _ _ _ (@A0x _ _ 6 _ _ _ _ A1x.nd rfl (.inl rfl) (@A2e _ _ _ _ (@A0a _ _ _ _ _ (@A0k _ _ _ _ _ _ _ _ A0q A0g (A2b A2k (by rfl) T.j3 PyProof.Rows.boot_str (@A0a _ _ _ _ _ (pv 1) A0b rfl))) A0b rfl)) rfl (by first | exact Or.inl rfl | exact Or.inr rfl | assumption)) (@A0d _ _ _ _ _ (A5l PassesOwn.never rfl (A3f (pv 2)) (A7r (n:=2) rfl (A1c (A0p (i:=7) A1x.nd rfl (.inl rfl)) (A1c (A0p (i:=8) A1x.nd rfl (.inl rfl)) A5c))) (@A0h _ _ _ (A2z (A2r Z0k Z0n Z0o A2d (pv 6) (@A0a _ _ _ _ _ (@A0k _ _ _ _ _ _ _ _ A0q (@A0k _ _ _ _ _ _ _ _ A0q (@A0k _ _ _ _ _ _ _ _ A0q A0g (pv 7)) A0g) (A2b A2k (by rfl) T.j3 PyProof.Rows.boot_str (@A0a _ _ _ _ _ (pv 8) A0b rfl))) A0b rfl))))) (@A0d _ _ _ _ _ (A5l PassesOwn.never rfl (A3f (pv 3)) (A7r (n:=2) rfl (A1c (A0p (i:=7) A1x.nd rfl (.inl rfl)) (A1c (A0p (i:=9) A1x.nd rfl (.inl rfl)) A5c))) (@A0h _ _ _ (A2z (A2r Z0k Z0n Z0o A2d (pv 6) (@A0a _ _ _ _ _ (A2r PySem.F.plainAttrs_str PySem.F.slot_str_join PySem.F.type_str_join A9y A0g (@A0a _ _ _ _ _ (@A0k _ _ _ _ _ _ _ _ A6q (@A2e _ _ _ _ (@A0a _ _ _ _ _ A0g (@A0a _ _ _ _ _ (pv 7) A0b rfl) rfl)) (pv 9)) A0b rfl)) A0b rfl))))) (@A0d _ _ _ _ _ (A5l PassesOwn.never rfl (A3f (pv 4)) (A7r (n:=3) rfl (A1c (A0p (i:=7) A1x.nd rfl (.inl rfl)) (A1c (A0p (i:=9) A1x.nd rfl (.inl rfl)) (A1c (A0p (i:=10) A1x.nd rfl (.inl rfl)) A5c)))) (@A0h _ _ _ (A2z (A2r Z0k Z0n Z0o A2d (pv 6) (@A0a _ _ _ _ _ (A2r PySem.F.plainAttrs_str PySem.F.slot_str_join PySem.F.type_str_join A9y A0g (@A0a _ _ _ _ _ (@A0k _ _ _ _ _ _ _ _ A6q (@A0k _ _ _ _ _ _ _ _ A6q (@A0k _ _ _ _ _ _ _ _ A6q (@A2e _ _ _ _ (@A0a _ _ _ _ _ A0g (@A0a _ _ _ _ _ (pv 7) A0b rfl) rfl)) (pv 9)) (@A2e _ _ _ _ (@A0a _ _ _ _ _ A0g A0b rfl))) (pv 10)) A0b rfl)) A0b rfl))))) (@A0d _ _ _ _ _ (A5l PassesOwn.never rfl (A3f (pv 5)) (A0p (i:=7) A1x.nd rfl (.inl rfl)) (@A0h _ _ _ (A2z (A2r Z0k Z0n Z0o A2d (pv 6) (@A0a _ _ _ _ _ (@A0k _ _ _ _ _ _ _ _ A0q A0g (pv 7)) A0b rfl))))) (@A0h _ _ _ (@A0u _ _ _ _ (pv 6))))))))),?_⟩;refine ⟨_,rfl,q,_,rfl,SqT.of hq,rfl,_,_,rfl,_,_,rfl,_,_,rfl,_,_,rfl,_,_,rfl,rfl,?_⟩;have bw:B30 (p.wh:Int):=ok.w30;have lw:=B1i bw;have k0:("wheel ":Str).length=6:=by decide +kernel
  refine ⟨_,rfl,_,rfl,B3v (B2r bw),_,_,rfl,rfl,A0t (by lia),A0w rfl,λR hR=> ?_⟩;have e0:("wheel ":Str)++(toString (p.wh:Int):Str)=Txt.join " " [("wheel":Str),(toString (p.wh:Int):Str)]:=by rw [D2z,show ("wheel":Str)++" "="wheel " by decide +kernel]
  rw [e0];generalize hx0:Txt.join " " [("wheel":Str),(toString (p.wh:Int):Str)]=x0;have sR:A1b H (upd H R (.lst [.str x0])):=A0f hR;refine ⟨_,rfl,A0,rfl,⟨_,SqL.of (sR _ _ hA)⟩,?_⟩;refine A9f (K:=K) (a:=A0) (xs:=va) (λi σ G=>∃(o7 o8:Option V),σ=[Sro q,Sio (p.wh:Nat),Sro A0,Sro B0,Sro C0,Sro D0,Sro R,o7,o8,none,none]/\A1b H G/\G R=some (.lst (([x0]++(p.ax.take i).map λe=>Txt.join " " (("axis":Str)::axW e)).map V.str))) ⟨none,none,rfl,sR,A0c⟩ (λi σ G _ h=>by obtain ⟨_,_,_,s',_⟩:=h;exact SqL.of (s' _ _ hA)) ?_ ?_
  ·rintro i v σ G hv ⟨o7,o8,rfl,sG,hG⟩;obtain ⟨e,he,b,rfl,hb⟩:=B4e pA hv;obtain ⟨le,_,e60⟩:=ok.ax e (Z13 he);have b6:=b60 e60;have lz:=B1i b6;have ln:=le.ln;have q1:("axis ":Str).length=5:=by decide +kernel
   have q2:(" ":Str).length=1:=by decide +kernel
   have q3:(("axis ":Str)++e.1).length<=25:=by rw [Str.length_append];lia
   have q4:(("axis ":Str)++e.1++" ").length<=26:=by rw [Str.length_append];lia
   refine ⟨b,_,rfl,SqT.of (sG _ _ hb),rfl,_,_,rfl,_,_,rfl,rfl,?_⟩;refine ⟨_,rfl,.inl ⟨rfl,_,SqL.of hG⟩,_,rfl,_,_,rfl,rfl,A0t (by lia),_,_,rfl,rfl,A0t (by lia),_,rfl,_,rfl,B3v (B2r b6),_,_,rfl,rfl,A0t (by lia),R,_,_,rfl,rfl,hG,A1p (by rw [Z08,Z06,Z08,Z0x,Z0j];lia),_,_,rfl,A0j sG hR,?_⟩;have ej:("axis ":Str)++e.1++" "++(toString ((e.2:Nat):Int):Str)=Txt.join " " (("axis":Str)::axW e):=by unfold axW;rw [D7n,show ("axis":Str)++" "="axis " by decide +kernel]
   rw [A0c,B1l he,<-ej]
  rintro σ H1 ⟨o7,o8,rfl,s1,h1⟩;rw [Paired.length pA,Z18] at h1;generalize hx1:[x0]++p.ax.map (λe=>Txt.join " " (("axis":Str)::axW e))=x1 at h1;have lx1:x1.length<=21:=by rw [<-hx1,Z06,Z08,Z0j];lia
  refine ⟨_,rfl,B0,rfl,⟨_,SqL.of (s1 _ _ hB)⟩,?_⟩;refine A9f (K:=K) (a:=B0) (xs:=vt) (λi σ G=>∃(o7 o9:Option V),σ=[Sro q,Sio (p.wh:Nat),Sro A0,Sro B0,Sro C0,Sro D0,Sro R,o7,o8,o9,none]/\A1b H G/\G R=some (.lst ((x1++(p.tb.take i).map λe=>Txt.join " " (("table":Str)::tbW e)).map V.str))) ⟨o7,none,rfl,s1,by rw [List.take_zero,List.map_nil,Z0u];exact h1⟩ (λi σ G _ h=>by obtain ⟨_,_,_,s',_⟩:=h;exact SqL.of (s' _ _ hB)) ?_ ?_
  ·rintro i v σ G hv ⟨o7,o9,rfl,sG,hG⟩;obtain ⟨e,he,b,c,rfl,_,hb,hc⟩:=B4e pB hv;have oe:=ok.tb e (Z13 he);have rg:=C9c oe;have lr:=rg.ln;have sm:=C5h (k:=900) λx hx=>(rg.gw x hx).ln;have q2:(" ":Str).length=1:=by decide +kernel
   have l12:=oe.ln;refine ⟨b,_,rfl,SqT.of (sG _ _ hb),rfl,_,_,rfl,_,_,rfl,rfl,?_⟩;refine ⟨_,rfl,.inl ⟨rfl,_,SqL.of hG⟩,rfl,_,rfl,A0w rfl,λz hz=> ?_⟩;have s2:=A0f (o:= .lst [V.str "table",.str e.1]) hz;refine ⟨_,rfl,z,c,_,_,rfl,rfl,A0c,s2 _ _ (sG _ _ hc),A0t (by simp;lia),λy hy=> ?_⟩;have s3:=s2.trans (A0f (o:= .lst ([V.str "table",.str e.1]++e.2.map V.str)) hy);refine ⟨" ",y,("table":Str)::tbW e,rfl,rfl,SqL.of A0c,by rw [q2];lia,R,_,_,rfl,rfl,s3 _ _ hG,A1p (by rw [Z08,Z06,Z08,Z0x];lia),_,_,rfl,A0j (sG.trans s3) hR,?_⟩;rw [A0c,B1l he]
  rintro σ H2 ⟨o7,o9,rfl,s2,h2⟩;rw [Paired.length pB,Z18] at h2;generalize hx2:x1++p.tb.map (λe=>Txt.join " " (("table":Str)::tbW e))=x2 at h2;have lx2:x2.length<=41:=by rw [<-hx2,Z06,Z08];lia
  refine ⟨_,rfl,C0,rfl,⟨_,SqL.of (s2 _ _ hC)⟩,?_⟩;refine A9f (K:=K) (a:=C0) (xs:=vl) (λi σ G=>∃(o7 o9 o10:Option V),σ=[Sro q,Sio (p.wh:Nat),Sro A0,Sro B0,Sro C0,Sro D0,Sro R,o7,o8,o9,o10]/\A1b H G/\G R=some (.lst ((x2++(p.ls.take i).map λe=>Txt.join " " (("let":Str)::ltW e)).map V.str))) ⟨o7,o9,none,rfl,s2,by rw [List.take_zero,List.map_nil,Z0u];exact h2⟩ (λi σ G _ h=>by obtain ⟨_,_,_,_,s',_⟩:=h;exact SqL.of (s' _ _ hC)) ?_ ?_
  ·rintro i v σ G hv ⟨o7,o9,o10,rfl,sG,hG⟩;obtain ⟨e,he,b,c,W,rfl,_,hb,hc,hW⟩:=B4e pC hv;have oe:=ok.ls e (Z13 he);have rg:=C9p oe;have lr:=rg.ln;have sm:=C5h (k:=900) λx hx=>(rg.gw x hx).ln;have q2:(" ":Str).length=1:=by decide +kernel
   have l12:=oe.ln;have lwd:(A1f e.2.2).length<=140:=by simp only [ltW,Z0y,Z06] at lr;lia
   refine ⟨b,_,rfl,SqT.of (sG _ _ hb),rfl,_,_,rfl,_,_,rfl,_,_,rfl,rfl,?_⟩;refine ⟨_,rfl,.inl ⟨rfl,_,SqL.of hG⟩,rfl,_,rfl,A0w rfl,λz hz=> ?_⟩;have s2:=A0f (o:= .lst [V.str "let",.str e.1]) hz;refine ⟨_,rfl,z,c,_,_,rfl,rfl,A0c,s2 _ _ (sG _ _ hc),A0t (by simp;lia),λy1 hy1=> ?_⟩;have s3:=s2.trans (A0f (o:= .lst ([V.str "let",.str e.1]++e.2.1.map V.str)) hy1);have hy3:upd (upd G z (.lst [V.str "let",.str e.1])) y1 (.lst ([V.str "let",.str e.1]++e.2.1.map V.str)) y1=some (.lst ([V.str "let",.str e.1]++e.2.1.map V.str)):=A0c;generalize upd (upd G z (.lst [V.str "let",.str e.1])) y1 (.lst ([V.str "let",.str e.1]++e.2.1.map V.str))=G3 at s3 hy3⊢;refine ⟨A0w rfl,λz2 hz2=> ?_⟩;have s4:=A0f (o:= .lst [V.str "="]) hz2;refine ⟨y1,z2,_,_,rfl,rfl,s4 _ _ hy3,A0c,A0t (by simp;lia),λy2 hy2=> ?_⟩;have s5:=s4.trans (A0f (o:= .lst ([V.str "let",.str e.1]++e.2.1.map V.str++[V.str "="])) hy2);have hy5:upd (upd G3 z2 (.lst [V.str "="])) y2 (.lst ([V.str "let",.str e.1]++e.2.1.map V.str++[V.str "="])) y2=some (.lst ([V.str "let",.str e.1]++e.2.1.map V.str++[V.str "="])):=A0c;generalize upd (upd G3 z2 (.lst [V.str "="])) y2 (.lst ([V.str "let",.str e.1]++e.2.1.map V.str++[V.str "="]))=G5 at s5 hy5⊢;have s35:=s3.trans s5;refine ⟨_,rfl,y2,W,_,_,rfl,rfl,hy5,s35 _ _ (sG _ _ hW),A0t (by simp;lia),λy hy=> ?_⟩;have s6:=s35.trans (A0f (o:= .lst ([V.str "let",.str e.1]++e.2.1.map V.str++[V.str "="]++(A1f e.2.2).map V.str)) hy);have ew:([V.str "let",.str e.1]++e.2.1.map V.str++[V.str "="]++(A1f e.2.2).map V.str)=(("let":Str)::ltW e).map V.str:=by simp [ltW]
   refine ⟨" ",y,("let":Str)::ltW e,rfl,rfl,SqL.of (by rw [A0c,ew]),by rw [q2];lia,R,_,_,rfl,rfl,s6 _ _ hG,A1p (by rw [Z08,Z06,Z08,Z0x];lia),_,_,_,rfl,A0j (sG.trans s6) hR,?_⟩;rw [A0c,B1l he]
  rintro σ H3 ⟨o7,o9,o10,rfl,s3,h3⟩;rw [Paired.length pC,Z18] at h3;generalize hx3:x2++p.ls.map (λe=>Txt.join " " (("let":Str)::ltW e))=x3 at h3;have lx3:x3.length<=61:=by rw [<-hx3,Z06,Z08];lia
  refine ⟨_,rfl,D0,rfl,⟨_,SqL.of (s3 _ _ hD)⟩,?_⟩;refine A9f (K:=K) (a:=D0) (xs:=p.os.map V.str) (λi σ G=>∃(o7:Option V),σ=[Sro q,Sio (p.wh:Nat),Sro A0,Sro B0,Sro C0,Sro D0,Sro R,o7,o8,o9,o10]/\A1b H G/\G R=some (.lst ((x3++(p.os.take i).map λx=>Txt.join " " [("out":Str),x]).map V.str))) ⟨o7,rfl,s3,by rw [List.take_zero,List.map_nil,Z0u];exact h3⟩ (λi σ G _ h=>by obtain ⟨_,_,s',_⟩:=h;exact SqL.of (s' _ _ hD)) ?_ ?_
  ·rintro i v σ G hv ⟨o7,rfl,sG,hG⟩;rw [Z1z] at hv;obtain ⟨x,hx,rfl⟩:=Z0i.mp hv;have ln:=(ok.os x (Z13 hx)).ln;have q1:("out ":Str).length=4:=by decide +kernel
   refine ⟨_,rfl,.inl ⟨rfl,_,SqL.of hG⟩,_,rfl,_,_,rfl,rfl,A0t (by lia),R,_,_,rfl,rfl,hG,A1p (by rw [Z08,Z06,Z08,Z0x];lia),_,rfl,A0j sG hR,?_⟩;have ej:("out ":Str)++x=Txt.join " " [("out":Str),x]:=by rw [D2z,show ("out":Str)++" "="out " by decide +kernel]
   rw [A0c,B1l hx,<-ej]
  rintro σ H4 ⟨o7,rfl,s4,h4⟩;rw [Z08,Z18] at h4;refine ⟨_,rfl,k R H4 s4 hR ?_⟩;rw [h4];congr 3;rw [<-hx3,<-hx2,<-hx1,<-hx0];unfold A2x kwP;simp only [Z0p,Z0s,List.map_map,Z0z,Z17,List.nil_append];rfl
theorem B1a {x:Str} (h:Ltr x):A7l (sg x)=true:=by
 unfold A7l;rw [Z1x,List.all_eq_true];refine ⟨?_,λc hc=>by have:=h.dg c hc;simp [this.1,this.2]⟩
 cases e:sg x with
 | nil=>exact absurd e h.ne
 | cons a l=>rfl
theorem D1b {n:Nat} (h:n<10^30) (n0:n≠0):C2d (B1j n)=true:=by
 unfold C2d;rw [(A3n _).mpr (B1q h),Bool.true_and,Z1j (λe=>n0 (by rw [<-C0q n];exact (B4y (B1q h)).mpr e))];rfl
theorem C6k {z:Int} (h:B30 z):B2k (zsg z)=true:=by
 unfold B2k zsg;by_cases z0:z<0
 ·rw [Z12 z0,Z12 (by rfl)];exact D1b h (by lia)
 ·rw [Z0t z0,Z0t (λe=>by
   obtain ⟨c,r,e1,c1,c2⟩:=B9o z.natAbs;rw [e1] at e;injection e with e
   lia)]
  exact (A3n _).mpr (B1q h)
theorem D5b (z:Int):C5b (zsg z)=true:=by
 obtain ⟨c,r,e,h⟩:=B4b z;unfold C5b E0x A1v;rw [e];rcases h with ⟨rfl,_⟩ | ⟨h,_⟩
 ·rfl
 ·simp [h.1,h.2]
theorem D5l {x:Str} (h:Ltr x) (r:List Nat):C5b (sg x++r)=false:=by
 cases e:sg x with
 | nil=>exact absurd e h.ne
 | cons c l =>
  have hc:=h.dg c (by rw [e];exact .head _);show (decide (some c=some 45)||decide (48<=c/\c<=57))=false;rw [Z1j (by lia:¬(48<=c/\c<=57)),Z1j (by intro z;injection z with z;lia:¬some c=some 45)];rfl
theorem B2d {c:Nat}:∀{p r:List Nat},c∉p->bef c (p++c::r)=p/\aft c (p++c::r)=r
 | [],r,_=>by simp [bef,aft]
 | a::p,r,h=>by
  have ih:=B2d (p:=p) (r:=r) λm=>h (.tail _ m);have ne:a≠c:=λe=>h (by rw [e];exact .head _);unfold bef aft at ih⊢;simp only [Z17,List.takeWhile_cons,List.dropWhile_cons,ne,ne_eq,not_false_eq_true,decide_true,if_true];exact ⟨by rw [ih.1],ih.2⟩
theorem ix_B {e:Str×Int} (h:B1h e):ixB (ixS e)=true:=by
 unfold ixB ixS;by_cases n:e.1=""
 ·rw [Z12 n,Z12 (D5b _)];exact C6k h.2
 ·have l:=h.1.resolve_left n;have l0:=D5l l;have n43:=B6r l (c:=43) (by decide);have n45:=B6r l (c:=45) (by decide);rw [Z0t n];by_cases z:e.2=0
  ·have:=l0 [];rw [Z0u] at this;rw [Z12 z,Z0t (by rw [this];decide),Z0t n43,Z0t n45];exact B1a l
  ·rw [Z0t z];by_cases p:0<e.2
   ·rw [Z12 p,Z0t (by rw [l0];decide),Z12 (by simp),(B2d n43).1,(B2d n43).2,B1a l,D1b h.2 (by lia)];rfl
   ·have m43:43∉sg e.1++45::B1j e.2.natAbs:=λm=>by
     rcases Z07.mp m with m | m
     ·exact n43 m
     ·rcases Z0e.mp m with m | m
      ·cases m
      ·exact D1z (by decide) m
    rw [Z0t p,Z0t (by rw [l0];decide),Z0t m43,Z12 (by simp),(B2d n45).1,(B2d n45).2,B1a l,D1b h.2 (by lia)];rfl
theorem D3e (a:Str) (ix:List (Str×Int)):sg (a++"["++B4a ix++"]")=sg a++91::(sg (B4a ix)++[93]):=by
 rw [A1o,A1o,A1o,B9p,B9a];simp [sg]
theorem rd_B {a:Str} {ix:List (Str×Int)} (ha:Ltr a) (h:∀e∈ix,B1h e):B3f (sg (a++"["++B4a ix++"]"))=true:=by
 have n91:=B6r ha (c:=91) (by decide);rw [D3e];unfold B3f rdB;rw [Z12 (by simp),(B2d n91).1,(B2d n91).2,B1a ha,List.getLast?_concat,Z20 rfl,List.dropLast_concat,Bool.true_and,Bool.true_and];by_cases e:ix=[]
 ·rw [e,B0o];rfl
 ·rw [B0o,B9x (by simpa using e) (λp hp m=>by
   obtain ⟨x,hx,rfl⟩:=Z2c.mp hp;have:=C3h (h x hx) _ m;unfold IxC at this
   lia),Bool.or_eq_true]
  refine .inr (List.all_eq_true.mpr λp hp=> ?_);obtain ⟨x,hx,rfl⟩:=Z2c.mp hp;exact ix_B (h x hx)
theorem C5m {x:Str} {c:Nat} {l:List Nat} (h:sg x=c::l) (hc:c≠43/\c≠42/\(c=45->l≠[])):C7j x=false:=by
 unfold C7j;refine Z1j λm=> ?_;have ep:sg ("+":Str)=[43]:=by decide +kernel
 have em:sg ("-":Str)=[45]:=by decide +kernel
 have et:sg ("*":Str)=[42]:=by decide +kernel
 simp only [Z0e,Z1i,or_false] at m;rcases m with rfl | rfl | rfl
 ·rw [ep] at h;injection h with h1 h2;lia
 ·rw [em] at h;injection h with h1 h2;exact hc.2.2 h1.symm h2.symm
 ·rw [et] at h;injection h with h1 h2;lia
theorem B9f {n:Nat} {x:Str} {r:List Str} (h:C7j x=false) (h1:x≠"sum") (h2:x≠"if") (hl:B3f (sg x)=true):prT (n+1) (x::r)=some r:=by
 unfold prT;rw [Z0t (by rw [h];decide),Z0t h1,Z0t h2,Z12 hl]
theorem B9y {x:Str} (h:Ltr x):∃c l,sg x=c::l/\97<=c/\c<=122:=by
 cases e:sg x with
 | nil=>exact absurd e h.ne
 | cons c l=>exact ⟨c,l,rfl,h.dg c (by rw [e];exact .head _)⟩
theorem D4u {n:Nat} {z:Int} {r:List Str} (h:B30 z):prT (n+1) ((toString z:Str)::r)=some r:=by
 obtain ⟨c,l,e,hc⟩:=B4b z;have es:sg (Str.ofString (toString z))=c::l:=by rw [A7u,e]
 have ne:∀y:Str,(∀d∈(sg y).head?,97<=d)->sg y≠[]->(Str.ofString (toString z))≠y:=λy hy hn e2=>by
  have:=hy c (by rw [<-e2,es];rfl)
  lia
 refine B9f (C5m es ⟨by lia,by lia,λc45=> ?_⟩) (ne _ (by rw [C4w];simp) (by rw [C4w];simp)) (ne _ (by rw [D4r];simp) (by rw [D4r];simp)) ?_
 ·unfold zsg at e;split at e
  ·injection e with e1 e2;rw [<-e2];exact C3n _
  ·have:=A6y z.natAbs c (by rw [e];exact .head _)
   lia
 ·rw [A7u];unfold B3f;rw [Z0t (λm=>by have:=C4j z _ m;lia),Z12 (D5b z)];exact C6k h
theorem A7h:∀(u:Tm) (n:Nat) (r:List Str),C5v u->dep u<=n->prT n (A1f u++r)=some r
 | u,0,_,_,hn=>by have:=B6c u;lia
 | .num z,n+1,r,h,_=>D4u h
 | .place x,n+1,r,h,_=>by
  obtain ⟨c,l,e,c1,c2⟩:=B9y h.1;refine B9f (C5m e ⟨by lia,by lia,by lia⟩) h.2.1 h.2.2 ?_;have:=D5l h.1 [];rw [Z0u] at this;unfold B3f;rw [Z0t (B6r h.1 (by decide)),Z0t (by rw [this];decide)];exact B1a h.1
 | .read a ix,n+1,r,h,_=>by
  obtain ⟨c,l,e,c1,c2⟩:=B9y h.1;have es:=D3e a ix;have m91:91∈sg (a++"["++B4a ix++"]"):=by rw [es];simp
  refine B9f (C5m (by rw [es,e];rfl) ⟨by lia,by lia,by lia⟩) (λz=> ?_) (λz=> ?_) (rd_B h.1 h.2.2)
  ·rw [z,C4w] at m91;revert m91;decide
  ·rw [z,D4r] at m91;revert m91;decide
 | .sum x b,n+1,r,h,hn=>by
  have ih:=A7h b n r h.2 (by simp only [dep] at hn;lia);show prT (n+1) (("sum":Str)::x::(A1f b++r))=some r;unfold prT;rw [Z0t (by decide +kernel),Z12 rfl];show (if A7l (sg x)=true then prT n (A1f b++r) else none)=some r;rw [Z12 (B1a h.1),ih]
 | .pair o a b,n+1,r,h,hn=>by
  have i1:=A7h a n (A1f b++r) h.1 (by simp only [dep] at hn;lia);have i2:=A7h b n r h.2 (by simp only [dep] at hn;lia);have e:A1f (.pair o a b)++r=o.sign::(A1f a++(A1f b++r)):=by simp [A1f]
  rw [e];unfold prT;rw [Z12 (by cases o <;> decide +kernel),i1];exact i2
 | .guard x lo hi a b,n+1,r,h,hn=>by
  have i1:=A7h a n (A1f b++r) h.2.2.2.1 (by simp only [dep] at hn;lia);have i2:=A7h b n r h.2.2.2.2 (by simp only [dep] at hn;lia);have e:A1f (.guard x lo hi a b)++r=("if":Str)::x::(toString lo:Str)::(toString hi:Str)::(A1f a++(A1f b++r)):=by simp [A1f]
  rw [e];unfold prT;rw [Z0t (by decide +kernel),Z0t (by decide +kernel),Z12 rfl];show (if (A7l (sg x)&&B2k (sg (Str.ofString (toString lo)))&&B2k (sg (Str.ofString (toString hi))))=true then (prT n (A1f a++(A1f b++r))).bind (prT n) else none)=some r;rw [B1a h.1,A7u,A7u,C6k h.2.1,C6k h.2.2.1,i1];exact i2
theorem A2y {α:Type} {f:α->List Str} {c s:Str}:∀{l:List α},A7j s (l.map λe=>(c,f e))=if c=s then l.map f else []
 | []=>by simp [A7j]
 | a::l=>by
  have ih:=A2y (f:=f) (c:=c) (s:=s) (l:=l);unfold A7j at ih⊢;by_cases h:c=s
  ·rw [Z12 h] at ih⊢;simp [h] at ih⊢;exact ih
  ·rw [Z0t h] at ih⊢;simp [h] at ih⊢
theorem A4c {s:Str} {l m:List (Str×List Str)}:A7j s (l++m)=A7j s l++A7j s m:=by unfold A7j;rw [List.filter_append,Z0s]
theorem D3d (p:Prg):A7j "axis" (kwP p)=p.ax.map axW:=by
 unfold kwP;rw [A4c,A4c,A4c,A2y,A2y,A2y,A2y,Z12 rfl,Z0t (by decide),Z0t (by decide),Z0t (by decide)];simp
theorem D3h (p:Prg):A7j "table" (kwP p)=p.tb.map tbW:=by
 unfold kwP;rw [A4c,A4c,A4c,A2y,A2y,A2y,A2y,Z0t (by decide),Z12 rfl,Z0t (by decide),Z0t (by decide)];simp
theorem D4g (p:Prg):A7j "let" (kwP p)=p.ls.map ltW:=by
 unfold kwP;rw [A4c,A4c,A4c,A2y,A2y,A2y,A2y,Z0t (by decide),Z0t (by decide),Z12 rfl,Z0t (by decide)];simp
theorem D4m (p:Prg):A7j "out" (kwP p)=p.os.map λx=>[x]:=by
 unfold kwP;rw [A4c,A4c,A4c,A2y,A2y,A2y,A2y,Z0t (by decide),Z0t (by decide),Z0t (by decide),Z12 rfl];simp
theorem D7a {xs ys:List Str} {k:Str} (h:k∉xs):(xs++k::ys).idxOf k=xs.length:=by
 induction xs with
 | nil=>simp
 | cons a r ih =>
  have h1:a≠k:=λe=>h (by rw [e];exact .head _);rw [Z17,List.idxOf_cons];have:(a == k)=false:=by simpa using h1
  rw [this,ih λm=>h (.tail _ m)];rfl
theorem E0h (p:Prg):kwR (A2x p).tail=kwP p:=by
 unfold kwR A2x;rw [List.tail_cons,List.map_map];exact List.map_id _
theorem C9l:∀{l:List (Str×List Str)} (L:Nat),(∀e∈l,e.1∈S4/\L<=S4.idxOf e.1)->(l.Pairwise λa b=>S4.idxOf a.1<=S4.idxOf b.1)->B7t L l=true
 | [],_,_,_=>rfl
 | e::r,L,h,pw=>by
  obtain ⟨h1,h2⟩:=h e (.head _);have p:=List.pairwise_cons.mp pw;unfold B7t;rw [Z20 (C6m h1 h2),Bool.true_and];exact C9l _ (λe' he'=>⟨(h e' (.tail _ he')).1,p.1 e' he'⟩) p.2
theorem D6n {n:Nat} (h:n<10^30):B8l (sg (Str.ofString (toString (n:Int))))=true:=(A3n _).mpr (C8r h)
theorem B8a (n:Nat):A9p (Str.ofString (toString (n:Int)))=n:=by
 unfold A9p;rw [B9u];exact C0q n
theorem D5h {p:Prg} (h:B2y p):A6x ((A2x p).headD [])=true:=by
 show A6x [("wheel":Str),(Str.ofString (toString (p.wh:Int)))]=true;unfold A6x;show (true&&B8l (sg (Str.ofString (toString (p.wh:Int))))&&decide (("wheel":Str)="wheel")&&decide (2<=A9p (Str.ofString (toString (p.wh:Int)))))=true;rw [D6n h.w30,B8a,Z20 h.w2,Z20 rfl];rfl
theorem D4f {e:Str×Nat} (h:Ltr e.1) (h1:1<=e.2) (h60:e.2<=60):B3b (axW e)=true:=by
 unfold B3b axW;show (true&&B8l (sg (Str.ofString (toString (e.2:Int))))&&decide (1<=A9p (Str.ofString (toString (e.2:Int))))&&decide (A9p (Str.ofString (toString (e.2:Int)))<=60)&&A7l (sg e.1))=true;rw [D6n (Z2d h60 (by decide)),B8a,Z20 h1,Z20 h60,B1a h];rfl
theorem C8q {x:Str} {xs:List Str} (h:Ltr x) (hs:∀y∈xs,Ltr y):A6b (x::xs)=true:=by
 unfold A6b;rw [Z1x,List.all_eq_true];refine ⟨rfl,λy hy=> ?_⟩;rcases Z0e.mp hy with rfl | hy
 ·exact B1a h
 ·exact B1a (hs y hy)
theorem D5j {e:Lt} (h:D7e e):C1w (ltW e)=true:=by
 have ne:("=":Str)∉e.1::e.2.1:=λm=>by
  rcases Z0e.mp m with z | z
  ·exact C8o h.nm z.symm
  ·exact C8o (h.ax _ z) rfl
 have ei:ltW e=(e.1::e.2.1)++("=":Str)::A1f e.2.2:=rfl;have ix:=D7a (ys:=A1f e.2.2) ne;have pw:=A7h e.2.2 100 [] h.tm (by have:=h.dp;lia);rw [Z0u] at pw;unfold C1w tmB;rw [ei,ix,List.take_left,Z20 (by simp),C8q h.nm h.ax];rw [show (e.1::e.2.1++("=":Str)::A1f e.2.2).drop ((e.1::e.2.1).length+1)=A1f e.2.2 by rw [<-List.drop_drop,List.drop_left];rfl,Z20 pw];rfl
theorem B5x {p:Prg} (h:B2y p):A2f (A2x p)=true:=by
 unfold A2f;rw [E0h,D5h h,D3d,D3h,D4g,D4m,C9l 0 (λe he=>⟨D6f p e he,Z1e _⟩) (D9k p)];simp only [Bool.true_and,Z1x,List.all_eq_true,Z2c];refine ⟨⟨⟨?_,?_⟩,?_⟩,?_⟩
 ·rintro _ ⟨e,he,rfl⟩;exact D4f (h.ax e he).1 (h.ax e he).2.1 (h.ax e he).2.2
 ·rintro _ ⟨e,he,rfl⟩;exact C8q (h.tb e he).nm (h.tb e he).ax
 ·rintro _ ⟨e,he,rfl⟩;exact D5j (h.ls e he)
 ·rintro _ ⟨e,he,rfl⟩;unfold C5y;show (true&&A7l (sg e))=true;rw [B1a (h.os e he)];rfl
theorem C3r {p:Prg} (h:B2y p):A4t (txP p)=A2x p:=by
 unfold A4t;rw [C3c h,List.map_map];have:∀ws∈A2x p,((λr=>Txt.split r " ")∘Txt.join " ") ws=ws:=λws hw=>A5j (A8n h ws hw);exact (List.map_congr_left this).trans (List.map_id _)
theorem D1d {p:Prg} (h:B2y p):A2f (A4t (txP p))=true:=by rw [C3r h];exact B5x h
def okC (c:Nat):Prop:=(97<=c/\c<=122)\/(48<=c/\c<=57)\/c=42\/c=43\/c=44\/c=45\/c=61\/c=91\/c=93
def B3h (u:List Nat):Bool:=match u with | d::_=> ! A1v d | []=>true
def nnB:Bool->List Nat->Bool
 | _,[]=>true
 | f,c::u=>(f|| ! decide (c=48)||B3h u)&&nnB (A1v c) u
theorem C7x {p r:List Nat} {c:Nat} (h:A1v c=false):B3h (p++c::r)=B3h p:=by
 cases p with
 | nil=>show (! A1v c)=true;rw [h];rfl
 | cons a p=>rfl
theorem B3m {c:Nat} {r:List Nat} (h:A1v c=false):∀(p:List Nat) (f:Bool),nnB f (p++c::r)=(nnB f p&&nnB false r)
 | [],f=>by
  have:decide (c=48)=false:=Z1j λe=>by rw [e] at h;exact absurd h (by decide)
  show ((f|| ! decide (c=48)||B3h r)&&nnB (A1v c) r)=(true&&nnB false r);rw [this,h];cases f <;> rfl
 | a::p,f=>by
  show ((f|| ! decide (a=48)||B3h (p++c::r))&&nnB (A1v a) (p++c::r))=((f|| ! decide (a=48)||B3h p)&&nnB (A1v a) p&&nnB false r);rw [B3m h p,C7x h,Bool.and_assoc]
theorem C8v:∀{u:List Nat},(∀c∈u,48<=c/\c<=57)->nnB true u=true
 | [],_=>rfl
 | c::u,h=>by
  have hc:=h c (.head _);show (true&&nnB (A1v c) u)=true;rw [show A1v c=true from Z20 hc,C8v λd hd=>h d (.tail _ hd)];rfl
theorem C9s:∀{u:List Nat} {f:Bool},(∀c∈u,97<=c/\c<=122)->nnB f u=true
 | [],_,_=>rfl
 | c::u,f,h=>by
  have hc:=h c (.head _);show ((f|| ! decide (c=48)||B3h u)&&nnB (A1v c) u)=true;rw [Z1j (by lia:¬c=48),C9s λd hd=>h d (.tail _ hd)];cases f <;> rfl
theorem D3g {u:List Nat} (h:B0x u):nnB false u=true:=by
 cases u with
 | nil=>rfl
 | cons c u =>
  have hc:=h.dg c (.head _);have hu:∀d∈u,48<=d/\d<=57:=λd hd=>h.dg d (.tail _ hd);show ((false|| ! decide (c=48)||B3h u)&&nnB (A1v c) u)=true;rw [show A1v c=true from Z20 hc,C8v hu];by_cases e:c=48
  ·have:=h.z (by rw [e];rfl);have:u=[]:=Z2n.mp (by rw [Z0y] at this;lia);rw [this,Z20 e];rfl
  ·rw [Z1j e];rfl
structure Wd (u:List Nat):Prop where
 ne:u≠[]
 sg:∀c∈u,okC c
 nn:nnB false u=true
theorem A6d {u:List Nat} (h:A7l u=true):Wd u:=by
 unfold A7l at h;rw [Z1x,List.all_eq_true] at h;have hl:∀c∈u,97<=c/\c<=122:=λc hc=>by have:=h.2 c hc;simpa using this
 exact ⟨λe=>by rw [e] at h;exact absurd h.1 (by decide),λc hc=> .inl (hl c hc),C9s hl⟩
theorem B9h {u:List Nat} (h:B8l u=true):Wd u:=by
 have h:=(A3n u).mp h;exact ⟨λe=>by have:=h.l1;rw [e] at this;simp at this,λc hc=> .inr (.inl (h.dg c hc)),D3g h⟩
theorem C4z {u:List Nat} (h:C2d u=true):Wd u:=B9h (by unfold C2d at h;rw [Z1x] at h;exact h.1)
theorem C4k {p r:List Nat} {c:Nat} (hp:Wd p) (hr:Wd r) (hc:okC c) (hf:A1v c=false):Wd (p++c::r):=⟨by simp,λd hd=>by
 rcases Z07.mp hd with z | z
 ·exact hp.sg d z
 ·rcases Z0e.mp z with z | z
  ·rw [z];exact hc
  ·exact hr.sg d z,by rw [B3m hf,hp.nn,hr.nn];rfl⟩
theorem C0p {u:List Nat} (h:B2k u=true):Wd u:=by
 unfold B2k at h;by_cases e:u.head? =some 45
 ·rw [Z12 e] at h
  cases u with
  | nil=>cases e
  | cons c u =>
   injection e with e;subst e;have w:Wd u:=C4z h
   exact ⟨by simp,λd hd=>by
    rcases Z0e.mp hd with z | z
    ·rw [z];unfold okC;lia
    ·exact w.sg d z,by
    have:=B3m (c:=45) (r:=u) (by decide) [] false;rw [List.nil_append] at this
    rw [this,w.nn];rfl⟩
 ·rw [Z0t e] at h;exact B9h h
theorem D3p {u:List Nat} (h:ixB u=true):Wd u:=by
 unfold ixB at h;by_cases b:C5b u=true
 ·rw [Z12 b] at h;exact C0p h
 rw [Z0t b] at h;by_cases p:43∈u
 ·rw [Z12 p,Z1x] at h;rw [(A9k p).1];exact C4k (A6d h.1) (C4z h.2) (by unfold okC;lia) (by decide)
 rw [Z0t p] at h;by_cases m:45∈u
 ·rw [Z12 m,Z1x] at h;rw [(A9k m).1];exact C4k (A6d h.1) (C4z h.2) (by unfold okC;lia) (by decide)
 rw [Z0t m] at h;exact A6d h
theorem C8i {c:Nat} (hf:A1v c=false):∀{ps:List (List Nat)},(∀p∈ps,nnB false p=true)->nnB false (jn c ps)=true
 | [],_=>rfl
 | [p],h=>h p (.head _)
 | p::q::ps,h=>by
  rw [jn,B3m hf,h p (.head _),C8i hf λr hr=>h r (.tail _ hr)];rfl
theorem D8g {u:List Nat} (m:91∈u) (h:rdB u=true):Wd u:=by
 unfold rdB at h;rw [Z1x,Z1x,decide_eq_true_eq] at h;obtain ⟨⟨h1,h2⟩,h3⟩:=h;have w:=A6d h2
 have e:(aft 91 u).dropLast++[93]=aft 91 u:=by
  obtain ⟨ys,hy⟩:=List.getLast?_eq_some_iff.mp h1;rw [hy,List.dropLast_concat]
 have nb:nnB false (aft 91 u).dropLast=true/\∀c∈(aft 91 u).dropLast,okC c:=by
  rcases (Bool.or_eq_true _ _).mp h3 with z | z
  ·rw [decide_eq_true_eq] at z;rw [z];exact ⟨rfl,λc hc=>by cases hc⟩
  ·rw [List.all_eq_true] at z;rw [<-B9j 44 (aft 91 u).dropLast];refine ⟨C8i (by decide) λp hp=>(D3p (z p hp)).nn,λc hc=> ?_⟩;rcases B1r hc with rfl | ⟨p,hp,hc⟩
   ·unfold okC;lia
   ·exact (D3p (z p hp)).sg c hc
 rw [(A9k m).1];refine ⟨by simp,λc hc=> ?_,?_⟩
 ·rcases Z07.mp hc with z | z
  ·exact w.sg c z
  ·rcases Z0e.mp z with rfl | z
   ·unfold okC;lia
   ·rw [<-e] at z;rcases Z07.mp z with z | z
    ·exact nb.2 c z
    ·rw [Z0w.mp z];unfold okC;lia
 ·rw [B3m (by decide),w.nn,<-e,B3m (by decide),nb.1];rfl
theorem D2r {u:List Nat} (h:B3f u=true):Wd u:=by
 unfold B3f at h;by_cases m:91∈u
 ·rw [Z12 m] at h;exact D8g m h
 rw [Z0t m] at h;by_cases b:C5b u=true
 ·rw [Z12 b] at h;exact C0p h
 ·rw [Z0t b] at h;exact A6d h
theorem D8o {x:Str} (h:C7j x=true):Wd (sg x):=by
 unfold C7j at h;rw [decide_eq_true_eq] at h;simp only [Z0e,Z1i,or_false] at h;have k:∀c:Nat,okC c->nnB false [c]=true->Wd [c]:=λc h1 h2=>⟨by simp,λd hd=>by rw [Z0w.mp hd];exact h1,h2⟩;rcases h with rfl | rfl | rfl
 ·rw [show sg ("+":Str)=[43] by decide +kernel];exact k _ (by unfold okC;lia) (by decide)
 ·rw [show sg ("-":Str)=[45] by decide +kernel];exact k _ (by unfold okC;lia) (by decide)
 ·rw [show sg ("*":Str)=[42] by decide +kernel];exact k _ (by unfold okC;lia) (by decide)
theorem B5d {x:Str} (h:Ltr x):Wd (sg x):=A6d (B1a h)
theorem C1j:∀{n:Nat} {l r:List Str},prT n l=some r->∃p,l=p++r/\∀x∈p,Wd (sg x)
 | 0,_,_,h=>by cases h
 | _+1,[],_,h=>by cases h
 | n+1,x::l,r,h=>by
  unfold prT at h;split at h
  ·rename_i ho;obtain ⟨m,h1,h2⟩:=Option.bind_eq_some_iff.mp h;obtain ⟨p1,e1,w1⟩:=C1j h1;obtain ⟨p2,e2,w2⟩:=C1j h2;refine ⟨x::(p1++p2),by rw [e1,e2];simp,λy hy=> ?_⟩;rcases Z0e.mp hy with rfl | hy
   ·exact D8o ho
   ·exact (Z07.mp hy).elim (w1 y) (w2 y)
  ·split at h
   ·rename_i hs;split at h
    ·cases h
    ·split at h
     ·rename_i hl;obtain ⟨p1,e1,w1⟩:=C1j h;refine ⟨x::_::p1,by rw [e1];rfl,λy hy=> ?_⟩;rcases Z0e.mp hy with rfl | hy
      ·rw [hs];exact B5d B8b
      ·rcases Z0e.mp hy with rfl | hy
       ·exact A6d hl
       ·exact w1 y hy
     ·cases h
   ·split at h
    ·rename_i hs;split at h
     ·split at h
      ·rename_i hl;rw [Z1x,Z1x] at hl;obtain ⟨m,h1,h2⟩:=Option.bind_eq_some_iff.mp h;obtain ⟨p1,e1,w1⟩:=C1j h1;obtain ⟨p2,e2,w2⟩:=C1j h2;refine ⟨x::_::_::_::(p1++p2),by rw [e1,e2,<-Z0z];rfl,λy hy=> ?_⟩;rcases Z0e.mp hy with rfl | hy
       ·rw [hs];exact B5d C3g
       rcases Z0e.mp hy with rfl | hy
       ·exact A6d hl.1.1
       rcases Z0e.mp hy with rfl | hy
       ·exact C0p hl.1.2
       rcases Z0e.mp hy with rfl | hy
       ·exact C0p hl.2
       exact (Z07.mp hy).elim (w1 y) (w2 y)
      ·cases h
     ·cases h
    ·split at h
     ·rename_i hl;cases h;exact ⟨[x],rfl,λy hy=>by rw [Z0w.mp hy];exact D2r hl⟩
     ·cases h
theorem B0d {m:List Str}:∀{n:Nat} {l r:List Str},prT n l=some r->prT n (l++m)=some (r++m)
 | 0,_,_,h=>by cases h
 | _+1,[],_,h=>by cases h
 | n+1,x::l,r,h=>by
  unfold prT at h;rw [Z17];unfold prT;split at h
  ·rename_i ho;obtain ⟨k,h1,h2⟩:=Option.bind_eq_some_iff.mp h;rw [Z12 ho,B0d h1];exact B0d h2
  ·rename_i ho;rw [Z0t ho];split at h
   ·rename_i hs;rw [Z12 hs];split at h
    ·cases h
    ·split at h
     ·rename_i hl;show (if A7l (sg _)=true then prT n (_++m) else none)=_;rw [Z12 hl];exact B0d h
     ·cases h
   ·rename_i hs;rw [Z0t hs];split at h
    ·rename_i hi;rw [Z12 hi];split at h
     ·split at h
      ·rename_i hl;obtain ⟨k,h1,h2⟩:=Option.bind_eq_some_iff.mp h;show (if _=true then (prT n (_++m)).bind (prT n) else none)=_;rw [Z12 hl,B0d h1];exact B0d h2
      ·cases h
     ·cases h
    ·rename_i hi;rw [Z0t hi];split at h
     ·rename_i hl;cases h;rw [Z12 hl]
     ·cases h
theorem D0e {ws m:List Str} (h:tmB ws=true) (hm:m≠[]):tmB (ws++m)=false:=by
 unfold tmB at h⊢;rw [decide_eq_true_eq] at h;rw [B0d h];exact Z1j λe=>hm (by injection e)
theorem C2v:∀{l:List (Str×List Str)} {L:Nat},B7t L l=true->∀e∈l,e.1∈S4
 | [],_,_,e,he=>by cases he
 | a::r,L,h,e,he=>by
  unfold B7t at h;rw [Z1x,decide_eq_true_eq] at h;rcases Z0e.mp he with rfl | he
  ·exact List.mem_of_mem_drop h.1
  ·exact C2v h.2 e he
theorem D5u {kw:List (Str×List Str)} {e:Str×List Str} (h:e∈kw):e.2∈A7j e.1 kw:=by
 unfold A7j;exact Z2c.mpr ⟨e,List.mem_filter.mpr ⟨h,Z20 rfl⟩,rfl⟩
theorem D3k {ws:List Str} (h:ws.length=2):∃a b,ws=[a,b]:=by
 match ws,h with
 | [a,b],_=>exact ⟨a,b,rfl⟩
theorem E0c {ws:List Str} (h:ws.length=1):∃a,ws=[a]:=by
 match ws,h with
 | [a],_=>exact ⟨a,rfl⟩
theorem B6h {ws:List Str} (h:A6x ws=true):∃b:Str,ws=[("wheel":Str),b]/\B8l (sg b)=true/\2<=A9p b:=by
 unfold A6x at h;simp only [Z1x,decide_eq_true_eq] at h;obtain ⟨⟨⟨h1,h2⟩,h3⟩,h4⟩:=h;obtain ⟨a,b,rfl⟩:=D3k h1;exact ⟨b,by rw [show a="wheel" from h3],h2,h4⟩
theorem C3m {ws:List Str} (h:B3b ws=true):∃a b:Str,ws=[a,b]/\A7l (sg a)=true/\B8l (sg b)=true/\1<=A9p b/\A9p b<=60:=by
 unfold B3b at h;simp only [Z1x,decide_eq_true_eq] at h;obtain ⟨⟨⟨⟨h1,h2⟩,h3⟩,h4⟩,h5⟩:=h;obtain ⟨a,b,rfl⟩:=D3k h1;exact ⟨a,b,rfl,h5,h2,h3,h4⟩
theorem C8p {ws:List Str} (h:A6b ws=true):ws≠[]/\∀x∈ws,A7l (sg x)=true:=by
 unfold A6b at h;rw [Z1x,List.all_eq_true] at h;exact ⟨λe=>by rw [e] at h;exact absurd h.1 (by decide),h.2⟩
theorem D2k {ws:List Str} (h:("=":Str)∈ws):ws=ws.take (ws.idxOf ("=":Str))++("=":Str)::ws.drop (ws.idxOf ("=":Str)+1):=by
 have hl:ws.idxOf ("=":Str)<ws.length:=List.idxOf_lt_length_iff.mpr h
 conv=>lhs;rw [<-Z2e (ws.idxOf ("=":Str)) ws]
 rw [Z1u hl,List.getElem_idxOf hl]
theorem D8j:Wd (sg ("=":Str)):=by
 rw [show sg ("=":Str)=[61] by decide +kernel];exact ⟨by simp,λd hd=>by rw [Z0w.mp hd];unfold okC;lia,by decide⟩
theorem D5d {ws:List Str} (h:C1w ws=true):∀x∈ws,Wd (sg x):=by
 unfold C1w at h;simp only [Z1x,decide_eq_true_eq] at h;obtain ⟨⟨h1,h2⟩,h3⟩:=h;unfold tmB at h3;rw [decide_eq_true_eq] at h3;obtain ⟨p,ep,wp⟩:=C1j h3;rw [Z0u] at ep;intro x hx;rw [D2k h1] at hx;rcases Z07.mp hx with z | z
 ·exact A6d ((C8p h2).2 x z)
 ·rcases Z0e.mp z with rfl | z
  ·exact D8j
  ·exact wp x (by rw [<-ep];exact z)
theorem D9i {s:Str} (h:s∈S4):Wd (sg s):=by
 have k:∀y:Str,Ltr y->Wd (sg y):=λy hy=>B5d hy;simp only [S4,Z0e,Z1i,or_false] at h;rcases h with rfl | rfl | rfl | rfl <;> exact k _ ⟨by decide +kernel,by decide +kernel,by decide +kernel⟩
theorem C3v:Ltr "wheel":=⟨by decide +kernel,by decide +kernel,by decide +kernel⟩
theorem C0i {rs:List (List Str)} (h:A2f rs=true):∀ws∈rs.tail,∃s t,ws=s::t/\s∈S4/\(s="axis"->B3b t=true)/\(s="table"->A6b t=true)/\(s="let"->C1w t=true)/\(s="out"->C5y t=true):=by
 unfold A2f at h;simp only [Z1x,List.all_eq_true] at h;obtain ⟨⟨⟨⟨⟨h0,h1⟩,h2⟩,h3⟩,h4⟩,h5⟩:=h;intro ws hw;have me:(ws.headD "",ws.tail)∈kwR rs.tail:=Z2c.mpr ⟨ws,hw,rfl⟩;have hs:=C2v h1 _ me;have hm:=D5u me
 cases ws with
 | nil=>exact absurd hs (by decide +kernel)
 | cons s t=>exact ⟨s,t,rfl,hs,λe=>h2 t (by rw [<-e];exact hm),λe=>h3 t (by rw [<-e];exact hm),λe=>h4 t (by rw [<-e];exact hm),λe=>h5 t (by rw [<-e];exact hm)⟩
theorem C4o {rs:List (List Str)} (h:A2f rs=true):∀ws∈rs,ws≠[]/\∀x∈ws,Wd (sg x):=by
 intro ws hw
 cases rs with
 | nil=>cases hw
 | cons w0 rest =>
  rcases Z0e.mp hw with rfl | hw
  ·have h0:A6x ws=true:=by
    unfold A2f at h;simp only [Z1x] at h;exact h.1.1.1.1.1
   obtain ⟨b,rfl,hb,_⟩:=B6h h0;refine ⟨by simp,λx hx=> ?_⟩;simp only [Z0e,Z1i,or_false] at hx;rcases hx with rfl | rfl
   ·exact B5d C3v
   ·exact B9h hb
  ·obtain ⟨s,t,rfl,hs,k1,k2,k3,k4⟩:=C0i h ws hw;refine ⟨by simp,λx hx=> ?_⟩;rcases Z0e.mp hx with rfl | hx
   ·exact D9i hs
   simp only [S4,Z0e,Z1i,or_false] at hs;rcases hs with e | e | e | e
   ·obtain ⟨a,b,rfl,ha,hb,_⟩:=C3m (k1 e);simp only [Z0e,Z1i,or_false] at hx;rcases hx with rfl | rfl
    ·exact A6d ha
    ·exact B9h hb
   ·exact A6d ((C8p (k2 e)).2 x hx)
   ·exact D5d (k3 e) x hx
   ·have h:=k4 e;unfold C5y at h;rw [Z1x,decide_eq_true_eq] at h;obtain ⟨a,rfl⟩:=E0c h.1;rw [Z0w.mp hx];exact A6d h.2
def C2f (c:Nat):Bool:=decide (c=32)||decide (c=10)
def B1v:Bool->List Nat->Bool
 | p,[]=> ! p
 | p,c::u=>if C2f c=true then ! p&&B1v true u else B1v false u
theorem B5z {c:Nat} {v:List Nat} (h:C2f c=true):∀(u:List Nat) (p:Bool),B1v p (u++c::v)=(B1v p u&&B1v true v)
 | [],p=>by
  show (if C2f c=true then ! p&&B1v true v else B1v false v)=_;rw [Z12 h];rfl
 | a::u,p=>by
  show (if C2f a=true then ! p&&B1v true (u++c::v) else B1v false (u++c::v))=((if C2f a=true then ! p&&B1v true u else B1v false u)&&B1v true v);split
  ·rw [B5z h u,Bool.and_assoc]
  ·rw [B5z h u]
theorem C0f:∀{u:List Nat},(∀c∈u,C2f c=false)->B1v false u=true
 | [],_=>rfl
 | c::u,h=>by
  unfold B1v;rw [Z0t (by rw [h c (.head _)];decide)];exact C0f λd hd=>h d (.tail _ hd)
theorem C6t {u:List Nat} (ne:u≠[]) (h:∀c∈u,C2f c=false):B1v true u=true:=by
 cases u with
 | nil=>exact absurd rfl ne
 | cons c u =>
  unfold B1v;rw [Z0t (by rw [h c (.head _)];decide)];exact C0f λd hd=>h d (.tail _ hd)
theorem C3p {c:Nat} (h:C2f c=true):∀{ps:List (List Nat)},ps≠[]->(∀p∈ps,B1v true p=true)->B1v true (jn c ps)=true
 | [],ne,_=>absurd rfl ne
 | [p],_,k=>k p (.head _)
 | p::q::ps,_,k=>by
  rw [jn,B5z h,k p (.head _),C3p h (by simp) λr hr=>k r (.tail _ hr)];rfl
theorem D2t {c d:Nat} {a b:List Nat} {p:Bool} (hc:C2f c=true) (hd:C2f d=true):B1v p (a++c::d::b)=false:=by
 rw [B5z hc]
 have:B1v true (d::b)=false:=by
  unfold B1v;rw [Z12 hd];rfl
 rw [this,Bool.and_false]
theorem D6a {c:Nat} (h:okC c):C2f c=false:=by
 unfold okC at h;unfold C2f;rw [Z1j (by lia:¬c=32),Z1j (by lia:¬c=10)];rfl
structure D9f (u:List Nat):Prop where
 gp:B1v true u=true
 sg:∀c∈u,okC c\/c=32\/c=10
 nn:nnB false u=true
theorem A7o (c:Nat) (u:List Nat):spl c u≠[]:=by
 cases u with
 | nil=>simp [spl]
 | cons a r =>
  unfold spl;split
  ·simp
  ·split <;> simp
theorem B7x {x:Str} (h:A2f (A4t x)=true):D9f (sg x):=by
 have hr:=C4o h
 have rw1:∀r∈Txt.split x "\n",D9f (sg r):=λr hx=>by
  have k:=(hr (Txt.split r " ") (Z2c.mpr ⟨r,hx,rfl⟩)).2;have e:=A4h r 32;rw [<-A2p] at e
  have kw:∀u∈spl 32 (sg r),Wd u:=λu hu=>by
   rw [<-e] at hu;obtain ⟨y,hy,rfl⟩:=Z2c.mp hu;exact k y hy
  rw [<-B9j 32 (sg r)];refine ⟨C3p (by decide) (A7o _ _) λp hp=>C6t (kw p hp).ne λc hc=>D6a ((kw p hp).sg c hc),λc hc=> ?_,C8i (by decide) λp hp=>(kw p hp).nn⟩;rcases B1r hc with z | ⟨p,hp,z⟩
  ·exact .inr (.inl z)
  ·exact .inl ((kw p hp).sg c z)
 have e:=A4h x 10;rw [<-B4p] at e
 have kr:∀u∈spl 10 (sg x),D9f u:=λu hu=>by
  rw [<-e] at hu;obtain ⟨y,hy,rfl⟩:=Z2c.mp hu;exact rw1 y hy
 rw [<-B9j 10 (sg x)];refine ⟨C3p (by decide) (A7o _ _) λp hp=>(kr p hp).gp,λc hc=> ?_,C8i (by decide) λp hp=>(kr p hp).nn⟩;rcases B1r hc with z | ⟨p,hp,z⟩
 ·exact .inr (.inr z)
 ·exact (kr p hp).sg c z
theorem D2m {x:Str} (h:B1v true (sg x)=false):A2f (A4t x)=false:=by
 cases e:A2f (A4t x) with
 | false=>rfl
 | true=>rw [(B7x e).gp] at h;cases h
theorem C5w {x:Str} {c:Nat} (hc:c∈sg x) (h:¬(okC c\/c=32\/c=10)):A2f (A4t x)=false:=by
 cases e:A2f (A4t x) with
 | false=>rfl
 | true=>exact absurd ((B7x e).sg c hc) h
theorem C2w {d:Nat} {b:List Nat} (hd:A1v d=true):∀(a:List Nat) (p:Bool),(a=[]->p=false)->(∀z,a.getLast? =some z->A1v z=false)->nnB p (a++48::d::b)=false
 | [],p,h,_=>by
  rw [h rfl];show ((false|| ! decide ((48:Nat)=48)|| ! A1v d)&&nnB (A1v 48) (d::b))=false;rw [hd];rfl
 | [z],p,_,h=>by
  have hz:=h z rfl;show ((p|| ! decide (z=48)||B3h (48::d::b))&&nnB (A1v z) ([]++48::d::b))=false;rw [C2w hd [] (A1v z) (λ_=>hz) (by intro y hy;cases hy),Bool.and_false]
 | z::y::a,p,_,h=>by
  show ((p|| ! decide (z=48)||B3h (y::(a++48::d::b)))&&nnB (A1v z) ((y::a)++48::d::b))=false;rw [C2w hd (y::a) (A1v z) (by simp) (λq hq=>h q (by rw [List.getLast?_cons_cons];exact hq)),Bool.and_false]
theorem C1z {x:Str} {a b:List Nat} {d:Nat} (e:sg x=a++48::d::b) (hd:A1v d=true) (ha:∀z,a.getLast? =some z->A1v z=false):A2f (A4t x)=false:=by
 cases h:A2f (A4t x) with
 | false=>rfl
 | true =>
  have:=(B7x h).nn;rw [e,C2w hd a false (λ_=>rfl) ha] at this;cases this
theorem B8e {rs:List (List Str)} {i:Nat} {ws:List Str} (h:rs[i+1]? =some ws):ws∈rs.tail:=by
 cases rs with
 | nil=>simp at h
 | cons a r=>exact Z13 (by simpa using h)
theorem B4c {rs:List (List Str)} {ws:List Str} (h:rs[0]? =some ws):rs.headD []=ws:=by
 cases rs with
 | nil=>simp at h
 | cons a r=>simpa using h
theorem B7j {rs:List (List Str)} (h:A2f rs=true):A6x (rs.headD [])=true:=by
 unfold A2f at h;simp only [Z1x] at h;exact h.1.1.1.1.1
theorem C7n {t m:List Str} (h:C1w t=true) (h':C1w (t++m)=true):m=[]:=by
 unfold C1w at h h';simp only [Z1x,decide_eq_true_eq] at h h';have e:(t++m).idxOf ("=":Str)=t.idxOf ("=":Str):=by rw [List.idxOf_append,Z12 h.1.1]
 have hl:t.idxOf ("=":Str)<t.length:=List.idxOf_lt_length_iff.mpr h.1.1;have h2:=h'.2;rw [e,List.drop_append_of_le_length (by lia)] at h2;by_cases hm:m=[]
 ·exact hm
 ·rw [D0e h.2 hm] at h2;cases h2
theorem C8t {rs rs':List (List Str)} {i:Nat} {ws m:List Str} (h:A2f rs=true) (h':A2f rs'=true) (e:rs[i]? =some ws) (e':rs'[i]? =some (ws++m)) (ne:ws≠[]) (hk:ws.headD ""≠"table"):m=[]:=by
 cases i with
 | zero =>
  obtain ⟨b,hb,_⟩:=B6h (B7j h);obtain ⟨b',hb',_⟩:=B6h (B7j h');rw [B4c e] at hb;rw [B4c e'] at hb';have l1:=congrArg List.length hb;have l2:=congrArg List.length hb';rw [Z06] at l2;simp only [Z0y,Z2g] at l1 l2;exact Z2n.mp (by lia)
 | succ i =>
  obtain ⟨s,t,e1,hs,k1,k2,k3,k4⟩:=C0i h ws (B8e e);obtain ⟨s',t',e2,hs',q1,q2,q3,q4⟩:=C0i h' _ (B8e e');rw [e1,Z17] at e2;injection e2 with e3 e4;subst e3;subst e4;rw [e1] at hk;simp only [S4,Z0e,Z1i,or_false] at hs;rcases hs with z | z | z | z
  ·obtain ⟨a,b,r1,_⟩:=C3m (k1 z);obtain ⟨a',b',r2,_⟩:=C3m (q1 z);have l1:=congrArg List.length r1;have l2:=congrArg List.length r2;rw [Z06] at l2;simp only [Z0y,Z2g] at l1 l2;exact Z2n.mp (by lia)
  ·exact absurd z hk
  ·exact C7n (k3 z) (q3 z)
  ·have l1:=k4 z;have l2:=q4 z;unfold C5y at l1 l2;simp only [Z1x,decide_eq_true_eq,Z06] at l1 l2;exact Z2n.mp (by lia)
theorem C0a:∀{l:List (Str×List Str)} {L j:Nat} {a b:Str×List Str},B7t L l=true->l[j]? =some a->l[j+1]? =some b->S4.idxOf a.1<=S4.idxOf b.1
 | [],_,_,_,_,_,ha,_=>by simp at ha
 | [x],_,j,_,_,_,_,hb=>by simp at hb
 | x::y::l,L,0,a,b,h,ha,hb=>by
  simp only [List.getElem?_cons_zero,List.getElem?_cons_succ,Option.some.injEq] at ha hb;subst ha;subst hb;unfold B7t at h;rw [Z1x] at h;have h2:=h.2;unfold B7t at h2;rw [Z1x,decide_eq_true_eq] at h2;obtain ⟨k,hk,e⟩:=List.mem_iff_getElem?.mp h2.1 |> λ⟨k,e⟩=>(⟨k,trivial,e⟩:∃k,True/\(S4.drop (S4.idxOf x.1))[k]? =some y.1);rw [List.getElem?_drop] at e;have:=D5i e (C0r (Z13 e))
  lia
 | x::y::l,L,j+1,a,b,h,ha,hb=>by
  unfold B7t at h;rw [Z1x] at h;exact C0a h.2 (by simpa using ha) (by simpa using hb)
theorem D0l {rs rs':List (List Str)} {i:Nat} {a b:List Str} (h:A2f rs=true) (h':A2f rs'=true) (ea:rs[i]? =some a) (eb:rs[i+1]? =some b) (ea':rs'[i]? =some b) (eb':rs'[i+1]? =some a):a.headD ""=b.headD "":=by
 cases i with
 | zero =>
  obtain ⟨x,hx,_⟩:=B6h (B7j h);obtain ⟨y,hy,_⟩:=B6h (B7j h');rw [B4c ea] at hx;rw [B4c ea'] at hy;rw [hx,hy];rfl
 | succ i =>
  have g:∀{rs:List (List Str)} {a b:List Str},A2f rs=true->rs[i+1]? =some a->rs[i+1+1]? =some b->S4.idxOf (a.headD "")<=S4.idxOf (b.headD "")/\a.headD ""∈S4:=λ{rs a b} h e1 e2=>by
   have hs:B7t 0 (kwR rs.tail)=true:=by
    unfold A2f at h;simp only [Z1x] at h;exact h.1.1.1.1.2
   have k:∀{j:Nat} {w:List Str},rs[j+1]? =some w->(kwR rs.tail)[j]? =some (w.headD "",w.tail):=λ{j w} e=>by
    unfold kwR;rw [Z1z,List.getElem?_tail,e];rfl
   exact ⟨C0a hs (k e1) (k e2),C2v hs _ (Z13 (k e1))⟩
  have g1:=g h ea eb;have g2:=g h' ea' eb';have e:S4.idxOf (a.headD "")=S4.idxOf (b.headD ""):=by lia
  have i1:=C0r g1.2;have i2:=C0r g2.2;rw [e,i2] at i1;injection i1 with i1;exact i1.symm
def D0h (ws:List Str):Bool:=match ws with | []=>false | s::t=>if s="axis" then B3b t else if s="table" then A6b t else if s="let" then C1w t else if s="out" then C5y t else false
theorem D8u {rs:List (List Str)} (h:A2f rs=true):∀ws∈rs.tail,D0h ws=true:=λws hw=>by
 obtain ⟨s,t,rfl,hs,k1,k2,k3,k4⟩:=C0i h ws hw;unfold D0h;simp only [S4,Z0e,Z1i,or_false] at hs;dsimp only;split
 ·exact k1 (by assumption)
 ·split
  ·exact k2 (by assumption)
  ·split
   ·exact k3 (by assumption)
   ·split
    ·exact k4 (by assumption)
    ·rcases hs with z | z | z | z <;> contradiction
theorem D4d {rs:List (List Str)} {ws:List Str} {i:Nat} (e:rs[i+1]? =some ws) (h:D0h ws=false):A2f rs=false:=by
 cases z:A2f rs with
 | false=>rfl
 | true=>rw [D8u z ws (B8e e)] at h;cases h
def mny:Str:="1000000000000000000000000000000"
def D2u:List Str:=["","-0","a[x+0]","a[x-0]","a[x+-1]","a[+1]","a[x,]","a[,x]","a[x","a x]","if","sum","[x]","sum x","+ 1","1 1","x+1","--1","- 1","+1","if x 1 2 3","if x 1 y 3 4","sum 3 4","a[x]]","a[[x]","a[x y]","aB","a1",mny,"-"++mny,"a[x+"++mny++"]","00"]
theorem D0s:∀y∈D2u,D0h (Txt.split ("let b = "++y) " ")=false:=by decide +kernel
def axT:List Str:=["0","61","-1","","x","1000","01"]
theorem C7i:∀y∈axT,D0h (Txt.split ("axis x "++y) " ")=false:=by decide +kernel
def whT:List Str:=["1","0","-7",mny,"","x","+5"]
theorem C3q:∀y∈whT,A6x (Txt.split ("wheel "++y) " ")=false:=by decide +kernel
def shT:List Str:=["table","let","let b","let b x 5","let = 5","axis","axis x","out"]
theorem C2y:∀y∈shT,D0h (Txt.split y " ")=false:=by decide +kernel
def D8p:Sp:=λvs H Q _=>∃r:Int,vs=[.int r]/\∀(y:Str) (H':Hp),A1b H H'->y∈axT->Q (.str ("axis x "++y)) H'
def D8s:Sp:=λvs H Q _=>∃r:Int,vs=[.int r]/\∀(y:Str) (H':Hp),A1b H H'->y∈whT->Q (.str ("wheel "++y)) H'
theorem B3z (T:Txt K mg t):FO P w base T.ee 1 D8p:=by
 refine T.ee.F.ok B4j (by walk_at "ln") λ_ A _ s H _ Q E hr h=> ?_
 ·obtain ⟨r,rfl,q⟩:=h;refine ⟨_,(@RS.r _ _ _ (rq3 (rq5 (A0k A0q A0g (A2i A1d (@A2e _ _ _ _ (A0a A0g (A0a A0g (A0a A0g (A0a A0g (A0a A0g (A0a A0g (A0a A0g A0b)))))))) (A0k A1g (pv 0) A0e) (λ_ _=>rfl)))))),?_⟩;refine ⟨A0w rfl,λz hz=> ?_⟩;have s1:=A0f (o:= .lst (axT.map V.str)) hz;obtain ⟨y,hy,e⟩:=A5e (f:=V.str) (xs:=axT) (i:=r%7) (by lia) (by show r%7<7;lia);have my:=Z13 hy;have ly:y.length<=10:=(show∀y∈axT,y.length<=10 by decide +kernel) y my;have l7:("axis x ":Str).length=7:=by decide +kernel
  exact ⟨_,rfl,_,_,rfl,rfl,D9j,z,_,_,_,rfl,rfl,SqL.of A0c,e,_,_,rfl,rfl,A0t (by lia),q y _ s1 my⟩
theorem B3g (T:Txt K mg t):FO P w base T.dl 1 D8s:=by
 refine T.dl.F.ok B3i (by walk_at "ln") λ_ A _ s H _ Q E hr h=> ?_
 ·obtain ⟨r,rfl,q⟩:=h;refine ⟨_,(@RS.r _ _ _ (rq3 (rq5 (A0k A0q A0g (A2i A1d (@A2e _ _ _ _ (A0a A0g (A0a A0g (A0a A0g (A0a A0g (A0a A0g (A0a A0g (A0a A0g A0b)))))))) (A0k A1g (pv 0) A0e) (λ_ _=>rfl)))))),?_⟩;refine ⟨A0w rfl,λz hz=> ?_⟩;have s1:=A0f (o:= .lst (whT.map V.str)) hz;obtain ⟨y,hy,e⟩:=A5e (f:=V.str) (xs:=whT) (i:=r%7) (by lia) (by show r%7<7;lia);have my:=Z13 hy;have ly:y.length<=40:=(show∀y∈whT,y.length<=40 by decide +kernel) y my;have l7:("wheel ":Str).length=6:=by decide +kernel
  exact ⟨_,rfl,_,_,rfl,rfl,D9j,z,_,_,_,rfl,rfl,SqL.of A0c,e,_,_,rfl,rfl,A0t (by lia),q y _ s1 my⟩
theorem A9b {n:Nat} (h:n<=12000000):n<=sizeLine:=by rw [sizeLine_eq];lia
def D9b:Sp:=λvs H Q _=>∃r:Int,vs=[.int r]/\∀(y:Str) (H':Hp),A1b H H'->y∈D2u->Q (.str ("let b = "++y)) H'
def D2q:Sp:=λvs H Q _=>∃x:Str,vs=[.str x]/\x.length<=12000000/\∀H',A1b H H'->Q (.str (tx (bef 32 (sg x)))) H'
theorem D5k (x:Str) (c:Nat):(Txt.partition x ⟨#[c]⟩).1=tx (bef c (sg x)):=by
 by_cases h:c∈sg x
 ·obtain ⟨c1,c2⟩:=A9k h;rw [B5m c1 c2]
 ·have e:bef c (sg x)=sg x:=by
   unfold bef;generalize sg x=u at h
   induction u with
   | nil=>rfl
   | cons a u ih =>
    have ne:a≠c:=λz=>h (by rw [z];exact .head _);rw [List.takeWhile_cons_of_pos (by simpa using ne),ih λm=>h (.tail _ m)]
  rw [e,D0g];rcases PyProof.Rows.partition_whole x ⟨#[c]⟩ with ⟨z,_⟩ | ⟨i,_,hi,_⟩
  ·rw [z]
  ·exact absurd (Z13 ((StrLaws.subAt_one x c i).mp hi)) h
theorem B6u (T:Txt K mg t):FO P w base T.fu 1 D9b:=by
 refine T.fu.F.ok A3y (by walk_at "ln") λ_ A _ s H _ Q E hr h=> ?_
 ·obtain ⟨r,rfl,q⟩:=h;have l30:mny.length=31:=by decide +kernel
  have la:("a[x+":Str).length=4:=by decide +kernel
  have lm:("-":Str).length=1:=by decide +kernel
  have lc:("]":Str).length=1:=by decide +kernel
  have lb:("let b = ":Str).length=8:=by decide +kernel
  refine ⟨_,(@RS.r _ _ _ (rq1 (rq6 1 A3y.nd A0g) (rq1 (rq6 2 A3y.nd (@A2e _ _ _ _ (A0a A0g (A0a A0g (A0a A0g (A0a A0g (A0a A0g (A0a A0g (A0a A0g (A0a A0g (A0a A0g (A0a A0g (A0a A0g (A0a A0g (A0a A0g A0b))))))))))))))) (rq1 (rq6 2 A3y.nd (A0k A6q (pv 2) (@A2e _ _ _ _ (A0a A0g (A0a A0g (A0a A0g (A0a A0g (A0a A0g (A0a A0g (A0a A0g (A0a A0g (A0a A0g (A0a A0g A0b))))))))))))) (rq1 (rq6 2 A3y.nd (A0k A6q (pv 2) (@A2e _ _ _ _ (A0a A0g (A0a A0g (A0a A0g (A0a A0g (A0a A0g (A0a (pv 1) (A0a (A0k A0q A0g (pv 1)) (A0a (A0k A0q (A0k A0q A0g (pv 1)) A0g) (A0a A0g A0b)))))))))))) (rq3 (rq5 (A0k A0q A0g (A2i A1d (pv 2) (A0k A1g (pv 0) A0e) (λ_ _=>rfl)))))))))),?_⟩;refine ⟨A0w rfl,λz1 hz1=> ?_⟩;generalize hL1:([V.str "",.str "-0",.str "a[x+0]",.str "a[x-0]",.str "a[x+-1]",.str "a[+1]",.str "a[x,]",.str "a[,x]",.str "a[x",.str "a x]",.str "if",.str "sum",.str "[x]"]:List V)=L1;have s1:=A0f (o:= .lst L1) hz1;have l1:L1.length=13:=by rw [<-hL1];rfl
  have h1:upd H z1 (.lst L1) z1=some (.lst L1):=A0c;generalize upd H z1 (.lst L1)=H1 at s1 h1⊢;refine ⟨_,rfl,A0w rfl,λz2 hz2=> ?_⟩;generalize hL2:([V.str "sum x",.str "+ 1",.str "1 1",.str "x+1",.str "--1",.str "- 1",.str "+1",.str "if x 1 2 3",.str "if x 1 y 3 4",.str "sum 3 4"]:List V)=L2;have s2:=A0f (o:= .lst L2) hz2;have l2:L2.length=10:=by rw [<-hL2];rfl
  refine ⟨z1,z2,_,_,rfl,rfl,s2 _ _ h1,A0c,A0t (by lia),λz3 hz3=> ?_⟩;have s3:=s2.trans (A0f (o:= .lst (L1++L2)) hz3);have h3:upd (upd H1 z2 (.lst L2)) z3 (.lst (L1++L2)) z3=some (.lst (L1++L2)):=A0c;generalize upd (upd H1 z2 (.lst L2)) z3 (.lst (L1++L2))=H3 at s3 h3⊢;refine ⟨_,rfl,_,rfl,_,rfl,_,_,rfl,rfl,A0t (by show ("-":Str).length+mny.length<=_;lia),_,rfl,_,_,rfl,rfl,A0t (by show ("a[x+":Str).length+mny.length<=_;lia),_,_,rfl,rfl,A0t (by show ("a[x+"++mny:Str).length+("]":Str).length<=_;rw [Str.length_append];lia),A0w rfl,λz4 hz4=> ?_⟩;generalize hL3:([V.str "a[x]]",.str "a[[x]",.str "a[x y]",.str "aB",.str "a1",.str "1000000000000000000000000000000",.str ("-"++"1000000000000000000000000000000"),.str ("a[x+"++"1000000000000000000000000000000"++"]"),.str "00"]:List V)=L3;have s4:=A0f (o:= .lst L3) hz4;have l3:L3.length=9:=by rw [<-hL3];rfl
  refine ⟨z3,z4,_,_,rfl,rfl,s4 _ _ h3,A0c,A0t (by have:=Z06 (as:=L1) (bs:=L2);lia),λz5 hz5=> ?_⟩;have s5:=s4.trans (A0f (o:= .lst (L1++L2++L3)) hz5);have eL:L1++L2++L3=D2u.map V.str:=by rw [<-hL1,<-hL2,<-hL3];rfl
  obtain ⟨y,hy,e⟩:=A5e (f:=V.str) (xs:=D2u) (i:=r%32) (by lia) (by show r%32<32;lia);have my:=Z13 hy;have ly:y.length<=100:=(show∀y∈D2u,y.length<=100 by decide +kernel) y my;exact ⟨_,rfl,_,rfl,_,_,rfl,rfl,D9r,z5,_,_,_,rfl,rfl,SqL.of (by rw [A0c,eL]),e,_,_,rfl,rfl,A0t (by lia),q y _ (s1.trans (s3.trans s5)) my⟩
theorem B6m (T:Txt K mg t):FO P w base T.bv 1 D2q:=by
 refine T.bv.F.ok C4d (by walk_at "ln") λ_ A _ s H _ Q E hr h=> ?_
 ·obtain ⟨x,rfl,lx,q⟩:=h;refine ⟨_,(@RS.r _ _ _ (rq3 (rq5 (A2i C5o (A2r PySem.F.plainAttrs_str PySem.F.slot_str_partition PySem.F.type_str_partition B4q (pv 0) (A0a A0g A0b)) A0e (λ_ _=>rfl))))),?_⟩;refine ⟨_,rfl,rfl,x," ",rfl,rfl,by decide +kernel,A9b lx,λp hp=>⟨p,_,_,_,rfl,rfl,SqT.of A0c,A4a (j:=0) rfl,?_⟩⟩;rw [A2p,D5k];exact q _ (A0f hp)
def D2w:Str:="0123456789"
theorem D1p (c:Nat):decide (c∈sg D2w)=A1v c:=by
 have e:sg D2w=List.range' 48 10:=by decide +kernel
 rw [e];unfold A1v;rw [Bool.eq_iff_iff,decide_eq_true_eq,decide_eq_true_eq,List.mem_range'_1]
 lia
def plS (u S:List Nat) (k:Nat):Bool:=match u[k]? with
 | some c=>decide (c∈S)&&(decide (k=0)|| !(match u[k-1]? with | some d=>A1v d | none=>false))
 | none=>false
def C6f:Sp:=λvs H Q _=>∃(x S:Str) (r:Int),vs=[.str x,.str S,.int r]/\x.length<=12000000/\(∃k,plS (sg x) (sg S) k=true)/\∀(k:Nat) (H':Hp),A1b H H'->plS (sg x) (sg S) k=true->Q (.int (k:Nat)) H'
theorem D4n {u S:List Nat} {k:Nat} (h:plS u S k=true):∃a c b,u=a++c::b/\a.length=k/\c∈S/\∀z,a.getLast? =some z->A1v z=false:=by
 unfold plS at h
 cases e:u[k]? with
 | none=>rw [e] at h;cases h
 | some c =>
  rw [e] at h;simp only [Z1x,decide_eq_true_eq] at h;have hk:=(Z03.mp e).1;refine ⟨u.take k,c,u.drop (k+1),?_,by rw [Z0x];lia,h.1,λz hz=> ?_⟩
  ·rw [<-(Z03.mp e).2,List.getElem_cons_drop,Z2e]
  ·rw [List.getLast?_eq_getElem?,Z0x,Nat.min_eq_left (by lia)] at hz;have hk1:=(Z03.mp hz).1;rw [Z0x] at hk1;rw [List.getElem?_take_of_lt (by lia)] at hz;have h2:=h.2;rw [hz] at h2;rw [show decide (k=0)=false from Z1j (by lia)] at h2
   simpa using h2
theorem C1x (T:Txt K mg t):FO P w base T.f_ 1 C6f:=by
 refine T.f_.F.ok B0f (by walk_at "ln") λ_ A _ s H _ Q E hr h=> ?_
 ·obtain ⟨x,S,r,rfl,lx,hx,q⟩:=h;refine ⟨_,(@RS.r _ _ _ (rq1 (rq6 3 B0f.nd (@A2e _ _ _ _ A0b)) (rq1 (rq7 (A4i rfl T.e6 (A0a (A0y A3x (by rfl) T.bx Z0r (A0a (pv 0) A0b)) A0b)) (A0p (i:=4) B0f.nd rfl (.inl rfl)) (rq3 (rq4 (PW.pt (B1w (A0n A9h (A2i B9q (pv 0) (pv 4) (λ_ _=>rfl)) (pv 1) (by with_unfolding_all rfl)) (A9w (PW.pt (C3u (A0n A2s (pv 4) A0e (A0z _)) (B6i (A0n B6y (A2i B9q (pv 0) (A0k A7q (pv 4) A0e) (λ_ _=>rfl)) A0g (by with_unfolding_all rfl)))))))) (rq3 ⟨A2z (A2r Z0k Z0n Z0o A2d (pv 3) (A0a (pv 4) A0b))⟩) ⟨A0m⟩))) (rq3 (rq5 (A2i A1d (pv 3) (A0k A1g (pv 2) (A0y A1i (by rfl) T.bx Z0r (A0a (pv 3) A0b))) (λ_ _=>rfl))))))),?_⟩;have lz:x.length<=sizeLine:=Z1n (Nat.le_add_right _ 2) (lt5 lx);refine ⟨A0w rfl,λD hD=> ?_⟩;refine ⟨_,rfl,x,rfl,lz,(x.length:Int),rfl,by lia,by rw [sizeLine_eq] at *;lia,?_⟩
  have at_:∀{i:Nat},i<x.length->∃c,(sg x)[i]? =some c/\atI x.cps.toList (i:Int)=some c:=λ{i} hi=>by
   obtain ⟨c,e1,e2⟩:=C5n (xs:=x.cps.toList) (i:=(i:Int)) (by lia) (by show (i:Int)<x.cps.toList.length;rw [show x.cps.toList.length=x.length from A1r x];lia);exact ⟨c,by simpa using e1,e2⟩
  refine A4k (n:=((x.length:Int)).toNat) (λi σ G=>A1b H G/\∃o4:Option V,σ=[Sso x,Sso S,Sio r,Sro D,o4]/\G D=some (.lst (((List.range i).filter (plS (sg x) (sg S))).map λk:Nat=>V.int (k:Nat)))) ⟨A0f hD,none,rfl,A0c⟩ ?_ ?_
  ·rintro i σ G hi ⟨sG,o4,rfl,hG⟩;have hi:i<x.length:=by lia
   obtain ⟨c,e1,e2⟩:=at_ hi;have ll:((List.range i).filter (plS (sg x) (sg S))).length<=i:=Z1n (List.length_filter_le _ _) (by rw [List.length_range];exact Z09 _)
   have yes:plS (sg x) (sg S) i=true->(List.range (i+1)).filter (plS (sg x) (sg S))=(List.range i).filter (plS (sg x) (sg S))++[i]:=λh=>by
    rw [List.range_succ,List.filter_append,List.filter_cons,Z12 h];rfl
   have no:plS (sg x) (sg S) i=false->(List.range (i+1)).filter (plS (sg x) (sg S))=(List.range i).filter (plS (sg x) (sg S)):=λh=>by
    rw [List.range_succ,List.filter_append,List.filter_cons,Z0t (by rw [h];decide)];exact Z0u _
   have hp:plS (sg x) (sg S) i=(decide (c∈sg S)&&(decide (i=0)|| !(match (sg x)[i-1]? with | some d=>A1v d | none=>false))):=by
    unfold plS;rw [e1]
   rw [show ((0:Int)+(i:Nat))=((i:Nat):Int) by lia];refine ⟨_,rfl,_,rfl,_,_,c,rfl,rfl,lz,e2,_,rfl,_,_,rfl,rfl,_,rfl,?_⟩;rw [inS]
   have app:plS (sg x) (sg S) i=true->upd G D (.lst (((List.range i).filter (plS (sg x) (sg S))).map (λk:Nat=>V.int (k:Nat))++[V.int (i:Nat)])) D=some (.lst (((List.range (i+1)).filter (plS (sg x) (sg S))).map λk:Nat=>V.int (k:Nat))):=λhh=>by
    rw [A0c,yes hh,Z0s];rfl
   have lin:(((List.range i).filter (plS (sg x) (sg S))).map (λk:Nat=>V.int (k:Nat))).length<sizeLine:=by rw [Z08,sizeLine_eq] at *;lia
   refine A3z (λhc=> ?_) (λhc=>⟨sG,_,rfl,?_⟩)
   ·refine ⟨_,rfl,rfl,_,rfl,A3z (λh0=> ?_) (λh0=> ?_)⟩
    ·have h0:i=0:=by injection h0 with h0;lia
     exact ⟨_,rfl,.inl ⟨rfl,_,SqL.of hG⟩,_,rfl,D,_,_,rfl,rfl,hG,lin,A0j sG hD,_,rfl,app (by rw [hp,Z20 hc,Z20 h0];rfl)⟩
    ·have h0:i≠0:=λz=>h0 (by rw [z];rfl);obtain ⟨d,d1,d2⟩:=at_ (i:=i-1) (by lia);rw [show ((i-1:Nat):Int)=((i:Nat):Int)-1 by lia] at d2;refine ⟨_,rfl,_,rfl,_,_,rfl,rfl,_,_,d,rfl,rfl,lz,d2,_,_,rfl,rfl,_,rfl,?_⟩;rw [show ("0123456789":Str)=D2w from rfl,inS,D1p]
     cases hd:A1v d with
     | true =>
      refine A8s ⟨sG,_,rfl,?_⟩;rw [no (by rw [hp,d1,Z1j h0];show (_&&(false|| ! A1v d))=false;rw [hd];exact Bool.and_false _)];exact hG
     | false =>
      refine B2l ?_;exact ⟨_,rfl,.inl ⟨rfl,_,SqL.of hG⟩,_,rfl,D,_,_,rfl,rfl,hG,lin,A0j sG hD,_,rfl,app (by rw [hp,d1,Z20 hc];show (true&&(_|| ! A1v d))=true;rw [hd];exact Bool.or_true _)⟩
   ·rw [no (by rw [hp,Z1j hc];rfl)];exact hG
  rintro σ G ⟨sG,o4,rfl,hG⟩;rw [show ((x.length:Int)).toNat=x.length by lia] at hG;obtain ⟨k0,hk0⟩:=hx
  have lt0:k0<x.length:=by
   unfold plS at hk0
   cases z:(sg x)[k0]? with
   | none=>rw [z] at hk0;cases hk0
   | some c=>have:=(Z03.mp z).1;rw [A1r] at this;exact this
  have m0:k0∈(List.range x.length).filter (plS (sg x) (sg S)):=List.mem_filter.mpr ⟨List.mem_range.mpr lt0,hk0⟩;have pos:=List.length_pos_of_mem m0;obtain ⟨k,hk,e⟩:=A5e (f:=λk:Nat=>V.int (k:Nat)) (xs:=(List.range x.length).filter (plS (sg x) (sg S))) (i:=r%((((List.range x.length).filter (plS (sg x) (sg S))).map λk:Nat=>V.int (k:Nat)).length:Int)) (Z1v _ (by rw [Z08];lia)) (by rw [Z08];exact Z1p _ (by lia));exact ⟨_,rfl,_,rfl,_,rfl,D,_,rfl,.inl (SqL.of hG),_,_,rfl,rfl,(by show (0:Int)<(List.length _:Nat);rw [Z08];lia),D,_,_,_,rfl,rfl,SqL.of hG,e,q k G sG (List.mem_filter.mp (Z13 hk)).2⟩
theorem C8l {x:Str} {p q:List Nat} (e:sg x=p++32::q) (hq:32∉q):Txt.rfind x " "=(p.length:Nat):=by
 rw [A2p];have at1:∀i,StrLaws.At x ⟨#[32]⟩ x.length i↔(sg x)[i]? =some 32:=λi=>StrLaws.subAt_one x 32 i;have hp:(sg x)[p.length]? =some 32:=by rw [e];simp
 unfold Txt.rfind;rcases StrLaws.last_spec x ⟨#[32]⟩ with ⟨_,h⟩ | ⟨i,e1,h1,h2⟩
 ·exact absurd ((at1 _).mpr hp) (h _)
 ·rw [e1];have hi:=(at1 i).mp h1;have a:¬i<p.length:=λhlt=>h2 _ hlt ((at1 _).mpr hp)
  have b:¬p.length<i:=λhlt=>by
   rw [e,Z1l (by lia)] at hi;have:i-p.length=(i-p.length-1)+1:=by lia
   rw [this,List.getElem?_cons_succ] at hi;exact hq (Z13 hi)
  show ((i:Nat):Int)=_
  lia
structure RwT (r:Str):Prop where
 l:r.length<=100000
 n10:10∉sg r
 nw:(Txt.split r " ").length<=92
 gw:∀y∈Txt.split r " ",y.length<=1000
structure WsT (ws:List Str):Prop where
 gw:∀x∈ws,B4i x
 ne:ws≠[]
 ln:ws.length<=92
theorem WsT.split {ws:List Str} (h:WsT ws):Txt.split (Txt.join " " ws) " "=ws:=by
 rw [A2p];exact A7b h.ne λx hx m=>by have:=(h.gw x hx).sg _ m;lia
theorem WsT.rw {ws:List Str} (h:WsT ws):RwT (Txt.join " " ws):=by
 have es:=h.split;refine ⟨?_,λm=> ?_,by rw [es];exact h.ln,λy hy=> ?_⟩
 ·rw [A2p];have:=B5a 32 ws;have:=C5h (k:=900) λx hx=>(h.gw x hx).ln;have:=h.ln
  lia
 ·rw [A2p,A2a] at m;rcases B1r m with z | ⟨p,hp,z⟩
  ·lia
  ·obtain ⟨x,hx,rfl⟩:=Z2c.mp hp;have:=(h.gw x hx).sg _ z
   lia
 ·rw [es] at hy;have:=(h.gw y hy).ln
  lia
theorem C2e.ws {ws:List Str} (h:C2e ws):WsT ws:=⟨h.gw,h.ne,by have:=h.ln;lia⟩
theorem WsT.snoc {ws:List Str} {x:Str} (h:C2e ws) (hx:B4i x):WsT (ws++[x]):=⟨λy hy=>by
 rcases Z07.mp hy with z | z
 ·exact h.gw y z
 ·rw [Z0w.mp z];exact hx,by simp,by have:=h.ln;simp;lia⟩
theorem WsT.cons {ws:List Str} {x:Str} (h:C2e ws) (hx:B4i x):WsT (x::ws):=⟨λy hy=>by
 rcases Z0e.mp hy with z | z
 ·rw [z];exact hx
 ·exact h.gw y z,by simp,by have:=h.ln;simp;lia⟩
theorem B2b {ws:List Str} {x:Str} (ne:ws≠[]):Txt.join " " (ws++[x])=Txt.join " " ws++(" "++x):=by
 refine A4l ?_;rw [A2p,A2a,A1o,A1o,A2a,Z0s,Z0p,List.map_nil,B8c (by simpa using ne)];rfl
theorem C4q {ws:List Str} {x:Str} (ne:ws≠[]):Txt.join " " (x::ws)=x++(" "++Txt.join " " ws):=by
 refine A4l ?_
 cases ws with
 | nil=>exact absurd rfl ne
 | cons a r =>
  rw [A2p,A2a,A1o,A1o,A2a];rfl
structure B9l (ms:List Str):Prop where
 ne:ms≠[]
 rw:∀r∈ms,RwT r
 ln:ms.length<=82
 no:A2f (ms.map λr=>Txt.split r " ")=false
structure Bad (x:Str):Prop where
 no:A2f (A4t x)=false
 ok:D2y x
theorem B9v {ms:List Str} (rw1:∀r∈ms,RwT r) (ln:ms.length<=82):(ms.map (·.length)).sum<=8200000:=by
 have:=C5h (k:=100000) λx hx=>(rw1 x hx).l
 lia
theorem B5f {ms:List Str} (ne:ms≠[]) (rw1:∀r∈ms,RwT r):Txt.split (Txt.join "\n" ms) "\n"=ms:=by
 rw [B4p];exact A7b ne λx hx=>(rw1 x hx).n10
theorem D3s {ms:List Str} (ne:ms≠[]) (rw1:∀r∈ms,RwT r) (ln:ms.length<=82):D2y (Txt.join "\n" ms):=by
 have es:=B5f ne rw1;refine ⟨?_,by rw [es];lia,λr hr=> ?_⟩
 ·rw [B4p];have:=B5a 10 ms;have:=B9v rw1 ln
  lia
 ·rw [es] at hr;have h:=rw1 r hr;have:=h.l;have:=h.nw;exact ⟨by lia,by lia,h.gw⟩
theorem B9l.bad {ms:List Str} (h:B9l ms):Bad (Txt.join "\n" ms):=⟨by
 unfold A4t;rw [B5f h.ne h.rw]
 exact h.no,D3s h.ne h.rw h.ln⟩
theorem B9l.sum {ms:List Str} (h:B9l ms):(ms.map (·.length)).sum+ms.length*("\n":Str).length<=16777216:=by
 have:=B9v h.rw h.ln;have:=h.ln;have e:("\n":Str).length=1:=by decide +kernel
 rw [e]
 lia
def kdS (r:Str):Str:=tx (bef 32 (sg r))
theorem C5j (c:Nat):∀u:List Nat,bef c u=(spl c u).headD []
 | []=>rfl
 | x::u=>by
  have ih:=C5j c u;have ne:=A7o c u;unfold spl;by_cases e:x=c
  ·rw [Z12 e];unfold bef;rw [List.takeWhile_cons_of_neg (by simpa using e)];rfl
  ·rw [Z0t e]
   have e1:bef c (x::u)=x::bef c u:=by
    unfold bef;rw [List.takeWhile_cons_of_pos (by simpa using e)]
   rw [e1,ih]
   cases h:spl c u with
   | nil=>exact absurd h ne
   | cons a r=>rfl
theorem B1e (r:Str):kdS r=(Txt.split r " ").headD "":=by
 have e:=A4h r 32;rw [<-A2p] at e;unfold kdS;rw [C5j,<-e]
 cases Txt.split r " " with
 | nil=>rfl
 | cons a l=>exact D0g a
def rsP (p:Prg):List Str:=(A2x p).map (Txt.join " ")
def spW (ms:List Str):List (List Str):=ms.map λr=>Txt.split r " "
structure RsP (p:Prg):Prop where
 ok:B2y p
 o1:1<=p.os.length
theorem RsP.rw {p:Prg} (h:RsP p):∀r∈rsP p,RwT r:=λr hr=>by
 obtain ⟨ws,hw,rfl⟩:=Z2c.mp hr;exact (A8n h.ok ws hw).ws.rw
theorem RsP.sp {p:Prg} (h:RsP p):spW (rsP p)=A2x p:=by
 unfold spW rsP;rw [List.map_map];have:∀ws∈A2x p,((λr=>Txt.split r " ")∘Txt.join " ") ws=ws:=λws hw=>A5j (A8n h.ok ws hw);exact (List.map_congr_left this).trans (List.map_id _)
theorem RsP.ln {p:Prg} (h:RsP p):2<=(rsP p).length/\(rsP p).length<=81:=by
 have l:=C6u h.ok;have o:=h.o1;unfold rsP;rw [Z08];refine ⟨?_,l⟩;unfold A2x kwP;simp only [Z0y,Z08,Z06]
 lia
theorem D0a {α:Type} [BEq α] [LawfulBEq α] {pre post:List α} {x:α} (h:x∉pre):(pre++x::post).idxOf x=pre.length:=by
 rw [List.idxOf_append,Z0t h,List.idxOf_cons_self]
 lia
theorem D2p {p:Prg} (h:RsP p):(rsP p).map kdS=(A2x p).map λws=>ws.headD "":=by
 have e:(rsP p).map kdS=(spW (rsP p)).map λws=>ws.headD "":=by
  unfold spW;rw [List.map_map];exact List.map_congr_left λr _=>B1e r
 rw [e,h.sp]
theorem D7o {p:Prg} (h:RsP p):∃pre post,(rsP p).map kdS=pre++("out":Str)::post/\("out":Str)∉pre/\1+((rsP p).map kdS).count ("let":Str)<=pre.length:=by
 have e:(rsP p).map kdS=("wheel":Str)::(p.ax.map (λ_=>("axis":Str))++(p.tb.map (λ_=>("table":Str))++(p.ls.map (λ_=>("let":Str))++p.os.map λ_=>("out":Str)))):=by
  rw [D2p h];unfold A2x kwP;simp only [Z0p,Z0s,List.map_map];rfl
 obtain ⟨o,os,eo⟩:∃o os,p.os=o::os:=by
  have:=h.o1
  cases z:p.os with
  | nil=>rw [z] at this;simp at this
  | cons a b=>exact ⟨a,b,rfl⟩
 have cm:∀{α:Type} (l:List α) (c d:Str),c≠d->(l.map λ_=>c).count d=0:=λl c d hn=>List.count_eq_zero.mpr λhm=>by
  obtain ⟨_,_,z⟩:=Z2c.mp hm;exact hn z
 have cl:(p.ls.map λ_=>("let":Str)).count ("let":Str)=p.ls.length:=by
  rw [List.map_const',List.count_replicate_self]
 refine ⟨("wheel":Str)::(p.ax.map (λ_=>("axis":Str))++(p.tb.map (λ_=>("table":Str))++p.ls.map (λ_=>("let":Str)))),os.map λ_=>"out",?_,?_,?_⟩
 ·rw [e,eo];simp
 ·intro hm;simp only [Z0e,Z07,Z2c] at hm;rcases hm with z | ⟨_,_,z⟩ | ⟨_,_,z⟩ | ⟨_,_,z⟩
  ·exact absurd z (by decide +kernel)
  ·exact absurd z (by decide +kernel)
  ·exact absurd z (by decide +kernel)
  ·exact absurd z (by decide +kernel)
 ·rw [e,List.count_cons,List.count_append,List.count_append,List.count_append,cm _ _ _ (by decide +kernel),cm _ _ _ (by decide +kernel),cm _ "out" _ (by decide +kernel),cl,Z0t (by decide +kernel)];simp only [Z0y,Z06,Z08]
  lia
theorem C9h {p:Prg} (h:RsP p):("out":Str)∈(rsP p).map kdS/\1+((rsP p).map kdS).count ("let":Str)<=((rsP p).map kdS).idxOf ("out":Str)/\((rsP p).map kdS).idxOf ("out":Str)<=(rsP p).length:=by
 obtain ⟨pre,post,e,n,c⟩:=D7o h;refine ⟨by rw [e];simp,?_,?_⟩
 ·rw [e,D0a n,<-e];exact c
 ·have:=List.idxOf_le_length (l:=(rsP p).map kdS) (a:=("out":Str));rw [Z08] at this;exact this
theorem E0w {p:Prg} (h:RsP p):∃r,(rsP p)[0]? =some r/\kdS r="wheel":=by
 refine ⟨_,rfl,?_⟩;rw [B1e,A5j (A8n h.ok _ (.head _))];rfl
theorem kd_1 {p:Prg} (h:RsP p) {r:Str} {i:Nat} (hr:(rsP p)[i+1]? =some r):kdS r∈S4:=by
 unfold rsP at hr;rw [Z1z] at hr;obtain ⟨ws,hw,rfl⟩:=Z0i.mp hr;rw [B1e,A5j (A8n h.ok _ (Z13 hw))];unfold A2x at hw;rw [List.getElem?_cons_succ,Z1z] at hw;obtain ⟨e,he,rfl⟩:=Z0i.mp hw;exact D6f p e (Z13 he)
theorem C3t (ms:List Str) (i:Nat) (y:Str):spW (ms.set i y)=(spW ms).set i (Txt.split y " "):=by
 unfold spW;rw [List.map_set]
theorem D4k (ms:List Str) (i:Nat) (y:Str):spW (ms.take i++y::ms.drop i)=(spW ms).take i++Txt.split y " "::(spW ms).drop i:=by
 unfold spW;rw [Z0s,Z0p,List.map_take,List.map_drop]
theorem B2a {p:Prg} (h:RsP p) {i:Nat} {y:Str} (hy:RwT y) (no:A2f ((A2x p).set i (Txt.split y " "))=false):B9l ((rsP p).set i y):=by
 have l:=h.ln;refine ⟨λe=> ?_,λr hr=> ?_,by rw [List.length_set];lia,?_⟩
 ·have:=congrArg List.length e;rw [List.length_set,Z2g] at this
  lia
 ·rcases List.mem_or_eq_of_mem_set hr with z | z
  ·exact h.rw r z
  ·rw [z];exact hy
 ·show A2f (spW ((rsP p).set i y))=false;rw [C3t,h.sp];exact no
theorem C8s {α:Type} {l:List α} {i:Nat} {y:α} (hi:i<=l.length):(l.take i++y::l.drop i)[i]? =some y:=by
 have e:(l.take i).length=i:=by rw [Z0x];lia
 rw [Z1l (by lia),e,Nat.sub_self];rfl
theorem C5a {p:Prg} (h:RsP p) {i:Nat} {y:Str} (hy:RwT y) (no:A2f ((A2x p).take i++Txt.split y " "::(A2x p).drop i)=false):B9l ((rsP p).take i++y::(rsP p).drop i):=by
 have l:=h.ln;refine ⟨by simp,λr hr=> ?_,by simp;lia,?_⟩
 ·rcases Z07.mp hr with z | z
  ·exact h.rw r (Z2p z)
  ·rcases Z0e.mp z with z | z
   ·rw [z];exact hy
   ·exact h.rw r (List.mem_of_mem_drop z)
 ·show A2f (spW ((rsP p).take i++y::(rsP p).drop i))=false;rw [D4k,h.sp];exact no
theorem rl {p:Prg}:(rsP p).length=(A2x p).length:=by unfold rsP;rw [Z08]
theorem B8r {p:Prg} (h:RsP p) {i:Nat} {y:Str} (hy:RwT y) (i1:1<=i) (il:i<=(rsP p).length) (no:D0h (Txt.split y " ")=false):B9l ((rsP p).take i++y::(rsP p).drop i):=by
 obtain ⟨j,rfl⟩:∃j,i=j+1:=⟨i-1,by lia⟩;exact C5a h hy (D4d (C8s (by rw [<-rl];exact il)) no)
theorem B5g {rs:List (List Str)} {ws:List Str} (hw:ws∈rs) (he:("":Str)∈ws):A2f rs=false:=by
 cases z:A2f rs with
 | false=>rfl
 | true =>
  have e:sg ("":Str)=[]:=by decide +kernel
  exact absurd e ((C4o z ws hw).2 _ he).ne
theorem C0j:Txt.split ("":Str) " "=[("":Str)]:=by decide +kernel
theorem C7b:RwT "":=⟨by decide +kernel,by decide +kernel,by decide +kernel,by rw [C0j];decide +kernel⟩
theorem C4g {p:Prg} (h:RsP p) {i:Nat} (il:i<=(rsP p).length):B9l ((rsP p).take i++("":Str)::(rsP p).drop i) :=
 C5a h C7b (B5g (ws:=[("":Str)]) (by rw [C0j];exact Z13 (C8s (by rw [<-rl];exact il))) (.head _))
theorem B3s {p:Prg} (h:RsP p) {i:Nat} {r:Str} (hr:(rsP p)[i]? =some r):∃ws,(A2x p)[i]? =some ws/\r=Txt.join " " ws/\C2e ws/\2<=ws.length/\kdS r=ws.headD "":=by
 unfold rsP at hr;rw [Z1z] at hr;obtain ⟨ws,hw,rfl⟩:=Z0i.mp hr;have g:=A8n h.ok _ (Z13 hw);refine ⟨ws,hw,rfl,g,?_,by rw [B1e,A5j g]⟩;have hm:=Z13 hw;unfold A2x kwP at hm;simp only [Z0e,Z2c,Z07] at hm;rcases hm with rfl | ⟨_,(⟨_,_,rfl⟩ | ⟨_,_,rfl⟩ | ⟨_,_,rfl⟩ | ⟨_,_,rfl⟩),rfl⟩ <;> simp [axW,tbW,ltW]
theorem B3n {α:Type} {l:List α} {i:Nat} {x y:α} (h:l[i]? =some x):(l.set i y)[i]? =some y:=by
 rw [Z23 (Z03.mp h).1]
theorem C9q:B4i "":=⟨by decide +kernel,by decide +kernel⟩
theorem D8q {p:Prg} (h:RsP p) {i:Nat} {r y:Str} (hr:(rsP p)[i]? =some r) (hy:y=r++" "\/y=" "++r):B9l ((rsP p).set i y):=by
 obtain ⟨ws,hw,rfl,g,l2,_⟩:=B3s h hr;have e0:(" ":Str)++""=" ":=by decide +kernel
 have nil_app:∀z:Str,("":Str)++z=z:=λz=>by refine A4l ?_;rw [A1o,show sg ("":Str)=[] by decide +kernel,List.nil_append]
 rcases hy with rfl | rfl
 ·have e:=B2b (x:="") g.ne;rw [e0] at e;have w:=WsT.snoc g C9q;rw [<-e];exact B2a h w.rw (B5g (ws:=ws++[("":Str)]) (by rw [w.split];exact Z13 (B3n hw)) (by simp))
 ·have e:=C4q (x:="") g.ne;rw [nil_app] at e;have w:=WsT.cons g C9q;rw [<-e];exact B2a h w.rw (B5g (ws:=("":Str)::ws) (by rw [w.split];exact Z13 (B3n hw)) (by simp))
theorem D7y {p:Prg} (h:RsP p) {i:Nat} {r:Str} (hr:(rsP p)[i]? =some r) (hk:kdS r≠"table") (hl:r.length<=12000000):B9l ((rsP p).set i (Txt.slice r none (some (Txt.rfind r " ")))):=by
 obtain ⟨ws,hw,er,g,l2,k⟩:=B3s h hr;have ne:=g.ne;obtain ⟨ws',x,rfl⟩:∃ws' x,ws=ws'++[x]:=⟨ws.dropLast,ws.getLast ne,(List.dropLast_concat_getLast ne).symm⟩;rw [Z06,Z0j] at l2;have ne':ws'≠[]:=λz=>by rw [z] at l2;simp at l2
 have w':WsT ws':=⟨λy hy=>g.gw y (Z05 _ hy),ne',by have:=g.ln;rw [Z06] at this;lia⟩
 have es:sg r=sg (Txt.join " " ws')++32::sg x:=by
  rw [er,B2b ne',A1o,A1o,A2p];rfl
 have hx:32∉sg x:=λm=>by have:=(g.gw x (by simp)).sg _ m;lia
 have ey:Txt.slice r none (some (Txt.rfind r " "))=Txt.join " " ws':=by
  refine A4l ?_;rw [C8l es hx,C6c (by rw [<-A1r r,es,Z06];lia),es,List.take_left]
 rw [ey];refine B2a h w'.rw ?_;rw [w'.split]
 cases z:A2f ((A2x p).set i ws') with
 | false=>rfl
 | true =>
  have hd:ws'.headD ""=(ws'++[x]).headD "":=by
   cases ws' with
   | nil=>exact absurd rfl ne'
   | cons _ _=>rfl
  have:=C8t z (B5x h.ok) (B3n hw) hw ne' (by rw [hd,<-k];exact hk);cases this
theorem D7l {p:Prg} (h:RsP p) {i:Nat} {r x:Str} (hr:(rsP p)[i]? =some r) (hk:kdS r≠"table") (hx:x=" x"\/x=" 0"):B9l ((rsP p).set i (r++x)):=by
 obtain ⟨ws,hw,rfl,g,l2,k⟩:=B3s h hr
 obtain ⟨y,rfl,gy⟩:∃y,x=" "++y/\B4i y:=by
  rcases hx with rfl | rfl
  ·exact ⟨"x",by decide +kernel,by decide +kernel,by decide +kernel⟩
  ·exact ⟨"0",by decide +kernel,by decide +kernel,by decide +kernel⟩
 have w:=WsT.snoc g gy;rw [<-B2b g.ne];refine B2a h w.rw ?_;rw [w.split]
 cases z:A2f ((A2x p).set i (ws++[y])) with
 | false=>rfl
 | true =>
  have:=C8t (B5x h.ok) z hw (B3n hw) g.ne (by rw [<-k];exact hk);cases this
theorem D8a {p:Prg} (h:RsP p) {i:Nat} {r r':Str} (hr:(rsP p)[i]? =some r) (hr':(rsP p)[i+1]? =some r') (hk:kdS r≠kdS r'):B9l (((rsP p).set i r').set (i+1) r):=by
 have l:=h.ln;obtain ⟨a,ha,_,_,_,ka⟩:=B3s h hr;obtain ⟨b,hb,_,_,_,kb⟩:=B3s h hr';have il:=(Z03.mp hr').1;have e1:=h.sp
 have sa:Txt.split r " "=a:=by
  have:(spW (rsP p))[i]? =some (Txt.split r " "):=by unfold spW;rw [Z1z,hr];rfl
  rw [e1,ha] at this;exact (Z1a this).symm
 have sb:Txt.split r' " "=b:=by
  have:(spW (rsP p))[i+1]? =some (Txt.split r' " "):=by unfold spW;rw [Z1z,hr'];rfl
  rw [e1,hb] at this;exact (Z1a this).symm
 refine ⟨λe=> ?_,λx hx=> ?_,by rw [List.length_set,List.length_set];lia,?_⟩
 ·have:=congrArg List.length e;rw [List.length_set,List.length_set,Z2g] at this
  lia
 ·rcases List.mem_or_eq_of_mem_set hx with z | z
  ·rcases List.mem_or_eq_of_mem_set z with z | z
   ·exact h.rw x z
   ·rw [z];exact h.rw _ (Z13 hr')
  ·rw [z];exact h.rw _ (Z13 hr)
 ·show A2f (spW (((rsP p).set i r').set (i+1) r))=false;rw [C3t,C3t,e1,sa,sb]
  cases z:A2f (((A2x p).set i b).set (i+1) a) with
  | false=>rfl
  | true =>
   have c1:(((A2x p).set i b).set (i+1) a)[i]? =some b:=by
    rw [Z2a (by lia)];exact B3n ha
   have c2:(((A2x p).set i b).set (i+1) a)[i+1]? =some a:=by
    refine B3n (x:=b) ?_;rw [Z2a (by lia)];exact hb
   exact absurd (D0l (B5x h.ok) z ha hb c1 c2) (by rw [<-ka,<-kb];exact hk)
def rwB (r:Str):Bool:=decide (r.length<=100000)&& !(sg r).contains 10&&decide ((Txt.split r " ").length<=92)&&(Txt.split r " ").all λy=>decide (y.length<=1000)
theorem D7d {r:Str} (h:rwB r=true):RwT r:=by
 unfold rwB at h;simp only [Z1x,decide_eq_true_eq,Bool.not_eq_true',List.all_eq_true] at h;obtain ⟨⟨⟨h1,h2⟩,h3⟩,h4⟩:=h;exact ⟨h1,λm=>(by rw [List.contains_iff_mem.mpr m] at h2;cases h2),h3,h4⟩
theorem D4o:∀y∈D2u,rwB ("let b = "++y)=true:=by decide +kernel
theorem D0n:∀y∈axT,rwB ("axis x "++y)=true:=by decide +kernel
theorem C7h:∀y∈whT,rwB ("wheel "++y)=true:=by decide +kernel
theorem C7c:∀y∈shT,rwB y=true:=by decide +kernel
theorem D9y {p:Prg} (h:RsP p) {y:Str} (hy:y∈whT):B9l ((rsP p).set 0 ("wheel "++y)):=by
 refine B2a h (D7d (C7h y hy)) ?_;have no:=C3q y hy;generalize Txt.split ("wheel "++y) " "=ws at no⊢
 cases z:A2f ((A2x p).set 0 ws) with
 | false=>rfl
 | true =>
  have:=B7j z;have e:((A2x p).set 0 ws).headD []=ws:=rfl;rw [e,no] at this;cases this
theorem A8c {n x:Nat} {u:List Nat} (e:x≠n):∃a r,spl n u=a::r/\spl n (x::u)=(x::a)::r:=by
 have ne:=A7o n u
 cases h:spl n u with
 | nil=>exact absurd h ne
 | cons a r=>exact ⟨a,r,rfl,by rw [spl,Z0t e,h]⟩
theorem A4n {n:Nat} {u:List Nat}:spl n (n::u)=[]::spl n u:=by rw [spl,Z12 rfl]
theorem B9d (n c:Nat) (b:List Nat):∀a:List Nat,∃L p q M,spl n (a++b)=L++(p++q)::M/\(c≠n->spl n (a++c::b)=L++(p++c::q)::M)/\(c=n->spl n (a++c::b)=L++p::q::M)
 | []=>by
  have ne:=A7o n b
  cases h:spl n b with
  | nil=>exact absurd h ne
  | cons q M =>
   refine ⟨[],[],q,M,h,λe=> ?_,λe=> ?_⟩
   ·obtain ⟨a,r,e1,e2⟩:=A8c (u:=b) e;rw [h] at e1;cases e1;exact e2
   ·subst e;rw [List.nil_append,A4n,h];rfl
 | x::a=>by
  obtain ⟨L,p,q,M,e0,e1,e2⟩:=B9d n c b a;by_cases hx:x=n
  ·subst hx;refine ⟨[]::L,p,q,M,?_,λe=> ?_,λe=> ?_⟩
   ·rw [Z17,A4n,e0];rfl
   ·rw [Z17,A4n,e1 e];rfl
   ·rw [Z17,A4n,e2 e];rfl
  ·have st:∀{u:List Nat} {A:List Nat} {R:List (List Nat)},spl n u=A::R->spl n (x::u)=(x::A)::R:=λ{u A R} h=>by
    obtain ⟨a,r,z1,z2⟩:=A8c (u:=u) hx;rw [h] at z1;cases z1;exact z2
   cases L with
   | nil=>exact ⟨[],x::p,q,M,st e0,λe=>st (e1 e),λe=>st (e2 e)⟩
   | cons A L=>exact ⟨(x::A)::L,p,q,M,st e0,λe=>st (e1 e),λe=>st (e2 e)⟩
theorem E0r {n c k l:Nat} {a b:List Nat} (h1:(spl n (a++b)).length<=k) (h2:∀w∈spl n (a++b),w.length<=l):(spl n (a++c::b)).length<=k+1/\∀w∈spl n (a++c::b),w.length<=l+1:=by
 obtain ⟨L,p,q,M,e0,e1,e2⟩:=B9d n c b a;rw [e0] at h1 h2;have hpq:=h2 (p++q) (by simp);rw [Z06] at hpq;have hL:∀w∈L,w.length<=l:=λw hw=>h2 w (by simp [hw]);have hM:∀w∈M,w.length<=l:=λw hw=>h2 w (by simp [hw]);simp only [Z06,Z0y] at h1;by_cases e:c=n
 ·rw [e2 e];refine ⟨by simp only [Z06,Z0y];lia,λw hw=> ?_⟩;simp only [Z07,Z0e] at hw;rcases hw with z | rfl | rfl | z
  ·have:=hL w z;lia
  ·lia
  ·lia
  ·have:=hM w z;lia
 ·rw [e1 e];refine ⟨by simp only [Z06,Z0y];lia,λw hw=> ?_⟩;simp only [Z07,Z0e] at hw;rcases hw with z | rfl | z
  ·have:=hL w z;lia
  ·simp only [Z06,Z0y];lia
  ·have:=hM w z;lia
theorem D7i {p:Prg}:txP p=Txt.join "\n" (rsP p):=rfl
theorem D4w {p:Prg} (h:RsP p):spl 10 (sg (txP p))=(rsP p).map sg:=by
 have e:=A4h (txP p) 10;rw [<-B4p,D7i,B5f (by have:=h.ln;intro z;rw [z] at this;simp at this) h.rw] at e;exact e.symm
theorem D4j {p:Prg} (h:RsP p):(txP p).length<=8200100:=by
 have l:=h.ln;have:=B9v h.rw (by lia);have j:=B5a 10 (rsP p);rw [<-B4p,<-D7i] at j
 lia
theorem rowN {p:Prg} (h:RsP p):∀u∈spl 10 (sg (txP p)),(spl 32 u).length<=92/\∀w∈spl 32 u,w.length<=900:=λu hu=>by
 rw [D4w h] at hu;obtain ⟨r,hr,rfl⟩:=Z2c.mp hu;obtain ⟨i,hi⟩:=List.getElem?_of_mem hr;obtain ⟨ws,_,rfl,g,_,_⟩:=B3s h hi;have e:=A4h (Txt.join " " ws) 32;rw [<-A2p,A5j g] at e;rw [<-e];refine ⟨by have:=g.ln;rw [Z08];lia,λw hw=> ?_⟩;obtain ⟨x,hx,rfl⟩:=Z2c.mp hw;rw [A1r];exact (g.gw x hx).ln
theorem A7d {n:Nat}:∀{u r:List Nat},r∈spl n u->r.length<=u.length
 | [],r,h=>by
  rw [show spl n []=[[]] from rfl] at h;rw [Z0w.mp h];exact Z09 _
 | x::u,r,h=>by
  by_cases e:x=n
  ·subst e;rw [A4n] at h;rcases Z0e.mp h with rfl | h
   ·exact Z1e _
   ·have:=A7d h;rw [Z0y];lia
  ·obtain ⟨a,t,e1,e2⟩:=A8c (u:=u) e;rw [e2] at h;rcases Z0e.mp h with rfl | h
   ·have:=A7d (n:=n) (u:=u) (r:=a) (by rw [e1];exact .head _);simp only [Z0y];lia
   ·have:=A7d (n:=n) (u:=u) (r:=r) (by rw [e1];exact .tail _ h);rw [Z0y];lia
theorem C2r {p:Prg} (h:RsP p) {y:Str} {a b:List Nat} {c:Nat} (e:sg (txP p)=a++b) (ey:sg y=a++c::b) (hc:c≠10):D2y y:=by
 have lx:=D4j h
 have ly:y.length<=8200101:=by
  rw [<-A1r,e,Z06] at lx;rw [<-A1r,ey,Z06,Z0y]
  lia
 have rn:=rowN h;have sl:=D4w h;have l2:=h.ln;obtain ⟨L,p',q,M,e0,e1,_⟩:=B9d 10 c b a;rw [<-e] at e0;have es:=A4h y 10;rw [<-B4p,ey,e1 hc] at es
 have ln:(Txt.split y "\n").length=(rsP p).length:=by
  have z1:=congrArg List.length es;have z2:=congrArg List.length sl;rw [Z08] at z1 z2;rw [z1,<-z2,e0];simp
 have good:∀u∈spl 10 (sg y),(spl 32 u).length<=93/\∀w∈spl 32 u,w.length<=901:=λu hu=>by
  rw [ey,e1 hc] at hu;rw [e0] at rn;rcases Z07.mp hu with z | z
  ·obtain ⟨z1,z2⟩:=rn u (by simp [z]);exact ⟨by lia,λw hw=>by have:=z2 w hw;lia⟩
  ·rcases Z0e.mp z with rfl | z
   ·obtain ⟨z1,z2⟩:=rn (p'++q) (by simp);exact E0r z1 z2
   ·obtain ⟨z1,z2⟩:=rn u (by simp [z]);exact ⟨by lia,λw hw=>by have:=z2 w hw;lia⟩
 refine ⟨by lia,by lia,λr hr=> ?_⟩
 have hm:sg r∈spl 10 (sg y):=by
  rw [ey,e1 hc,<-es];exact Z2c.mpr ⟨r,hr,rfl⟩
 have lr:=A7d hm;rw [A1r,A1r] at lr;obtain ⟨g1,g2⟩:=good _ hm;have ew:=A4h r 32;rw [<-A2p] at ew;have lw:=congrArg List.length ew;rw [Z08] at lw;refine ⟨by lia,by lia,λw hw=> ?_⟩;have:=g2 (sg w) (by rw [<-ew];exact Z2c.mpr ⟨w,hw,rfl⟩);rw [A1r] at this
 lia
def C3o:Str:="ABCZ_.;:!?/()#'|{}<>@&^$~`\""
theorem C4y:∀c∈sg C3o,¬(okC c\/c=32\/c=10):=by unfold okC;decide +kernel
theorem D3y {p:Prg} (h:RsP p) {y:Str} {a b:List Nat} (e:sg (txP p)=a++32::b) (ey:sg y=a++32::32::b):Bad y :=
 ⟨D2m (by rw [ey];exact D2t (by decide) (by decide)),C2r h e ey (by decide)⟩
theorem D3n {p:Prg} (h:RsP p) {y:Str} {a b:List Nat} {c:Nat} (e:sg (txP p)=a++b) (ey:sg y=a++c::b) (hc:c∈sg C3o):Bad y :=
 ⟨C5w (c:=c) (by rw [ey];simp) (C4y c hc),C2r h e ey λz=>C4y c hc (.inr (.inr z))⟩
theorem D3z {p:Prg} (h:RsP p) {y:Str} {a b:List Nat} {d:Nat} (e:sg (txP p)=a++d::b) (ey:sg y=a++48::d::b) (hd:A1v d=true) (ha:∀z,a.getLast? =some z->A1v z=false):Bad y :=
 ⟨C1z ey hd ha,C2r h e ey (by decide)⟩
theorem C9d {p:Prg} (h:RsP p):∃c r,sg (txP p)=119::104::101::101::108::32::c::r/\A1v c=true:=by
 obtain ⟨c,r,e,hc⟩:=B4b (p.wh:Int)
 have hf:48<=c/\c<=57:=by
  rcases hc with ⟨_,z⟩ | ⟨z,_⟩
  ·lia
  ·exact z
 have es:sg (Str.ofString (toString (p.wh:Int)))=c::r:=by rw [A7u,e]
 have ew:sg ("wheel":Str)=[119,104,101,101,108]:=by decide +kernel
 have e0:sg (Txt.join " " [("wheel":Str),Str.ofString (toString (p.wh:Int))])=119::104::101::101::108::32::c::r:=by
  rw [A2p,A2a,Z0p,Z0p,List.map_nil,ew,es];rfl
 have e1:∃r2,sg (txP p)=sg (Txt.join " " [("wheel":Str),Str.ofString (toString (p.wh:Int))])++r2:=by
  unfold txP;rw [B4p,A2a];show∃r2,jn 10 (sg (Txt.join " " [("wheel":Str),Str.ofString (toString (p.wh:Int))])::_)=_
  cases ((List.map (λe=>e.1::e.2) (kwP p)).map (Txt.join " ")).map sg with
  | nil=>exact ⟨[],by rw [Z0u];rfl⟩
  | cons x xs=>exact ⟨_,rfl⟩
 obtain ⟨r2,e1⟩:=e1;rw [e0] at e1;exact ⟨c,r++r2,e1,by unfold A1v;exact Z20 hf⟩
theorem D9o {p:Prg} (h:RsP p):∃k,plS (sg (txP p)) (sg (" ":Str)) k=true:=by
 obtain ⟨c,r,e,_⟩:=C9d h;refine ⟨5,?_⟩;rw [e,A2p];rfl
theorem D8c {p:Prg} (h:RsP p):∃k,plS (sg (txP p)) (sg D2w) k=true:=by
 obtain ⟨c,r,e,hc⟩:=C9d h;refine ⟨6,?_⟩;rw [e];show (decide (c∈sg D2w)&&_)=true;rw [D1p,hc];rfl
theorem C1a {n i:Nat} (h:i<n):ixN n (i:Int)=some i:=by
 unfold ixN;rw [Z12 (by lia),Z12 (by lia)];rfl
def C7g (K:Frag):Sp:=λvs H Q _=>∃(R:Addr) (p:Prg) (r:Int),vs=[.ref R,.int r]/\RsP p/\SqL K H R ((rsP p).map V.str)/\∀(y:Str) (H':Hp),A1b H H'->Bad y->Q (.str y) H'
theorem C9f {p:Prg} (h:RsP p) {r:Str} (hr:r∈rsP p):r.length<=12000000:=by have:=(h.rw r hr).l;lia
theorem C1y (T:Txt K mg t):FO P w base T.i9 2 (C7g K):=by
 have Ge1:= @B6m P w K mg base t T;refine T.i9.F.ok A3i (by walk_at "ln") λ_ A _ s H _ Q E hr h=> ?_
 ·obtain ⟨R,p,r,rfl,h,hR,q⟩:=h;obtain ⟨l2,l81⟩:=h.ln;obtain ⟨k1,k2,k3⟩:=C9h h;refine ⟨_,(@RS.r _ _ _ (rq1 (rq6 2 A3i.nd (A2b B0s (by rfl) T.jm Z1o (A0a (pv 0) A0b))) (rq1 ⟨B8j (i₀:=4) (N':=["_law_row"]) (ix:=(List.replicate 1 none)) A3i.nd rfl (.inl rfl) rfl (A1n rfl (by decide +kernel) (by decide +kernel)) (A1q rfl) (A3f (pv 0)) (λ_ _ _ _=>(A0p (i:=0) C1e rfl (.inl rfl))) (λ_ _ _ _=>(pcl Ge1 hr T.bv (A0a (pv 0) A0b)))⟩ (rq1 (rq6 3 A3i.nd (A2i A1d (@A2e _ _ _ _ (A0a A0g (A0a A0g (A0a A0g (A0a A0g (A0a A0g (A0a A0g (A0a A0g (A0a A0g A0b))))))))) (A0k A1g (pv 1) A0e) (λ_ _=>rfl))) (rq1 (rq6 5 A3i.nd (A2r Z0k PySem.F.slot_list_index PySem.F.type_list_index B2c (pv 4) (A0a A0g A0b))) (rq2 (rq4 (A0n A2s (pv 3) A0g (A0z _)) (rq3 (rq6 5 A3i.nd (A0k A7q (pv 5) (A2r Z0k PySem.F.slot_list_count PySem.F.type_list_count C2o (pv 4) (A0a A0g A0b))))) ⟨A0m⟩) (rq2 (rq4 (A0n A2s (pv 3) A0g (A0z _)) (rq3 (rq6 5 A3i.nd (A0y A1i (by rfl) T.bx Z0r (A0a (pv 0) A0b)))) ⟨A0m⟩) (rq2 (rq4 (A0n A2s (pcl Ge1 hr T.bv (A0a (pv 3) A0b)) A0g (A0z _)) (rq3 (rq6 5 A3i.nd A0e)) ⟨A0m⟩) (rq1 ⟨A2z (A2r Z0k PySem.F.slot_list_insert PySem.F.type_list_insert A9m (pv 2) (A0a (pv 5) (A0a (pv 3) A0b)))⟩ (rq3 (rq5 (A2r PySem.F.plainAttrs_str PySem.F.slot_str_join PySem.F.type_str_join A9y A0g (A0a (pv 2) A0b))))))))))))),?_⟩;refine ⟨_,rfl,R,_,rfl,.inl hR,λM hM=> ?_⟩;have s1:=A0f (o:= .lst ((rsP p).map V.str)) hM;have h1:upd H M (.lst ((rsP p).map V.str)) M=some (.lst ((rsP p).map V.str)):=A0c;generalize upd H M (.lst ((rsP p).map V.str))=H1 at s1 h1⊢;refine ⟨_,rfl,R,rfl,⟨_,s1.seq hR⟩,λD hD=> ?_⟩;refine A2h (K:=K) (a:=R) (D:=D) (xs:=(rsP p).map V.str) (λi ys G=>A1b H1 G/\G D=some (.lst ys)/\ys=(((rsP p).map kdS).take i).map V.str) ⟨A0f hD,A0c,rfl⟩ (by rintro i ys G ⟨s2,_⟩;exact s2.seq (s1.seq hR)) ?_ ?_
  ·rintro i v ys G hv ⟨sG,hG,rfl⟩;rw [Z1z] at hv;obtain ⟨x,hx,rfl⟩:=Z0i.mp hv;refine ⟨True.intro,_,rfl,x,rfl,C9f h (Z13 hx),λH' s'=>⟨s' _ _ hG,A1p (by rw [Z08,Z0x,Z08];lia),A0j (sG.trans s') hD,A0c,?_⟩⟩;rw [Z14,Z1z,hx];simp only [Option.map_some,Z2f,Z0s,Z0p,List.map_nil];rfl
  rintro ys H2 ⟨s2,h2,rfl⟩;rw [Z08,Z2l (by rw [Z08];exact Z09 _)] at h2;have hM2:=s2 _ _ h1;have DM:D≠M:=λz=>by rw [z,h1] at hD;cases hD
  have s12:=s1.trans s2;refine ⟨A0w rfl,λz hz=> ?_⟩;generalize hL:([V.str "table",.str "let",.str "let b",.str "let b x 5",.str "let = 5",.str "axis",.str "axis x",.str "out"]:List V)=L8;have eL:L8=shT.map V.str:=hL.symm;have s3:=A0f (o:= .lst L8) hz;obtain ⟨y,hy,e⟩:=A5e (f:=V.str) (xs:=shT) (i:=r%8) (by lia) (by show r%8<8;lia);have my:=Z13 hy;refine ⟨_,rfl,_,_,rfl,rfl,D9s,z,_,_,_,rfl,rfl,SqL.of (by rw [A0c,eL]),e,?_⟩;have hD3:upd H2 z (.lst L8) D=some (.lst (((rsP p).map kdS).map V.str)):=s3 _ _ h2;have hM3:upd H2 z (.lst L8) M=some (.lst ((rsP p).map V.str)):=s3 _ _ hM2;have s13:=s12.trans s3;generalize upd H2 z (.lst L8)=H3 at s13 hD3 hM3⊢;have ly:y.length<=100:=(show∀y∈shT,y.length<=100 by decide +kernel) y my;refine ⟨_,rfl,.inl ⟨rfl,_,SqL.of hD3⟩,D,_,"out",rfl,rfl,hD3,k1,?_⟩;refine ⟨λσ G=>∃n:Nat,σ=[Sro R,Sio r,Sro M,Sso y,Sro D,Sio (n:Nat)]/\G=H3/\1<=n/\n<=(rsP p).length,?_,?_⟩
  ·refine ⟨_,rfl,rfl,_,rfl,A3z (λ_=> ?_) (λ_=>⟨_,rfl,rfl,by lia,k3⟩)⟩;refine ⟨_,rfl,_,rfl,.inl ⟨rfl,_,SqL.of hD3⟩,D,_,"let",rfl,rfl,hD3,_,_,rfl,rfl,((rsP p).map kdS).idxOf ("out":Str)-((rsP p).map kdS).count ("let":Str),?_,rfl,by lia,by lia⟩;exact congrArg (λz=>[some (V.ref R),some (V.int r),some (V.ref M),some (V.str y),some (V.ref D),some (V.int z)]) (show ((((rsP p).map kdS).idxOf ("out":Str):Nat):Int)-((((rsP p).map kdS).count ("let":Str):Nat):Int)=((((rsP p).map kdS).idxOf ("out":Str)-((rsP p).map kdS).count ("let":Str):Nat):Int) by lia)
  rintro σ G ⟨n,rfl,rfl,n1,nl⟩;refine ⟨λσ G'=>∃n:Nat,σ=[Sro R,Sio r,Sro M,Sso y,Sro D,Sio (n:Nat)]/\G'=G/\1<=n/\n<=(rsP p).length,?_,?_⟩
  ·refine ⟨_,rfl,rfl,_,rfl,A3z (λ_=> ?_) (λ_=>⟨n,rfl,rfl,n1,nl⟩)⟩;refine ⟨_,rfl,R,_,rfl,.inl (s13.seq hR),(rsP p).length,?_,rfl,by lia,by lia⟩;exact congrArg (λz:Nat=>[some (V.ref R),some (V.int r),some (V.ref M),some (V.str y),some (V.ref D),some (V.int (z:Nat))]) (Z08 (as:=rsP p) V.str)
  rintro σ G' ⟨n,rfl,rfl,n1,nl⟩;refine ⟨λσ G=>∃n:Nat,σ=[Sro R,Sio r,Sro M,Sso y,Sro D,Sio (n:Nat)]/\A1b G' G/\1<=n/\n<=(rsP p).length,?_,?_⟩
  ·refine ⟨_,rfl,y,rfl,by lia,λH' s'=>⟨rfl,_,rfl,A3z (λ_=> ?_) (λ_=>⟨n,rfl,s',n1,nl⟩)⟩⟩;exact ⟨1,rfl,s',by lia,by lia⟩
  rintro σ G ⟨n,rfl,s4,n1,nl⟩;have hM4:=s4 _ _ hM3;have bad:=B8r h (D7d (C7c y my)) n1 nl (C2y y my);refine ⟨_,rfl,.inl ⟨rfl,_,SqL.of hM4⟩,_,rfl,_,rfl,M,_,_,_,rfl,rfl,hM4,A1p (by rw [Z08];lia),by lia,by lia,?_⟩
  have eM:((rsP p).map V.str).take ((n:Nat):Int).toNat++V.str y::((rsP p).map V.str).drop ((n:Nat):Int).toNat=((rsP p).take n++y::(rsP p).drop n).map V.str:=by
   rw [Z0s,Z0p,List.map_take,List.map_drop];rfl
  rw [eM];exact ⟨rfl,_,rfl,"\n",M,_,rfl,rfl,SqL.of A0c,bad.sum,q _ _ (A0j (s13.trans s4) hM) bad.bad⟩
theorem B6v {c:TT} {tb:TS} {D:B9t} {σ:St} {H:Hp} (Pv Ex:St->Hp->Prop) (μ:St->Hp->Nat) (h0:Pv σ H)
  (hs:∀σ H,Pv σ H->c σ H λb H1=>if b=true then tb { D with nx:=λσ' H'=>Pv σ' H'/\μ σ' H'<μ σ H,ct:=λσ' H'=>Pv σ' H'/\μ σ' H'<μ σ H,bk:=D.nx } σ H1 else Ex σ H1)
  (mono:∀σ H Q Q',(∀b H1,Q b H1->Q' b H1)->c σ H Q->c σ H Q') (hx:∀σ H,Ex σ H->D.nx σ H):C5d c tb D σ H :=
 C5z Pv μ h0 (λσ H p=>mono _ _ _ _ (λb H1 q=>by
  cases b with
  | true=>exact q
  | false=>exact hx _ _ q) (hs σ H p)) mono
theorem B4x {A A' B B':Prop} {b:Bool} (h1:A->A') (h2:B->B') (h:if b=true then A else B):if b=true then A' else B':=by
 cases b
 ·exact h2 h
 ·exact h1 h
def D2x (l:Nat) (σ:St):Nat:=match (σ[4]? :Option (Option V)) with
 | some (some (V.int n))=>if n=0 then 0 else l-n.toNat
 | _=>0
structure RsS (H:Hp) (R M:Addr) (p:Prg) (wy r:Int) (d:Prop) (σ:St) (G:Hp) (n:Nat) (o:Option V) (ms:List Str):Prop where
 σ:σ=[Sro R,Sio wy,Sio r,Sro M,Sio (n:Nat),o]
 s:A1b H G
 m:G M=some (.lst (ms.map V.str))
 n:n<(rsP p).length
 y:d->B9l ms
 o:¬d->ms=rsP p
def D7r (K:Frag):Sp:=λvs H Q _=>∃(R:Addr) (p:Prg) (wy r:Int),vs=[.ref R,.int wy,.int r]/\RsP p/\SqL K H R ((rsP p).map V.str)/\1<=wy/\wy<=9/\∀(y:Str) (H':Hp),A1b H H'->Bad y->Q (.str y) H'
theorem A5h {ms:List Str} {i:Nat} {y:Str}:(ms.map V.str).set i (V.str y)=(ms.set i y).map V.str:=by rw [List.map_set]
theorem B2p {ms:List Str} {i:Nat} {y:Str}:(ms.map V.str).take ((i:Nat):Int).toNat++V.str y::(ms.map V.str).drop ((i:Nat):Int).toNat=(ms.take i++y::ms.drop i).map V.str:=by
 rw [Z0s,Z0p,List.map_take,List.map_drop];rfl
theorem B5j {ms:List Str} {i:Nat} {y:Str} (h:ms[i]? =some y):atI (ms.map V.str) ((i:Nat):Int)=some (.str y):=A4a (j:=i) (by rw [Z1z,h];rfl)
theorem C8u {ms:List Str} {i:Nat} {y:Str} (h:ms[i+1]? =some y):atI (ms.map V.str) ((i:Nat)+1:Int)=some (.str y):=by
 rw [show ((i:Nat):Int)+1=((i+1:Nat):Int) by lia];exact B5j h
theorem D6b {n i:Nat} (h:i+1<n):ixN n ((i:Nat)+1:Int)=some (i+1):=by
 rw [show ((i:Nat):Int)+1=((i+1:Nat):Int) by lia];exact C1a h
theorem B3y {α:Type} {l:List α} {i:Nat} (h:i<l.length):∃y,l[i]? =some y:=⟨l[i],Z0b h⟩
theorem B1d (T:Txt K mg t):FO P w base T.b_ 3 (D7r K):=by
 have Ge1:= @B6m P w K mg base t T;have Ge2:= @B3z P w K mg base t T;have Ge3:= @B6u P w K mg base t T;have Ge4:= @B3g P w K mg base t T;have Ge5:= @C1y P w K mg base t T;refine T.b_.F.ok A1z (by walk_at "ln") λ_ A _ s H _ Q E hr h=> ?_
 ·obtain ⟨R,p,wy,r,rfl,h,hR,w1,w9,q⟩:=h;obtain ⟨l2,l81⟩:=h.ln;obtain ⟨k1,k2,k3⟩:=C9h h;have lV:((rsP p).map V.str).length=(rsP p).length:=Z08 ..;have rl:∀{i:Nat} {x:Str},(rsP p)[i]? =some x->x.length<=100000:=λhx=>(h.rw _ (Z13 hx)).l;refine ⟨_,(@RS.r _ _ _ (rq1 (rq6 3 A1z.nd (A2b B0s (by rfl) T.jm Z1o (A0a (pv 0) A0b))) (rq1 (rq6 4 A1z.nd (A0k A1g (pv 2) (A0y A1i (by rfl) T.bx Z0r (A0a (pv 0) A0b)))) (rq2 (rq4 (A0n A2s (pv 1) A0e (A0z _)) (rq3 ⟨A5k (A2i A1d (@A2e _ _ _ _ (A0a (A0k A0q (A2i A1d (pv 3) (pv 4) (λ_ _=>rfl)) A0g) (A0a (A0k A0q A0g (A2i A1d (pv 3) (pv 4) (λ_ _=>rfl))) A0b))) (A0k A1g (A0k A1k (pv 2) A0e) A0e) (λ_ _=>rfl)) (B3p (pv 3) (pv 4) A7f)⟩) ⟨A0m⟩) (rq2 (rq4 (A0n A2s (pv 1) A0e (A0z _)) (rq3 ⟨A2z (A2r Z0k PySem.F.slot_list_insert PySem.F.type_list_insert A9m (pv 3) (A0a (A0k A1g (pv 2) (A0k A2w (A0y A1i (by rfl) T.bx Z0r (A0a (pv 0) A0b)) A0e)) (A0a A0g A0b)))⟩) ⟨A0m⟩) (rq2 ⟨@C0h _ _ _ _ _ _ PassesOwn.never (PW.pt (B1w (A0n C1h (pv 1) A0e (A0z _)) (B1w (A0n C1l (pv 1) A0e (A0z _)) (A9w (A0n A2s (pcl Ge1 hr T.bv (A0a (A2i A1d (pv 3) (pv 4) (λ_ _=>rfl)) A0b)) A0g (A0z _)))))) (@A0h _ _ _ (@A0x _ _ 4 _ _ _ _ A1z.nd rfl (.inl rfl) (A0k A1g (A0k A2w (pv 4) A0e) (A0y A1i (by rfl) T.bx Z0r (A0a (pv 0) A0b))) rfl (.inl rfl)))⟩ (rq2 (rq4 (A0n A2s (pv 1) A0e (A0z _)) (rq3 ⟨A5k (A1t A7n (A2i A1d (pv 3) (pv 4) (λ_ _=>rfl)) A2t (A2g (A2r PySem.F.plainAttrs_str PySem.F.slot_str_rfind PySem.F.type_str_rfind C8c (A2i A1d (pv 3) (pv 4) (λ_ _=>rfl)) (A0a A0g A0b)))) (B3p (pv 3) (pv 4) A7f)⟩) ⟨A0m⟩) (rq2 (rq4 (A0n A2s (pv 1) A0e (A0z _)) (rq3 ⟨A5k (A0k A0q (A2i A1d (pv 3) (pv 4) (λ_ _=>rfl)) (A2i A1d (@A2e _ _ _ _ (A0a A0g (A0a A0g A0b))) (A0k A1g (A0k A1k (pv 2) A0e) A0e) (λ_ _=>rfl))) (B3p (pv 3) (pv 4) A7f)⟩) ⟨A0m⟩) (rq2 (rq4 (A0n A2s (pv 1) A0e (A0z _)) (rq2 ⟨@C0h _ _ _ _ _ _ PassesOwn.never (PW.pt (C3u (A0n A2s (A0k A2w (pv 4) A0e) (A0y A1i (by rfl) T.bx Z0r (A0a (pv 0) A0b)) (A0z _)) (B6i (A0n A2s (pcl Ge1 hr T.bv (A0a (A2i A1d (pv 3) (pv 4) (λ_ _=>rfl)) A0b)) (pcl Ge1 hr T.bv (A0a (A2i A1d (pv 3) (A0k A2w (pv 4) A0e) (λ_ _=>rfl)) A0b)) (A0z _))))) (@A0h _ _ _ (@A0x _ _ 4 _ _ _ _ A1z.nd rfl (.inl rfl) (A0k A1g (A0k A2w (pv 4) A0e) (A0y A1i (by rfl) T.bx Z0r (A0a (pv 0) A0b))) rfl (.inl rfl)))⟩ (rq1 ⟨A5k (A2i A1d (pv 0) (A0k A2w (pv 4) A0e) (λ_ _=>rfl)) (B3p (pv 3) (pv 4) A7f)⟩ (rq3 ⟨A5k (A2i A1d (pv 0) (pv 4) (λ_ _=>rfl)) (B3p (pv 3) (A0k A2w (pv 4) A0e) A7f)⟩))) ⟨A0m⟩) (rq1 ⟨B8j (i₀:=5) (N':=["_law_row"]) (ix:=(List.replicate 1 none)) A1z.nd rfl (.inl rfl) rfl (A1n rfl (by decide +kernel) (by decide +kernel)) (A1q rfl) (A3f (pv 0)) (λ_ _ _ _=>(A0p (i:=0) C1u rfl (.inl rfl))) (λ_ _ _ _=>(pcl Ge1 hr T.bv (A0a (pv 0) A0b)))⟩ (rq1 (rq4 (A0n A2s (pv 1) A0e (A0z _)) (rq3 (rq5 (pcl Ge5 hr T.i9 (A0a (pv 0) (A0a (pv 2) A0b))))) ⟨A0m⟩) (rq2 (rq4 (A0n A2s (pv 1) A0e (A0z _)) (rq3 ⟨A2z (A2r Z0k PySem.F.slot_list_insert PySem.F.type_list_insert A9m (pv 3) (A0a (A2r Z0k PySem.F.slot_list_index PySem.F.type_list_index B2c (pv 5) (A0a A0g A0b)) (A0a (pcl Ge3 hr T.fu (A0a (pv 2) A0b)) A0b)))⟩) ⟨A0m⟩) (rq2 (rq4 (A0n A2s (pv 1) A0e (A0z _)) (rq3 ⟨A2z (A2r Z0k PySem.F.slot_list_insert PySem.F.type_list_insert A9m (pv 3) (A0a A0e (A0a (pcl Ge2 hr T.ee (A0a (pv 2) A0b)) A0b)))⟩) ⟨A0m⟩) (rq2 (rq4 (A0n A2s (pv 1) A0e (A0z _)) (rq3 ⟨A5k (pcl Ge4 hr T.dl (A0a (pv 2) A0b)) (B3p (pv 3) A0e A7f)⟩) ⟨A0m⟩) (rq3 (rq5 (A2r PySem.F.plainAttrs_str PySem.F.slot_str_join PySem.F.type_str_join A9y A0g (A0a (pv 3) A0b)))))))))))))))))),?_⟩;refine ⟨_,rfl,R,_,rfl,.inl hR,λM hM=> ?_⟩;have s1:=A0f (o:= .lst ((rsP p).map V.str)) hM;have h1:upd H M (.lst ((rsP p).map V.str)) M=some (.lst ((rsP p).map V.str)):=A0c;generalize upd H M (.lst ((rsP p).map V.str))=H1 at s1 h1⊢
  obtain ⟨n0,en0,hn0⟩:∃n:Nat,r%(((rsP p).map V.str).length:Int)=(n:Int)/\n<(rsP p).length:=by
   have a:=Z1v r (show (((rsP p).map V.str).length:Int)≠0 by lia);have b:=Z1p r (show (0:Int)<((rsP p).map V.str).length by lia);exact ⟨(r%(((rsP p).map V.str).length:Int)).toNat,by lia,by lia⟩
  refine ⟨_,rfl,_,rfl,R,_,rfl,.inl (s1.seq hR),_,_,rfl,rfl,(by show (0:Int)<((rsP p).map V.str).length;lia),?_⟩;show B8n 4 (V.int (r%(((rsP p).map V.str).length:Int))) _ _ _;rw [en0];refine ⟨λσ G=>∃ms,RsS H R M p wy r (wy<=1) σ G n0 none ms,?_,?_⟩
  ·refine ⟨_,rfl,rfl,_,rfl,A3z (λe1=> ?_) (λe1=>⟨_,rfl,s1,h1,hn0,λz=>absurd (by rw [show wy=1 by lia]) e1,λ_=>rfl⟩)⟩;have e1:wy=1:=by injection e1
   obtain ⟨x,hx⟩:=B3y hn0;have lx:=rl hx;have lb:(" ":Str).length=1:=by decide +kernel
   refine ⟨_,rfl,_,rfl,M,_,_,_,rfl,rfl,SqL.of h1,B5j hx,_,_,rfl,rfl,A9b (by rw [lb];lia),_,rfl,_,rfl,M,_,_,_,rfl,rfl,SqL.of h1,B5j hx,_,_,rfl,rfl,A9b (by rw [lb];lia),A0w rfl,λz hz=> ?_⟩;obtain ⟨y,hy,e⟩:=A5e (f:=V.str) (xs:=[x++" "," "++x]) (i:=r/100%2) (by lia) (by show r/100%2<2;lia);have my:=Z13 hy;simp only [Z0e,Z1i,or_false] at my;have s2:=A0f (o:= .lst ([x++" "," "++x].map V.str)) hz;have hM2:=s2 _ _ h1;refine ⟨_,rfl,_,_,rfl,rfl,⟨by decide,by decide⟩,_,_,rfl,rfl,D7g,z,_,_,_,rfl,rfl,SqL.of A0c,e,_,rfl,_,rfl,M,_,_,_,rfl,rfl,hM2,C1a (by lia),_,rfl,A0j (s1.trans s2) hM,A0c.trans (by rw [A5h]),hn0,λ_=>D8q h hx my,λz=>absurd (by lia) z⟩
  rintro σ G ⟨ms,rfl,s2,h2,hn2,y2,o2⟩;refine ⟨λσ G=>∃ms,RsS H R M p wy r (wy<=2) σ G n0 none ms,?_,?_⟩
  ·refine ⟨_,rfl,rfl,_,rfl,A3z (λe1=> ?_) (λe1=> ?_)⟩
   ·have e1:wy=2:=by injection e1
    rw [o2 (by lia)] at h2
    obtain ⟨n,en,hn⟩:∃n:Nat,r%((((rsP p).map V.str).length:Int)+1)=(n:Int)/\n<=(rsP p).length:=by
     have a:=Z1v r (show (((rsP p).map V.str).length:Int)+1≠0 by lia);have b:=Z1p r (show (0:Int)<(((rsP p).map V.str).length:Int)+1 by lia);exact ⟨(r%((((rsP p).map V.str).length:Int)+1)).toNat,by lia,by lia⟩
    refine ⟨_,rfl,.inl ⟨rfl,_,SqL.of h2⟩,_,rfl,_,rfl,R,_,rfl,.inl (s2.seq hR),_,_,rfl,rfl,_,_,rfl,rfl,(by show (0:Int)<(((rsP p).map V.str).length:Int)+1;lia),M,_,(n:Int),_,rfl,congrArg (λz=>[V.int z,V.str ""]) en,h2,A1p (by lia),by lia,by lia,?_⟩;exact ⟨_,rfl,A0j s2 hM,A0c.trans (by rw [B2p]),hn2,λ_=>C4g h hn,λz=>absurd (by lia) z⟩
   ·have e1:wy≠2:=λz=>e1 (by rw [z]);exact ⟨ms,rfl,s2,h2,hn2,λz=>y2 (by lia),λz=>o2 (by lia)⟩
  rintro σ G ⟨ms,rfl,s3,h3,hn3,y3,o3⟩;clear y2 o2 h2 s2 hn2;refine ⟨λσ G=>∃n ms,RsS H R M p wy r (wy<=2) σ G n none ms/\(wy=3\/wy=4->∀x,(rsP p)[n]? =some x->kdS x≠"table"),?_,?_⟩
  ·refine B6v (λσ G=>∃n ms,RsS H R M p wy r (wy<=2) σ G n none ms) _ (λσ _=>D2x (rsP p).length σ) ⟨n0,ms,rfl,s3,h3,hn3,y3,o3⟩ ?_ ?_ (λ_ _ z=>z)
   ·rintro σ G ⟨n,ms,rfl,sG,hG,hn,y,o⟩;refine ⟨_,rfl,_,_,rfl,rfl,_,rfl,A3z (λc1=> ?_) (λc1=> ?_)⟩
    ·have c1:wy>2:=c1;refine ⟨_,rfl,_,_,rfl,rfl,_,rfl,A3z (λc2=> ?_) (λc2=> ?_)⟩
     ·have c2:wy<5:=c2;have em:=o (by lia);subst em;obtain ⟨x,hx⟩:=B3y hn;refine ⟨_,rfl,_,rfl,M,_,_,_,rfl,rfl,SqL.of hG,B5j hx,x,rfl,Z1n (rl hx) (by decide),λH' s'=>⟨rfl,_,rfl,A3z (λc3=> ?_) (λc3=> ?_)⟩⟩
      ·have c3:kdS x="table":=by injection c3
       have n1:n≠0:=λz=>by
        subst z;obtain ⟨x0,e0,e1⟩:=E0w h;rw [hx] at e0;cases e0;rw [c3] at e1;exact absurd e1 (by decide +kernel)
       obtain ⟨n',en',hn',hd⟩:∃n':Nat,((n:Int)+1)%(((rsP p).map V.str).length:Int)=(n':Int)/\n'<(rsP p).length/\(n'=0\/n'=n+1):=by
        by_cases z:n+1=(rsP p).length
        ·exact ⟨0,by rw [lV,<-z];simp,by lia,.inl rfl⟩
        ·exact ⟨n+1,by rw [lV,Int.emod_eq_of_lt (by lia) (by lia)];lia,by lia,.inr rfl⟩
       refine ⟨_,rfl,_,_,rfl,rfl,_,rfl,R,_,rfl,.inl ((sG.trans s').seq hR),_,_,rfl,rfl,(by show (0:Int)<((rsP p).map V.str).length;lia),⟨n',_,?_,sG.trans s',s' _ _ hG,hn',y,o⟩,?_⟩
       ·rw [<-en'];rfl
       ·show D2x _ [some (.ref R),some (.int wy),some (.int r),some (.ref M),some (.int (((n:Int)+1)%(((rsP p).map V.str).length:Int))),none]<D2x _ [some (.ref R),some (.int wy),some (.int r),some (.ref M),some (.int (n:Nat)),none];rw [en'];show (if ((n':Nat):Int)=0 then 0 else (rsP p).length-((n':Nat):Int).toNat)<(if ((n:Nat):Int)=0 then 0 else (rsP p).length-((n:Nat):Int).toNat);rw [Z0t (show¬((n:Nat):Int)=0 by lia)];split <;> lia
      ·exact ⟨n,_,⟨rfl,sG.trans s',s' _ _ hG,hn,y,o⟩,λ_ x' hx'=>by rw [hx] at hx';cases hx';exact λz=>c3 (congrArg V.str z)⟩
     ·have c2:¬wy<5:=c2;exact ⟨n,ms,⟨rfl,sG,hG,hn,y,o⟩,λz=>by lia⟩
    ·have c1:¬wy>2:=c1;exact ⟨n,ms,⟨rfl,sG,hG,hn,y,o⟩,λz=>by lia⟩
   ·rintro σ G Q1 Q2 hq ⟨x,e1,i,j,ei,ej,b,eb,k⟩;refine ⟨x,e1,i,j,ei,ej,b,eb,B4x (λk=> ?_) (λk=>hq _ _ k) k⟩;obtain ⟨x,e1,i,j,ei,ej,b,eb,k⟩:=k;refine ⟨x,e1,i,j,ei,ej,b,eb,B4x (λk=> ?_) (λk=>hq _ _ k) k⟩;obtain ⟨x,e1,x2,e2,pa,xs,ii,v,z1,z2,z3,z4,y,z5,z6,k⟩:=k;refine ⟨x,e1,x2,e2,pa,xs,ii,v,z1,z2,z3,z4,y,z5,z6,λH' s'=> ?_⟩;obtain ⟨z7,b,z8,k⟩:=k H' s';exact ⟨z7,b,z8,hq _ _ k⟩
  rintro σ G ⟨n,ms,⟨rfl,s4,h4,hn4,y4,o4⟩,nt⟩;clear y3 o3 h3 s3 hn3;refine ⟨λσ G=>∃ms,RsS H R M p wy r (wy<=3) σ G n none ms,?_,?_⟩
  ·refine ⟨_,rfl,rfl,_,rfl,A3z (λe1=> ?_) (λe1=> ?_)⟩
   ·have e1:wy=3:=by injection e1
    have em:=o4 (by lia);subst em;obtain ⟨x,hx⟩:=B3y hn4;have lx:=rl hx;refine ⟨_,rfl,_,rfl,M,_,_,_,rfl,rfl,SqL.of h4,B5j hx,_,rfl,_,rfl,M,_,_,_,rfl,rfl,SqL.of h4,B5j hx,rfl,x," ",rfl,rfl,_,rfl,x,rfl,A9b (by lia),_,rfl,_,rfl,M,_,_,_,rfl,rfl,h4,C1a (by lia),_,rfl,A0j s4 hM,A0c.trans (by rw [A5h]),hn4,λ_=>D7y h hx (nt (.inl e1) _ hx) (by lia),λz=>absurd (by lia) z⟩
   ·have e1:wy≠3:=λz=>e1 (by rw [z]);exact ⟨ms,rfl,s4,h4,hn4,λz=>y4 (by lia),λz=>o4 (by lia)⟩
  rintro σ G ⟨ms,rfl,s5,h5,hn5,y5,o5⟩;clear y4 o4 h4 s4 hn4;refine ⟨λσ G=>∃ms,RsS H R M p wy r (wy<=4) σ G n none ms,?_,?_⟩
  ·refine ⟨_,rfl,rfl,_,rfl,A3z (λe1=> ?_) (λe1=> ?_)⟩
   ·have e1:wy=4:=by injection e1
    have em:=o5 (by lia);subst em;obtain ⟨x,hx⟩:=B3y hn5;have lx:=rl hx;refine ⟨_,rfl,_,rfl,M,_,_,_,rfl,rfl,SqL.of h5,B5j hx,A0w rfl,λz hz=> ?_⟩;obtain ⟨y,hy,e⟩:=A5e (f:=V.str) (xs:=([" x"," 0"]:List Str)) (i:=r/100%2) (by lia) (by show r/100%2<2;lia);have my:=Z13 hy;simp only [Z0e,Z1i,or_false] at my;have ly:y.length<=2:=by rcases my with rfl | rfl <;> decide +kernel
    have s2:=A0f (o:= .lst (([" x"," 0"]:List Str).map V.str)) hz;have hM2:=s2 _ _ h5;refine ⟨_,rfl,_,_,rfl,rfl,⟨by decide,by decide⟩,_,_,rfl,rfl,D7g,z,_,_,_,rfl,rfl,SqL.of A0c,e,_,_,rfl,rfl,A9b (by lia),_,rfl,_,rfl,M,_,_,_,rfl,rfl,hM2,C1a (by lia),_,rfl,A0j (s5.trans s2) hM,A0c.trans (by rw [A5h]),hn5,λ_=>D7l h hx (nt (.inr e1) _ hx) my,λz=>absurd (by lia) z⟩
   ·have e1:wy≠4:=λz=>e1 (by rw [z]);exact ⟨ms,rfl,s5,h5,hn5,λz=>y5 (by lia),λz=>o5 (by lia)⟩
  rintro σ G ⟨ms,rfl,s6,h6,hn6,y6,o6⟩;clear y5 o5 h5 s5 hn5 nt;refine ⟨λσ G=>∃n ms,RsS H R M p wy r (wy<=5) σ G n none ms,?_,?_⟩
  ·refine ⟨_,rfl,rfl,_,rfl,A3z (λe1=> ?_) (λe1=> ?_)⟩
   ·have e1:wy=5:=by injection e1
    have em:=o6 (by lia);subst em;refine ⟨λσ G=>∃n x x',RsS H R M p wy r False σ G n none (rsP p)/\(rsP p)[n]? =some x/\(rsP p)[n+1]? =some x'/\kdS x≠kdS x',B6v (λσ G=>∃n,RsS H R M p wy r False σ G n none (rsP p)) _ (λσ _=>D2x (rsP p).length σ) ⟨n,rfl,s6,h6,hn6,False.elim,λ_=>rfl⟩ ?_ ?_ (λ_ _ z=>z),?_⟩
    ·rintro σ G ⟨n,rfl,sG,hG,hn,y,o⟩
     have stp:∀G',A1b G G'->n≠0->∃n':Nat,((n:Int)+1)%(((rsP p).map V.str).length:Int)=(n':Int)/\(∃n,RsS H R M p wy r False [some (.ref R),some (.int wy),some (.int r),some (.ref M),some (.int (n':Nat)),none] G' n none (rsP p))/\D2x (rsP p).length [some (.ref R),some (.int wy),some (.int r),some (.ref M),some (.int (n':Nat)),none]<D2x (rsP p).length [some (.ref R),some (.int wy),some (.int r),some (.ref M),some (.int (n:Nat)),none]:=λG' s' n1=>by
      obtain ⟨n',en',hn',hd⟩:∃n':Nat,((n:Int)+1)%(((rsP p).map V.str).length:Int)=(n':Int)/\n'<(rsP p).length/\(n'=0\/n'=n+1):=by
       by_cases z:n+1=(rsP p).length
       ·exact ⟨0,by rw [lV,<-z];simp,by lia,.inl rfl⟩
       ·exact ⟨n+1,by rw [lV,Int.emod_eq_of_lt (by lia) (by lia)];lia,by lia,.inr rfl⟩
      refine ⟨n',en',⟨n',rfl,sG.trans s',s' _ _ hG,hn',y,o⟩,?_⟩;show (if ((n':Nat):Int)=0 then 0 else (rsP p).length-((n':Nat):Int).toNat)<(if ((n:Nat):Int)=0 then 0 else (rsP p).length-((n:Nat):Int).toNat);rw [Z0t (show¬((n:Nat):Int)=0 by lia)];split <;> lia
     refine ⟨_,rfl,_,_,rfl,rfl,_,rfl,R,_,rfl,.inl (sG.seq hR),rfl,_,rfl,A3z (λc1=> ?_) (λc1=> ?_)⟩
     ·have c1:((n:Nat):Int)+1=(((rsP p).map V.str).length:Int):=by injection c1
      refine B2l ?_;obtain ⟨n',en',k4,k5⟩:=stp G (A1b.refl _) (by lia);rw [<-en'] at k4 k5;exact ⟨_,rfl,_,_,rfl,rfl,_,rfl,R,_,rfl,.inl (sG.seq hR),_,_,rfl,rfl,(by show (0:Int)<((rsP p).map V.str).length;lia),k4,k5⟩
     ·have c1:¬((n:Nat):Int)+1=(((rsP p).map V.str).length:Int):=λz=>c1 (congrArg V.int z);obtain ⟨x,hx⟩:=B3y hn;obtain ⟨x',hx'⟩:=B3y (show n+1<(rsP p).length by lia);refine ⟨_,rfl,_,rfl,M,_,_,_,rfl,rfl,SqL.of hG,B5j hx,x,rfl,Z1n (rl hx) (by decide),λH' s'=> ?_⟩;refine ⟨_,rfl,_,rfl,_,_,rfl,rfl,M,_,_,_,rfl,rfl,SqL.of (s' _ _ hG),C8u hx',x',rfl,Z1n (rl hx') (by decide),λH2 s2=>⟨rfl,_,rfl,A3z (λc2=> ?_) (λc2=> ?_)⟩⟩
      ·have c2:kdS x=kdS x':=by injection c2
       have n1:n≠0:=λz=>by
        subst z;obtain ⟨x0,e0,e1⟩:=E0w h;rw [hx] at e0;cases e0;have:=kd_1 h hx';rw [<-c2,e1] at this;exact absurd this (by decide +kernel)
       obtain ⟨n',en',k4,k5⟩:=stp H2 (s'.trans s2) n1;rw [<-en'] at k4 k5;exact ⟨_,rfl,_,_,rfl,rfl,_,rfl,R,_,rfl,.inl ((sG.trans (s'.trans s2)).seq hR),_,_,rfl,rfl,(by show (0:Int)<((rsP p).map V.str).length;lia),k4,k5⟩
      ·exact ⟨n,x,x',⟨rfl,sG.trans (s'.trans s2),(s'.trans s2) _ _ hG,hn,y,o⟩,hx,hx',λz=>c2 (congrArg V.str z)⟩
    ·rintro σ G Q1 Q2 hq ⟨x,e1,i,j,ei,ej,x2,e2,pa,xs,ei2,sq,z,b,eb,k⟩;refine ⟨x,e1,i,j,ei,ej,x2,e2,pa,xs,ei2,sq,z,b,eb,B4x (λk=>hq _ _ k) (λk=> ?_) k⟩;obtain ⟨x,e1,x2,e2,pa,xs,ii,v,z1,z2,z3,z4,y,z5,z6,k⟩:=k;refine ⟨x,e1,x2,e2,pa,xs,ii,v,z1,z2,z3,z4,y,z5,z6,λH' s'=> ?_⟩;obtain ⟨x,e1,x2,e2,a1,a2,a3,a4,pa,xs,ii,v,z1,z2,z3,z4,y,z5,z6,k⟩:=k H' s';refine ⟨x,e1,x2,e2,a1,a2,a3,a4,pa,xs,ii,v,z1,z2,z3,z4,y,z5,z6,λH2 s2=> ?_⟩;obtain ⟨z7,b,z8,k⟩:=k H2 s2;exact ⟨z7,b,z8,hq _ _ k⟩
    ·rintro σ G ⟨n,x,x',⟨rfl,sG,hG,hn,_,_⟩,hx,hx',nk⟩;have hn':=(Z03.mp hx').1;refine ⟨_,rfl,_,rfl,_,_,rfl,rfl,R,_,_,_,rfl,rfl,sG.seq hR,C8u hx',_,rfl,_,rfl,M,_,_,_,rfl,rfl,hG,C1a (by lia),?_⟩;have hG1:upd G M (.lst (((rsP p).map V.str).set n (V.str x'))) M=some (.lst (((rsP p).set n x').map V.str)):=A0c.trans (by rw [A5h]);have sG1:=A0j (o:= .lst (((rsP p).map V.str).set n (V.str x'))) sG hM;generalize upd G M (.lst (((rsP p).map V.str).set n (V.str x')))=G1 at hG1 sG1⊢;refine ⟨_,rfl,_,rfl,R,_,_,_,rfl,rfl,sG1.seq hR,B5j hx,_,rfl,_,rfl,_,_,rfl,rfl,M,_,_,_,rfl,rfl,hG1,D6b (by rw [Z08,List.length_set];lia),n,_,rfl,A0j sG1 hM,A0c.trans (by rw [A5h]),hn,λ_=>D8a h hx hx' nk,λz=>absurd (by lia) z⟩
   ·have e1:wy≠5:=λz=>e1 (by rw [z]);exact ⟨n,ms,rfl,s6,h6,hn6,λz=>y6 (by lia),λz=>o6 (by lia)⟩
  rintro σ G ⟨n,ms,rfl,s7,h7,hn7,y7,o7⟩;clear y6 o6 h6 s6 hn6;refine ⟨_,rfl,R,rfl,⟨_,s7.seq hR⟩,λD hD=> ?_⟩;have MD:M≠D:=λz=>by rw [<-z,h7] at hD;cases hD
  refine A2h (K:=K) (a:=R) (D:=D) (xs:=(rsP p).map V.str) (λi ys G'=>A1b G G'/\G' D=some (.lst ys)/\ys=(((rsP p).map kdS).take i).map V.str) ⟨A0f hD,A0c,rfl⟩ (by rintro i ys G' ⟨s2,_⟩;exact s2.seq (s7.seq hR)) ?_ ?_
  ·rintro i v ys G' hv ⟨sG,hG,rfl⟩;rw [Z1z] at hv;obtain ⟨x,hx,rfl⟩:=Z0i.mp hv;refine ⟨True.intro,_,rfl,x,rfl,C9f h (Z13 hx),λH' s'=>⟨s' _ _ hG,A1p (by rw [Z08,Z0x,Z08];lia),A0j (sG.trans s') hD,A0c,?_⟩⟩;rw [Z14,Z1z,hx];simp only [Option.map_some,Z2f,Z0s,Z0p,List.map_nil];rfl
  rintro ys G1 ⟨sD,hD1,rfl⟩;rw [Z08,Z2l (by rw [Z08];exact Z09 _)] at hD1;have s8:=s7.trans sD;have h8:=sD _ _ h7;clear h7 s7;refine ⟨_,rfl,rfl,_,rfl,A3z (λe1=>⟨_,rfl,_,rfl,R,p,r,rfl,h,s8.seq hR,λy H' s' b=>q y H' (s8.trans s') b⟩) (λe1=> ?_)⟩;have e7:wy≠7:=λz=>e1 (by rw [z]);refine ⟨λσ G=>∃ms,RsS H R M p wy r (wy<=7) σ G n (some (.ref D)) ms,?_,?_⟩
  ·refine ⟨_,rfl,rfl,_,rfl,A3z (λe1=> ?_) (λe1=> ?_)⟩
   ·have e1:wy=6:=by injection e1
    have em:=o7 (by lia);subst em;refine ⟨_,rfl,.inl ⟨rfl,_,SqL.of h8⟩,_,rfl,.inl ⟨rfl,_,SqL.of hD1⟩,D,_,"out",rfl,rfl,hD1,k1,_,rfl,r,rfl,λy H' s' my=> ?_⟩;have h9:=s' _ _ h8;refine ⟨M,_,_,_,rfl,rfl,h9,A1p (by lia),by lia,by lia,_,rfl,A0j (s8.trans s') hM,A0c.trans (by rw [B2p]),hn7,λ_=>B8r h (D7d (D4o y my)) (by lia) k3 (D0s y my),λz=>absurd (by lia) z⟩
   ·have e1:wy≠6:=λz=>e1 (by rw [z]);exact ⟨ms,rfl,s8,h8,hn7,λz=>y7 (by lia),λz=>o7 (by lia)⟩
  rintro σ G2 ⟨ms,rfl,s9,h9,hn9,y9,o9⟩;clear y7 o7 h8 hD1;refine ⟨λσ G=>∃ms,RsS H R M p wy r (wy<=8) σ G n (some (.ref D)) ms,?_,?_⟩
  ·refine ⟨_,rfl,rfl,_,rfl,A3z (λe1=> ?_) (λe1=> ?_)⟩
   ·have e1:wy=8:=by injection e1
    have em:=o9 (by lia);subst em;refine ⟨_,rfl,.inl ⟨rfl,_,SqL.of h9⟩,_,rfl,r,rfl,λy H' s' my=> ?_⟩;have h10:=s' _ _ h9;refine ⟨M,_,((1:Nat):Int),_,rfl,rfl,h10,A1p (by lia),by lia,by lia,_,rfl,A0j (s9.trans s') hM,A0c.trans (by rw [B2p]),hn9,λ_=>B8r h (D7d (D0n y my)) (by lia) (by lia) (C7i y my),λz=>absurd (by lia) z⟩
   ·have e1:wy≠8:=λz=>e1 (by rw [z]);exact ⟨ms,rfl,s9,h9,hn9,λz=>y9 (by lia),λz=>o9 (by lia)⟩
  rintro σ G3 ⟨ms,rfl,s10,h10,hn10,y10,o10⟩;clear y9 o9 h9 s9;refine ⟨λσ G=>∃ms,RsS H R M p wy r True σ G n (some (.ref D)) ms,?_,?_⟩
  ·refine ⟨_,rfl,rfl,_,rfl,A3z (λe1=> ?_) (λe1=> ?_)⟩
   ·have e1:wy=9:=by injection e1
    have em:=o10 (by lia);subst em;refine ⟨_,rfl,r,rfl,λy H' s' my=> ?_⟩;have h11:=s' _ _ h10;refine ⟨_,rfl,M,_,((0:Nat):Int),_,rfl,rfl,h11,C1a (by lia),_,rfl,A0j (s10.trans s') hM,A0c.trans (by rw [A5h]),hn10,λ_=>D9y h my,λz=>absurd True.intro z⟩
   ·have e1:wy≠9:=λz=>e1 (by rw [z]);exact ⟨ms,rfl,s10,h10,hn10,λ_=>y10 (by lia),λz=>absurd True.intro z⟩
  rintro σ G4 ⟨ms,rfl,s11,h11,_,y11,_⟩;have bad:=y11 True.intro;exact ⟨rfl,_,rfl,"\n",M,_,rfl,rfl,SqL.of h11,bad.sum,q _ _ s11 bad.bad⟩
def E0a (K:Frag):Sp:=λvs H Q _=>∃(R:Addr) (p:Prg) (wy r:Int),vs=[.ref R,.int wy,.int r]/\RsP p/\SqL K H R ((rsP p).map V.str)/\1<=wy/\wy<=12/\∀(y:Str) (H':Hp),A1b H H'->Bad y->Q (.str y) H'
theorem C4f {x z:Str} {k:Nat} (h:k<=x.length):sg (Txt.slice x none (some (k:Int))++z++Txt.slice x (some (k:Int)) none)=(sg x).take k++(sg z++(sg x).drop k):=by
 rw [A1o,A1o,C6c h,B9c h,Z0z]
theorem B5y {x z:Str} {k:Nat} (h:k<=x.length):(Txt.slice x none (some (k:Int))).length<=x.length/\(Txt.slice x none (some (k:Int))++z).length<=x.length+z.length/\(Txt.slice x (some (k:Int)) none).length<=x.length:=by
 have e1:=congrArg List.length (C6c h);have e2:=congrArg List.length (B9c h);rw [A1r,Z0x,A1r] at e1;rw [A1r,Z19,A1r] at e2;rw [Str.length_append]
 lia
theorem C9e {p:Prg} (h:RsP p):((rsP p).map (·.length)).sum+(rsP p).length*("\n":Str).length<=16777216:=by
 have l:=h.ln;have:=B9v h.rw (by lia);have e:("\n":Str).length=1:=by decide +kernel
 rw [e]
 lia
theorem B8m (T:Txt K mg t):FO P w base T.g9 4 (E0a K):=by
 have Ge6:= @C1x P w K mg base t T;have Ge7:= @B1d P w K mg base t T;refine T.g9.F.ok A3r (by walk_at "ln") λ_ A _ s H _ Q E hr h=> ?_
 ·obtain ⟨R,p,wy,r,rfl,h,hR,w1,w12,q⟩:=h;have lx:=D4j h;refine ⟨_,(@RS.r _ _ _ (rq1 (rq6 3 A3r.nd (A2r PySem.F.plainAttrs_str PySem.F.slot_str_join PySem.F.type_str_join A9y A0g (A0a (pv 0) A0b))) (rq1 (rq6 4 A3r.nd A0g) (rq1 (rq4 (A0n C1l (pv 1) A0e (A0z _)) (rq3 (rq5 (pcl Ge7 hr T.b_ (A0a (pv 0) (A0a (pv 1) (A0a (pv 2) A0b)))))) ⟨A0m⟩) (rq1 (rq4 (A0n A2s (pv 1) A0e (A0z _)) (rq1 (rq6 5 A3r.nd (pcl Ge6 hr T.f_ (A0a (pv 3) (A0a A0g (A0a (pv 2) A0b))))) (rq3 (rq5 (A0k A0q (A0k A0q (A1t A7n (pv 3) A2t (A2g (pv 5))) A0g) (A1t A7n (pv 3) (A2g (pv 5)) A2t))))) ⟨A0m⟩) (rq1 (rq4 (A0n A2s (pv 1) A0e (A0z _)) (rq1 (rq6 5 A3r.nd (A0k A1g (pv 2) (A0k A2w (A0y A3x (by rfl) T.bx Z0r (A0a (pv 3) A0b)) A0e))) (rq3 (rq5 (A0k A0q (A0k A0q (A1t A7n (pv 3) A2t (A2g (pv 5))) (A2i B9q (pv 4) (A0k A1g (A0k A1k (pv 2) A0e) (A0y A3x (by rfl) T.bx Z0r (A0a (pv 4) A0b))) (λ_ _=>rfl))) (A1t A7n (pv 3) (A2g (pv 5)) A2t))))) ⟨A0m⟩) (rq1 (rq6 5 A3r.nd (pcl Ge6 hr T.f_ (A0a (pv 3) (A0a A0g (A0a (pv 2) A0b))))) (rq3 (rq5 (A0k A0q (A0k A0q (A1t A7n (pv 3) A2t (A2g (pv 5))) A0g) (A1t A7n (pv 3) (A2g (pv 5)) A2t))))))))))),?_⟩;refine ⟨rfl,_,rfl,"\n",R,_,rfl,rfl,hR,C9e h,?_⟩;rw [<-D7i];generalize hx:txP p=x at lx;have lz:x.length<=sizeLine:=by have:=lt5 (n:=x.length) (by lia);lia
  have le2:∀{n:Nat},n<=x.length+x.length+2->n<=sizeLine:=λ{n} hn=>by rw [sizeLine_eq];lia
  refine ⟨_,rfl,_,_,rfl,rfl,_,rfl,A3z (λc=> ?_) (λc=> ?_)⟩
  ·have c:wy<10:=c;exact ⟨_,rfl,_,rfl,_,rfl,R,p,wy,r,rfl,h,hR,w1,by lia,q⟩
  have c:¬wy<10:=c
  have cut:∀{S:Str} {k:Nat},plS (sg x) (sg S) k=true->∃a c b,sg x=a++c::b/\(sg x).take k=a/\(sg x).drop k=c::b/\k<=x.length/\c∈sg S/\∀z,a.getLast? =some z->A1v z=false:=λ{S k} hp=>by
   obtain ⟨a,c,b,e,la,hc,hz⟩:=D4n hp;refine ⟨a,c,b,e,?_,?_,?_,hc,hz⟩
   ·rw [e,<-la,List.take_left]
   ·rw [e,<-la,List.drop_left]
   ·rw [<-A1r,e,Z06];lia
  refine ⟨_,rfl,rfl,_,rfl,A3z (λc1=> ?_) (λc1=> ?_)⟩
  ·refine ⟨_,rfl,_,rfl,x," ",r,rfl,by lia,by rw [<-hx];exact D9o h,λk H1 s1 hp=> ?_⟩;obtain ⟨a,c,b,e,ea,eb,kl,hc,_⟩:=cut hp;obtain ⟨p1,p2,p3⟩:=B5y (z:=" ") kl;have lb:(" ":Str).length=1:=by decide +kernel
   refine ⟨_,rfl,_,rfl,_,rfl,x,rfl,lz,_,_,rfl,rfl,le2 (by lia),_,rfl,_,rfl,_,rfl,x,rfl,lz,_,_,rfl,rfl,le2 (by lia),q _ _ s1 ?_⟩;have e32:sg (" ":Str)=[32]:=by decide +kernel
   have c32:c=32:=by rw [e32] at hc;exact Z0w.mp hc
   subst c32;refine D3y h (a:=a) (b:=b) (by rw [hx];exact e) ?_;rw [C4f kl,ea,eb,e32];rfl
  refine ⟨_,rfl,rfl,_,rfl,A3z (λc2=> ?_) (λc2=> ?_)⟩
  ·obtain ⟨k,ek,kl⟩:∃k:Nat,r%((x.length:Int)+1)=(k:Int)/\k<=x.length:=by
    have a:=Z1v r (show ((x.length:Int)+1)≠0 by lia);have b:=Z1p r (show (0:Int)<(x.length:Int)+1 by lia);exact ⟨(r%((x.length:Int)+1)).toNat,by lia,by lia⟩
   obtain ⟨p1,p2,p3⟩:=B5y (x:=x) (z:=" ") kl;have ls:C3o.length=27:=by decide +kernel
   obtain ⟨ch,e1,e2⟩:=C5n (xs:=C3o.cps.toList) (i:=r/1009%(C3o.length:Int)) (Z1v _ (by lia)) (by rw [show C3o.cps.toList.length=C3o.length from A1r C3o];exact Z1p _ (by lia));have lc:(⟨#[ch]⟩:Str).length=1:=rfl;obtain ⟨p1,p2,p3⟩:=B5y (x:=x) (z:=⟨#[ch]⟩) kl;refine ⟨_,rfl,_,rfl,x,rfl,lz,_,_,rfl,rfl,_,_,rfl,rfl,(by show (0:Int)<(x.length:Int)+1;lia),?_⟩;show B8n 5 (V.int (r%((x.length:Int)+1))) _ _ _;rw [ek];refine ⟨_,rfl,_,rfl,_,rfl,x,rfl,lz,_,rfl,_,rfl,_,_,rfl,rfl,⟨by decide,by decide⟩,_,rfl,C3o,rfl,A0t (by lia),_,_,rfl,rfl,(by show (0:Int)<(C3o.length:Int);lia),_,_,ch,rfl,rfl,A0t (by show C3o.length<=1000000;lia),e2,_,_,rfl,rfl,le2 (by lia),_,rfl,_,rfl,_,rfl,x,rfl,lz,_,_,rfl,rfl,le2 (by lia),q _ _ (A1b.refl _) ?_⟩;refine D3n h (a:=(sg x).take k) (b:=(sg x).drop k) (c:=ch) (by rw [hx,Z2e]) (C4f kl) ?_;exact Z13 e1
  refine ⟨_,rfl,_,rfl,x,D2w,r,rfl,by lia,by rw [<-hx];exact D8c h,λk H1 s1 hp=> ?_⟩;obtain ⟨a,c,b,e,ea,eb,kl,hc,hz⟩:=cut hp;obtain ⟨p1,p2,p3⟩:=B5y (z:="0") kl;have lb:("0":Str).length=1:=by decide +kernel
  refine ⟨_,rfl,_,rfl,_,rfl,x,rfl,lz,_,_,rfl,rfl,le2 (by lia),_,rfl,_,rfl,_,rfl,x,rfl,lz,_,_,rfl,rfl,le2 (by lia),q _ _ s1 ?_⟩;have e48:sg ("0":Str)=[48]:=by decide +kernel
  refine D3z h (a:=a) (b:=b) (d:=c) (by rw [hx];exact e) (by rw [C4f kl,ea,eb,e48];rfl) ?_ hz;rw [<-D1p];exact Z20 hc
theorem A7e {X:Cx} {K:Frag} (h:X.K=K):B1b X (.builtin "isinstance") (D5y K):=h▸C4c
def C7q (K:Frag):Sp:=λvs H Q _=>∃(a:Addr) (ns:List Int),vs=[.ref a]/\SqL K H a (ns.map V.int)/\ns.length<=63/\∀H',Q (.bl true) H'
theorem B8s {K:Frag} {A:Addr} {B:Addr} {b:Bool} (h:kitOne K (.ref A) (.ref B)=some b):∀u,A2v (.ref B) u->kitOne K (.ref A) u=some b:=λu z=>by
 cases (show u=Value.ref B from z)
 exact h
theorem C1f {xs:List V} {p:Nat}:B0y xs (some (p:Int)) none=xs.drop p:=by
 by_cases h:p<=xs.length
 ·exact B7i h
 ·unfold B0y;rw [HT.sIx_none,HT.sIx_nat,Nat.min_eq_right (by lia),List.drop_eq_nil_of_le (Z09 _),List.drop_eq_nil_of_le (by lia),List.take_nil]
theorem D7k {p:Prg} (h:RsP p):D2y (txP p):=D3s (ms:=rsP p) (by have:=h.ln;intro z;rw [z] at this;simp at this) h.rw (by have:=h.ln;lia)
theorem valP {p:Prg} (h:RsP p):A9p (((A4t (txP p)).headD []).getD 1 "")=p.wh:=by
 rw [C3r h.ok];exact B8a p.wh
theorem D5a (T:Txt K mg t):FO P w base T.qo 213 (C7q K):=by
 have Gd7:= @A6m P w K mg base t T;have Gd8:= @B0b P w K mg base t T;have Ge8:= @B2t P w K mg base t T;have Ge9:= @C4n P w K mg base t T;have Gf0:= @B8m P w K mg base t T;have Gf1:= @B2q P w K mg base t T;refine T.qo.F.ok A7t (by walk_at "ln") λ_ A _ s H _ Q E hr h=> ?_
 ·obtain ⟨a,zs,rfl,hS,l63,k⟩:=h;have hu:=D0x hr;refine ⟨_,(@RS.r _ _ _ (rq1 (rq6 1 A7t.nd (pcl Ge8 hr T.cr (A0a (A1t A6e (pv 0) (A2g A0e) A2t) A0b))) (rq1 (rq6 2 A7t.nd (pcl Ge9 hr T.kd (A0a (pv 1) A0b))) (rq1 (rq6 3 A7t.nd (A0k A2w (pcl Gd8 hr T.bg (A0a (pcl Gd7 hr T.ai (A0a (pv 0) (A0a A0e A0b))) (A0a A0e A0b))) (pcl Gd8 hr T.bg (A0a (pcl Gd7 hr T.ai (A0a (pv 0) (A0a A0e A0b))) (A0a A0e A0b))))) (rq1 (rq6 4 A7t.nd (pcl Gf0 hr T.g9 (A0a (pv 2) (A0a (A0k A2w A0e (A0k A1g (pcl Gd7 hr T.ai (A0a (pv 0) (A0a A0e A0b))) A0e)) (A0a (pv 3) A0b))))) (rq1 (rq6 5 A7t.nd (A2r PySem.F.plainAttrs_str PySem.F.slot_str_join PySem.F.type_str_join A9y A0g (A0a (pv 2) A0b))) (rq1 (rq4 (A0n C2q (B0l (A0s Gf1 (hr.mono (by lia)) rfl T.ao.m T.ao.F.kp T.ao.b .nil D6o (A0a (pv 5) A0b)) rfl) (A2i C5o (pv 1) A0e (λ_ _=>rfl)) (A0z _)) (rq3 (rq5 D6d)) ⟨A0m⟩) (rq1 (rq6 6 A7t.nd D6d) (rq1 ⟨D1n ⟨rfl,rfl⟩ (D1v Gf1 (hr.mono (by lia)) rfl T.ao.m T.ao.F.kp T.ao.b (A0a (pv 4) A0b))⟩ (rq3 (rq5 (B6o (pv 6) (B6x (C2n A2s (B0l (A0s Gf1 (hr.mono (by lia)) rfl T.ao.m T.ao.F.kp T.ao.b .nil D6o (A0a (pv 5) A0b)) rfl) (A2i C5o (pv 1) A0e (λ_ _=>rfl)) (A0z _))))))))))))))),?_⟩;refine ⟨_,rfl,_,rfl,a,_,rfl,hS,λc hc=> ?_⟩;rw [show B0y (zs.map V.int) (some 3) none=(zs.drop 3).map V.int by rw [List.map_drop];exact C1f (p:=3)];have s1:=A0f (o:= .lst ((zs.drop 3).map V.int)) hc;refine ⟨c,zs.drop 3,rfl,SqL.of A0c,λq A0 B0 C0 D0 p va vt vl H2 s2 hq hA pA hB pB hC pC hD ok _ o1=> ?_⟩;have h:RsP p:=⟨ok,o1⟩;have pg:E1g H2 A0 B0 C0 D0 p:=⟨⟨va,hA,pA⟩,⟨vt,hB,pB⟩,⟨vl,hC,pC⟩,hD⟩;have s12:=s1.trans s2;refine ⟨_,rfl,q,A0,B0,C0,D0,p,rfl,hq,pg,ok,λR H3 s3 _ h3=> ?_⟩;have h3:H3 R=some (.lst ((rsP p).map V.str)):=h3;have s13:=s12.trans s3;have hq3:=s3 _ _ hq;have S3:=s13.seq hS;refine ⟨_,rfl,a,zs,1,rfl,S3,by decide,λz1=>⟨z1,5,rfl,λm1=>⟨_,rfl,a,zs,2,rfl,S3,by decide,λz2=>⟨z2,7,rfl,λm2=>⟨_,_,rfl,rfl,?_⟩⟩⟩⟩⟩;refine ⟨_,rfl,_,rfl,a,zs,0,rfl,S3,by decide,λz0=> ?_⟩;have f0:=Z1v z0 (show (12:Int)≠0 by decide);have f1:=Z1p z0 (show (0:Int)<12 by decide);refine ⟨_,_,rfl,rfl,E0e,_,_,rfl,rfl,_,rfl,R,p,1+z0%12,m1+m2,rfl,h,SqL.of h3,by lia,by lia,λy H4 s4 bad=> ?_⟩;have h4:=s4 _ _ h3;have hq4:=s4 _ _ hq3;refine ⟨rfl,_,rfl,"\n",R,_,rfl,rfl,SqL.of h4,C9e h,?_⟩;rw [<-D7i];have rok:D2y (txP p):=D7k h;have ev:=valP h;have go:=D1d ok;refine ⟨_,rfl,txP p,rfl,rok,λ_ b dx fs H5 s5 e5=> ?_,λn=>absurd n (by rw [go];decide)⟩;rw [ev] at e5;have hq5:=s5 _ _ hq4;refine ⟨b,_,dx,_,_,rfl,e5,T.bj,T.bt,(by walk_at "lk"),_,rfl,q,_,_,_,rfl,rfl,SqT.of hq5,A4a (j:=0) rfl,rfl,_,rfl,C6o (λe=>absurd rfl e) (λ_=> ?_)⟩;refine ⟨_,rfl,y,rfl,bad.ok,λhb=>absurd hb (by rw [bad.no];decide),λ_ H6 s6=> ?_⟩;refine ⟨t.am,_,rfl,(D3m (i:=7) rfl T.ng T.g0 A7t.nd rfl rfl (λ_=>(@RS.r _ _ _ (rq1 (rq6 6 A7t.nd (B6o (A0y (A7e (K:=K) rfl) (by rfl) T.ak Z0d (A0a (pv 7) (A0a (B8q (v:=V.ref t.am) rfl T.a_ rfl) A0b))) (B6x (A0y (A7e (K:=K) rfl) (by rfl) T.ak Z0d (A0a (pv 7) (A0a (A4x (v:=V.ty "ValueError") rfl T.md PyProof.Rows.Boot.«ValueError» rfl) A0b)))))) (rq3 (rq6 6 A7t.nd (B6o (pv 6) (B6o (C9j (A0y (A7e (K:=K) rfl) (by rfl) T.ak Z0d (A0a (pv 7) (A0a (B8q (v:=V.ref t.ke) rfl T.pi rfl) A0b)))) (B6x (C9j (A0y (A7e (K:=K) rfl) (by rfl) T.ak Z0d (A0a (pv 7) (A0a (B8q (v:=V.ref t.ib) rfl T.ow rfl) A0b))))))))))))),λea hea=> ?_⟩;have s7:=A0f (H:=H6) (o:= .ext (xcF ea t.am)) hea;refine ⟨_,rfl,ea,t.am,_,true,rfl,A0c,T.fw,B8s T.ig,true,rfl,B2l ?_⟩;refine ⟨_,rfl,ea,t.am,_,true,rfl,A0c,T.fw,C0d T.e_ (by decide +kernel),?_⟩;refine ⟨_,rfl,true,rfl,B2l ?_⟩;refine ⟨_,rfl,ea,t.am,_,false,rfl,A0c,T.fw,B8s T.ia,false,rfl,?_⟩;refine ⟨_,rfl,B2l ?_⟩;refine ⟨_,rfl,ea,t.am,_,false,rfl,A0c,T.fw,B8s T.gh,false,rfl,?_⟩;refine ⟨_,rfl,true,rfl,B2l ?_⟩;refine ⟨_,rfl,txP p,rfl,rok,λ_ b2 dx2 fs2 H8 s8 e8=> ?_,λn=>absurd n (by rw [go];decide)⟩;rw [ev] at e8;have hq8:=s8 _ _ (s7 _ _ (s6 _ _ hq5));exact ⟨b2,_,dx2,_,_,rfl,e8,T.bj,T.bt,(by walk_at "lk"),_,rfl,q,_,_,_,rfl,rfl,SqT.of hq8,A4a (j:=0) rfl,rfl,(show Q (V.bl (decide (V.int (p.wh:Nat)=V.int (p.wh:Nat)))) H8 by rw [Z20 rfl];exact k H8)⟩
end My
namespace PySem.W.Fast
def tw5001073633603568453:=()
def tw6630511452771302485:=()
def tw15517559594080129257:=()
def tw2757602880020765343:=()
def tw14132102067814118894:=()
def tw11678384145110418873:=()
def tw13104302249774430448:=()
def tw9460058751249067044:=()
def tw6321424891931840186:=()
def tw10196123628811423065:=()
def tw1617079904495888919:=()
def tw4733399794898576217:=()
def tw4470417029984088813:=()
def tw6950716685728091594:=()
def tw17543159361059028335:=()
def tw12640859077400099223:=()
def tw5109478896120051867:=()
def tw12750518683341183872:=()
def tw652586491845441565:=()
def tw1383353938633682361:=()
def tw12170581916961113644:=()
def tw17292668834391971693:=()
def tw6588531121258131932:=()
def tw3810037670138730819:=()
def tw5123899542367627294:=()
def tw13910255632103041925:=()
def tw11920330843702210207:=()
def tw1820075933471427901:=()
def tw4517584297399593783:=()
def tw12972071593963112793:=()
def tw10632779535308001594:=()
def tw10382943908425762432:=()
def tw2743843867093075129:=()
def tw2918734886897471968:=()
def tw4646866040958012792:=()
def tw12213895273336087916:=()
def tw3499144846251264220:=()
def tw4990121826199710237:=()
def tw17649217331342906527:=()
def tw12970552845311361787:=()
def tw4387133980586946170:=()
def tw3463068273168166020:=()
def tw525669467928992428:=()
def tw593868883820130888:=()
def tw8843657773363701324:=()
def tw17125471626527688342:=()
def tw16964321828103321491:=()
def tw15205090236261207311:=()
def tw5938029692474683136:=()
def tw13538192677916062718:=()
def tw4989231386988707164:=()
def tw12947283101609402243:=()
def tw12863011392013507122:=()
def tw892859442731861701:=()
def tw4782487472065615334:=()
def tw1785521025367304458:=()
def tw7528712002709521123:=()
def tw9182901893989211500:=()
def tw15644745072437359685:=()
def tw9886529941813162868:=()
def tw10948765609313099141:=()
def tw2941432452569425779:=()
def tw9743402688103669090:=()
def tw15135425582015680266:=()
def tw16554319752233197060:=()
def tw6033414502666186979:=()
def tw3210307349928527870:=()
def tw3052663194637128616:=()
def tw14486369969198331006:=()
def tw6782214497620248933:=()
def tw17697248468436356921:=()
def tw4964340474381059440:=()
def tw13405426563664129162:=()
def tw1255848024650229216:=()
def tw12735912535009179815:=()
def tw4512626219129550192:=()
def tw17969437896326026793:=()
def tw14474982296777922438:=()
def tw8660442210753726643:=()
def tw2137797073809994426:=()
def tw1674527552488550686:=()
def tw2683092940994862586:=()
def tw93953672605331964:=()
def tw8221772492869943003:=()
def tw11210112198853116825:=()
def tw9117111168862029375:=()
def tw6519360950302477945:=()
def tw16468046035162042207:=()
def tw7572028507846090045:=()
def tw7044230451025473563:=()
def tw16977564023627540751:=()
def tw9342531347304513238:=()
def tw4186135867383323707:=()
def tw4017109505659723015:=()
def tw18226045065712728881:=()
def tw15960563458418283065:=()
def tw8819558426192537098:=()
def tw17825890487406354877:=()
def tw4114222070323048727:=()
def tw7116790158431717600:=()
def tw6026825776554241311:=()
def tw2751564588859737338:=()
def tw15006783370488654165:=()
def tw8000667388560104576:=()
def tw4238683364625344:=()
def tw1920853904701902144:=()
def tw6959886910448710854:=()
def tw4796235327295018836:=()
def tw14007153838590820403:=()
def tw17807273202654518897:=()
def tw5260738051695641414:=()
def tw16211179131866993332:=()
def tw14078461039317920975:=()
def tw15801175090728692844:=()
def tw16696433554246625893:=()
def tw3807846133077891724:=()
def tw8277221920885511944:=()
def tw5221104345205976973:=()
def tw12004555070564356021:=()
def tw10730696671414298133:=()
def tw7174663531661575620:=()
def tw1470851331019928074:=()
def tw8770905122934081888:=()
def tw16507236324710501011:=()
def tw4544342213158165019:=()
def tw15408587675530754778:=()
def tw8469535269617808835:=()
def tw530360857290370600:=()
def tw970618691044143877:=()
def tw15996119051807625175:=()
def tw3311369561437048020:=()
def tw14337660673139161012:=()
def tw10502155304002920818:=()
def tw17691703707118725468:=()
def tw14493295538076885456:=()
def tw13634540791737366355:=()
def tw10528482195763665182:=()
def tw16477815680385590118:=()
def tw410091817821841134:=()
def tw5324843451494567677:=()
def tw8557882314860182116:=()
def tw17657798579114160348:=()
def tw1178798002493146363:=()
def tw1204272186699672951:=()
def tw1075223579302513263:=()
def tw6496237340698652009:=()
def tw17049492166417491116:=()
def tw16139147773667302960:=()
def tw7063443094298401245:=()
def tw1064031356358002539:=()
def tw6716682116342386643:=()
def tw760691855949070067:=()
def tw4610412030189290512:=()
def tw15019060256289189770:=()
def tw15170426539866340559:=()
def tw15335365531906105855:=()
def tw13563582841626701769:=()
def tw14126794754673179432:=()
def tw7483543553867811801:=()
def tw12040690955579502759:=()
def tw13091716468442184897:=()
def tw10275751418295258760:=()
def tw1692840194587702369:=()
def tw1562132065432222999:=()
def tw12140746842011373252:=()
def tw8409860952032580390:=()
def tw15687569064772951960:=()
def tw3941162903733359239:=()
def tw9310327995313148290:=()
def tw6072020442094353153:=()
def tw5478448321936291137:=()
def tw7164292728536151776:=()
def tw2994563584963185749:=()
def tw7100050608416323304:=()
def tw585965773793193774:=()
def tw10081948856927431638:=()
def tw1308441107413189292:=()
def tw4324056451937556382:=()
def tw11281059417585150500:=()
def tw10706654431123153430:=()
def tw4439724726738035917:=()
def tw12480897849258681224:=()
def tw10474360805260784314:=()
def tw7714705438121392919:=()
def tw14894322433347764276:=()
def tw13478461447578224592:=()
def tw9807496457492870361:=()
def tw8572663284607532853:=()
def tw7536650412037965999:=()
def tw7318553135899864588:=()
def tw2969865248297717821:=()
def tw9972968061654416460:=()
def tw6442390375344173931:=()
def tw5103272610376183289:=()
def tw6166682517956378041:=()
def tw4759016475081098210:=()
def tw1075061303652445231:=()
def tw14851140916771249604:=()
def tw3213480277464557878:=()
def tw2388996803479499717:=()
def tw5201559639344345430:=()
def tw18280365523506243535:=()
def tw10468101073462513520:=()
def tw18058153996820678386:=()
def tw11709607662310689938:=()
def tw8472123014334759999:=()
def tw16936949727958555518:=()
def tw556118545233633662:=()
def tw7703440349871420074:=()
def tw3677717049517353075:=()
def tw1825614685117941368:=()
def tw3560277426343705810:=()
def tw11183523027159984163:=()
def tw13029308822992374682:=()
def tw7374825425276750822:=()
def tw8206441151720234716:=()
def tw18426871686184298950:=()
def tw7424930221094469940:=()
def tw10646368395300603386:=()
def tw17973012365875125757:=()
def tw2256766650383712193:=()
def tw13309621277172642234:=()
def tw11295682413282911231:=()
def tw337011887523692778:=()
def tw14264165141567725022:=()
def tw6779699586775156609:=()
def tw2427651449418918273:=()
def tw8772648650769790464:=()
def tw8204865842652232359:=()
def tw6580137126351311088:=()
def tw5167595110256254942:=()
def tw7399507199766645312:=()
def tw18393591235016480433:=()
def tw16130651530306019921:=()
def tw9296593013182379601:=()
def tw244819945144358217:=()
def tw18150247235739256559:=()
def tw1456130211815580517:=()
def tw3127079874847405857:=()
def tw18284532074900109943:=()
def tw11489538673492291151:=()
def tw8815556474659018021:=()
def tw11268841089249335451:=()
def tw16781117406820235924:=()
def tw1369801638572837503:=()
def tw586370254054370343:=()
def tw16325972463201560275:=()
def tw4160564037101691733:=()
def tw7078229195940982878:=()
def tw11017167124474157658:=()
def tw13528569895219126491:=()
def tw3255281237837903348:=()
def tw927971658985430895:=()
def tw15666620753029494702:=()
def tw2786111632215915532:=()
def tw4311552759101210691:=()
def tw10203772446979768285:=()
def tw7258830979597384748:=()
def tw8417853770446644079:=()
def tw13721670479507838596:=()
def tw4688331358614632120:=()
def tw18094549783896803299:=()
def tw16229303849013276173:=()
def tw11676577957845822884:=()
def tw5021599549179872404:=()
def tw17636488421907732764:=()
def tw15543743145582409666:=()
def tw1438637900437491671:=()
def tw1567751071684342408:=()
def tw8829301199467402479:=()
def tw13900012372731381773:=()
def tw6970600641194082629:=()
def tw17944207020961370156:=()
def tw3280869289099071507:=()
def tw13138652923941390026:=()
def tw16796058196260150003:=()
def tw17475959809484291037:=()
def tw2509338965275047097:=()
def tw6144474552022415507:=()
def tw2874873435829494552:=()
def tw3691832450861105300:=()
def tw3657157864065888789:=()
def tw6223744011543508668:=()
def tw4513390176595546583:=()
def tw7044959394920310686:=()
def tw7258410268457673794:=()
def tw10779253620538822605:=()
def tw6991153038731599139:=()
def tw14853359912440631365:=()
def tw3041679343529656606:=()
def tw15508674135761401006:=()
def tw6891317708135849193:=()
def tw14479306408735922213:=()
def tw3089880456271332234:=()
def tw746009693785841963:=()
def tw12924822765148609661:=()
def tw8000985752361187999:=()
def tw11386793521007035211:=()
def tw1105474629476555687:=()
def tw16350675630420218893:=()
def tw6646331450826019602:=()
def tw5975671140365262413:=()
def tw16740292874512441964:=()
def tw10667778056598342614:=()
def tw10543124042056500536:=()
def tw3954405729790245386:=()
def tw9349326670164759962:=()
def tw2777575883454001481:=()
def tw9487284240316017346:=()
def tw13566929009008073049:=()
def tw13133682831478157748:=()
def tw9693326221852811552:=()
def tw3785440216323527239:=()
def tw3194064011820330037:=()
def tw9529401828997684886:=()
def tw3351338814505448554:=()
def tw15408604622504881026:=()
def tw3937191416986615775:=()
def tw11871373968699861949:=()
def tw9706693844865223548:=()
def tw8165269439086459617:=()
def tw17717080184424138688:=()
def tw5780637354719926531:=()
def tw7679926822319671056:=()
def tw6358126940336275779:=()
def tw4937915993340040860:=()
def tw4143673858811282364:=()
def tw14151786968830929644:=()
def tw5702574711047081689:=()
def tw328428814088171001:=()
def tw14422872786003963995:=()
def tw255213937787191469:=()
end PySem.W.Fast
namespace My
open PySem L2
abbrev LkF (K:Frag) (x q:Str) (st:Stmt) (f:Addr):Prop:=∃(oc:Value) (od:Option Addr) (kV dc pm:Value) (an:Option Addr) (cd ct:Value) (sl:Array (Option Value)),K.lookup f=some ⟨oc,od,.func (fnOf x q (A7w st) (A5w st) (A0i st) .none kV dc pm an cd ct),sl⟩/\codeIn K cd q=true/\keepIn K (.ref f)=true
theorem D5r {K:Frag} {x q:Str} {st:Stmt} {f:Addr} {oc:Value} {od:Option Addr} {kV dc pm:Value} {an:Option Addr} {cd ct:Value} {sl:Array (Option Value)} (l:K.lookup f=some ⟨oc,od,.func (fnOf x q (A7w st) (A5w st) (A0i st) .none kV dc pm an cd ct),sl⟩) (c:codeIn K cd q=true) (k:keepIn K (.ref f)=true):LkF K x q st f:=⟨_,_,_,_,_,_,_,_,_,l,c,k⟩
theorem A1e {K:Frag} {x q:Str} {st:Stmt} {f:Addr} {ps:List Str} (l:LkF K x q st f) (h:∀(kV doc pm:Value) (an:Option Addr) (cdv ct:Value) (us:List Value),us.length=ps.length->bindArgs (fnOf x q (A7w st) (A5w st) (A0i st) .none kV doc pm an cdv ct) ⟨us,[]⟩=pure (ps.zip us)):∃d,Fun K x q st f d/\B0a K d ps []/\keepIn K (.ref f)=true:=by
 obtain ⟨_,_,_,_,_,_,_,_,_,l,c,k⟩:=l;have F:=C9o (st:=st) l c k;exact ⟨_,F,F.binds h,k⟩
theorem len0 {p:List Value->Prop} (h:p []):∀us:List Value,us.length=0->p us:=λus e=>by rw [Z2n.mp e];exact h
theorem lenS {n:Nat} {p:List Value->Prop} (h:∀(a:Value) (us:List Value),us.length=n->p (a::us)):∀us:List Value,us.length=n+1->p us
 | a::r,e=>h a r (Nat.succ.inj e)
local macro_rules | `(tactic| walk_at "le") => `(tactic| (intro _ _ _ _ _ _; (repeat (refine lenS fun _ => ?_)); exact len0 rfl))
theorem D5n {l:PySem.W.OpenLaw} {w:World} {K:Frag} {h:Heap} {mg:Str->Option Value} {fa:Addr} (X:K.In h) (G:h.Ns mainGlobals mg) (hfa:mg "law"=some (.ref fa))
  {aN cD bG aC aR aA iT aE aH aL hJ aM aF aG bF aD aB:Addr}
  (cE:nsIn K mainGlobals "LoomError"=some (some (.ref aN)))
  (dU:nsIn K mainGlobals "NoName"=some (some (.ref cD)))
  (cW:nsIn K mainGlobals "NoShape"=some (some (.ref bG)))
  (dV:nsIn K mainGlobals "NoText"=some (some (.ref aC)))
  (hL:nsIn K mainGlobals "Let"=some (some (.ref aR)))
  (cX:nsIn K mainGlobals "Program"=some (some (.ref aA)))
  (iJ:nsIn K mainGlobals "Term"=some (some (.ref iT)))
  (dW:nsIn K mainGlobals "Number"=some (some (.ref aE)))
  (eW:nsIn K mainGlobals "Place"=some (some (.ref aH)))
  (gN:nsIn K mainGlobals "Read"=some (some (.ref aL)))
  (iK:nsIn K mainGlobals "Pair"=some (some (.ref hJ)))
  (gO:nsIn K mainGlobals "Plus"=some (some (.ref aM)))
  (eX:nsIn K mainGlobals "Minus"=some (some (.ref aF)))
  (eY:nsIn K mainGlobals "Times"=some (some (.ref aG)))
  (hM:nsIn K mainGlobals "Sum"=some (some (.ref bF)))
  (eZ:nsIn K mainGlobals "Guard"=some (some (.ref aD)))
  (cY:nsIn K mainGlobals "WordRow"=some (some (.ref aB)))
  {f0:Addr}
  (a0:nsIn K mainGlobals "copied"=some (some (.ref f0)))
  (l0:LkF K "copied" "copied" B4z f0)
  {f1:Addr}
  (a1:findIn K (.ref aR) "__init__"=some (some (.ref f1)))
  (l1:LkF K "__init__" "Let.__init__" B0e f1)
  (i1:isFn K (.ref f1)=true)
  {f2:Addr}
  (a2:findIn K (.ref aA) "__init__"=some (some (.ref f2)))
  (l2:LkF K "__init__" "Program.__init__" A4v f2)
  (i2:isFn K (.ref f2)=true)
  {f3:Addr}
  (a3:findIn K (.ref aE) "__init__"=some (some (.ref f3)))
  (l3:LkF K "__init__" "Number.__init__" A5q f3)
  (i3:isFn K (.ref f3)=true)
  {f4:Addr}
  (a4:findIn K (.ref aE) "words"=some (some (.ref f4)))
  (l4:LkF K "words" "Number.words" A7s f4)
  (i4:isFn K (.ref f4)=true)
  {f5:Addr}
  (a5:findIn K (.ref aH) "__init__"=some (some (.ref f5)))
  (l5:LkF K "__init__" "Place.__init__" A6i f5)
  (i5:isFn K (.ref f5)=true)
  {f6:Addr}
  (a6:findIn K (.ref aH) "words"=some (some (.ref f6)))
  (l6:LkF K "words" "Place.words" A9l f6)
  (i6:isFn K (.ref f6)=true)
  {f7:Addr}
  (a7:findIn K (.ref aL) "__init__"=some (some (.ref f7)))
  (l7:LkF K "__init__" "Read.__init__" A7z f7)
  (i7:isFn K (.ref f7)=true)
  {f8:Addr}
  (a8:findIn K (.ref aL) "words"=some (some (.ref f8)))
  (l8:LkF K "words" "Read.words" B0i f8)
  (i8:isFn K (.ref f8)=true)
  {f9:Addr}
  (a9:nsIn K mainGlobals "index_word"=some (some (.ref f9)))
  (l9:LkF K "index_word" "index_word" B0u f9)
  {iW:Addr}
  (oY:findIn K (.ref hJ) "__init__"=some (some (.ref iW)))
  (jL:LkF K "__init__" "Pair.__init__" A8f iW)
  (iY:isFn K (.ref iW)=true)
  {iX:Addr}
  (oZ:findIn K (.ref hJ) "words"=some (some (.ref iX)))
  (jM:LkF K "words" "Pair.words" B0j iX)
  (iZ:isFn K (.ref iX)=true)
  {jB:Addr}
  (pA:findIn K (.ref aM) "sign"=some (some (.ref jB)))
  (jN:LkF K "sign" "Plus.sign" B2m jB)
  (jO:isFn K (.ref jB)=true)
  {jC:Addr}
  (pB:findIn K (.ref aF) "sign"=some (some (.ref jC)))
  (jP:LkF K "sign" "Minus.sign" B0v jC)
  (jQ:isFn K (.ref jC)=true)
  {jD:Addr}
  (pC:findIn K (.ref aG) "sign"=some (some (.ref jD)))
  (jR:LkF K "sign" "Times.sign" B0p jD)
  (jS:isFn K (.ref jD)=true)
  {jE:Addr}
  (pD:findIn K (.ref bF) "__init__"=some (some (.ref jE)))
  (jT:LkF K "__init__" "Sum.__init__" A9s jE)
  (jU:isFn K (.ref jE)=true)
  {jF:Addr}
  (pE:findIn K (.ref bF) "words"=some (some (.ref jF)))
  (jV:LkF K "words" "Sum.words" B2o jF)
  (jW:isFn K (.ref jF)=true)
  {jG:Addr}
  (pF:findIn K (.ref aD) "__init__"=some (some (.ref jG)))
  (jX:LkF K "__init__" "Guard.__init__" A6t jG)
  (jY:isFn K (.ref jG)=true)
  {jH:Addr}
  (pG:findIn K (.ref aD) "words"=some (some (.ref jH)))
  (jZ:LkF K "words" "Guard.words" A9g jH)
  (kA:isFn K (.ref jH)=true)
  {nJ:Addr}
  (kB:nsIn K mainGlobals "is_of_letters"=some (some (.ref nJ)))
  (kC:LkF K "is_of_letters" "is_of_letters" A4p nJ)
  {nK:Addr}
  (kD:nsIn K mainGlobals "read_program"=some (some (.ref nK)))
  (kE:LkF K "read_program" "read_program" A4w nK)
  {nL:Addr}
  (kF:nsIn K mainGlobals "by_sorts"=some (some (.ref nL)))
  (kG:LkF K "by_sorts" "by_sorts" A9u nL)
  {nM:Addr}
  (kH:nsIn K mainGlobals "read_wheel"=some (some (.ref nM)))
  (kI:LkF K "read_wheel" "read_wheel" A6h nM)
  {nN:Addr}
  (kJ:nsIn K mainGlobals "read_axis"=some (some (.ref nN)))
  (kK:LkF K "read_axis" "read_axis" A8e nN)
  {nO:Addr}
  (kL:nsIn K mainGlobals "read_table"=some (some (.ref nO)))
  (kM:LkF K "read_table" "read_table" A6g nO)
  {nP:Addr}
  (kN:nsIn K mainGlobals "read_let"=some (some (.ref nP)))
  (kO:LkF K "read_let" "read_let" A9v nP)
  {nQ:Addr}
  (kP:nsIn K mainGlobals "read_out"=some (some (.ref nQ)))
  (kQ:LkF K "read_out" "read_out" A9t nQ)
  {nR:Addr}
  (kR:nsIn K mainGlobals "look_number_of"=some (some (.ref nR)))
  (kS:LkF K "look_number_of" "look_number_of" A4b nR)
  {nS:Addr}
  (kT:nsIn K mainGlobals "read_names"=some (some (.ref nS)))
  (kU:LkF K "read_names" "read_names" A6j nS)
  {nT:Addr}
  (kV:nsIn K mainGlobals "read_name"=some (some (.ref nT)))
  (kW:LkF K "read_name" "read_name" A8q nT)
  {nU:Addr}
  (kX:nsIn K mainGlobals "read_number"=some (some (.ref nU)))
  (kY:LkF K "read_number" "read_number" A5p nU)
  {nV:Addr}
  (kZ:nsIn K mainGlobals "read_counting"=some (some (.ref nV)))
  (lA:LkF K "read_counting" "read_counting" A4o nV)
  {nW:Addr}
  (lB:nsIn K mainGlobals "read_natural"=some (some (.ref nW)))
  (lC:LkF K "read_natural" "read_natural" A4z nW)
  {nX:Addr}
  (lD:nsIn K mainGlobals "is_figure"=some (some (.ref nX)))
  (lE:LkF K "is_figure" "is_figure" A8b nX)
  {jI:Addr}
  (pH:findIn K (.ref aB) "__init__"=some (some (.ref jI)))
  (lF:LkF K "__init__" "WordRow.__init__" A4y jI)
  (lG:isFn K (.ref jI)=true)
  {jJ:Addr}
  (pI:findIn K (.ref aB) "next_word"=some (some (.ref jJ)))
  (lH:LkF K "next_word" "WordRow.next_word" A3g jJ)
  (lI:isFn K (.ref jJ)=true)
  {nY:Addr}
  (lJ:nsIn K mainGlobals "read_term"=some (some (.ref nY)))
  (lK:LkF K "read_term" "read_term" A8g nY)
  {nZ:Addr}
  (lL:nsIn K mainGlobals "next_term"=some (some (.ref nZ)))
  (lM:LkF K "next_term" "next_term" A7x nZ)
  {oA:Addr}
  (lN:nsIn K mainGlobals "next_pair"=some (some (.ref oA)))
  (lO:LkF K "next_pair" "next_pair" A8o oA)
  {oB:Addr}
  (lP:nsIn K mainGlobals "next_guard"=some (some (.ref oB)))
  (lQ:LkF K "next_guard" "next_guard" A6z oB)
  {oC:Addr}
  (lR:nsIn K mainGlobals "read_leaf"=some (some (.ref oC)))
  (lS:LkF K "read_leaf" "read_leaf" A8k oC)
  {oD:Addr}
  (lT:nsIn K mainGlobals "begins_number"=some (some (.ref oD)))
  (lU:LkF K "begins_number" "begins_number" A4r oD)
  {oE:Addr}
  (lV:nsIn K mainGlobals "read_read"=some (some (.ref oE)))
  (lW:LkF K "read_read" "read_read" A8l oE)
  {oF:Addr}
  (lX:nsIn K mainGlobals "read_index"=some (some (.ref oF)))
  (lY:LkF K "read_index" "read_index" A6p oF)
  {oG:Addr}
  (lZ:nsIn K mainGlobals "_law_cell_at"=some (some (.ref oG)))
  (mA:LkF K "_law_cell_at" "_law_cell_at" A8m oG)
  {oH:Addr}
  (mB:nsIn K mainGlobals "_law_mixed"=some (some (.ref oH)))
  (mC:LkF K "_law_mixed" "_law_mixed" B2u oH)
  {oI:Addr}
  (mD:nsIn K mainGlobals "_law_name_by"=some (some (.ref oI)))
  (mE:LkF K "_law_name_by" "_law_name_by" A8p oI)
  {oJ:Addr}
  (mF:nsIn K mainGlobals "_law_any_by"=some (some (.ref oJ)))
  (mG:LkF K "_law_any_by" "_law_any_by" A9x oJ)
  {oK:Addr}
  (mH:nsIn K mainGlobals "_law_number_by"=some (some (.ref oK)))
  (mI:LkF K "_law_number_by" "_law_number_by" A5v oK)
  {oL:Addr}
  (mJ:nsIn K mainGlobals "_law_read_by"=some (some (.ref oL)))
  (mK:LkF K "_law_read_by" "_law_read_by" A8j oL)
  {oM:Addr}
  (mL:nsIn K mainGlobals "_law_words_by"=some (some (.ref oM)))
  (mM:LkF K "_law_words_by" "_law_words_by" A6v oM)
  {oN:Addr}
  (mN:nsIn K mainGlobals "_law_names_by"=some (some (.ref oN)))
  (mO:LkF K "_law_names_by" "_law_names_by" A6n oN)
  {oO:Addr}
  (mP:nsIn K mainGlobals "_law_program_by"=some (some (.ref oO)))
  (mQ:LkF K "_law_program_by" "_law_program_by" A5d oO)
  {oP:Addr}
  (mR:nsIn K mainGlobals "_law_rows"=some (some (.ref oP)))
  (mS:LkF K "_law_rows" "_law_rows" B5b oP)
  {oQ:Addr}
  (mT:nsIn K mainGlobals "_law_odd_row"=some (some (.ref oQ)))
  (mU:LkF K "_law_odd_row" "_law_odd_row" A8d oQ)
  {oR:Addr}
  (mV:nsIn K mainGlobals "_law_odd_axis"=some (some (.ref oR)))
  (mW:LkF K "_law_odd_axis" "_law_odd_axis" A6l oR)
  {oS:Addr}
  (mX:nsIn K mainGlobals "_law_odd_wheel"=some (some (.ref oS)))
  (mY:LkF K "_law_odd_wheel" "_law_odd_wheel" A5t oS)
  {oT:Addr}
  (mZ:nsIn K mainGlobals "_law_place"=some (some (.ref oT)))
  (nA:LkF K "_law_place" "_law_place" B1x oT)
  {oU:Addr}
  (nB:nsIn K mainGlobals "_law_kind"=some (some (.ref oU)))
  (nC:LkF K "_law_kind" "_law_kind" B5n oU)
  {oV:Addr}
  (nD:nsIn K mainGlobals "_law_short"=some (some (.ref oV)))
  (nE:LkF K "_law_short" "_law_short" B1s oV)
  {oW:Addr}
  (nF:nsIn K mainGlobals "_law_rows_spoilt"=some (some (.ref oW)))
  (nG:LkF K "_law_rows_spoilt" "_law_rows_spoilt" A4m oW)
  {oX:Addr}
  (nH:nsIn K mainGlobals "_law_spoilt"=some (some (.ref oX)))
  (nI:LkF K "_law_spoilt" "_law_spoilt" A9z oX)
  {pJ:Addr}
  (jK:nsIn K mainGlobals "law"=some (some (.ref pJ)))
  (jA:LkF K "law" "law" C7p pJ)
  {eU:Tok}
  (aX:nsIn K mainGlobals "MOST_FIGURES"=some (some (.int (30) eU)))
  {gL:Tok}
  (bH:nsIn K mainGlobals "LEAST_WHEEL"=some (some (.int (2) gL)))
  {eV:Tok}
  (aY:nsIn K mainGlobals "LEAST_LENGTH"=some (some (.int (1) eV)))
  {gM:Tok}
  (bI:nsIn K mainGlobals "MOST_LENGTH"=some (some (.int (60) gM)))
  {hK:Addr} {iU:Nat} {iV:Array (Option Value)} {iL iM iN iO:Tok}
  (fA:nsIn K mainGlobals "SORTS"=some (some (.ref hK)))
  (dT:K.lookup hK=some ⟨.type "tuple",none,.seq #[.str "axis" iL,.str "table" iM,.str "let" iN,.str "out" iO] iU,iV⟩)
  (aI:mroIn K aC (.type "ValueError")=some true)
  (dX:excIn K aC [.type "ValueError",.type "Exception",.type "BaseException",.type "object"] "ValueError.__new__"=true)
  (dY:findIn K (.ref aC) "__getattribute__"=some (some (.builtin "BaseException.__getattribute__")))
  (dZ:findIn K (.ref aC) "__getattr__"=some none)
  (eA:mroIn K aC (.type "BaseException")=some true)
  (eB:mroIn K aC (.type "object")=some true)
  (eC:findIn K (.ref aC) "__class__"=some (some (.builtin "object.__class__")))
  (eD:specialIn K (.builtin "object.__class__") "__get__"=some (some (.builtin "getset_descriptor.__get__")))
  (eE:takesIn K (.builtin "object.__class__")=some true)
  (eF:isClsIn K aC=true)
  (eG:typeIn K (.ref aC)=some (.type "type"))
  (aS:mroIn K aC (.ref aC)=some true)
  (eH:isClsIn K cD=true)
  (eI:typeIn K (.ref cD)=some (.type "type"))
  (aT:mroIn K aC (.ref cD)=some false)
  (aU:(Value.ref aC == Value.ref cD)=false)
  (cZ:isClsIn K bG=true)
  (dA:typeIn K (.ref bG)=some (.type "type"))
  (aO:mroIn K aC (.ref bG)=some false)
  (aP:(Value.ref aC == Value.ref bG)=false)
  (cF:isClsIn K aN=true)
  (cG:typeIn K (.ref aN)=some (.type "type"))
  (aK:mroIn K aC (.ref aN)=some true)
  (cH:mroIn K aN (.type "BaseException")=some true)
  (fB:plainGet K aD Str.empty=true)
  (fC:hasDictIn K aD=true)
  (fD:plainOver K aD=true)
  (fE:findIn K (.ref aD) "__setattr__"=some (some (.builtin "object.__setattr__")))
  (fF:makesIn K aD=true)
  (fG:keepIn K (.ref aD)=true)
  (fH:findIn K (.ref aD) "__init__"=some (some (.ref jG)))
  (bS:findIn K (.ref aD) "axis"=some none)
  (cI:findIn K (.ref aD) "low"=some none)
  (bT:findIn K (.ref aD) "high"=some none)
  (bJ:findIn K (.ref aD) "inner"=some none)
  (bK:findIn K (.ref aD) "outer"=some none)
  (bL:findIn K (.ref aD) "words"=some (some (.ref jH)))
  (fI:findIn K (.ref aD) "__class__"=some (some (.builtin "object.__class__")))
  (eJ:specialIn K (.builtin "object.__class__") "__get__"=some (some (.builtin "getset_descriptor.__get__")))
  (eK:takesIn K (.builtin "object.__class__")=some true)
  (fJ:mroIn K aD (.type "object")=some true)
  (hN:plainGet K aR Str.empty=true)
  (hO:hasDictIn K aR=true)
  (hP:plainOver K aR=true)
  (hQ:findIn K (.ref aR) "__setattr__"=some (some (.builtin "object.__setattr__")))
  (hR:makesIn K aR=true)
  (hT:keepIn K (.ref aR)=true)
  (hU:findIn K (.ref aR) "__init__"=some (some (.ref f1)))
  (cP:findIn K (.ref aR) "name"=some none)
  (cQ:findIn K (.ref aR) "axes"=some none)
  (cR:findIn K (.ref aR) "term"=some none)
  (hV:findIn K (.ref aR) "__class__"=some (some (.builtin "object.__class__")))
  (hW:mroIn K aR (.type "object")=some true)
  (cS:mroIn K aR (.type "list")=some false)
  (cJ:mroIn K aR (.type "tuple")=some false)
  (cT:mroIn K aR (.type "dict")=some false)
  (fK:plainGet K aF Str.empty=true)
  (fL:hasDictIn K aF=true)
  (fM:plainOver K aF=true)
  (fN:findIn K (.ref aF) "__setattr__"=some (some (.builtin "object.__setattr__")))
  (fO:makesIn K aF=true)
  (fP:keepIn K (.ref aF)=true)
  (fQ:findIn K (.ref aF) "__init__"=some (some (.ref iW)))
  (bU:findIn K (.ref aF) "left"=some none)
  (bM:findIn K (.ref aF) "right"=some none)
  (bV:findIn K (.ref aF) "sign"=some (some (.ref jC)))
  (bN:findIn K (.ref aF) "words"=some (some (.ref iX)))
  (fR:findIn K (.ref aF) "__class__"=some (some (.builtin "object.__class__")))
  (fS:mroIn K aF (.type "object")=some true)
  (eL:plainGet K aE Str.empty=true)
  (eM:hasDictIn K aE=true)
  (eN:plainOver K aE=true)
  (eO:findIn K (.ref aE) "__setattr__"=some (some (.builtin "object.__setattr__")))
  (eP:makesIn K aE=true)
  (eQ:keepIn K (.ref aE)=true)
  (eR:findIn K (.ref aE) "__init__"=some (some (.ref f3)))
  (aV:findIn K (.ref aE) "number"=some none)
  (aZ:findIn K (.ref aE) "words"=some (some (.ref f4)))
  (eS:findIn K (.ref aE) "__class__"=some (some (.builtin "object.__class__")))
  (eT:mroIn K aE (.type "object")=some true)
  (fT:plainGet K aH Str.empty=true)
  (fU:hasDictIn K aH=true)
  (fV:plainOver K aH=true)
  (fW:findIn K (.ref aH) "__setattr__"=some (some (.builtin "object.__setattr__")))
  (fX:makesIn K aH=true)
  (fY:keepIn K (.ref aH)=true)
  (fZ:findIn K (.ref aH) "__init__"=some (some (.ref f5)))
  (bW:findIn K (.ref aH) "axis"=some none)
  (bO:findIn K (.ref aH) "words"=some (some (.ref f6)))
  (gA:findIn K (.ref aH) "__class__"=some (some (.builtin "object.__class__")))
  (gB:mroIn K aH (.type "object")=some true)
  (gP:plainGet K aM Str.empty=true)
  (gQ:hasDictIn K aM=true)
  (gR:plainOver K aM=true)
  (gS:findIn K (.ref aM) "__setattr__"=some (some (.builtin "object.__setattr__")))
  (gT:makesIn K aM=true)
  (gU:keepIn K (.ref aM)=true)
  (gV:findIn K (.ref aM) "__init__"=some (some (.ref iW)))
  (cK:findIn K (.ref aM) "left"=some none)
  (bX:findIn K (.ref aM) "right"=some none)
  (cL:findIn K (.ref aM) "sign"=some (some (.ref jB)))
  (bY:findIn K (.ref aM) "words"=some (some (.ref iX)))
  (gW:findIn K (.ref aM) "__class__"=some (some (.builtin "object.__class__")))
  (gX:mroIn K aM (.type "object")=some true)
  (dB:plainGet K aA Str.empty=true)
  (dC:hasDictIn K aA=true)
  (dD:plainOver K aA=true)
  (dE:findIn K (.ref aA) "__setattr__"=some (some (.builtin "object.__setattr__")))
  (dF:makesIn K aA=true)
  (dG:keepIn K (.ref aA)=true)
  (dH:findIn K (.ref aA) "__init__"=some (some (.ref f2)))
  (aW:findIn K (.ref aA) "wheel"=some none)
  (bA:findIn K (.ref aA) "axes"=some none)
  (aQ:findIn K (.ref aA) "tables"=some none)
  (bB:findIn K (.ref aA) "lets"=some none)
  (bC:findIn K (.ref aA) "outs"=some none)
  (dI:findIn K (.ref aA) "__class__"=some (some (.builtin "object.__class__")))
  (dJ:mroIn K aA (.type "object")=some true)
  (gY:plainGet K aL Str.empty=true)
  (gZ:hasDictIn K aL=true)
  (hA:plainOver K aL=true)
  (hB:findIn K (.ref aL) "__setattr__"=some (some (.builtin "object.__setattr__")))
  (hC:makesIn K aL=true)
  (hD:keepIn K (.ref aL)=true)
  (hE:findIn K (.ref aL) "__init__"=some (some (.ref f7)))
  (bZ:findIn K (.ref aL) "array"=some none)
  (bD:findIn K (.ref aL) "indexes"=some none)
  (cA:findIn K (.ref aL) "words"=some (some (.ref f8)))
  (hF:findIn K (.ref aL) "__class__"=some (some (.builtin "object.__class__")))
  (hG:mroIn K aL (.type "object")=some true)
  (hX:plainGet K bF Str.empty=true)
  (hZ:hasDictIn K bF=true)
  (iA:plainOver K bF=true)
  (iB:findIn K (.ref bF) "__setattr__"=some (some (.builtin "object.__setattr__")))
  (iC:makesIn K bF=true)
  (iD:keepIn K (.ref bF)=true)
  (iE:findIn K (.ref bF) "__init__"=some (some (.ref jE)))
  (cU:findIn K (.ref bF) "axis"=some none)
  (cV:findIn K (.ref bF) "body"=some none)
  (cM:findIn K (.ref bF) "words"=some (some (.ref jF)))
  (iF:findIn K (.ref bF) "__class__"=some (some (.builtin "object.__class__")))
  (iG:mroIn K bF (.type "object")=some true)
  (gC:plainGet K aG Str.empty=true)
  (gD:hasDictIn K aG=true)
  (gE:plainOver K aG=true)
  (gF:findIn K (.ref aG) "__setattr__"=some (some (.builtin "object.__setattr__")))
  (gG:makesIn K aG=true)
  (gH:keepIn K (.ref aG)=true)
  (gI:findIn K (.ref aG) "__init__"=some (some (.ref iW)))
  (cB:findIn K (.ref aG) "left"=some none)
  (bP:findIn K (.ref aG) "right"=some none)
  (cC:findIn K (.ref aG) "sign"=some (some (.ref jD)))
  (bQ:findIn K (.ref aG) "words"=some (some (.ref iX)))
  (gJ:findIn K (.ref aG) "__class__"=some (some (.builtin "object.__class__")))
  (gK:mroIn K aG (.type "object")=some true)
  (dK:plainGet K aB Str.empty=true)
  (dL:hasDictIn K aB=true)
  (dM:plainOver K aB=true)
  (dN:findIn K (.ref aB) "__setattr__"=some (some (.builtin "object.__setattr__")))
  (dO:makesIn K aB=true)
  (dP:keepIn K (.ref aB)=true)
  (dQ:findIn K (.ref aB) "__init__"=some (some (.ref jI)))
  (bR:findIn K (.ref aB) "row"=some none)
  (bE:findIn K (.ref aB) "gone"=some none)
  (aJ:findIn K (.ref aB) "next_word"=some (some (.ref jJ)))
  (dR:findIn K (.ref aB) "__class__"=some (some (.builtin "object.__class__")))
  (dS:mroIn K aB (.type "object")=some true)
  (cN:nsIn K mainGlobals "isinstance"=some none)
  (iH:nsIn K mainGlobals "list"=some none)
  (hH:nsIn K mainGlobals "tuple"=some none)
  (iI:nsIn K mainGlobals "dict"=some none)
  (iP:nsIn K mainGlobals "str"=some none)
  (iQ:nsIn K mainGlobals "all"=some none)
  (iR:nsIn K mainGlobals "len"=some none)
  (iS:nsIn K mainGlobals "int"=some none)
  (hI:nsIn K mainGlobals "range"=some none)
  (cO:nsIn K mainGlobals "ValueError"=some none)
  :∃fd:FuncData,(∀(s:Shared) (v:Value),BindsTo s fd ⟨[v],[]⟩ [("_law_script",v)])/\∀base:Heap,K.In base->base.Ns mainGlobals mg->A3e l.prog w K mg base CX0 213 fa fd ["_law_script"] (C7q K):=by
 have e:=hfa.symm.trans (Z0f X G jK);cases e;obtain ⟨d0,F0,b0,k0⟩:=A1e (ps:=["value"]) l0 (by walk_at "le");obtain ⟨d1,F1,b1,k1⟩:=A1e (ps:=D8d) l1 (by walk_at "le");obtain ⟨d2,F2,b2,k2⟩:=A1e (ps:=D9t) l2 (by walk_at "le");obtain ⟨d3,F3,b3,k3⟩:=A1e (ps:=["self","number"]) l3 (by walk_at "le");obtain ⟨d4,F4,b4,k4⟩:=A1e (ps:=B3a) l4 (by walk_at "le");obtain ⟨d5,F5,b5,k5⟩:=A1e (ps:=["self","axis"]) l5 (by walk_at "le");obtain ⟨d6,F6,b6,k6⟩:=A1e (ps:=B3a) l6 (by walk_at "le");obtain ⟨d7,F7,b7,k7⟩:=A1e (ps:=E0n) l7 (by walk_at "le");obtain ⟨d8,F8,b8,k8⟩:=A1e (ps:=B3a) l8 (by walk_at "le");obtain ⟨d9,F9,b9,k9⟩:=A1e (ps:=["axis","shift"]) l9 (by walk_at "le");obtain ⟨d10,F10,b10,k10⟩:=A1e (ps:=D8z) jL (by walk_at "le");obtain ⟨d11,F11,b11,k11⟩:=A1e (ps:=B3a) jM (by walk_at "le");obtain ⟨d12,F12,b12,k12⟩:=A1e (ps:=B3a) jN (by walk_at "le");obtain ⟨d13,F13,b13,k13⟩:=A1e (ps:=B3a) jP (by walk_at "le");obtain ⟨d14,F14,b14,k14⟩:=A1e (ps:=B3a) jR (by walk_at "le");obtain ⟨d15,F15,b15,k15⟩:=A1e (ps:=D7z) jT (by walk_at "le");obtain ⟨d16,F16,b16,k16⟩:=A1e (ps:=B3a) jV (by walk_at "le");obtain ⟨d17,F17,b17,k17⟩:=A1e (ps:=D8y) jX (by walk_at "le");obtain ⟨d18,F18,b18,k18⟩:=A1e (ps:=B3a) jZ (by walk_at "le");obtain ⟨d19,F19,b19,k19⟩:=A1e (ps:=["text"]) kC (by walk_at "le");obtain ⟨d20,F20,b20,k20⟩:=A1e (ps:=["text"]) kE (by walk_at "le");obtain ⟨d21,F21,b21,k21⟩:=A1e (ps:=["rows"]) kG (by walk_at "le");obtain ⟨d22,F22,b22,k22⟩:=A1e (ps:=A9o) kI (by walk_at "le");obtain ⟨d23,F23,b23,k23⟩:=A1e (ps:=A9o) kK (by walk_at "le");obtain ⟨d24,F24,b24,k24⟩:=A1e (ps:=A9o) kM (by walk_at "le");obtain ⟨d25,F25,b25,k25⟩:=A1e (ps:=A9o) kO (by walk_at "le");obtain ⟨d26,F26,b26,k26⟩:=A1e (ps:=A9o) kQ (by walk_at "le");obtain ⟨d27,F27,b27,k27⟩:=A1e (ps:=D7c) kS (by walk_at "le");obtain ⟨d28,F28,b28,k28⟩:=A1e (ps:=A9o) kU (by walk_at "le");obtain ⟨d29,F29,b29,k29⟩:=A1e (ps:=B7u) kW (by walk_at "le");obtain ⟨d30,F30,b30,k30⟩:=A1e (ps:=B7u) kY (by walk_at "le");obtain ⟨d31,F31,b31,k31⟩:=A1e (ps:=B7o) lA (by walk_at "le");obtain ⟨d32,F32,b32,k32⟩:=A1e (ps:=B7o) lC (by walk_at "le");obtain ⟨d33,F33,b33,k33⟩:=A1e (ps:=["sign"]) lE (by walk_at "le");obtain ⟨d34,F34,b34,k34⟩:=A1e (ps:=["self","row"]) lF (by walk_at "le");obtain ⟨d35,F35,b35,k35⟩:=A1e (ps:=B3a) lH (by walk_at "le");obtain ⟨d36,F36,b36,k36⟩:=A1e (ps:=A9o) lK (by walk_at "le");obtain ⟨d37,F37,b37,k37⟩:=A1e (ps:=["row"]) lM (by walk_at "le");obtain ⟨d38,F38,b38,k38⟩:=A1e (ps:=["sign","row"]) lO (by walk_at "le");obtain ⟨d39,F39,b39,k39⟩:=A1e (ps:=["row"]) lQ (by walk_at "le");obtain ⟨d40,F40,b40,k40⟩:=A1e (ps:=B7u) lS (by walk_at "le");obtain ⟨d41,F41,b41,k41⟩:=A1e (ps:=["text"]) lU (by walk_at "le");obtain ⟨d42,F42,b42,k42⟩:=A1e (ps:=B7u) lW (by walk_at "le");obtain ⟨d43,F43,b43,k43⟩:=A1e (ps:=["index"]) lY (by walk_at "le");obtain ⟨d44,F44,b44,k44⟩:=A1e (ps:=D2o) mA (by walk_at "le");obtain ⟨d45,F45,b45,k45⟩:=A1e (ps:=D0c) mC (by walk_at "le");obtain ⟨d46,F46,b46,k46⟩:=A1e (ps:=A5a) mE (by walk_at "le");obtain ⟨d47,F47,b47,k47⟩:=A1e (ps:=A5a) mG (by walk_at "le");obtain ⟨d48,F48,b48,k48⟩:=A1e (ps:=A5a) mI (by walk_at "le");obtain ⟨d49,F49,b49,k49⟩:=A1e (ps:=A5a) mK (by walk_at "le");obtain ⟨d50,F50,b50,k50⟩:=A1e (ps:=C1s) mM (by walk_at "le");obtain ⟨d51,F51,b51,k51⟩:=A1e (ps:=["_law_rest","_law_many"]) mO (by walk_at "le");obtain ⟨d52,F52,b52,k52⟩:=A1e (ps:=C1b) mQ (by walk_at "le");obtain ⟨d53,F53,b53,k53⟩:=A1e (ps:=["_law_program"]) mS (by walk_at "le");obtain ⟨d54,F54,b54,k54⟩:=A1e (ps:=A5a) mU (by walk_at "le");obtain ⟨d55,F55,b55,k55⟩:=A1e (ps:=A5a) mW (by walk_at "le");obtain ⟨d56,F56,b56,k56⟩:=A1e (ps:=A5a) mY (by walk_at "le");obtain ⟨d57,F57,b57,k57⟩:=A1e (ps:=D0r) nA (by walk_at "le");obtain ⟨d58,F58,b58,k58⟩:=A1e (ps:=["_law_row"]) nC (by walk_at "le");obtain ⟨d59,F59,b59,k59⟩:=A1e (ps:=D0b) nE (by walk_at "le");obtain ⟨d60,F60,b60,k60⟩:=A1e (ps:=C2a) nG (by walk_at "le");obtain ⟨d61,F61,b61,k61⟩:=A1e (ps:=C2a) nI (by walk_at "le");obtain ⟨_,_,_,_,_,_,_,_,_,jA,c,k62⟩:=jA;have F62:=C9o (st:=C7p) jA c k62;have b62:=F62.binds (ps:=C1b) (by walk_at "le");exact ⟨_,λs v=> .of_eq rfl,λbase _ _=>D5a (t:=⟨aN,cD,bG,aC,aR,aA,iT,aE,aH,aL,hJ,aM,aF,aG,bF,aD,aB,hK,f0,_,f1,_,f2,_,f3,_,f4,_,f5,_,f6,_,f7,_,f8,_,f9,_,iW,_,iX,_,jB,_,jC,_,jD,_,jE,_,jF,_,jG,_,jH,_,nJ,_,nK,_,nL,_,nM,_,nN,_,nO,_,nP,_,nQ,_,nR,_,nS,_,nT,_,nU,_,nV,_,nW,_,nX,_,jI,_,jJ,_,nY,_,nZ,_,oA,_,oB,_,oC,_,oD,_,oE,_,oF,_,oG,_,oH,_,oI,_,oJ,_,oK,_,oL,_,oM,_,oN,_,oO,_,oP,_,oQ,_,oR,_,oS,_,oT,_,oU,_,oV,_,oW,_,oX,_,fa,_⟩) ⟨⟨F0,Z0f X G a0,b0⟩,⟨F1,b1⟩,⟨F2,b2⟩,⟨F3,b3⟩,⟨F4,b4⟩,⟨F5,b5⟩,⟨F6,b6⟩,⟨F7,b7⟩,⟨F8,b8⟩,⟨F9,Z0f X G a9,b9⟩,⟨F10,b10⟩,⟨F11,b11⟩,⟨F12,b12⟩,⟨F13,b13⟩,⟨F14,b14⟩,⟨F15,b15⟩,⟨F16,b16⟩,⟨F17,b17⟩,⟨F18,b18⟩,⟨F19,Z0f X G kB,b19⟩,⟨F20,Z0f X G kD,b20⟩,⟨F21,Z0f X G kF,b21⟩,⟨F22,Z0f X G kH,b22⟩,⟨F23,Z0f X G kJ,b23⟩,⟨F24,Z0f X G kL,b24⟩,⟨F25,Z0f X G kN,b25⟩,⟨F26,Z0f X G kP,b26⟩,⟨F27,Z0f X G kR,b27⟩,⟨F28,Z0f X G kT,b28⟩,⟨F29,Z0f X G kV,b29⟩,⟨F30,Z0f X G kX,b30⟩,⟨F31,Z0f X G kZ,b31⟩,⟨F32,Z0f X G lB,b32⟩,⟨F33,Z0f X G lD,b33⟩,⟨F34,b34⟩,⟨F35,b35⟩,⟨F36,Z0f X G lJ,b36⟩,⟨F37,Z0f X G lL,b37⟩,⟨F38,Z0f X G lN,b38⟩,⟨F39,Z0f X G lP,b39⟩,⟨F40,Z0f X G lR,b40⟩,⟨F41,Z0f X G lT,b41⟩,⟨F42,Z0f X G lV,b42⟩,⟨F43,Z0f X G lX,b43⟩,⟨F44,Z0f X G lZ,b44⟩,⟨F45,Z0f X G mB,b45⟩,⟨F46,Z0f X G mD,b46⟩,⟨F47,Z0f X G mF,b47⟩,⟨F48,Z0f X G mH,b48⟩,⟨F49,Z0f X G mJ,b49⟩,⟨F50,Z0f X G mL,b50⟩,⟨F51,Z0f X G mN,b51⟩,⟨F52,Z0f X G mP,b52⟩,⟨F53,Z0f X G mR,b53⟩,⟨F54,Z0f X G mT,b54⟩,⟨F55,Z0f X G mV,b55⟩,⟨F56,Z0f X G mX,b56⟩,⟨F57,Z0f X G mZ,b57⟩,⟨F58,Z0f X G nB,b58⟩,⟨F59,Z0f X G nD,b59⟩,⟨F60,Z0f X G nF,b60⟩,⟨F61,Z0f X G nH,b61⟩,⟨F62,Z0f X G jK,b62⟩,⟨_,Z0f X G aX,⟨_,rfl⟩⟩,⟨_,Z0f X G bH,⟨_,rfl⟩⟩,⟨_,Z0f X G aY,⟨_,rfl⟩⟩,⟨_,Z0f X G bI,⟨_,rfl⟩⟩,⟨_,Z0f X G fA,rfl⟩,⟨_,_,_,dT,rfl,rfl,(by show 4<=sizeLine;decide),.cons ⟨_,rfl⟩ (.cons ⟨_,rfl⟩ (.cons ⟨_,rfl⟩ (.cons ⟨_,rfl⟩ (.nil))))⟩,⟨_,dT,rfl,rfl⟩,Z0f X G cE,Z0f X G dU,Z0f X G cW,Z0f X G dV,aI,dX,⟨dY,dZ,eA,eB,eC,eD,eE⟩,C6b eF eG aS,B6k aU eH eI aT,B6k aP cZ dA aO,D5t cH cF cG aK,Z0f X G hL,Z0f X G cX,Z0f X G dW,Z0f X G eW,Z0f X G gN,Z0f X G gO,Z0f X G eX,Z0f X G eY,Z0f X G hM,Z0f X G eZ,Z0f X G cY,⟨fB,fC,fD,fE⟩,⟨fF,fH,jY,fG⟩,bS,cI,bT,bJ,bK,⟨bL,kA,k18⟩,⟨fI,eJ,eK,fJ⟩,⟨hN,hO,hP,hQ⟩,⟨hR,hU,i1,hT⟩,cP,cQ,cR,⟨hV,eJ,eK,hW⟩,cS,cJ,cT,⟨fK,fL,fM,fN⟩,⟨fO,fQ,iY,fP⟩,bU,bM,⟨bV,jQ,k13⟩,⟨bN,iZ,k11⟩,⟨fR,eJ,eK,fS⟩,⟨eL,eM,eN,eO⟩,⟨eP,eR,i3,eQ⟩,aV,⟨aZ,i4,k4⟩,⟨eS,eJ,eK,eT⟩,⟨fT,fU,fV,fW⟩,⟨fX,fZ,i5,fY⟩,bW,⟨bO,i6,k6⟩,⟨gA,eJ,eK,gB⟩,⟨gP,gQ,gR,gS⟩,⟨gT,gV,iY,gU⟩,cK,bX,⟨cL,jO,k12⟩,⟨bY,iZ,k11⟩,⟨gW,eJ,eK,gX⟩,⟨dB,dC,dD,dE⟩,⟨dF,dH,i2,dG⟩,aW,bA,aQ,bB,bC,⟨dI,eJ,eK,dJ⟩,⟨gY,gZ,hA,hB⟩,⟨hC,hE,i7,hD⟩,bZ,bD,⟨cA,i8,k8⟩,⟨hF,eJ,eK,hG⟩,⟨hX,hZ,iA,iB⟩,⟨iC,iE,jU,iD⟩,cU,cV,⟨cM,jW,k16⟩,⟨iF,eJ,eK,iG⟩,⟨gC,gD,gE,gF⟩,⟨gG,gI,iY,gH⟩,cB,bP,⟨cC,jS,k14⟩,⟨bQ,iZ,k11⟩,⟨gJ,eJ,eK,gK⟩,⟨dK,dL,dM,dN⟩,⟨dO,dQ,lG,dP⟩,bR,bE,⟨aJ,lI,k35⟩,⟨dR,eJ,eK,dS⟩,Z1c X G cN,Z1c X G iH,Z1c X G hH,Z1c X G iI,Z1c X G iP,Z1c X G iQ,Z1c X G iR,Z1c X G iS,Z1c X G hI,Z1c X G cO⟩⟩
theorem walk {l:PySem.W.OpenLaw} {q:Program} {loose:List Str} {XP:(Str->Option Value)->Heap->Prop} {YP:World->Heap->Prop} {d:DefRec} {K:Params->Frag} (hn:l.most=some 63) (hdf:d.params.defaults=[])
  (hY:∀(w:World) (h:Heap),YP w h->(K w.params).In h)
  (F:∀(w:World) (mg:Str->Option Value) (fa:Addr) (h:Heap),(K w.params).In h->h.Ns mainGlobals mg->mg d.name=some (.ref fa)->
   ∃fd:FuncData,(∀(s:Shared) (u:Value),BindsTo s fd ⟨[u],[]⟩ [("_law_script",u)])/\∀base:Heap,(K w.params).In base->base.Ns mainGlobals mg->A3e l.prog w (K w.params) mg base CX0 213 fa fd ["_law_script"] (C7q (K w.params))) :
  PySem.W.WalkO q loose XP YP l.row.toRowW d [] (λf vs=>PySem.call f vs) :=
 L2.D1j (n:=63) (k:=213) (x:="_law_script") (CX:=λ_=>CX0) (sp:=λw=>C7q (K w.params)) hn (by decide) hdf ⟨rfl,by decide,by decide,rfl⟩ hY F (λ_ _ a ns hl _ hS=>⟨a,ns,rfl,hS,hl,λ_=>rfl⟩) λ_ _ _ _ _ z=>z
end My
local macro_rules | `(tactic| walk_at "kf") => `(tactic| (refine' My.D5r ?l ?c ?k; (case l => k_is); (case c => k_is); (case k => k_is)))
open PySem PySem.W PyProof.Rows
set_option maxRecDepth 100000 in
set_option maxHeartbeats 0 in
theorem PySem.Challenge.cw_arrayloom_k82_no_programs_holds : PySem.Challenge.rw_arrayloom_k82_no_programs.Holds := by
 w_on;o_law;k_head;(case hw=>w_witness2)
 k_fill
 refine My.walk (l:=PySem.Challenge.rw_arrayloom_k82_no_programs) rfl rfl (λw h Y=>PySem.W.kIn_of Y) ?F
 case F =>
  intro w mg fa h KX G hmg;refine' My.D5n KX G hmg ?cE ?dU ?cW ?dV ?hL ?cX ?iJ ?dW ?eW ?gN ?iK ?gO ?eX ?eY ?hM ?eZ ?cY ?a0 ?l0 ?a1 ?l1 ?i1 ?a2 ?l2 ?i2 ?a3 ?l3 ?i3 ?a4 ?l4 ?i4 ?a5 ?l5 ?i5 ?a6 ?l6 ?i6 ?a7 ?l7 ?i7 ?a8 ?l8 ?i8 ?a9 ?l9 ?oY ?jL ?iY ?oZ ?jM ?iZ ?pA ?jN ?jO ?pB ?jP ?jQ ?pC ?jR ?jS ?pD ?jT ?jU ?pE ?jV ?jW ?pF ?jX ?jY ?pG ?jZ ?kA ?kB ?kC ?kD ?kE ?kF ?kG ?kH ?kI ?kJ ?kK ?kL ?kM ?kN ?kO ?kP ?kQ ?kR ?kS ?kT ?kU ?kV ?kW ?kX ?kY ?kZ ?lA ?lB ?lC ?lD ?lE ?pH ?lF ?lG ?pI ?lH ?lI ?lJ ?lK ?lL ?lM ?lN ?lO ?lP ?lQ ?lR ?lS ?lT ?lU ?lV ?lW ?lX ?lY ?lZ ?mA ?mB ?mC ?mD ?mE ?mF ?mG ?mH ?mI ?mJ ?mK ?mL ?mM ?mN ?mO ?mP ?mQ ?mR ?mS ?mT ?mU ?mV ?mW ?mX ?mY ?mZ ?nA ?nB ?nC ?nD ?nE ?nF ?nG ?nH ?nI ?jK ?jA ?aX ?bH ?aY ?bI ?fA ?dT ?aI ?dX ?dY ?dZ ?eA ?eB ?eC ?eD ?eE ?eF ?eG ?aS ?eH ?eI ?aT ?aU ?cZ ?dA ?aO ?aP ?cF ?cG ?aK ?cH ?fB ?fC ?fD ?fE ?fF ?fG ?fH ?bS ?cI ?bT ?bJ ?bK ?bL ?fI ?eJ ?eK ?fJ ?hN ?hO ?hP ?hQ ?hR ?hT ?hU ?cP ?cQ ?cR ?hV ?hW ?cS ?cJ ?cT ?fK ?fL ?fM ?fN ?fO ?fP ?fQ ?bU ?bM ?bV ?bN ?fR ?fS ?eL ?eM ?eN ?eO ?eP ?eQ ?eR ?aV ?aZ ?eS ?eT ?fT ?fU ?fV ?fW ?fX ?fY ?fZ ?bW ?bO ?gA ?gB ?gP ?gQ ?gR ?gS ?gT ?gU ?gV ?cK ?bX ?cL ?bY ?gW ?gX ?dB ?dC ?dD ?dE ?dF ?dG ?dH ?aW ?bA ?aQ ?bB ?bC ?dI ?dJ ?gY ?gZ ?hA ?hB ?hC ?hD ?hE ?bZ ?bD ?cA ?hF ?hG ?hX ?hZ ?iA ?iB ?iC ?iD ?iE ?cU ?cV ?cM ?iF ?iG ?gC ?gD ?gE ?gF ?gG ?gH ?gI ?cB ?bP ?cC ?bQ ?gJ ?gK ?dK ?dL ?dM ?dN ?dO ?dP ?dQ ?bR ?bE ?aJ ?dR ?dS ?cN ?iH ?hH ?iI ?iP ?iQ ?iR ?iS ?hI ?cO
  (case cE | dU | cW | dV | hL | cX | iJ | dW | eW | gN | iK=>k_is)
  (case gO | eX | eY | hM | eZ | cY=>k_is)
  (case a0=>k_is);(case l0=>walk_at "kf")
  (case a1=>k_is);(case l1=>walk_at "kf")
  (case i1=>k_is)
  (case a2=>k_is);(case l2=>walk_at "kf")
  (case i2=>k_is)
  (case a3=>k_is);(case l3=>walk_at "kf")
  (case i3=>k_is)
  (case a4=>k_is);(case l4=>walk_at "kf")
  (case i4=>k_is)
  (case a5=>k_is);(case l5=>walk_at "kf")
  (case i5=>k_is)
  (case a6=>k_is);(case l6=>walk_at "kf")
  (case i6=>k_is)
  (case a7=>k_is);(case l7=>walk_at "kf")
  (case i7=>k_is)
  (case a8=>k_is);(case l8=>walk_at "kf")
  (case i8=>k_is)
  (case a9=>k_is);(case l9=>walk_at "kf")
  (case oY=>k_is);(case jL=>walk_at "kf")
  (case iY=>k_is)
  (case oZ=>k_is);(case jM=>walk_at "kf")
  (case iZ=>k_is)
  (case pA=>k_is);(case jN=>walk_at "kf")
  (case jO=>k_is)
  (case pB=>k_is);(case jP=>walk_at "kf")
  (case jQ=>k_is)
  (case pC=>k_is);(case jR=>walk_at "kf")
  (case jS=>k_is)
  (case pD=>k_is);(case jT=>walk_at "kf")
  (case jU=>k_is)
  (case pE=>k_is);(case jV=>walk_at "kf")
  (case jW=>k_is)
  (case pF=>k_is);(case jX=>walk_at "kf")
  (case jY=>k_is)
  (case pG=>k_is);(case jZ=>walk_at "kf")
  (case kA=>k_is)
  (case kB=>k_is);(case kC=>walk_at "kf")
  (case kD=>k_is);(case kE=>walk_at "kf")
  (case kF=>k_is);(case kG=>walk_at "kf")
  (case kH=>k_is);(case kI=>walk_at "kf")
  (case kJ=>k_is);(case kK=>walk_at "kf")
  (case kL=>k_is);(case kM=>walk_at "kf")
  (case kN=>k_is);(case kO=>walk_at "kf")
  (case kP=>k_is);(case kQ=>walk_at "kf")
  (case kR=>k_is);(case kS=>walk_at "kf")
  (case kT=>k_is);(case kU=>walk_at "kf")
  (case kV=>k_is);(case kW=>walk_at "kf")
  (case kX=>k_is);(case kY=>walk_at "kf")
  (case kZ=>k_is);(case lA=>walk_at "kf")
  (case lB=>k_is);(case lC=>walk_at "kf")
  (case lD=>k_is);(case lE=>walk_at "kf")
  (case pH=>k_is);(case lF=>walk_at "kf")
  (case lG=>k_is)
  (case pI=>k_is);(case lH=>walk_at "kf")
  (case lI=>k_is)
  (case lJ=>k_is);(case lK=>walk_at "kf")
  (case lL=>k_is);(case lM=>walk_at "kf")
  (case lN=>k_is);(case lO=>walk_at "kf")
  (case lP=>k_is);(case lQ=>walk_at "kf")
  (case lR=>k_is);(case lS=>walk_at "kf")
  (case lT=>k_is);(case lU=>walk_at "kf")
  (case lV=>k_is);(case lW=>walk_at "kf")
  (case lX=>k_is);(case lY=>walk_at "kf")
  (case lZ=>k_is);(case mA=>walk_at "kf")
  (case mB=>k_is);(case mC=>walk_at "kf")
  (case mD=>k_is);(case mE=>walk_at "kf")
  (case mF=>k_is);(case mG=>walk_at "kf")
  (case mH=>k_is);(case mI=>walk_at "kf")
  (case mJ=>k_is);(case mK=>walk_at "kf")
  (case mL=>k_is);(case mM=>walk_at "kf")
  (case mN=>k_is);(case mO=>walk_at "kf")
  (case mP=>k_is);(case mQ=>walk_at "kf")
  (case mR=>k_is);(case mS=>walk_at "kf")
  (case mT=>k_is);(case mU=>walk_at "kf")
  (case mV=>k_is);(case mW=>walk_at "kf")
  (case mX=>k_is);(case mY=>walk_at "kf")
  (case mZ=>k_is);(case nA=>walk_at "kf")
  (case nB=>k_is);(case nC=>walk_at "kf")
  (case nD=>k_is);(case nE=>walk_at "kf")
  (case nF=>k_is);(case nG=>walk_at "kf")
  (case nH=>k_is);(case nI=>walk_at "kf")
  (case jK=>k_is);(case jA=>walk_at "kf")
  (case aX | bH | aY | bI | fA | dT | aI=>k_is)
  (case dX=>k_exc)
  (case dY | dZ | eA | eB | eC | eD | eE | eF | eG | aS | eH=>k_is)
  (case eI | aT=>k_is)
  (case aU=>first | rfl | decide)
  (case cZ | dA | aO=>k_is)
  (case aP=>first | rfl | decide)
  (case cF | cG | aK | cH | fB | fC | fD | fE | fF | fG | fH=>k_is)
  (case bS | cI | bT | bJ | bK | bL | fI | eJ | eK | fJ | hN=>k_is)
  (case hO | hP | hQ | hR | hT | hU | cP | cQ | cR | hV | hW=>k_is)
  (case cS | cJ | cT | fK | fL | fM | fN | fO | fP | fQ | bU=>k_is)
  (case bM | bV | bN | fR | fS | eL | eM | eN | eO | eP | eQ=>k_is)
  (case eR | aV | aZ | eS | eT | fT | fU | fV | fW | fX | fY=>k_is)
  (case fZ | bW | bO | gA | gB | gP | gQ | gR | gS | gT | gU=>k_is)
  (case gV | cK | bX | cL | bY | gW | gX | dB | dC | dD | dE=>k_is)
  (case dF | dG | dH | aW | bA | aQ | bB | bC | dI | dJ | gY=>k_is)
  (case gZ | hA | hB | hC | hD | hE | bZ | bD | cA | hF | hG=>k_is)
  (case hX | hZ | iA | iB | iC | iD | iE | cU | cV | cM | iF=>k_is)
  (case iG | gC | gD | gE | gF | gG | gH | gI | cB | bP | cC=>k_is)
  (case bQ | gJ | gK | dK | dL | dM | dN | dO | dP | dQ | bR=>k_is)
  (case bE | aJ | dR | dS | cN | iH | hH | iI | iP | iQ | iR=>k_is)
  (case iS | hI | cO=>k_is)
