import PyProof.Rows.All
import Wide.All
import OpenK.AllK
import Wide.FinOn
import Lean
import PyProof.EqAt
import PyProof.EqKinds
import PyProof.TupleCall
import KE.KDictLaws
import KE.KDictList
import KE.KDictOf
import KE.KEqDict
import KE.KIntText
import KE.KTabLook
import KE.KTryMore
import KE.KUnpack
import PyProof.AttrMissHeap
import PyProof.AutoListH
import PyProof.CompUse
import PyProof.ConsumeWalk
import PyProof.Conv_int_bool
import PyProof.DictItems
import PyProof.DictValues
import PyProof.DictWalks
import PyProof.Draws
import PyProof.EnumFor
import PyProof.EnumMake
import PyProof.EnumStmt
import PyProof.ExcClass3
import PyProof.ExcInit
import PyProof.FString4
import PyProof.FString5
import PyProof.FactsAll.list_3
import PyProof.FactsAll.set
import PyProof.FactsAll.subtypes_5
import PyProof.FactsAll.zip
import PyProof.NeKinds
import PyProof.P3Eq
import PyProof.RangeIter
import PyProof.ReprHeads
import PyProof.ReprLen
import PyProof.Rows.SeqMore2
import PyProof.Rows.SetFrom
import PyProof.Rows.StrNews
import PyProof.Rows.TupIter
import PyProof.SetRoads
import PyProof.StrLawsRepr
import PyProof.StrWalks
import PyProof.SumAny
import PyProof.TupleKey
import PyProof.WalkInts
import PyProof.Walks
import PySem.Challenge.RW_arrayloom_k73_the_machine_refuses
set_option compiler.extract_closed false
section
open PySem PySem.Spec PyProof.Rows PySem.Calls
abbrev Z00:=@wpAny_bind
abbrev Z01:=@Heap.get?_push_of_some
abbrev Z02:=@List.mem_append_right
abbrev Z03:=@List.getElem?_eq_some_iff
abbrev Z04:=@wpAny_pure
abbrev Z05:=@List.mem_append_left
abbrev Z06:=@List.length_append
abbrev Z07:=@List.mem_append
abbrev Z08:=@List.length_map
abbrev Z09:=@Nat.le_refl
abbrev Z0a:=@Heap.lt_size
abbrev Z0b:=@List.getElem?_eq_getElem
abbrev Z0c:=@Heap.get?_push_size
abbrev Z0d:=@PyProof.Rows.boot_isinstance
abbrev Z0e:=@List.mem_cons
abbrev Z0f:=@PySem.W.mg_of
abbrev Z0g:=@List.size_toArray
abbrev Z0h:=@Nat.ne_of_lt
abbrev Z0j:=@List.length_singleton
abbrev Z0k:=@PySem.F.plainAttrs_list
abbrev Z0n:=@PySem.F.slot_list_append
abbrev Z0o:=@PySem.F.type_list_append
abbrev Z0p:=@List.map_cons
abbrev Z0q:=@Nat.lt_of_lt_of_le
abbrev Z0r:=@PySem.boot_len
abbrev Z0s:=@List.map_append
abbrev Z0t:=@if_neg
abbrev Z0u:=@List.append_nil
abbrev Z0v:=@Bool.false_ne_true
abbrev Z0w:=@List.mem_singleton
abbrev Z0x:=@List.length_take
abbrev Z0y:=@List.length_cons
abbrev Z10:=@wpAny_mono
abbrev Z11:=@wpAny_field
abbrev Z12:=@if_pos
abbrev Z13:=@List.mem_of_getElem?
abbrev Z15:=@List.nodup_cons
abbrev Z16:=@wpAny_newObj_type
abbrev Z18:=@List.take_length
abbrev Z19:=@List.length_drop
abbrev Z1a:=@Option.some.inj
abbrev Z1b:=@wpAny_callSpecial?_slot
abbrev Z1c:=@PySem.W.mg_none_of
abbrev Z1d:=@Heap.get?_update_other
abbrev Z1e:=@Nat.zero_le
abbrev Z1f:=@List.mem_cons_of_mem
abbrev Z1g:=@wpAny_call_entry
abbrev Z1j:=@decide_eq_false
abbrev Z1k:=@wpAny_loadPart_at
abbrev Z1l:=@List.getElem?_append_right
abbrev Z1m:=@Array.getElem?_eq_some_iff
abbrev Z1n:=@Nat.le_trans
abbrev Z1o:=@PyProof.Rows.boot_list
abbrev Z1p:=@Int.emod_lt_of_pos
abbrev Z1q:=@Nat.ne_of_gt
abbrev Z1r:=@Heap.get?_update_self
abbrev Z1s:=@Heap.size_push
abbrev Z1t:=@wpAny_setField
abbrev Z1v:=@Int.emod_nonneg
abbrev Z1w:=@wpAny_holding
abbrev Z1x:=@Bool.and_eq_true
abbrev Z1y:=@wpAny_standAt
abbrev Z1z:=@List.getElem?_map
abbrev Z20:=@decide_eq_true
abbrev Z22:=@beq_eq_false_iff_ne
abbrev Z23:=@List.getElem?_set_self
abbrev Z25:=@Array.getElem?_setIfInBounds_ne
abbrev Z26:=@List.getElem?_append_left
abbrev Z27:=@List.mem_cons_self
abbrev Z28:=@List.lookup_cons
abbrev Z2a:=@List.getElem?_set_ne
abbrev Z2b:=@wpAny_execs_nil
abbrev Z2c:=@List.mem_map
abbrev Z2d:=@Nat.lt_of_le_of_lt
abbrev Z2h:=@List.find?_cons
abbrev Z2k:=@PyProof.Rows.slot_tuple_getitem
abbrev Z2l:=@List.take_of_length_le
abbrev Z2q:=@PyProof.Rows.boot_dict
end
noncomputable section
open PySem.W (Frag findIn nsIn mroIn kitOne keepIn typeIn hideAll isFn plainGet isClsIn hasDictIn exmOne plainOver makesIn clsIn fnOf emptyDict instObj excIn kitAny takesIn specialIn subIn codeIn)
set_option Elab.async false
set_option bootstrap.genMatcherCode false
set_option linter.all false
set_option maxRecDepth 100000
set_option maxHeartbeats 4000000
namespace L2
open PySem PySem.Spec PyProof.Rows
abbrev Key:=Sum Int Str
def B2r:Key->Value->Bool
 | .inl k,v=>Value.isInt k v
 | .inr x,v=>Value.isStrOf x v
def keyH (w:World):Key->Int
 | .inl k=>hashInt k
 | .inr x=>hashStr w x
theorem A1h:∀{k:Key} {v:Value},B2r k v=true->(∃i t,k=Sum.inl i/\v=Value.int i t)\/(∃x t,k=Sum.inr x/\v=Value.str x t)
 | .inl i,v,h=>by
  obtain ⟨t,e⟩:=Value.isInt_shape (k:=i) (v:=v) h;exact .inl ⟨i,t,rfl,e⟩
 | .inr x,v,h=>by
  obtain ⟨t,e⟩:=Value.isStrOf_shape (x:=x) (v:=v) h;exact .inr ⟨x,t,rfl,e⟩
theorem B5r (i:Int) (t:Tok):B2r (.inl i) (.int i t)=true:=by simp [B2r,Value.isInt]
theorem B4d (x:Str) (t:Tok):B2r (.inr x) (.str x t)=true:=by simp [B2r,Value.isStrOf]
theorem C2z (a b:Int):decide ((Sum.inl a:Key)=Sum.inl b)=(a == b):=by
 by_cases e:a=b
 ·subst e;simp
 ·have h:¬(Sum.inl a:Key)=Sum.inl b:=λq=>e (Sum.inl.inj q);rw [Z1j h];exact (Z22.mpr e).symm
theorem C2x (a b:Str):decide ((Sum.inr a:Key)=Sum.inr b)=decide (a=b):=by
 by_cases e:a=b
 ·subst e;simp
 ·have h:¬(Sum.inr a:Key)=Sum.inr b:=λq=>e (Sum.inr.inj q);rw [Z1j h,Z1j e]
theorem C3j (a:Int) (b:Str):decide ((Sum.inl a:Key)=Sum.inr b)=false:=Z1j (λq=>nomatch q)
theorem C3c (a:Str) (b:Int):decide ((Sum.inr a:Key)=Sum.inl b)=false:=Z1j (λq=>nomatch q)
def A0t (prog:Program) (w:World):PySem.KeyKind prog w Key where
 is:=B2r
 hash:=keyH w
 inj:=λv a b ha hb=>by
  rcases A1h ha with ⟨i,t,rfl,rfl⟩ | ⟨x,t,rfl,rfl⟩
  ·rcases A1h hb with ⟨j,u,rfl,e⟩ | ⟨y,u,rfl,e⟩
   ·injection e with e1 _;rw [e1]
   ·exact nomatch e
  ·rcases A1h hb with ⟨j,u,rfl,e⟩ | ⟨y,u,rfl,e⟩
   ·exact nomatch e
   ·injection e with e1 _;rw [e1]
 byValue:=λk v h=>by
  rcases A1h h with ⟨i,t,rfl,rfl⟩ | ⟨x,t,rfl,rfl⟩ <;> rfl
 pyHash:=λhv h=>by
  rcases A1h hv with ⟨i,t,rfl,rfl⟩ | ⟨x,t,rfl,rfl⟩
  ·exact wpAny_pyHash_int h
  ·exact wpAny_pyHash_str h
 eqBool:=λhu hv h=>by
  rcases A1h hu with ⟨i,t,rfl,rfl⟩ | ⟨x,t,rfl,rfl⟩
  ·rcases A1h hv with ⟨j,u,rfl,rfl⟩ | ⟨y,u,rfl,rfl⟩
   ·rw [C2z] at h;exact wpAny_eqBool_int h
   ·rw [C3j] at h;exact SeqAt.EqAt.int_str i t y u _ _ _ _ h
  ·rcases A1h hv with ⟨j,u,rfl,rfl⟩ | ⟨y,u,rfl,rfl⟩
   ·rw [C3c] at h;exact SeqAt.EqAt.str_int x t j u _ _ _ _ h
   ·rw [C2x] at h;exact wpAny_eqBool_str h
 «strs»:=λk x t v h=>by
  rcases A1h h with ⟨i,u,rfl,e⟩ | ⟨y,u,rfl,e⟩
  ·exact nomatch e
  ·injection e with e1 _;subst e1;cases v <;> rfl
theorem B0v (prog:Program) (w:World) (i:Int) (t:Tok):(A0t prog w).is (.inl i) (.int i t)=true:=B5r i t
theorem B0w (prog:Program) (w:World) (x:Str) (t:Tok):(A0t prog w).is (.inr x) (.str x t)=true:=B4d x t
inductive V where
 | non | bl (b:Bool) | int (i:Int) | str (x:Str) | byt (b:Array UInt8) | flt (b:UInt64) | ref (a:Addr) | ty (n:String)
 deriving DecidableEq
def A1l:V->Value->Prop
 | .non,u=>u=Value.none
 | .bl b,u=>u=Value.bool b
 | .int i,u=>∃t,u=Value.int i t
 | .str x,u=>∃t,u=Value.str x t
 | .byt b,u=>∃t,u=Value.bytes b t
 | .flt b,u=>∃t,u=Value.float b t
 | .ref a,u=>u=Value.ref a
 | .ty n,u=>u=Value.type n
abbrev A1k:List V->List Value->Prop:=Paired A1l
theorem A1k.length {xs:List V} {us:List Value} (r:A1k xs us):xs.length=us.length:=Paired.length r
theorem A1k.get:∀{xs:List V} {us:List Value} {i:Nat} {x:V},A1k xs us->xs[i]? =some x->∃u,us[i]? =some u/\A1l x u
 | _,_,_,_,.nil,e=>by simp at e
 | _,_,0,_,.cons r _,e=>by simp at e;subst e;exact ⟨_,rfl,r⟩
 | _,_,i+1,x,.cons _ t,e=>by
  obtain ⟨u,h1,h2⟩:=A1k.get (i:=i) (x:=x) t (by simpa using e);exact ⟨u,by simpa using h1,h2⟩
theorem A1k.set {x:V} {u:Value} (r:A1l x u):∀{xs:List V} {us:List Value} (i:Nat),A1k xs us->A1k (xs.set i x) (us.set i u)
 | _,_,_,.nil=> .nil
 | _,_,0,.cons _ t=> .cons r t
 | _,_,i+1,.cons q t=> .cons q (A1k.set r i t)
theorem A1k.append:∀{xs ys:List V} {us ws:List Value},A1k xs us->A1k ys ws->A1k (xs++ys) (us++ws)
 | _,_,_,_,.nil,s=>s
 | _,_,_,_,.cons r t,s=> .cons r (A1k.append t s)
theorem A1k.take:∀{xs:List V} {us:List Value} (n:Nat),A1k xs us->A1k (xs.take n) (us.take n)
 | _,_,0,_=> .nil
 | _,_,_+1,.nil=> .nil
 | _,_,n+1,.cons r t=> .cons r (A1k.take n t)
theorem A1k.drop:∀{xs:List V} {us:List Value} (n:Nat),A1k xs us->A1k (xs.drop n) (us.drop n)
 | _,_,0,r=>r
 | _,_,_+1,.nil=> .nil
 | _,_,n+1,.cons _ t=>A1k.drop n t
def A9d:Option V->Option Value->Prop
 | some v,some u=>A1l v u
 | none,none=>True
 | _,_=>False
def KV {κ:Type}:List (κ×V)->List (κ×Value)->Prop:=Paired λ(p:κ×V) (q:κ×Value)=>p.1=q.1/\A1l p.2 q.2
def kV:Key->V
 | .inl i=> .int i
 | .inr x=> .str x
inductive HO where
 | lst (xs:List V)
 | tup (xs:List V)
 | dK (kvs:List (Key×V)) | dT (kvs:List (List Key×V))
 | set (S:Int->Bool) (n:Nat)
 | ins (C dx:Addr) (fs:List (Str×V))
 | own (x:Addr)
 | xd (fs:List (Str×V))
 | met (f x:Addr)
 | rng (lo hi:Int)
 | frz (o:Obj) (u:HO)
 | tbl (ps:Array Value)
 | ext (φ:Heap->Prop)
abbrev Hp:=Addr->Option HO
def upd (H:Hp) (a:Addr) (o:HO):Hp:=λb=>if b=a then some o else H b
theorem A0d {H:Hp} {a:Addr} {o:HO}:upd H a o a=some o:=by unfold upd;rw [Z12 rfl]
theorem A0g {H:Hp} {a b:Addr} {o:HO} (h:b≠a):upd H a o b=H b:=by unfold upd;rw [Z0t h]
theorem C0o {H:Hp} {a:Addr} {o u:HO}:upd (upd H a o) a u=upd H a u:=by
 funext b;unfold upd;split <;> rfl
theorem B2z {H:Hp} {a b:Addr} {o u:HO} (h:H a=some o) (h':H b=some u) (d:o≠u):a≠b:=by
 intro e;subst e;rw [h] at h';exact d (Z1a h')
theorem A0i {H:Hp} {a b:Addr} {o:HO} (h:H a=some o) (h':H b=none):a≠b:=by
 intro e;subst e;rw [h] at h';cases h'
section
variable (P:Program) (w:World)
def A2a (H:Hp) (h:Heap) (a:Addr):HO->Prop
 | .lst xs=>xs.length<=sizeLine/\∃(its:List Value) (n:Nat),A1k xs its/\h.get? a=some { cls:= .type "list",data:= .seq its.toArray n }
 | .tup xs=>xs.length<=sizeLine/\∃its:List Value,A1k xs its/\IsTup h a its.toArray
 | .dK kvs=>kvs.length<=sizeLine/\(a == sysModules)=false/\∃vs,KV kvs vs/\h.DictOf (A0t P w) a vs
 | .dT kvs=>kvs.length<=sizeLine/\(a == sysModules)=false/\∃xs:List (List Key×Addr×Value),
   Paired (λ(p:List Key×V) (q:List Key×Addr×Value)=>p.1=q.1/\H q.2.1=some (.tup (p.1.map kV))/\A1l p.2 q.2.2) kvs xs/\
   ∃o es ep,h.get? a=some o/\o.ExactDict/\o.data= .dict es ep/\es.toList=xs.map (entryOfKey (tupleKind (A0t P w)))/\(xs.map (·.1)).Nodup
 | .set S n=>h.SetOf (intKind P w) a S n
 | .ins C dx fs=>H dx=some (.own a)/\fs.length<=1000/\dx≠a/\h.get? a=some (instObj C dx)/\
   ∃mA,h.Ns1 dx mA/\(∀f,A9d (fs.lookup f) (mA f))/\PySem.Within mA (fs.map (·.1))
 | .own _=>∃o,h.get? a=some o
 | .xd fs=>∃mA,h.Ns1 a mA/\∀f,A9d (fs.lookup f) (mA f)
 | .rng lo hi=>∃t u v,h.get? a=some { cls:= .type "range",data:= .fields #[.int lo t,.int hi u,.int 1 v] }
 | .frz o u=>h.get? a=some o/\A2a H h a u
 | .tbl ps=>h.get? a=some { cls:= .none,data:= .fields ps }
 | .met f x=>h.get? a=some (PySem.W.methodObj (.ref f) (.ref x))
 | .ext φ=>φ h/\(∃o,h.get? a=some o)/\∀h1 h2:Heap,φ h1->(∀o,h1.get? a=some o->h2.get? a=some o)->φ h2
def HOk (H:Hp) (h:Heap):Prop:=∀a o,H a=some o->A2a P w H h a o
end
section
variable {P:Program} {w:World} {H H':Hp} {h h':Heap} {a:Addr} {o:HO}
theorem A2a.lt (x:A2a P w H h a o):a<h.objs.size:=by
 cases o with
 | lst xs=>obtain ⟨_,_,_,_,e⟩:=x;exact Z0a e
 | tup xs=>obtain ⟨_,_,_,p⟩:=x;exact p.lt
 | dK kvs=>obtain ⟨_,_,_,_,o,_,_,e,_⟩:=x;exact Z0a e
 | dT kvs=>obtain ⟨_,_,_,_,o,_,_,e,_⟩:=x;exact Z0a e
 | set S n=>obtain ⟨o,_,_,_,e,_⟩:=x;exact Z0a e
 | ins C dx fs=>obtain ⟨_,_,_,e,_⟩:=x;exact Z0a e
 | own y=>obtain ⟨_,e⟩:=x;exact Z0a e
 | xd fs=>obtain ⟨_,⟨_,_,_,e,_⟩,_⟩:=x;exact Z0a e
 | rng lo hi=>obtain ⟨_,_,_,e⟩:=x;exact Z0a e
 | frz ob u=>obtain ⟨e,_⟩:=x;exact Z0a e
 | tbl ps=>exact Z0a (show h.get? a=some _ from x)
 | met f y=>exact Z0a (show h.get? a=some _ from x)
 | ext φ=>obtain ⟨_,⟨_,e⟩,_⟩:=x;exact Z0a e
theorem Paired.mapP {α β:Type} {F G:α->β->Prop}:∀{l₁:List α} {l₂:List β},Paired F l₁ l₂->(∀a b,F a b->G a b)->Paired G l₁ l₂
 | _,_,.nil,_=> .nil
 | _,_,.cons r t,f=> .cons (f _ _ r) (Paired.mapP t f)
theorem A2a.stay (x:A2a P w H h a o) (k:∀b u,(b=a\/H b=some (.own a))->h.get? b=some u->h'.get? b=some u)
  (ho:∀b,H b=some (.own a)->H' b=some (.own a)) (ht:∀b xs,H b=some (.tup xs)->H' b=some (.tup xs)):A2a P w H' h' a o:=by
 induction o with
 | lst xs=>obtain ⟨z,its,n,r,e⟩:=x;exact ⟨z,its,n,r,k _ _ (.inl rfl) e⟩
 | tup xs=>obtain ⟨z,its,r,ob,e,c⟩:=x;exact ⟨z,its,r,ob,k _ _ (.inl rfl) e,c⟩
 | dK kvs=>obtain ⟨z,y,vs,r,ob,es,ep,e,c⟩:=x;exact ⟨z,y,vs,r,ob,es,ep,k _ _ (.inl rfl) e,c⟩
 | dT kvs =>
  obtain ⟨z,y,xs,r,ob,es,ep,e,c⟩:=x;exact ⟨z,y,xs,Paired.mapP r λp q z=>⟨z.1,ht _ _ z.2.1,z.2.2⟩,ob,es,ep,k _ _ (.inl rfl) e,c⟩
 | set S n=>obtain ⟨ob,es,ep,t,e,c⟩:=x;exact ⟨ob,es,ep,t,k _ _ (.inl rfl) e,c⟩
 | ins C dx fs =>
  obtain ⟨d,z,ne,e,mA,⟨od,es,ep,e2,c⟩,r⟩:=x;exact ⟨ho _ d,z,ne,k _ _ (.inl rfl) e,mA,⟨od,es,ep,k _ _ (.inr d) e2,c⟩,r⟩
 | own y=>obtain ⟨ob,e⟩:=x;exact ⟨ob,k _ _ (.inl rfl) e⟩
 | xd fs=>obtain ⟨mA,⟨od,es,ep,e,c⟩,r⟩:=x;exact ⟨mA,⟨od,es,ep,k _ _ (.inl rfl) e,c⟩,r⟩
 | rng lo hi=>obtain ⟨t,u,v,e⟩:=x;exact ⟨t,u,v,k _ _ (.inl rfl) e⟩
 | frz ob u ih=>obtain ⟨e,q⟩:=x;exact ⟨k _ _ (.inl rfl) e,ih q⟩
 | tbl ps =>
  have e:h.get? a=some { cls:= .none,data:= .fields ps }:=x;show h'.get? a=some { cls:= .none,data:= .fields ps };exact k a _ (.inl rfl) e
 | met f y =>
  have e:h.get? a=some (PySem.W.methodObj (.ref f) (.ref y)):=x;show h'.get? a=some (PySem.W.methodObj (.ref f) (.ref y));exact k a _ (.inl rfl) e
 | ext φ=>obtain ⟨p,⟨o,e⟩,st⟩:=x;exact ⟨st _ _ p λo q=>k _ _ (.inl rfl) q,⟨o,k _ _ (.inl rfl) e⟩,st⟩
theorem HOk.lt (x:HOk P w H h) (e:H a=some o):a<h.objs.size:=(x a o e).lt
theorem HOk.fresh (x:HOk P w H h) (e:h.objs.size<=a):H a=none:=by
 cases q:H a with
 | none=>rfl
 | some u=>exact absurd (Z0q (x.lt q) e) (Nat.lt_irrefl _)
theorem HOk.kept (x:HOk P w H h) (k:∀b u,h.get? b=some u->h'.get? b=some u):HOk P w H h':=λa o e =>
 (x a o e).stay (λb u _ q=>k b u q) (λ_ q=>q) λ_ _ q=>q
theorem HOk.laid (x:HOk P w H h) (k:∀b u,h.get? b=some u->h'.get? b=some u) (hp:h.objs.size<=a) (new:A2a P w (upd H a o) h' a o):HOk P w (upd H a o) h':=λb u e=>by
 have hn:=x.fresh hp;by_cases hb:b=a
 ·subst hb;rw [A0d] at e;cases e;exact new
 ·rw [A0g hb] at e;exact (x b u e).stay (λc v _ q=>k c v q) (λc q=>by rw [A0g (A0i q hn)];exact q) λc xs q=>by rw [A0g (A0i q hn)];exact q
end
def Rd (H:Hp) (a:Addr) (u:HO):Prop:=H a=some u\/∃o,H a=some (.frz o u)
theorem Rd.ok {P:Program} {w:World} {H:Hp} {h:Heap} {a:Addr} {u:HO} (r:Rd H a u) (x:HOk P w H h):A2a P w H h a u:=by
 rcases r with r | ⟨o,r⟩
 ·exact x a u r
 ·obtain ⟨_,q⟩:=x a _ r;exact q
def Mut:Option HO->Prop
 | some (.lst _)=>True
 | some (.dK _)=>True
 | some (.dT _)=>True
 | some (.set _ _)=>True
 | some (.ins _ _ _)=>True
 | some (.ext _)=>True
 | _=>False
section
variable {P:Program} {w:World} {H:Hp} {h h':Heap} {x e:Addr} {o':HO}
theorem HOk.write (ok:HOk P w H h) (mu:Mut (H x)) (he:e=x\/H e=some (.own x)) (k:∀b u,b≠e->h.get? b=some u->h'.get? b=some u) (heo:∃u,h'.get? e=some u)
  (new:A2a P w (upd H x o') h' x o'):HOk P w (upd H x o') h':=λb u q=>by
 have nown:∀c y,H c=some (.own y)->c≠x:=λc y r z=>by subst z;rw [r] at mu;exact mu
 have ntup:∀c xs,H c=some (.tup xs)->c≠x:=λc xs r z=>by subst z;rw [r] at mu;exact mu
 by_cases hb:b=x
 ·subst hb;rw [A0d] at q;cases q;exact new
 ·rw [A0g hb] at q;by_cases hbe:b=e
  ·have q':H b=some (.own x):=by
    rcases he with z | z
    ·exact absurd (hbe.trans z) hb
    ·rw [hbe];exact z
   rw [q] at q';cases q';obtain ⟨v,hv⟩:=heo;exact ⟨v,by rw [hbe];exact hv⟩
  ·refine (ok b u q).stay (λc v hc r=>k c v ?_ r) (λc r=>by rw [A0g (nown c b r)];exact r) λc xs r=>by rw [A0g (ntup c xs r)];exact r
   rcases hc with rfl | hc
   ·exact hbe
   ·rintro rfl;rcases he with z | z
    ·exact nown c b hc z
    ·rw [hc] at z;cases z;exact hb rfl
end
structure Un (fs ex:List Addr) (H H':Hp) (h h':Heap):Prop where
 keep:∀b o,h.get? b=some o->H b=none->b∉fs->b∉ex->h'.get? b=some o
 slot:∀b o,h.get? b=some o->H b=none->b∈fs->b∉ex->∃sl,h'.get? b=some { o with slots:=sl }
 free:∀b o,h.get? b=some o->H b=none->b∉ex->H' b=none
 there:∀b o,h.get? b=some o->b∉ex->∃o',h'.get? b=some o'
 tups:∀b xs,H b=some (.tup xs)->H' b=some (.tup xs)
 frzs:∀b o u,H b=some (.frz o u)->H' b=some (.frz o u)
 tbls:∀b ps,H b=some (.tbl ps)->∃more,H' b=some (.tbl (ps++more))
section
variable {fs fs' ex ex':List Addr} {H H1 H2:Hp} {h h1 h2 h':Heap} {a x e:Addr} {o:HO}
theorem Un.any (u:Un fs ex H H1 h h1) {b:Addr} {ob:Obj} (q:h.get? b=some ob) (n:H b=none) (hx:b∉ex):∃sl,h1.get? b=some { ob with slots:=sl }:=by
 by_cases hb:b∈fs
 ·exact u.slot b ob q n hb hx
 ·exact ⟨ob.slots,u.keep b ob q n hb hx⟩
theorem Un.kept (k:∀b u,h.get? b=some u->h'.get? b=some u):Un fs ex H H h h' :=
 ⟨λb ob q _ _ _=>k b ob q,λb ob q _ _ _=>⟨ob.slots,k b ob q⟩,λ_ _ _ n _=>n,λb ob q _=>⟨ob,k b ob q⟩,λ_ _ q=>q,λ_ _ _ q=>q,λ_ ps q=>⟨#[],by rw [q];simp⟩⟩
theorem Un.refl:Un fs ex H H h h:=Un.kept λ_ _ q=>q
theorem Un.laid (k:∀b u,h.get? b=some u->h'.get? b=some u) (hp:h.objs.size<=a) (hn:H a=none):Un fs ex H (upd H a o) h h' where
 keep:=λb u q _ _ _=>k b u q
 slot:=λb u q _ _ _=>⟨u.slots,k b u q⟩
 free:=λb u q n _=>by rw [A0g (Z0h (Z0q (Z0a q) hp))];exact n
 there:=λb u q _=>⟨u,k b u q⟩
 tups:=λb xs q=>by rw [A0g (A0i q hn)];exact q
 frzs:=λb u xs q=>by rw [A0g (A0i q hn)];exact q
 tbls:=λb ps q=>⟨#[],by rw [A0g (A0i q hn),q];simp⟩
theorem Un.write (mu:Mut (H x)) (he:e=x\/H e=some (.own x)) (k:∀b u,b≠e->h.get? b=some u->h'.get? b=some u) (heo:∃u,h'.get? e=some u):Un fs ex H (upd H x o) h h':=by
 have hx:∀b,H b=none->b≠x:=λb n z=>by subst z;rw [n] at mu;exact mu
 have hb:∀b,H b=none->b≠e:=λb n z=>by
  subst z;rcases he with r | r
  ·exact hx b n r
  ·rw [n] at r;cases r
 have hm:∀b u,H b=some u->¬Mut (some u)->b≠x:=λb u q nm z=>by subst z;rw [q] at mu;exact nm mu
 refine ⟨λb u q n _ _=>k b u (hb b n) q,λb u q n _ _=>⟨u.slots,k b u (hb b n) q⟩,λb u q n _=>by rw [A0g (hx b n)];exact n,λb u q _=> ?_,
  λb xs q=>by rw [A0g (hm b _ q λz=>z)];exact q,λb u xs q=>by rw [A0g (hm b _ q λz=>z)];exact q,λb ps q=>⟨#[],by rw [A0g (hm b _ q λz=>z),q];simp⟩⟩
 by_cases hbe:b=e
 ·subst hbe;exact heo
 ·exact ⟨u,k b u hbe q⟩
end
def trk (h:Heap) (H:Hp):List Addr:=(List.range h.objs.size).filter λa=>(H a).isSome
def B8e (h:Heap) (H:Hp):Heap:=hideAll h (trk h H)
theorem B5q (h:Heap) (H:Hp):(B8e h H).objs.size=h.objs.size:=PySem.W.hideAll_size _ _
theorem B6x {h:Heap} {H:Hp} {b:Addr} {o:Obj} (e:h.get? b=some o) (n:H b=none):(B8e h H).get? b=some o :=
 PySem.W.hideAll_get _ e λhm=>by
  have q:(H b).isSome=true:=(List.mem_filter.mp hm).2;rw [n] at q;simp at q
theorem B9g {h:Heap} {H:Hp} {b:Addr} {o:Obj} (e:(B8e h H).get? b=some o):h.get? b=some o/\H b=none:=by
 have e':h.get? b=some o:=PySem.W.of_hideAll (trk h H) e;refine ⟨e',?_⟩
 cases q:H b with
 | none=>rfl
 | some x =>
  have hm:b∈trk h H:=List.mem_filter.mpr ⟨List.mem_range.mpr (Z0a e'),by simp [q]⟩;have z:(B8e h H).get? b=none:=PySem.W.hideAll_none (trk h H) hm;rw [z] at e;cases e
structure Mod (K:Frag) (mg:Str->Option Value) (base:Heap):Prop where
 kin:K.In base
 glob:base.Ns mainGlobals mg
 blt:∃mb,base.Ns builtinsNs mb/\∀x:Str,x≠"__name__"->mb x=bootBuiltins x
 nolimit:base.NoLimit
structure Cx where
 prog:Program
 w:World
 K:Frag
 mg:Str->Option Value
 base:Heap
 A:Around
 N:List Str
 s₀:Shared
 H₀:Hp
 env:Env
 outer:List Env
 stack:List Env
 ex:List Addr
 fn:Str->Bool
 calm:Bool
 pn:List (Addr×Obj)
 xe:Value->Shared->Prop
def frs (l:List Env):List Addr:=l.filterMap (·.frame)
abbrev Cx.fs (X:Cx):List Addr:=frs X.outer
def Vis (sc:Scope) (x:Str):Prop:=sc.names.lookup x=some .local\/sc.names.lookup x=some .cell\/sc.names.lookup x=some .free
def Loc (sc:Scope) (x:Str):Prop:=sc.names.lookup x=some .local\/sc.names.lookup x=some .cell
def Look (env:Env) (h:Heap) (m:Str->Option Value) (x:Str) (u:Value):Prop :=
 (env.kindOf x=some .local/\m x=some u)\/((env.kindOf x=some .cell\/env.kindOf x=some .free)/\∃c,env.cells.lookup x=some c/\h.IsCell c (some u))
structure Cx.Ok (X:Cx):Prop where
 mod:Mod X.K X.mg X.base
 kind:X.env.scope.kind= .function
 glob:X.env.globals=mainGlobals
 blt:X.env.builtins=builtinsNs
 above:X.s₀.heap.objs.size<=X.env.locals
 inj:∀x y c,X.env.cells.lookup x=some c->X.env.cells.lookup y=some c->x=y
 has:∀x,(X.env.kindOf x=some .cell\/X.env.kindOf x=some .free)->∃c,X.env.cells.lookup x=some c
 cab:∀x c,X.fn x=true->X.env.cells.lookup x=some c->X.s₀.heap.objs.size<=c
 hd:X.calm=true->X.A.handled=none
 frames:X.A.frames=some X.stack
 stk:X.stack=X.outer\/(X.stack=X.env::X.outer/\X.env.frame=some X.env.locals)
 exf:∀b∈X.ex,b≠X.env.locals/\∀x c,X.env.cells.lookup x=some c->c≠b
 bs:∀b o,X.base.get? b=some o->X.s₀.heap.get? b=some o/\X.H₀ b=none
 bsz:X.base.objs.size<=X.s₀.heap.objs.size
 noex:∀b o,X.base.get? b=some o->b∉X.ex
 exfs:∀b∈X.ex,b∉X.fs
 funs:X.s₀.heap.FunFrames X.base X.outer
 frf:∀b∈X.fs,X.H₀ b=none
structure Inv (X:Cx) (pins:List (Addr×Obj)) (σ:List (Option V)) (H:Hp) (s:Shared):Prop where
 ok:X.Ok
 os:s.os=X.s₀.os
 bare:AllBare s.gens
 base:Un X.fs X.ex X.H₀ H X.s₀.heap s.heap
 loc:∃m,s.heap.Ns X.env.locals m/\∀(i:Nat) (x:Str) (v:V),X.N[i]? =some x->σ[i]? =some (some v)->Vis X.env.scope x->∃u,A1l v u/\Look X.env s.heap m x u
 cell:∀x c,X.env.cells.lookup x=some c->∃v,s.heap.IsCell c v
 free:H X.env.locals=none
 freeC:∀x c,X.env.cells.lookup x=some c->H c=none
 pin:∀p∈X.pn++pins,s.heap.get? p.1=some p.2/\H p.1=none/\p.1≠X.env.locals/\p.1∉X.fs/\∀v,p.2.data≠.cell v
 hok:HOk X.prog X.w H s.heap
 len:σ.length=X.N.length
section
variable {X:Cx} {pins:List (Addr×Obj)} {σ:List (Option V)} {H H':Hp} {s:Shared} {h':Heap}
theorem Cx.Ok.nofr (ok:X.Ok) {b:Addr} {o:Obj} (e:X.base.get? b=some o):b∉X.fs:=λhb=>by
 have:=(ok.funs.mem hb).1;rw [e] at this;cases this
theorem Inv.bs (I:Inv X pins σ H s):∀b o,X.base.get? b=some o->s.heap.get? b=some o/\H b=none:=λb o e =>
 ⟨I.base.keep b o (I.ok.bs b o e).1 (I.ok.bs b o e).2 (I.ok.nofr e) (I.ok.noex b o e),I.base.free b o (I.ok.bs b o e).1 (I.ok.bs b o e).2 (I.ok.noex b o e)⟩
theorem Inv.bk (I:Inv X pins σ H s):∀b o,X.base.get? b=some o->s.heap.get? b=some o:=λb o e=>(I.bs b o e).1
theorem Inv.mod (I:Inv X pins σ H s):Mod X.K X.mg X.base:=I.ok.mod
theorem Inv.kIn (I:Inv X pins σ H s):X.K.In s.heap:=I.ok.mod.kin.keeps I.bk
theorem Inv.lt (I:Inv X pins σ H s):X.env.locals<s.heap.objs.size:=let ⟨_,hn,_⟩:=I.loc;hn.lt
theorem Inv.sz (I:Inv X pins σ H s):X.s₀.heap.objs.size<=s.heap.objs.size:=Z1n I.ok.above (Nat.le_of_lt I.lt)
theorem Inv.nofs (I:Inv X pins σ H s) {a:Addr} (h:s.heap.objs.size<=a):a∉X.fs:=λhb=>by
 obtain ⟨_,o,ho,_⟩:=I.ok.funs.mem hb;exact absurd (Z0q (Z0a ho) (Z1n I.sz h)) (Nat.lt_irrefl _)
theorem Inv.cne (I:Inv X pins σ H s):∀x c,X.env.cells.lookup x=some c->c≠X.env.locals:=λx c e z=>by
 obtain ⟨v,o,ho,hd⟩:=I.cell x c e;obtain ⟨m,⟨o',es,ep,ho',hd',_⟩,_⟩:=I.loc;rw [z,ho'] at ho;cases ho;rw [hd'] at hd;cases hd
theorem Inv.funs (I:Inv X pins σ H s):s.heap.FunFrames X.base X.outer:=by
 have all:∀(l:List Env),(∀b∈frs l,b∈X.fs)->X.s₀.heap.FunFrames X.base l->s.heap.FunFrames X.base l:=by
  intro l
  induction l with
  | nil=>intro _ _;trivial
  | cons env r ih =>
   intro hs hl;obtain ⟨hk,⟨L,o,hf,hn,ho,hd⟩,hr⟩:=hl;have hL:L∈X.fs:=hs L (by unfold frs;rw [List.filterMap_cons,hf];exact Z27);obtain ⟨sl,e⟩:=I.base.slot L o ho (I.ok.frf L hL) hL λz=>I.ok.exfs L z hL;exact ⟨hk,⟨L,_,hf,hn,e,hd⟩,ih (λb hb=>hs b (by unfold frs;rw [List.filterMap_cons,hf];exact Z1f _ hb)) hr⟩
 exact all X.outer (λ_ hb=>hb) I.ok.funs
theorem Inv.stack (I:Inv X pins σ H s):s.heap.FunFrames X.base X.stack:=by
 rcases I.ok.stk with e | ⟨e,hf⟩
 ·rw [e];exact I.funs
 ·rw [e];obtain ⟨m,hn,_⟩:=I.loc;refine .cons (by rw [I.ok.kind];decide) hf hn ?_ I.funs;exact Heap.get?_none_of_le (Z1n I.ok.bsz I.ok.above)
theorem Inv.stkSub (I:Inv X pins σ H s):∀b∈frs X.stack,b∈X.env.locals::X.fs:=λb hb=>by
 rcases I.ok.stk with e | ⟨e,hf⟩
 ·rw [e] at hb;exact Z1f _ hb
 ·rw [e] at hb;unfold frs at hb;rw [List.filterMap_cons,hf] at hb;exact hb
theorem Inv.stkFree (I:Inv X pins σ H s):∀b∈frs X.stack,H b=none:=λb hb=>by
 rcases Z0e.mp (I.stkSub b hb) with e | hb
 ·rw [e];exact I.free
 ·obtain ⟨_,o,ho,_⟩:=I.ok.funs.mem hb;exact I.base.free b o ho (I.ok.frf b hb) λz=>I.ok.exfs b z hb
theorem Inv.step {g':Array GenState} {t':Nat} {d':Drawn} {ch:List Addr} (I:Inv X pins σ H s)
  (hch:∀b∈ch,(b∈X.ex\/X.s₀.heap.objs.size<=b)/\b≠X.env.locals/\(∀x c,X.env.cells.lookup x=some c->c≠b)/\∀p∈X.pn++pins,p.1≠b)
  (keep:∀b o,b≠X.env.locals->b∉X.fs->b∉ch->s.heap.get? b=some o->H b=none->h'.get? b=some o)
  (slot:∀b o,b≠X.env.locals->b∈X.fs->b∉ch->s.heap.get? b=some o->H b=none->∃sl,h'.get? b=some { o with slots:=sl }) (free:∀b o,b∉ch->s.heap.get? b=some o->H b=none->H' b=none)
  (there:∀b o,b∉ch->s.heap.get? b=some o->∃o',h'.get? b=some o')
  (tups:∀b xs,H b=some (.tup xs)->H' b=some (.tup xs)) (frzs:∀b o u,H b=some (.frz o u)->H' b=some (.frz o u)) (tbls:∀b ps,H b=some (.tbl ps)->∃more,H' b=some (.tbl (ps++more)))
  (ns:∀m,s.heap.Ns X.env.locals m->h'.Ns X.env.locals m) (hok:HOk X.prog X.w H' h') (hg:AllBare g') :
  Inv X pins σ H' { s with heap:=h',gens:=g',drawn:=d',toks:=t' }:=by
 have neL:∀b o,X.s₀.heap.get? b=some o->b≠X.env.locals:=λb o e=>Z0h (Z0q (Z0a e) I.ok.above)
 have neC:∀b o,X.s₀.heap.get? b=some o->b∉X.ex->b∉ch:=λb o e hx hb=>by
  rcases (hch b hb).1 with z | z
  ·exact hx z
  ·exact absurd (Z0q (Z0a e) z) (Nat.lt_irrefl _)
 have cellK:∀x c,X.env.cells.lookup x=some c->∀v,s.heap.IsCell c v->h'.IsCell c v:=λx c e v ⟨o,ho,hd⟩=>by
  have nch:c∉ch:=λz=>(hch c z).2.2.1 x c e rfl;by_cases hc:c∈X.fs
  ·obtain ⟨sl,q⟩:=slot c o (I.cne x c e) hc nch ho (I.freeC x c e);exact ⟨_,q,hd⟩
  ·exact ⟨o,keep c o (I.cne x c e) hc nch ho (I.freeC x c e),hd⟩
 refine ⟨I.ok,I.os,hg,⟨λb o e n hb hx=> ?_,λb o e n hb hx=> ?_,λb o e n hx=> ?_,λb o e hx=> ?_,λb xs e=>tups b xs (I.base.tups b xs e),λb o xs e=>frzs b o xs (I.base.frzs b o xs e),λb ps e=> ?_⟩,?_,λx c e=> ?_,?_,λx c e=> ?_,λp hp=> ?_,hok,I.len⟩
 ·exact keep b o (neL b o e) hb (neC b o e hx) (I.base.keep b o e n hb hx) (I.base.free b o e n hx)
 ·obtain ⟨sl,e1⟩:=I.base.slot b o e n hb hx;obtain ⟨sl',e2⟩:=slot b _ (neL b o e) hb (neC b o e hx) e1 (I.base.free b o e n hx);exact ⟨sl',e2⟩
 ·obtain ⟨o',e1⟩:=I.base.there b o e hx;exact free b o' (neC b o e hx) e1 (I.base.free b o e n hx)
 ·obtain ⟨o',e1⟩:=I.base.there b o e hx;exact there b o' (neC b o e hx) e1
 ·obtain ⟨m1,e1⟩:=I.base.tbls b ps e;obtain ⟨m2,e2⟩:=tbls b _ e1;exact ⟨m1++m2,by rw [e2,Array.append_assoc]⟩
 ·obtain ⟨m,hn,hl⟩:=I.loc;refine ⟨m,ns m hn,λi x v e1 e2 e3=> ?_⟩;obtain ⟨u,r,l⟩:=hl i x v e1 e2 e3;refine ⟨u,r,?_⟩;rcases l with l | ⟨k,c,e,z⟩
  ·exact .inl l
  ·exact .inr ⟨k,c,e,cellK x c e _ z⟩
 ·obtain ⟨v,z⟩:=I.cell x c e;exact ⟨v,cellK x c e v z⟩
 ·obtain ⟨m,⟨o,_,_,ho,_⟩,_⟩:=I.loc;exact free _ o (λz=>(hch _ z).2.1 rfl) ho I.free
 ·obtain ⟨v,o,ho,hd⟩:=I.cell x c e;exact free c o (λz=>(hch c z).2.2.1 x c e rfl) ho (I.freeC x c e)
 ·obtain ⟨e,n,ne,nf,d⟩:=I.pin p hp;have nch:p.1∉ch:=λz=>(hch p.1 z).2.2.2 p hp rfl;exact ⟨keep p.1 p.2 ne nf nch e n,free p.1 p.2 nch e n,ne,nf,d⟩
theorem Inv.un {t':Nat} (I:Inv X pins σ H s) (u:Un X.fs [] H H' s.heap h') (hok:HOk X.prog X.w H' h'):Inv X pins σ H' { s with heap:=h',toks:=t' }:=by
 obtain ⟨m,⟨o,es,ep,ho,r⟩,_⟩:=id I.loc;obtain ⟨sl,hL⟩:=u.any ho I.free (by simp)
 exact I.step (g':=s.gens) (d':=s.drawn) (ch:=[]) (λ_ z=>nomatch z) (λb o _ hb _ e n=>u.keep b o e n hb (by simp)) (λb o _ hb _ e n=>u.slot b o e n hb (by simp)) (λb o _ e n=>u.free b o e n (by simp)) (λb o _ e=>u.there b o e (by simp)) u.tups u.frzs u.tbls (λm' hm=>by
  obtain ⟨o',es',ep',ho',r'⟩:=hm;rw [ho] at ho';cases ho'
  exact ⟨_,es',ep',hL,r'⟩) hok I.bare
theorem Inv.call {g':Array GenState} {t':Nat} {d':Drawn} {ch:List Addr} (I:Inv X pins σ H s) (u:Un (frs X.stack) ch H H' s.heap h') (hok:HOk X.prog X.w H' h') (hg:AllBare g')
  (hch:∀b∈ch,(b∈X.ex\/X.s₀.heap.objs.size<=b)/\b≠X.env.locals/\(∀x c,X.env.cells.lookup x=some c->c≠b)/\∀p∈X.pn++pins,p.1≠b) :
  Inv X pins σ H' { s with heap:=h',gens:=g',drawn:=d',toks:=t' }:=by
 obtain ⟨m,⟨o,es,ep,ho,r⟩,_⟩:=id I.loc;obtain ⟨sl,hL⟩:=u.any ho I.free λz=>(hch _ z).2.1 rfl
 exact I.step (ch:=ch) hch (λb o hL hb hc e n=>u.keep b o e n (λz=>(Z0e.mp (I.stkSub b z)).elim hL hb) hc) (λb o _ _ hc e n=>u.any e n hc) (λb o hc e n=>u.free b o e n hc) (λb o hc e=>u.there b o e hc) u.tups u.frzs u.tbls (λm' hm=>by
  obtain ⟨o',es',ep',ho',r'⟩:=hm;rw [ho] at ho';cases ho'
  exact ⟨_,es',ep',hL,r'⟩) hok hg
theorem Inv.turned {t':Nat} {it:Addr} (I:Inv X pins σ H s) (k:∀b o,b≠it->s.heap.get? b=some o->h'.get? b=some o) (hn:H it=none) (hL:it≠X.env.locals)
  (h1:it∈X.ex\/X.s₀.heap.objs.size<=it) (h2:∀x c,X.env.cells.lookup x=some c->c≠it) (h3:∀p∈X.pn++pins,p.1≠it):Inv X pins σ H { s with heap:=h',toks:=t' }:=by
 have nit:∀b u,H b=some u->b≠it:=λb u e z=>by rw [z,hn] at e;cases e
 refine I.step (g':=s.gens) (d':=s.drawn) (ch:=[it]) (λb hb=> ?_) (λb o _ _ hc e _=>k b o (λz=>hc (by simp [z])) e) (λb o _ _ hc e _=>⟨o.slots,k b o (λz=>hc (by simp [z])) e⟩) (λ_ _ _ _ n=>n)
  (λb o hc e=>⟨o,k b o (λz=>hc (by simp [z])) e⟩) (λ_ _ e=>e) (λ_ _ _ e=>e) (λb ps e=>⟨#[],by rw [e];simp⟩) (λm hm=> ?_) (λb u e=> ?_) I.bare
 ·have e:b=it:=by simpa using hb
  subst e;exact ⟨h1,hL,h2,h3⟩
 ·obtain ⟨o,es,ep,ho,r⟩:=hm;exact ⟨o,es,ep,k _ o (Ne.symm hL) ho,r⟩
 ·refine (I.hok b u e).stay (λc v hc q=>k c v ?_ q) (λ_ q=>q) λ_ _ q=>q;rcases hc with z | z
  ·rw [z];exact nit b u e
  ·exact nit c _ z
theorem Inv.tok (I:Inv X pins σ H s) (t:Nat):Inv X pins σ H { s with toks:=t }:=I.un (h':=s.heap) (t':=t) Un.refl I.hok
theorem Inv.kept {t':Nat} (I:Inv X pins σ H s) (k:∀b u,s.heap.get? b=some u->h'.get? b=some u):Inv X pins σ H { s with heap:=h',toks:=t' }:=I.un (Un.kept k) (I.hok.kept k)
theorem Inv.laid {a:Addr} {o:HO} {t':Nat} (I:Inv X pins σ H s) (k:∀b u,s.heap.get? b=some u->h'.get? b=some u) (hp:s.heap.objs.size<=a) (new:A2a X.prog X.w (upd H a o) h' a o) :
  Inv X pins σ (upd H a o) { s with heap:=h',toks:=t' }:=I.un (Un.laid k hp (I.hok.fresh hp)) (I.hok.laid k hp new)
theorem Inv.write {x e:Addr} {o:HO} {t':Nat} (I:Inv X pins σ H s) (mu:Mut (H x)) (he:e=x\/H e=some (.own x)) (k:∀b u,b≠e->s.heap.get? b=some u->h'.get? b=some u) (heo:∃u,h'.get? e=some u)
  (new:A2a X.prog X.w (upd H x o) h' x o):Inv X pins σ (upd H x o) { s with heap:=h',toks:=t' }:=I.un (Un.write mu he k heo) (I.hok.write mu he k heo new)
theorem Inv.weak {σ':List (Option V)} (I:Inv X pins σ H s) (hl:σ'.length=σ.length) (w:∀(i:Nat) v,σ'[i]? =some (some v)->σ[i]? =some (some v)):Inv X pins σ' H s :=
 ⟨I.ok,I.os,I.bare,I.base,let ⟨m,hn,hl'⟩:=I.loc;⟨m,hn,λi x v e1 e2 e3=>hl' i x v e1 (w i v e2) e3⟩,I.cell,I.free,I.freeC,I.pin,I.hok,hl.trans I.len⟩
theorem Inv.pins_of {pins':List (Addr×Obj)} (I:Inv X pins σ H s) (h:∀p∈pins',s.heap.get? p.1=some p.2/\H p.1=none/\p.1≠X.env.locals/\p.1∉X.fs/\∀v,p.2.data≠.cell v):Inv X pins' σ H s :=
 ⟨I.ok,I.os,I.bare,I.base,I.loc,I.cell,I.free,I.freeC,λp hp=>(Z07.mp hp).elim (λz=>I.pin p (Z05 _ z)) (h p),I.hok,I.len⟩
theorem A8o {N:List Str} (hN:N.Nodup) {i j:Nat} {x:Str} (a:N[i]? =some x) (b:N[j]? =some x):i=j:=by
 obtain ⟨h1,e1⟩:=Z03.mp a;obtain ⟨h2,e2⟩:=Z03.mp b;exact (List.getElem_inj hN).mp (e1.trans e2.symm)
theorem A9g {M:Model} {A:Around} {E:Value->Shared->Prop} {i:Nat} {x:Str} {v:V} {u:Value} {Q:Unit->Shared->Prop} (I:Inv X pins σ H s) (hN:X.N.Nodup) (hi:X.N[i]? =some x) (hx:Loc X.env.scope x) (r:A1l v u)
  (h:∀s',Inv X pins (σ.set i (some v)) H s'->(∃a,Heap.SameBut a s.heap s'.heap/\(a=X.env.locals\/X.env.cells.lookup x=some a))->Q () s') (hf:X.fn x=true\/X.env.scope.names.lookup x=some .local:=by first | exact .inl rfl | exact .inr rfl | assumption):wpAny M A (storeName X.env x u) Q E s:=by
 obtain ⟨m,hn,hl⟩:=id I.loc;have hcls:(X.env.scope.kind == .class||(X.env.scope.kind == .module&&X.env.locals != X.env.globals))=false:=by rw [I.ok.kind];rfl
 have hiσ:i<σ.length:=by rw [I.len];exact (Z03.mp hi).1
 have cne:=I.cne
 have tracked:∀{a:Addr} {h':Heap},(∃o,s.heap.get? a=some o/\H a=none)->Heap.SameBut a s.heap h'->HOk X.prog X.w H h':=λ{a h'} ha hs b ob e=>by
  obtain ⟨_,_,hfree⟩:=ha;refine (I.hok b ob e).stay (λc w' hc q=>(hs.2 c ?_).trans q) (λ_ q=>q) λ_ _ q=>q;rintro rfl;rcases hc with rfl | hc
  ·rw [hfree] at e;cases e
  ·rw [hfree] at hc;cases hc
 rcases hx with hk | hk
 ·refine wpAny_storeName_local hk hn (λh' hn' hs=> ?_) hcls;obtain ⟨oL,_,_,hoL,_⟩:=id hn;refine h _ ⟨I.ok,I.os,I.bare,⟨λb o e n hb hx=> ?_,λb o e n hb hx=> ?_,I.base.free,λb o e hx=> ?_,I.base.tups,I.base.frzs,I.base.tbls⟩,⟨_,hn',λj y v' e1 e2 e3=> ?_⟩,λy c e=> ?_,I.free,I.freeC,λp hp=> ?_,tracked ⟨oL,hoL,I.free⟩ hs,by simpa using I.len⟩ ⟨_,hs,.inl rfl⟩
  ·exact (hs.2 b (Z0h (Z0q (Z0a e) I.ok.above))).trans (I.base.keep b o e n hb hx)
  ·obtain ⟨sl,e1⟩:=I.base.slot b o e n hb hx;exact ⟨sl,(hs.2 b (Z0h (Z0q (Z0a e) I.ok.above))).trans e1⟩
  ·obtain ⟨o',e1⟩:=I.base.there b o e hx;exact ⟨o',(hs.2 b (Z0h (Z0q (Z0a e) I.ok.above))).trans e1⟩
  ·by_cases hj:j=i
   ·subst hj;rw [hi] at e1;cases e1;rw [Z23 hiσ] at e2;cases e2;exact ⟨u,r,.inl ⟨hk,by simp⟩⟩
   ·rw [Z2a (Ne.symm hj)] at e2;obtain ⟨u',r',q⟩:=hl j y v' e1 e2 e3;refine ⟨u',r',?_⟩;rcases q with ⟨k,e⟩ | ⟨k,c,e,z⟩
    ·refine .inl ⟨k,?_⟩;have:y≠x:=λe=>hj (A8o hN e1 (e▸hi));simp [this,e]
    ·exact .inr ⟨k,c,e,z.sameBut hs (cne y c e)⟩
  ·obtain ⟨w',z⟩:=I.cell y c e;exact ⟨w',z.sameBut hs (cne y c e)⟩
  ·obtain ⟨e,n,ne,nf,d⟩:=I.pin p hp;exact ⟨(hs.2 p.1 ne).trans e,n,ne,nf,d⟩
 ·have hfn:X.fn x=true:=by
   rcases hf with z | z
   ·exact z
   ·rw [z] at hk;cases hk
  obtain ⟨c,hc⟩:=I.ok.has x (.inl hk);obtain ⟨w',z⟩:=I.cell x c hc;refine wpAny_storeName_cell I.ok.kind hk hc z (λh' hc' hs=> ?_);obtain ⟨oc,hoc,hocd⟩:=id z;refine h { s with heap:=h' } ⟨I.ok,I.os,I.bare,⟨λb o e n hb hx=> ?_,λb o e n hb hx=> ?_,I.base.free,λb o e hx=> ?_,I.base.tups,I.base.frzs,I.base.tbls⟩,⟨m,hn.sameBut hs (Ne.symm (cne x c hc)),λj y v' e1 e2 e3=> ?_⟩,λy c' e=> ?_,I.free,I.freeC,λp hp=> ?_,tracked ⟨oc,hoc,I.freeC x c hc⟩ hs,by simpa using I.len⟩ ⟨c,hs,.inr hc⟩
  ·exact (hs.2 b (Z0h (Z0q (Z0a e) (I.ok.cab x c hfn hc)))).trans (I.base.keep b o e n hb hx)
  ·obtain ⟨sl,e1⟩:=I.base.slot b o e n hb hx;exact ⟨sl,(hs.2 b (Z0h (Z0q (Z0a e) (I.ok.cab x c hfn hc)))).trans e1⟩
  ·obtain ⟨o',e1⟩:=I.base.there b o e hx;exact ⟨o',(hs.2 b (Z0h (Z0q (Z0a e) (I.ok.cab x c hfn hc)))).trans e1⟩
  ·by_cases hj:j=i
   ·subst hj;rw [hi] at e1;cases e1;rw [Z23 hiσ] at e2;cases e2;exact ⟨u,r,.inr ⟨.inl hk,c,hc,hc'⟩⟩
   ·rw [Z2a (Ne.symm hj)] at e2;obtain ⟨u',r',q⟩:=hl j y v' e1 e2 e3;refine ⟨u',r',?_⟩;rcases q with q | ⟨k,c',e,z'⟩
    ·exact .inl q
    ·refine .inr ⟨k,c',e,z'.sameBut hs ?_⟩;rintro rfl;exact hj (A8o hN e1 (I.ok.inj _ _ _ e hc▸hi))
  ·by_cases hcc:c'=c
   ·subst hcc;exact ⟨_,hc'⟩
   ·obtain ⟨w2,z2⟩:=I.cell y c' e;exact ⟨w2,z2.sameBut hs hcc⟩
  ·obtain ⟨e,n,ne,nf,d⟩:=I.pin p hp;refine ⟨(hs.2 p.1 ?_).trans e,n,ne,nf,d⟩;intro q;rw [q,hoc] at e;have q':oc=p.2:=Z1a e;exact d w' (by rw [<-q'];exact hocd)
theorem A6e {M:Model} {A:Around} {E:Value->Shared->Prop} {i:Nat} {x:Str} {v:V} {u:Value} {Q:Unit->Shared->Prop} (I:Inv X pins σ H s) (hN:X.N.Nodup) (hi:X.N[i]? =some x) (hx:Loc X.env.scope x) (r:A1l v u)
  (h:∀s',Inv X pins (σ.set i (some v)) H s'->Q () s') (hf:X.fn x=true\/X.env.scope.names.lookup x=some .local:=by first | exact .inl rfl | exact .inr rfl | assumption):wpAny M A (storeName X.env x u) Q E s :=
 A9g I hN hi hx r (λs' I' _=>h s' I') hf
theorem Inv.call' {s':Shared} {ch:List Addr} (I:Inv X pins σ H s) (ho:s'.os=s.os) (u:Un (frs X.stack) ch H H' s.heap s'.heap) (hok:HOk X.prog X.w H' s'.heap) (hg:AllBare s'.gens)
  (hch:∀b∈ch,(b∈X.ex\/X.s₀.heap.objs.size<=b)/\b≠X.env.locals/\(∀x c,X.env.cells.lookup x=some c->c≠b)/\∀p∈X.pn++pins,p.1≠b):Inv X pins σ H' s':=by
 obtain ⟨h',g',d',t',o'⟩:=s';have e:o'=s.os:=ho;subst e;exact I.call (g':=g') (t':=t') (d':=d') u hok hg hch
end
abbrev XK:=Value->Option Addr->Hp->Prop
abbrev St:=List (Option V)
abbrev VK:=V->Hp->Prop
abbrev TE:=St->Hp->VK->Prop
abbrev TT:=St->Hp->(Bool->Hp->Prop)->Prop
abbrev TA:=St->Hp->(List V->Hp->Prop)->Prop
structure B4w where
 nx:St->Hp->Prop
 rt:VK
 bk:St->Hp->Prop:=λ_ _=>False
 ct:St->Hp->Prop:=λ_ _=>False
abbrev TS:=B4w->St->Hp->Prop
def EP (X:Cx) (pins:List (Addr×Obj)) (σ:St) (Q:VK) (u:Value) (s':Shared):Prop:=∃v H',Inv X pins σ H' s'/\A1l v u/\Q v H'
def TP (X:Cx) (pins:List (Addr×Obj)) (σ:St) (Q:Bool->Hp->Prop) (b:Bool) (s':Shared):Prop:=∃H',Inv X pins σ H' s'/\Q b H'
def AP (X:Cx) (pins:List (Addr×Obj)) (σ:St) (Q:List V->Hp->Prop) (us:List Value) (s':Shared):Prop:=∃vs H',Inv X pins σ H' s'/\A1k vs us/\Q vs H'
def SP (X:Cx) (pins:List (Addr×Obj)) (D:B4w) (f:Flow) (s':Shared):Prop :=
 match f with
 | .next=>∃σ' H',Inv X pins σ' H' s'/\D.nx σ' H'
 | .brk=>∃σ' H',Inv X pins σ' H' s'/\D.bk σ' H'
 | .cont=>∃σ' H',Inv X pins σ' H' s'/\D.ct σ' H'
 | .ret u=>∃v σ' H',Inv X pins σ' H' s'/\A1l v u/\D.rt v H'
def PE (X:Cx) (e:Expr) (t:TE):Prop :=
 ∀(pins:List (Addr×Obj)) (s:Shared) (σ:St) (H:Hp) (Q:VK),Inv X pins σ H s->t σ H Q->wpAny (model X.prog X.w) X.A (eval e X.env) (EP X pins σ Q) X.xe s
def PT (X:Cx) (e:Expr) (t:TT):Prop :=
 ∀(pins:List (Addr×Obj)) (s:Shared) (σ:St) (H:Hp) (Q:Bool->Hp->Prop),Inv X pins σ H s->t σ H Q->wpAny (model X.prog X.w) X.A (isTrue e X.env (eval e X.env)) (TP X pins σ Q) X.xe s
def PW (X:Cx) (e:Expr) (t:TT):Prop :=
 ∀(whole:Sem Value) (pins:List (Addr×Obj)) (s:Shared) (σ:St) (H:Hp) (Q:Bool->Hp->Prop),Inv X pins σ H s->t σ H Q->wpAny (model X.prog X.w) X.A (isTrue e X.env whole) (TP X pins σ Q) X.xe s
theorem PW.pt {X:Cx} {e:Expr} {t:TT} (h:PW X e t):PT X e t:=h _
def PA (X:Cx) (es:List Expr) (t:TA):Prop :=
 ∀(pos:Pos) (pins:List (Addr×Obj)) (s:Shared) (σ:St) (H:Hp) (Q:List V->Hp->Prop),Inv X pins σ H s->t σ H Q->wpAny (model X.prog X.w) X.A (spliced (backTo pos (starEach es X.env))) (AP X pins σ Q) X.xe s
def PS (X:Cx) (st:Stmt) (t:TS):Prop :=
 ∀(pins:List (Addr×Obj)) (s:Shared) (σ:St) (H:Hp) (D:B4w),Inv X pins σ H s->t D σ H->wpAny (model X.prog X.w) X.A (exec st X.env) (SP X pins D) X.xe s
def PSs (X:Cx) (st:List Stmt) (t:TS):Prop :=
 ∀(pins:List (Addr×Obj)) (s:Shared) (σ:St) (H:Hp) (D:B4w),Inv X pins σ H s->t D σ H->wpAny (model X.prog X.w) X.A (execs st X.env) (SP X pins D) X.xe s
theorem thn {α:Type} {t:Sem α} {Q Q':α->Shared->Prop} {M:Model} {A:Around} {E:Value->Shared->Prop} {s:Shared} (h:wpAny M A t Q E s) (hQ:∀a s,Q a s->Q' a s):wpAny M A t Q' E s:=Z10 h hQ λ_ _ x=>x
section
variable {X:Cx}
def C6b (i:Nat):TE:=λσ H Q=>∃v,σ[i]? =some (some v)/\Q v H
def tC (v:V):TE:=λ_ H Q=>Q v H
theorem C1m {i:Nat} {x:Str} {pos:Pos} (hN:X.N[i]? =some x) (hv:Vis X.env.scope x) (hd:(x == ("__debug__":Str))=false:=by decide) (hcd:(x == ("__classdict__":Str))=false:=by decide):PE X (.Name x pos) (C6b i):=by
 intro pins s σ H Q I h;obtain ⟨v,e,h⟩:=h;obtain ⟨m,hn,hl⟩:=I.loc;obtain ⟨u,r,l⟩:=hl i x v hN e hv;have fin:EP X pins σ Q u s:=⟨v,H,I,r,h⟩;rcases l with ⟨hk,hm⟩ | ⟨hk,c,hc,hcell⟩
 ·exact wpAny_Name (wpAny_loadName_local I.ok.kind hk hn hm fin) hd
 ·rcases hk with hk | hk
  ·exact wpAny_Name (wpAny_loadName_cell I.ok.kind hk hc hcell fin) hd
  ·exact wpAny_Name (wpAny_loadName_free I.ok.kind hk hc hcell fin hcd) hd
theorem A0e {i j pos}:PE X (.Constant (.int i) j pos) (tC (.int i)):=λ_ _ _ H _ I h=>wpAny_Constant_int ⟨.int i,H,I.tok _,⟨_,rfl⟩,h⟩
theorem B2v {b j pos}:PE X (.Constant (.bool b) j pos) (tC (.bl b)):=λ_ _ _ H _ I h=>Constant_bool ⟨.bl b,H,I,rfl,h⟩
theorem A4j {j pos}:PE X (.Constant .none j pos) (tC .non):=λ_ _ _ H _ I h=>Constant_none ⟨.non,H,I,rfl,h⟩
theorem A0s {x j pos}:PE X (.Constant (.str x) j pos) (tC (.str x)):=λ_ _ _ H _ I h=>Calls.Constant_str ⟨.str x,H,I.tok _,⟨_,rfl⟩,h⟩
def Gl (X:Cx) (x:Str):Prop:=X.env.kindOf x=some .globalImplicit
theorem A2x {E:Value->Shared->Prop} {pins:List (Addr×Obj)} {s:Shared} {σ:St} {H:Hp} {x:Str} {u:Value} {pos:Pos} {Q:Value->Shared->Prop} (I:Inv X pins σ H s) (hg:Gl X x) (hm:X.mg x=some u) (h:Q u s)
  (hd:(x == ("__debug__":Str))=false:=by decide):wpAny (model X.prog X.w) X.A (eval (.Name x pos) X.env) Q E s :=
 Calls.Name_function_global I.ok.kind hg (Calls.loadGlobal_global (by rw [I.ok.glob];exact I.mod.glob.keeps I.bk) hm h) hd
theorem B1x {E:Value->Shared->Prop} {pins:List (Addr×Obj)} {s:Shared} {σ:St} {H:Hp} {x:Str} {u:Value} {pos:Pos} {Q:Value->Shared->Prop} (I:Inv X pins σ H s) (hg:Gl X x) (hm:X.mg x=none) (hv:bootBuiltins x=some u) (h:Q u s)
  (hn:x≠"__name__":=by decide) (hd:(x == ("__debug__":Str))=false:=by decide):wpAny (model X.prog X.w) X.A (eval (.Name x pos) X.env) Q E s:=by
 obtain ⟨mb,h1,h2⟩:=I.mod.blt;exact Calls.Name_function_global I.ok.kind hg (Calls.loadGlobal_builtin (by rw [I.ok.glob];exact I.mod.glob.keeps I.bk) hm (by rw [I.ok.blt];exact h1.keeps I.bk) ((h2 x hn).trans hv) h) hd
theorem B1j {x:Str} {v:V} {u:Value} {pos:Pos} (hg:Gl X x) (hm:X.mg x=some u) (r:A1l v u) (hd:(x == ("__debug__":Str))=false:=by decide):PE X (.Name x pos) (tC v) :=
 λ_ _ _ H _ I h=>A2x I hg hm ⟨v,H,I,r,h⟩ hd
theorem C1d {x:Str} {v:V} {u:Value} {pos:Pos} (hg:Gl X x) (hm:X.mg x=none) (hv:bootBuiltins x=some u) (r:A1l v u) (hn:x≠"__name__":=by decide) (hd:(x == ("__debug__":Str))=false:=by decide):PE X (.Name x pos) (tC v) :=
 λ_ _ _ H _ I h=>B1x I hg hm hv ⟨v,H,I,r,h⟩ hn hd
variable {a b:Expr} {ta tb:TE} {pos:Pos}
def PC (X:Cx) (op:CmpOp) (a b:Expr) (t:TE):Prop :=
 ∀(pins:List (Addr×Obj)) (s:Shared) (σ:St) (H:Hp) (Q:VK),Inv X pins σ H s->t σ H Q->
  wpAny (model X.prog X.w) X.A (eval a X.env) (λv s₁=>wpAny (model X.prog X.w) X.A (eval b X.env) (λu s₂=>wpAny (model X.prog X.w) X.A (compareOp op v u) (EP X pins σ Q) X.xe s₂) X.xe s₁) X.xe s
def tB (t:TE):TT:=λσ H Q=>t σ H λx H1=>∃c,x= .bl c/\Q c H1
theorem C3q {op:CmpOp} {t:TE} (h:PC X op a b t) (h1:behindInMarks op b=false:=by first | exact nobehind _ (by decide) (by decide) | rfl):PT X (.Compare a [op] [b] pos) (tB t):=by
 intro pins s σ H Q I hw;refine wpAny_isTrue_Compare1 (thn (h pins s σ H _ I hw) λv s1 h1=>thn h1 λu s2 h2=>thn h2 ?_) h1;rintro c s3 ⟨x,H1,I1,r1,q1⟩;obtain ⟨d,rfl,q⟩:=q1;cases r1;exact wpAny_truthy_bool ⟨H1,I1,q⟩
theorem B2p {e:Expr} {t:TE} (h:PE X e t) (he:∀whole,isTrue e X.env whole=(do let v<-whole;standAt e.pos;holding [v] (truthy v)):=by intro _;rfl):PT X e (tB t):=by
 intro pins s σ H Q I hw;refine isTrue_plain (thn (h pins s σ H _ I hw) ?_) (he _);rintro v s1 ⟨x,H1,I1,r1,q1⟩;obtain ⟨d,rfl,q⟩:=q1;cases r1;exact wpAny_truthy_bool ⟨H1,I1,q⟩
variable {tA tB':TT} {rest:List Expr}
def tAnd (t u:TT):TT:=λσ H Q=>t σ H λc H1=>if c=true then u σ H1 Q else Q false H1
def tNot (t:TT):TT:=λσ H Q=>t σ H λc H1=>Q (!c) H1
theorem A8g (ha:PT X a tA):PW X (.BoolOp .And [a] pos) tA:=by
 intro wh pins s σ H Q I h;refine isTrue_and (thn (ha pins s σ H Q I h) λc s1 e=> ?_)
 cases c with
 | true=>exact isTrue_and_nil e
 | false=>exact e
theorem B1m (ha:PT X a tA) (hb:PW X (.BoolOp .And (b::rest) pos) tB'):PW X (.BoolOp .And (a::b::rest) pos) (tAnd tA tB'):=by
 intro wh pins s σ H Q I h;refine isTrue_and (thn (ha pins s σ H _ I h) ?_);rintro c s1 ⟨H1,I1,q1⟩
 cases c with
 | true=>exact hb wh pins s1 σ H1 Q I1 q1
 | false=>exact ⟨H1,I1,q1⟩
theorem B8y (ha:PT X a tA):PT X (.UnaryOp .Not a pos) (tNot tA):=by
 intro pins s σ H Q I h;exact isTrue_not (ha pins s σ H (λc H1=>Q (!c) H1) I h)
def tIf (t:TT) (ta tb:TE):TE:=λσ H Q=>t σ H λc H1=>if c=true then ta σ H1 Q else tb σ H1 Q
theorem B2q {c:Expr} (hc:PT X c tA) (ha:PE X a ta) (hb:PE X b tb):PE X (.IfExp c a b pos) (tIf tA ta tb):=by
 intro pins s σ H Q I h;refine wpAny_IfExp (thn (hc pins s σ H _ I h) ?_);rintro d s1 ⟨H1,I1,q1⟩
 cases d with
 | true=>exact ha pins s1 σ H1 Q I1 q1
 | false=>exact hb pins s1 σ H1 Q I1 q1
end
def SqL (K:Frag) (H:Hp) (a:Addr) (xs:List V):Prop :=
 Rd H a (.lst xs)\/
  ∃(o:Obj) (its:Array Value) (n:Nat),K.lookup a=some o/\o.cls= .type "list"/\o.dict=none/\o.data= .seq its n/\its.size<=sizeLine/\A1k xs its.toList
def SqT (K:Frag) (H:Hp) (a:Addr) (xs:List V):Prop :=
 Rd H a (.tup xs)\/
  ∃(o:Obj) (its:Array Value) (n:Nat),K.lookup a=some o/\o.cls= .type "tuple"/\o.data= .seq its n/\its.size<=sizeLine/\A1k xs its.toList
noncomputable def absV:Value->Option V
 | .none=>some .non
 | .bool b=>some (.bl b)
 | .int i _=>some (.int i)
 | .str x _=>some (.str x)
 | .bytes b _=>some (.byt b)
 | .float b _=>some (.flt b)
 | .ref a=>some (.ref a)
 | .type n=>some (.ty n)
 | _=>none
theorem A1l.abs {x:V} {u:Value} (r:A1l x u):absV u=some x:=by
 cases x with
 | non=>cases r;rfl
 | bl _=>cases r;rfl
 | int _=>obtain ⟨t,rfl⟩:=r;rfl
 | str _=>obtain ⟨t,rfl⟩:=r;rfl
 | byt _=>obtain ⟨t,rfl⟩:=r;rfl
 | flt _=>obtain ⟨t,rfl⟩:=r;rfl
 | ref _=>cases r;rfl
 | ty _=>cases r;rfl
theorem A1l.inj {x y:V} {u:Value} (r:A1l x u) (q:A1l y u):x=y:=Z1a (r.abs.symm.trans q.abs)
theorem A1k.inj:∀{xs ys:List V} {us:List Value},A1k xs us->A1k ys us->xs=ys
 | _,_,_,.nil,.nil=>rfl
 | _,_,_,.cons r t,.cons r' t'=>by rw [r.inj r',A1k.inj t t']
section
variable {X:Cx} {pins:List (Addr×Obj)} {σ:St} {H:Hp} {s:Shared} {a:Addr} {xs ys:List V}
theorem SqL.of {K:Frag} (h:H a=some (.lst xs)):SqL K H a xs:= .inl (.inl h)
theorem SqT.of {K:Frag} (h:H a=some (.tup xs)):SqT K H a xs:= .inl (.inl h)
theorem Inv.list (I:Inv X pins σ H s) (h:SqL X.K H a xs):∃its:List Value,A1k xs its/\PlainL s.heap a its.toArray/\xs.length<=sizeLine:=by
 rcases h with h | ⟨o,its,n,hk,hc,hd,hs,hz,r⟩
 ·obtain ⟨z,its,n,r,e⟩:=h.ok I.hok;exact ⟨its,r,⟨_,n,e,rfl,rfl,rfl⟩,z⟩
 ·refine ⟨its.toList,r,⟨o,n,I.kIn a o hk,hc,hd,by simpa using hs⟩,?_⟩;have e:=r.length;simp only [Array.length_toList] at e
  lia
theorem Inv.tuple (I:Inv X pins σ H s) (h:SqT X.K H a xs):∃its:List Value,A1k xs its/\IsTup s.heap a its.toArray/\xs.length<=sizeLine:=by
 rcases h with h | ⟨o,its,n,hk,hc,hs,hz,r⟩
 ·obtain ⟨z,its,r,p⟩:=h.ok I.hok;exact ⟨its,r,p,z⟩
 ·refine ⟨its.toList,r,⟨o,I.kIn a o hk,hc,n,by simpa using hs⟩,?_⟩;have e:=r.length;simp only [Array.length_toList] at e
  lia
theorem Inv.list_inj (I:Inv X pins σ H s) (h:SqL X.K H a xs) (h':SqL X.K H a ys):xs=ys:=by
 obtain ⟨its,r,⟨o,n,e,_,_,d⟩,_⟩:=I.list h;obtain ⟨its',r',⟨o',n',e',_,_,d'⟩,_⟩:=I.list h';rw [e] at e';cases e';rw [d] at d';injection d' with d1 _;have:its=its':=by simpa using congrArg Array.toList d1
 subst this;exact r.inj r'
theorem Inv.tuple_inj (I:Inv X pins σ H s) (h:SqT X.K H a xs) (h':SqT X.K H a ys):xs=ys:=by
 obtain ⟨its,r,⟨o,e,_,n,d⟩,_⟩:=I.tuple h;obtain ⟨its',r',⟨o',e',_,n',d'⟩,_⟩:=I.tuple h';rw [e] at e';cases e';rw [d] at d';injection d' with d1 _;have:its=its':=by simpa using congrArg Array.toList d1
 subst this;exact r.inj r'
end
abbrev Cx.wish (X:Cx) (E:Value->Shared->Prop):Cx:={ X with xe:=E }
abbrev Cx.nox (X:Cx):Cx:=X.wish λ_ _=>False
theorem Cx.Ok.wish {X:Cx} (ok:X.Ok) (E:Value->Shared->Prop):(X.wish E).Ok :=
 ⟨ok.mod,ok.kind,ok.glob,ok.blt,ok.above,ok.inj,ok.has,ok.cab,ok.hd,ok.frames,ok.stk,ok.exf,ok.bs,ok.bsz,ok.noex,ok.exfs,ok.funs,ok.frf⟩
theorem Cx.Ok.unwish {X:Cx} {E:Value->Shared->Prop} (ok:(X.wish E).Ok):X.Ok :=
 ⟨ok.mod,ok.kind,ok.glob,ok.blt,ok.above,ok.inj,ok.has,ok.cab,ok.hd,ok.frames,ok.stk,ok.exf,ok.bs,ok.bsz,ok.noex,ok.exfs,ok.funs,ok.frf⟩
section
variable {X:Cx} {pins:List (Addr×Obj)} {σ:St} {H:Hp} {s:Shared} {E:Value->Shared->Prop}
theorem Inv.wish (I:Inv X pins σ H s) (E:Value->Shared->Prop):Inv (X.wish E) pins σ H s:=⟨I.ok.wish E,I.os,I.bare,I.base,I.loc,I.cell,I.free,I.freeC,I.pin,I.hok,I.len⟩
theorem Inv.unwish (I:Inv (X.wish E) pins σ H s):Inv X pins σ H s:=⟨I.ok.unwish,I.os,I.bare,I.base,I.loc,I.cell,I.free,I.freeC,I.pin,I.hok,I.len⟩
theorem SP.unwish {D:B4w} {f:Flow} {s':Shared} (h:SP (X.wish E) pins D f s'):SP X pins D f s':=by
 cases f with
 | next=>obtain ⟨σ',H',I,q⟩:=h;exact ⟨σ',H',I.unwish,q⟩
 | brk=>obtain ⟨σ',H',I,q⟩:=h;exact ⟨σ',H',I.unwish,q⟩
 | cont=>obtain ⟨σ',H',I,q⟩:=h;exact ⟨σ',H',I.unwish,q⟩
 | ret u=>obtain ⟨v,σ',H',I,r,q⟩:=h;exact ⟨v,σ',H',I.unwish,r,q⟩
theorem PSs.nox {st:List Stmt} {t:TS} (h:PSs X.nox st t):PSs X st t:=λpins s σ H D I hw =>
 Z10 (h pins s σ H D (I.wish _) hw) (λ_ _ q=>q.unwish) λ_ _ z=>False.elim z
end
section
variable {X:Cx} {st:Stmt} {rest:List Stmt} {t u:TS} {e:Expr} {te:TE} {pos:Pos}
def C5g:TS:=λD σ H=>D.nx σ H
def tSeq (t u:TS):TS:=λD σ H=>t { D with nx:=u D } σ H
theorem A0y:PSs X [] C5g:=λ_ _ σ H _ I h=>Z2b ⟨σ,H,I,h⟩
theorem A0c (h1:PS X st t) (h2:PSs X rest u):PSs X (st::rest) (tSeq t u):=by
 intro pins s σ H D I h;refine wpAny_execs_cons (thn (h1 pins s σ H { D with nx:=u D } I h) λf s1 q=> ?_)
 cases f with
 | next =>
  obtain ⟨σ',H',I',q⟩:=q;exact h2 pins s1 σ' H' D I' q
 | ret v=>exact q
 | brk=>exact q
 | cont=>exact q
theorem A0f (h1:PS X st t):PSs X [st] t:=by
 intro pins s σ H D I h;refine wpAny_execs_cons (thn (h1 pins s σ H D I h) λf s1 q=> ?_)
 cases f with
 | next=>exact Z2b q
 | ret v=>exact q
 | brk=>exact q
 | cont=>exact q
theorem Inv.quiet {pins:List (Addr×Obj)} {σ:St} {H:Hp} {s:Shared} (I:Inv X pins σ H s):interactive X.env=false:=by simp [interactive,I.ok.kind]
def C4e (te:TE):TS:=λD σ H=>te σ H λ_ H1=>D.nx σ H1
theorem A1i (he:PE X e te) (hs:swapsWith e none pos.line X.env=pure false:=by rfl):PS X (.Expr e pos) (C4e te):=by
 intro pins s σ H D I h;exact wpAny_Expr_any (thn (he pins s σ H _ I h) (by rintro v s1 ⟨x,H1,I1,r1,q1⟩;exact ⟨σ,H1,I1,q1⟩)) I.quiet hs
def tRet (te:TE):TS:=λD σ H=>te σ H D.rt
theorem A0u (he:PE X e te):PS X (.Return (some e) pos) (tRet te):=by
 intro pins s σ H D I h;exact wpAny_Return_some (thn (he pins s σ H _ I h) (by rintro v s1 ⟨x,H1,I1,r1,q1⟩;exact ⟨x,σ,H1,I1,r1,q1⟩))
def tIfS (c:TT) (t u:TS):TS:=λD σ H=>c σ H λb H1=>if b=true then t D σ H1 else u D σ H1
theorem A2e {c:Expr} {a b:List Stmt} {tc:TT} (hc:PT X c tc) (ha:PSs X a t) (hb:PSs X b u):PS X (.If c a b pos) (tIfS tc t u):=by
 intro pins s σ H D I h;refine wpAny_If (thn (hc pins s σ H _ I h) ?_);rintro d s1 ⟨H1,I1,q1⟩
 cases d with
 | true=>exact ha pins s1 σ H1 D I1 q1
 | false=>exact hb pins s1 σ H1 D I1 q1
def C3a:TS:=λ_ _ _=>False
theorem B7h:PS X st C3a:=λ_ _ _ _ _ _ h=>h.elim
end
abbrev TG:=V->St->Hp->(St->Hp->Prop)->Prop
abbrev TGs:=List V->St->Hp->(St->Hp->Prop)->Prop
def PG (X:Cx) (target:Expr) (t:TG):Prop :=
 ∀(pins:List (Addr×Obj)) (s:Shared) (σ:St) (H:Hp) (v:V) (u:Value) (Q:St->Hp->Prop),Inv X pins σ H s->A1l v u->t v σ H Q->
  wpAny (model X.prog X.w) X.A (assign target X.env u) (λ_ s'=>∃σ' H',Inv X pins σ' H' s'/\Q σ' H') X.xe s
def PGs (X:Cx) (ts:List Expr) (t:TGs):Prop :=
 ∀(pins:List (Addr×Obj)) (s:Shared) (σ:St) (H:Hp) (vs:List V) (us:List Value) (Q:St->Hp->Prop),Inv X pins σ H s->A1k vs us->t vs σ H Q->
  wpAny (model X.prog X.w) X.A (assignInOrder ((assignEach ts X.env).map (·.2)) us) (λ_ s'=>∃σ' H',Inv X pins σ' H' s'/\Q σ' H') X.xe s
abbrev C5k:=V->V->V->Hp->(Hp->Prop)->Prop
def C5t (X:Cx) (t:C5k):Prop :=
 ∀(pins:List (Addr×Obj)) (s:Shared) (σ:St) (H:Hp) (o i v:V) (ov iv u:Value) (Q:Hp->Prop),Inv X pins σ H s->A1l o ov->A1l i iv->A1l v u->t o i v H Q->
  wpAny (model X.prog X.w) X.A (setItem ov iv u) (λ_ s'=>∃H',Inv X pins σ H' s'/\Q H') X.xe s
section
variable {X:Cx} {pos:Pos}
def B4h (i:Nat):TG:=λv σ H Q=>Q (σ.set i (some v)) H
theorem A0p {i:Nat} {x:Str} (hN:X.N.Nodup) (hi:X.N[i]? =some x) (hx:Loc X.env.scope x) (hf:X.fn x=true\/X.env.scope.names.lookup x=some .local:=by first | exact .inl rfl | exact .inr rfl | assumption):PG X (.Name x pos) (B4h i):=by
 intro pins s σ H v u Q I r h;exact wpAny_assign_Name (A6e I hN hi hx r (λs' I'=>⟨_,H,I',h⟩) hf)
def C5x:TGs:=λvs σ H Q=>vs=[]/\Q σ H
def B9d (t:TG) (u:TGs):TGs:=λvs σ H Q=>∃v r,vs=v::r/\t v σ H λσ' H'=>u r σ' H' Q
theorem A2o:PGs X [] C5x:=by
 intro pins s σ H vs us Q I r h;obtain ⟨e,h⟩:=h;subst e;cases r;exact assignInOrder_nil ⟨σ,H,I,h⟩
theorem A0o {e:Expr} {es:List Expr} {t:TG} {u:TGs} (h1:PG X e t) (h2:PGs X es u)
  (hs:(assignEach (e::es) X.env).map (·.2)=assign e X.env::(assignEach es X.env).map (·.2):=by rfl):PGs X (e::es) (B9d t u):=by
 intro pins s σ H vs us Q I r h;obtain ⟨v,vr,e1,h⟩:=h;subst e1
 cases r with
 | cons r rr =>
  rw [hs];refine assignInOrder_cons (thn (h1 pins s σ H _ _ _ I r h) ?_);rintro _ s1 ⟨σ1,H1,I1,q1⟩;exact h2 pins s1 σ1 H1 _ _ Q I1 rr q1
def C6a (K:Frag) (n:Nat) (t:TGs):TG:=λv σ H Q=>∃a xs,v= .ref a/\SqT K H a xs/\xs.length=n/\t xs σ H Q
theorem A3z {es:List Expr} {k:Nat} {t:TGs} {n:Nat} (hc:X.calm=true) (h:PGs X es t)
  (hn:(assignEach es X.env).length=n:=by rfl) (hst:(assignEach es X.env).findIdx? (·.1)=none:=by rfl):PG X (.Tuple es k pos) (C6a X.K n t):=by
 intro pins s σ H v u Q I r hw;obtain ⟨a,xs,e1,hq,hl,hw⟩:=hw;subst e1;cases r;obtain ⟨its,rv,ht,hz⟩:=I.tuple hq;refine assign_Tuple_tuple (I.ok.hd hc) ht (by simp [hn,<-hl,rv.length]) hst λh' hx=> ?_;have I1:Inv X pins σ H { s with heap:=h' }:=I.kept (t':=s.toks) λb o e=>hx b o (Z0h (Z0a e)) e
 exact h pins _ σ H xs _ Q I1 (by simpa using rv) hw
def gSub (to ti:TE) (t:C5k):TG:=λv σ H Q=>to σ H λo H1=>ti σ H1 λi H2=>t o i v H2 λH3=>Q σ H3
theorem B8h {o i:Expr} {to ti:TE} {t:C5k} (ho:PE X o to) (hi:PE X i ti) (hs:C5t X t)
  (ha:∀v,assign (.Subscript o i pos) X.env v=(do
   let ov<-holding [v] (eval o X.env)
   let iv<-holding [v,ov] (eval i X.env)
   standAt pos
   holding [v,ov,iv] (setItem ov iv v)
   release [v,ov,iv] []):=by intro _;rfl):PG X (.Subscript o i pos) (gSub to ti t):=by
 intro pins s σ H v u Q I r h;rw [ha];refine Z00 (Z1w (thn (ho pins s σ H _ I h) ?_));rintro ov s1 ⟨x,H1,I1,r1,q1⟩;refine Z00 (Z1w (thn (hi pins s1 σ H1 _ I1 q1) ?_));rintro iv s2 ⟨y,H2,I2,r2,q2⟩;refine Z00 (Z1y (Z00 (Z1w (thn (hs pins s2 σ H2 x y v ov iv u _ I2 r1 r2 r q2) ?_))));rintro _ s3 ⟨H3,I3,q3⟩;exact wpAny_release ⟨σ,H3,I3,q3⟩
def C4j (te:TE) (g:TG):TS:=λD σ H=>te σ H λx H1=>g x σ H1 D.nx
theorem A3s {tg e:Expr} {te:TE} {g:TG} (he:PE X e te) (hg:PG X tg g) (hs:swapsWithSole [tg] e pos.line X.env=pure false:=by rfl) (hw:swappedStores [tg] e X.env=pure none:=by rfl)
  (h1:(assignEach [tg] X.env).map (·.2)=[assign tg X.env]:=by rfl):PS X (.Assign [tg] e pos) (C4j te g):=by
 intro pins s σ H D I h;refine wpAny_Assign_stores (thn (he pins s σ H _ I h) ?_) hs hw;rintro v s1 ⟨x,H1,I1,r1,q1⟩;rw [h1];exact thn (hg pins s1 σ H1 x v _ I1 r1 q1) λ_ s2 q=>q
theorem A0q {i:Nat} {x:Str} {e:Expr} {te:TE} {pos':Pos} (hN:X.N.Nodup) (hi:X.N[i]? =some x) (hx:Loc X.env.scope x) (he:PE X e te) (hs:swapsWith e (some (.Name x pos')) pos.line X.env=pure false:=by rfl) (hf:X.fn x=true\/X.env.scope.names.lookup x=some .local:=by first | exact .inl rfl | exact .inr rfl | assumption) :
  PS X (.Assign [.Name x pos'] e pos) (C4j te (B4h i)):=by
 intro pins s σ H D I h;refine wpAny_Assign_Name (thn (he pins s σ H _ I h) ?_) hs;rintro v s1 ⟨y,H1,I1,r1,q1⟩;exact A6e I1 hN hi hx r1 (λs2 I2=>⟨_,H1,I2,q1⟩) hf
def C2c (c:TT) (tb:TS):TS:=λD σ H=>∃W:Nat->St->Hp->Prop,(∃m,W m σ H)/\∀m σ H,W m σ H->
 c σ H λb H1=>if b=true then∃N:St->Hp->Prop,(∀σ' H',N σ' H'->∃m',m'<m/\W m' σ' H')/\tb { D with nx:=N,ct:=N,bk:=D.nx } σ H1 else D.nx σ H1
theorem B8a {c:Expr} {body:List Stmt} {tc:TT} {tb:TS} (hp:PassesOwn (model X.prog X.w) X.A X.env X.xe) (hc:PT X c tc) (hb:PSs X body tb):PS X (.While c body [] pos) (C2c tc tb):=by
 intro pins s σ H D I h;obtain ⟨W,⟨m0,w0⟩,turn⟩:=h;refine wpAny_While (codeAny_whileLoop (λn s'=>∃σ' H',Inv X pins σ' H' s'/\W n σ' H') ?_ m0 ⟨σ,H,I,w0⟩);rintro n s1 ⟨σ1,H1,I1,w1⟩;refine wpAny_passesOwn hp (thn (hc pins s1 σ1 H1 _ I1 (turn n σ1 H1 w1)) ?_);rintro b s2 ⟨H2,I2,q2⟩
 cases b with
 | true =>
  obtain ⟨N,hN,q2⟩:=q2;rw [Z12 rfl];refine wpAny_passesOwn hp (thn (hb pins s2 σ1 H2 _ I2 q2) λf s3 q3=> ?_)
  cases f with
  | next =>
   obtain ⟨σ3,H3,I3,n3⟩:=q3;obtain ⟨m',hm,w3⟩:=hN σ3 H3 n3;exact ⟨m',hm,σ3,H3,I3,w3⟩
  | cont =>
   obtain ⟨σ3,H3,I3,n3⟩:=q3;obtain ⟨m',hm,w3⟩:=hN σ3 H3 n3;exact ⟨m',hm,σ3,H3,I3,w3⟩
  | brk=>exact q3
  | ret v=>exact q3
 | false =>
  rw [Z0t Z0v];exact Z2b ⟨σ1,H2,I2,q2⟩
end
structure It where
 go:Nat->Hp->Prop
 yld:Nat->Hp->V->Hp->Prop
 stop:Nat->Hp->Prop
def B1q (X:Cx) (pins:List (Addr×Obj)) (H:Hp) (b:Addr):Prop :=
 H b=none/\b≠X.env.locals/\b∉X.fs/\(b∈X.ex\/X.s₀.heap.objs.size<=b)/\(∀x c,X.env.cells.lookup x=some c->c≠b)/\∀p∈X.pn++pins,p.1≠b
theorem Inv.fpOk {X:Cx} {pins:List (Addr×Obj)} {σ:St} {H H':Hp} {s:Shared} {b:Addr} (I:Inv X pins σ H s) (hb:s.heap.objs.size<=b) (hn:H' b=none):B1q X pins H' b:=by
 refine ⟨hn,Z1q (Z0q I.lt hb),I.nofs hb,.inr (Z1n I.sz hb),λx c e z=> ?_,λp hp z=> ?_⟩
 ·obtain ⟨v,q⟩:=I.cell x c e;exact absurd (Z0q q.lt (by rw [z];exact hb)) (Nat.lt_irrefl _)
 ·exact absurd (Z0q (Z0a (I.pin p hp).1) (by rw [z];exact hb)) (Nat.lt_irrefl _)
structure C3v (P:Program) (w:World) (K:Frag) (tg:Expr) (J:It) (fp:List Addr) (it:Addr) (tn:Nat->Heap->Prop):Prop where
 mem:it∈fp
 obj:∀i h,tn i h->∀b∈fp,∃o,h.get? b=some o/\∀v,o.data≠.cell v
 keep:∀i h h',tn i h->(∀b∈fp,∀o,h.get? b=some o->h'.get? b=some o)->tn i h'
 item:∀(X:Cx),X.prog=P->X.w=w->X.K=K->X.calm=true->∀(i:Nat) (pins:List (Addr×Obj)) (s:Shared) (σ:St) (H:Hp) (E:Value->Shared->Prop),Inv X pins σ H s->(∀b∈fp,B1q X pins H b)->tn i s.heap->J.go i H->
  wpAny (model P w) X.A (pyNext (.ref it)) (λr s1=>∃u,r=some u/\
   wpAny (model P w) X.A (letOwnedTupleGo tg (.ref it) u) (λ_ s2=>∃x H',Inv X pins σ H' s2/\A1l x u/\J.yld i H x H'/\tn (i+1) s2.heap/\∀b∈fp,H' b=none) E s1) E s
 done:∀(X:Cx),X.prog=P->X.w=w->X.K=K->X.calm=true->∀(i:Nat) (pins:List (Addr×Obj)) (s:Shared) (σ:St) (H:Hp) (E:Value->Shared->Prop),Inv X pins σ H s->(∀b∈fp,B1q X pins H b)->tn i s.heap->J.stop i H->
  wpAny (model P w) X.A (pyNext (.ref it)) (λr s1=>r=none/\Inv X pins σ H s1) E s
 self:∀(A:Around) (i:Nat) (s:Shared) (Q:Value->Shared->Prop) (E:Value->Shared->Prop),tn i s.heap->Q (.ref it) s->wpAny (model P w) A (pyIter (.ref it)) Q E s
abbrev TI:=St->Hp->(It->Hp->Prop)->Prop
def PIE (X:Cx) (pins:List (Addr×Obj)) (σ:St) (tg:Expr) (R:It->Hp->Prop) (itv:Value) (s2:Shared):Prop :=
 ∃(it:Addr) (fp:List Addr) (tn:Nat->Heap->Prop) (J:It) (H':Hp),itv= .ref it/\Inv X pins σ H' s2/\C3v X.prog X.w X.K tg J fp it tn/\tn 0 s2.heap/\(∀b∈fp,B1q X pins H' b)/\R J H'
def PI (X:Cx) (tg iter:Expr) (wi:TI):Prop :=
 ∀(pins:List (Addr×Obj)) (s:Shared) (σ:St) (H:Hp) (R:It->Hp->Prop),Inv X pins σ H s->wi σ H R->
  wpAny (model X.prog X.w) X.A (eval iter X.env) (λv s1=>wpAny (model X.prog X.w) X.A (pyIter v) (PIE X pins σ tg R) X.xe s1) X.xe s
theorem B9a {M:Model} {A:Around} {E:Value->Shared->Prop} {s:Shared} {tg:Expr} {it:Addr} {u:Value} {o:Obj} {n:String} {vs:Array Value} {Q:Unit->Shared->Prop} (ho:s.heap.get? it=some o) (hc:o.cls= .type n) (hd:o.data= .fields vs)
  (hn:["enumerate","zip","dict_itemiterator","dict_reverseitemiterator","odict_iterator","itertools.zip_longest","itertools.pairwise"].contains n=false) (hQ:Q () s):wpAny M A (letOwnedTupleGo tg (.ref it) u) Q E s:=by
 unfold letOwnedTupleGo
 cases tg <;> first
  | exact Z04 hQ
  | (cases u <;> first
    | exact Z04 hQ
    | (refine Z00 (wpAny_load ho ?_);rw [hc,hd];show wpAny M A (if (["enumerate","zip","dict_itemiterator","dict_reverseitemiterator","odict_iterator","itertools.zip_longest","itertools.pairwise"].contains n&&vs[0]? == some (rawInt _))=true then _ else _) Q E s;rw [Z0t (by intro h;rw [hn,Bool.false_and] at h;cases h)];exact Z04 hQ))
def Itl (K:Frag) (a:Addr):It :=
 ⟨λi H=>∃xs x,SqL K H a xs/\xs[i]? =some x,λi H x H'=>H'=H/\∀xs,SqL K H a xs->xs[i]? =some x,λi H=>∃xs,SqL K H a xs/\xs.length<=i⟩
def Itt (K:Frag) (a:Addr):It :=
 ⟨λi H=>∃xs x,SqT K H a xs/\xs[i]? =some x,λi H x H'=>H'=H/\∀xs,SqT K H a xs->xs[i]? =some x,λi H=>∃xs,SqT K H a xs/\xs.length<=i⟩
def Itr (lo:Int) (n:Nat):It:=⟨λi _=>i<n,λi H x H'=>H'=H/\x= .int (lo+i),λi _=>n<=i⟩
theorem B4v {P:Program} {w:World} {K:Frag} {tg:Expr} (a it:Addr):C3v P w K tg (Itl K a) [it] it (λi h=>h.IsListIter it a i) where
 mem:=by simp
 obj:=λi h st b hb=>by
  have e:b=it:=by simpa using hb
  subst e;obtain ⟨o,e,c,d⟩:=st;exact ⟨o,e,λv z=>by rw [d] at z;cases z⟩
 keep:=λi h h' st k=>st.at λo e=>k it (by simp) o e
 item:=by
  intro X hP hw hK hc i pins s σ H E I hf st hg;subst hP hw hK;obtain ⟨xs,x,hq,hx⟩:=hg;obtain ⟨its,rv,p,hz⟩:=I.list hq;obtain ⟨u,hu,ru⟩:=rv.get hx;obtain ⟨f0,f1,f2,f3,f4,f5⟩:=hf it (by simp);refine wpAny_pyNext_list_item st p.isList (x:=u) (by simpa using hu) λh' st' sb=> ?_;have I1:Inv X pins σ H { s with heap:=h' }:=I.turned (t':=s.toks) (λb o hb e=>(sb.2 b hb).trans e) f0 f1 f3 f4 f5
  obtain ⟨o,e,c,d⟩:=id st';exact ⟨u,rfl,B9a (s:={ s with heap:=h' }) e c d (by decide) ⟨x,H,I1,ru,⟨rfl,λys hy=>by rw [I.list_inj hy hq];exact hx⟩,st',λb hb=>(hf b hb).1⟩⟩
 done:=by
  intro X hP hw hK hc i pins s σ H E I hf st hg;subst hP hw hK;obtain ⟨xs,hq,hx⟩:=hg;obtain ⟨its,rv,p,hz⟩:=I.list hq;obtain ⟨f0,f1,f2,f3,f4,f5⟩:=hf it (by simp);have hl:=rv.length;exact wpAny_pyNext_list_end (I.ok.hd hc) st p.isList (by simp;lia) λh' eb=>⟨rfl,I.turned (t':=s.toks) (λb o hb e=>eb b o hb e) f0 f1 f3 f4 f5⟩
 self:=λ_ _ _ _ _ st h=>wpAny_pyIter_listiter st h
theorem B3q {P:Program} {w:World} {K:Frag} {tg:Expr} (a it:Addr):C3v P w K tg (Itt K a) [it] it (λi h=>h.IsTupleIter it a i) where
 mem:=by simp
 obj:=λi h st b hb=>by
  have e:b=it:=by simpa using hb
  subst e;obtain ⟨o,e,c,d⟩:=st;exact ⟨o,e,λv z=>by rw [d] at z;cases z⟩
 keep:=λi h h' st k=>st.at λo e=>k it (by simp) o e
 item:=by
  intro X hP hw hK hc i pins s σ H E I hf st hg;subst hP hw hK;obtain ⟨xs,x,hq,hx⟩:=hg;obtain ⟨its,rv,p,hz⟩:=I.tuple hq;obtain ⟨u,hu,ru⟩:=rv.get hx;obtain ⟨f0,f1,f2,f3,f4,f5⟩:=hf it (by simp);refine wpAny_pyNext_tuple_item st (show s.heap.IsTuple a its.toArray from p) (x:=u) (by simpa using hu) λh' st' sb=> ?_;have I1:Inv X pins σ H { s with heap:=h' }:=I.turned (t':=s.toks) (λb o hb e=>(sb.2 b hb).trans e) f0 f1 f3 f4 f5
  obtain ⟨o,e,c,d⟩:=id st';exact ⟨u,rfl,B9a (s:={ s with heap:=h' }) e c d (by decide) ⟨x,H,I1,ru,⟨rfl,λys hy=>by rw [I.tuple_inj hy hq];exact hx⟩,st',λb hb=>(hf b hb).1⟩⟩
 done:=by
  intro X hP hw hK hc i pins s σ H E I hf st hg;subst hP hw hK;obtain ⟨xs,hq,hx⟩:=hg;obtain ⟨its,rv,p,hz⟩:=I.tuple hq;obtain ⟨f0,f1,f2,f3,f4,f5⟩:=hf it (by simp);have hl:=rv.length;exact wpAny_pyNext_tuple_end (I.ok.hd hc) st (show s.heap.IsTuple a its.toArray from p) (by simp;lia) λh' eb=>⟨rfl,I.turned (t':=s.toks) (λb o hb e=>eb b o hb e) f0 f1 f3 f4 f5⟩
 self:=λ_ _ _ _ _ st h=>wpAny_pyIter_tupleiter st h
theorem B3b {P:Program} {w:World} {K:Frag} {tg:Expr} (it:Addr) (lo:Int) (n:Nat):C3v P w K tg (Itr lo n) [it] it (λi h=>IsRangeIter h it (lo+(i:Nat)*1) ((n:Int)-(i:Nat)) 1) where
 mem:=by simp
 obj:=λi h st b hb=>by
  have e:b=it:=by simpa using hb
  subst e
  exact ⟨_,st,λv z=>by
   have z':Data.fields _=Data.cell v:=z
   cases z'⟩
 keep:=λi h h' st k=>k it (by simp) _ st
 item:=by
  intro X hP hw hK hc i pins s σ H E I hf st hg;subst hP hw hK;obtain ⟨f0,f1,f2,f3,f4,f5⟩:=hf it (by simp);have W:=Walks.range (prog:=X.prog) (w:=X.w) (I.ok.hd hc) it lo 1 n;refine W.item i s _ _ hg st λv h' tk hv st' kk=> ?_;obtain ⟨t,rfl⟩:=hv;have I1:Inv X pins σ H { s with heap:=h',toks:=tk }:=I.turned (λb o hb e=>kk b o (by simpa using hb) e) f0 f1 f3 f4 f5
  refine ⟨_,rfl,B9a (s:={ s with heap:=h',toks:=tk }) (n:="range_iterator") st' rfl rfl (by decide) ⟨.int (lo+i),H,I1,⟨t,?_⟩,⟨rfl,rfl⟩,st',λb hb=>(hf b hb).1⟩⟩
  rw [Int.mul_one]
 done:=by
  intro X hP hw hK hc i pins s σ H E I hf st hg;subst hP hw hK;obtain ⟨f0,f1,f2,f3,f4,f5⟩:=hf it (by simp);exact wpAny_pyNext_range_end (I.ok.hd hc) st (by have:n<=i:=hg;lia) λh' eb=>⟨rfl,I.turned (t':=s.toks) (λb o hb e=>eb b o hb e) f0 f1 f3 f4 f5⟩
 self:=λ_ _ _ _ _ st h=>wpAny_pyIter_rangeiter st h
section
variable {X:Cx} {tg:Expr}
def C4t (K:Frag) (tl:TE):TI:=λσ H R=>tl σ H λx H1=>∃a,x= .ref a/\(∃xs,SqL K H1 a xs)/\R (Itl K a) H1
def iTup (K:Frag) (tl:TE):TI:=λσ H R=>tl σ H λx H1=>∃a,x= .ref a/\(∃xs,SqT K H1 a xs)/\R (Itt K a) H1
theorem A8k {l:Expr} {tl:TE} (hl:PE X l tl):PI X tg l (C4t X.K tl):=by
 intro pins s σ H R I h;refine thn (hl pins s σ H _ I h) ?_;rintro v s1 ⟨x,H1,I1,r1,q1⟩;obtain ⟨a,e,⟨xs,hq⟩,q⟩:=q1;subst e;cases r1;obtain ⟨its,rv,p,hz⟩:=I1.list hq;refine wpAny_pyIter_list p.isList ?_;refine ⟨s1.heap.objs.size,[s1.heap.objs.size],_,_,H1,rfl,I1.kept (t':=s1.toks) λb o e=>Z01 _ e,B4v a _,⟨_,Z0c _ rfl,rfl,rfl⟩,λb hb=> ?_,q⟩;have e:b=s1.heap.objs.size:=by simpa using hb
 subst e;exact I1.fpOk (Z09 _) (I1.hok.fresh (Z09 _))
theorem C3o {l:Expr} {tl:TE} (hl:PE X l tl):PI X tg l (iTup X.K tl):=by
 intro pins s σ H R I h;refine thn (hl pins s σ H _ I h) ?_;rintro v s1 ⟨x,H1,I1,r1,q1⟩;obtain ⟨a,e,⟨xs,hq⟩,q⟩:=q1;subst e;cases r1;obtain ⟨its,rv,p,hz⟩:=I1.tuple hq;refine wpAny_pyIter_tuple (show s1.heap.IsTuple a its.toArray from p) ?_;refine ⟨s1.heap.objs.size,[s1.heap.objs.size],_,_,H1,rfl,I1.kept (t':=s1.toks) λb o e=>Z01 _ e,B3q a _,⟨_,Z0c _ rfl,rfl,rfl⟩,λb hb=> ?_,q⟩;have e:b=s1.heap.objs.size:=by simpa using hb
 subst e;exact I1.fpOk (Z09 _) (I1.hok.fresh (Z09 _))
theorem B6y {pins:List (Addr×Obj)} {σ:St} {H:Hp} {s:Shared} {R:It->Hp->Prop} {E:Value->Shared->Prop} {lo hi:Int} {t u v:Tok} {tk:Nat} (I:Inv X pins σ H s) (h1: -(2^62)<=lo) (h2:lo<2^62) (h3: -(2^62)<=hi) (h4:hi<2^62)
  (q:R (Itr lo (hi-lo).toNat) H):wpAny (model X.prog X.w) X.A (pyIter (.ref s.heap.objs.size)) (PIE X pins σ tg R) E { s with heap:=s.heap.push { cls:= .type "range",data:= .fields #[.int lo t,.int hi u,.int 1 v] },toks:=tk }:=by
 refine wpAny_pyIter_range (IsRange.new ..) (small_one h1 h2 h3 h4) ?_;have I1:Inv X pins σ H { s with heap:=s.heap.push { cls:= .type "range",data:= .fields #[.int lo t,.int hi u,.int 1 v] },toks:=tk }:=I.kept λb o e=>Z01 _ e
 refine ⟨(s.heap.push { cls:= .type "range",data:= .fields #[.int lo t,.int hi u,.int 1 v] }).objs.size,[(s.heap.push { cls:= .type "range",data:= .fields #[.int lo t,.int hi u,.int 1 v] }).objs.size],_,_,H,rfl,
  I1.kept (t':=tk) λb o e=>Z01 _ e,B3b _ lo (hi-lo).toNat,?_,λb hb=> ?_,q⟩
 ·have e1:lo+((0:Nat):Int)*1=lo:=by simp
  have e2:(((hi-lo).toNat:Nat):Int)-((0:Nat):Int)=Builtin.Range.rangeSize lo hi 1:=by rw [rangeSize_one];split <;> lia
  show IsRangeIter _ _ (lo+((0:Nat):Int)*1) ((((hi-lo).toNat:Nat):Int)-((0:Nat):Int)) 1;rw [e1,e2];exact Z0c _ rfl
 ·have e:b=(s.heap.push { cls:= .type "range",data:= .fields #[.int lo t,.int hi u,.int 1 v] }).objs.size:=by simpa using hb
  subst e;exact I1.fpOk (Z09 _) (I1.hok.fresh (Z09 _))
def C5m (ta:TA):TI:=λσ H R=>ta σ H λvs H1=>∃j:Int,vs=[.int j]/\-(2^62)<=j/\j<2^62/\R (Itr 0 j.toNat) H1
theorem A6o {a:Expr} {ta:TA} {p pos:Pos} (hg:Gl X "range") (hm:X.mg "range"=none) (ha:PA X [a] ta) (hs:starEach [a] X.env=[(false,eval a X.env)]:=by rfl):PI X tg (.Call (.Name "range" p) [a] [] pos) (C5m ta):=by
 intro pins s σ H R I h;refine Call_ (B1x I hg hm boot_range (PyProof.Rows.callWith_type1 (thn (ha pos pins s σ H _ I h) ?_) hs rfl));rintro us s1 ⟨vs,H1,I1,r1,q1⟩;obtain ⟨j,e,q1,q2,q⟩:=q1;subst e
 cases r1 with
 | cons r rr =>
  cases rr
  obtain ⟨t,rfl⟩:=r;exact call_range_1 (B6y I1 (by lia) (by lia) q1 q2 (by simpa using q))
def tFor (wi:TI) (g:TG) (tb:TS):TS:=λD σ H=>wi σ H λJ H1=>∃W:Nat->Nat->St->Hp->Prop,(∃m,W 0 m σ H1)/\∀i m σ H,W i m σ H->
 (J.stop i H/\D.nx σ H)\/(J.go i H/\∃N:St->Hp->Prop,(∀σ' H',N σ' H'->∃m',m'<m/\W (i+1) m' σ' H')/\∀x H',J.yld i H x H'->g x σ H' λσ2 H2=>tb { D with nx:=N,ct:=N,bk:=D.nx } σ2 H2)
def A7u (fp:List Addr) (h:Heap):List (Addr×Obj):=fp.filterMap λb=>(h.get? b).map λo=>(b,o)
theorem A2l {fp:List Addr} {h:Heap} {b:Addr} {o:Obj} (hb:b∈fp) (e:h.get? b=some o):(b,o)∈A7u fp h:=List.mem_filterMap.mpr ⟨b,hb,by rw [e];rfl⟩
theorem B4j {fp:List Addr} {h:Heap} {p:Addr×Obj} (hp:p∈A7u fp h):p.1∈fp/\h.get? p.1=some p.2:=by
 obtain ⟨b,hb,e⟩:=List.mem_filterMap.mp hp
 cases q:h.get? b with
 | none=>rw [q] at e;cases e
 | some o =>
  rw [q] at e;have e':(b,o)=p:=Z1a e;subst e';exact ⟨hb,q⟩
theorem Inv.pinned {pins:List (Addr×Obj)} {σ:St} {H:Hp} {s:Shared} {fp:List Addr} (I:Inv X pins σ H s) (hf:∀b∈fp,B1q X pins H b) (ho:∀b∈fp,∃o,s.heap.get? b=some o/\∀v,o.data≠.cell v):Inv X (pins++A7u fp s.heap) σ H s :=
 I.pins_of λp hp=>(Z07.mp hp).elim (λz=>I.pin p (Z02 _ z)) λz=>by
  obtain ⟨hb,e⟩:=B4j z;obtain ⟨f0,f1,f2,_⟩:=hf p.1 hb;obtain ⟨o,e',d⟩:=ho p.1 hb;rw [e] at e';cases e';exact ⟨e,f0,f1,f2,d⟩
theorem Inv.unpinned {pins pl:List (Addr×Obj)} {σ:St} {H:Hp} {s:Shared} (I:Inv X (pins++pl) σ H s):Inv X pins σ H s:=I.pins_of λp hp=>I.pin p (Z02 _ (Z05 _ hp))
theorem B6f {iter:Expr} {body:List Stmt} {wi:TI} {g:TG} {tb:TS} {pos:Pos} (hp:PassesOwn (model X.prog X.w) X.A X.env X.xe) (hc:X.calm=true) (hi:PI X tg iter wi) (hg:PG X tg g) (hb:PSs X body tb)
  (hs:∀x,foldedSetIterable iter X.env x=pure x:=by intro _;rfl):PS X (.For tg iter body [] pos) (tFor wi g tb):=by
 intro pins s σ H D I h;refine wpAny_For (thn (hi pins s σ H _ I h) λv s1 h1=>thn h1 λitv s2 h2=> ?_) hs;obtain ⟨it,fp,tn,J,H2,e,I2,T,st2,f2,W,⟨m0,w0⟩,turn⟩:=h2;subst e;have stat:∀{H':Hp},(∀b∈fp,H' b=none)->∀b∈fp,B1q X pins H' b:=λhn b hb=>⟨hn b hb,(f2 b hb).2⟩;refine codeAny_forLoop_any (λn s'=>∃i σ' H',Inv X pins σ' H' s'/\tn i s'.heap/\(∀b∈fp,H' b=none)/\W i n σ' H') ?_ m0 ⟨0,σ,H2,I2,st2,λb hb=>(f2 b hb).1,w0⟩;rintro n s3 ⟨i,σ3,H3,I3,st3,fr3,w3⟩;rcases turn i n σ3 H3 w3 with ⟨stop,qn⟩ | ⟨go,N,hN,step⟩
 ·refine wpAny_passesOwn hp (thn (T.done X rfl rfl rfl hc i pins s3 σ3 H3 X.xe I3 (stat fr3) st3 stop) ?_);rintro r s4 ⟨hr,I4⟩;subst hr;exact Z2b ⟨σ3,H3,I4,qn⟩
 ·refine wpAny_passesOwn hp (thn (T.item X rfl rfl rfl hc i pins s3 σ3 H3 X.xe I3 (stat fr3) st3 go) ?_);rintro r s4 ⟨u,hr,h4⟩;subst hr;refine wpAny_passesOwn hp (thn h4 ?_);rintro _ s5 ⟨x,H5,I5,r5,y5,st5,fr5⟩;have I5':=I5.pinned (stat fr5) (T.obj _ _ st5);refine wpAny_passesOwn hp (thn (hg _ s5 σ3 H5 x u _ I5' r5 (step x H5 y5)) ?_);rintro _ s6 ⟨σ6,H6,I6,q6⟩;refine wpAny_passesOwn hp (thn (hb _ s6 σ6 H6 _ I6 q6) λf s7 q7=> ?_)
  have again:∀{σ7:St} {H7:Hp},Inv X (pins++A7u fp s5.heap) σ7 H7 s7->N σ7 H7->∃m,m<n/\∃i σ' H',Inv X pins σ' H' s7/\tn i s7.heap/\(∀b∈fp,H' b=none)/\W i m σ' H':=λ{σ7 H7} I7 n7=>by
   obtain ⟨m',hm,w7⟩:=hN σ7 H7 n7;refine ⟨m',hm,i+1,σ7,H7,I7.unpinned,T.keep _ _ _ st5 λb hb o e=>(I7.pin (b,o) (Z02 _ (Z02 _ (A2l hb e)))).1,λb hb=> ?_,w7⟩;obtain ⟨o,e,d⟩:=T.obj _ _ st5 b hb;exact (I7.pin (b,o) (Z02 _ (Z02 _ (A2l hb e)))).2.1
  cases f with
  | next=>obtain ⟨σ7,H7,I7,n7⟩:=q7;exact again I7 n7
  | cont=>obtain ⟨σ7,H7,I7,n7⟩:=q7;exact again I7 n7
  | brk=>obtain ⟨σ7,H7,I7,q7⟩:=q7;exact ⟨σ7,H7,I7.unpinned,q7⟩
  | ret v=>obtain ⟨x7,σ7,H7,I7,r7,q7⟩:=q7;exact ⟨x7,σ7,H7,I7.unpinned,r7,q7⟩
end
theorem B2d {K:Frag} {a:Addr} {xs:List V} {g:TG} {tb:TS} {D:B4w} {σ:St} {H:Hp} (Pv:Nat->St->Hp->Prop) (h0:Pv 0 σ H) (hl:∀i σ H,i<=xs.length->Pv i σ H->SqL K H a xs)
  (hs:∀i x σ H,xs[i]? =some x->Pv i σ H->g x σ H λσ2 H2=>tb { D with nx:=Pv (i+1),ct:=Pv (i+1),bk:=D.nx } σ2 H2) (hd:∀σ H,Pv xs.length σ H->D.nx σ H) :
  ∃W:Nat->Nat->St->Hp->Prop,(∃m,W 0 m σ H)/\∀i m σ H,W i m σ H->
   ((Itl K a).stop i H/\D.nx σ H)\/((Itl K a).go i H/\∃N:St->Hp->Prop,(∀σ' H',N σ' H'->∃m',m'<m/\W (i+1) m' σ' H')/\∀x H',(Itl K a).yld i H x H'->g x σ H' λσ2 H2=>tb { D with nx:=N,ct:=N,bk:=D.nx } σ2 H2):=by
 refine ⟨λi m σ H=>m=xs.length-i/\i<=xs.length/\Pv i σ H,⟨xs.length,by simp,Z1e _,h0⟩,?_⟩;rintro i m σ H ⟨rfl,hi,p⟩;have q:=hl i σ H hi p;by_cases hlt:i<xs.length
 ·refine .inr ⟨⟨xs,xs[i],q,by simp [hlt]⟩,Pv (i+1),λσ' H' p'=>⟨xs.length-(i+1),by lia,rfl,hlt,p'⟩,λx H' y=> ?_⟩;obtain ⟨e,y⟩:=y;subst e;exact hs i x σ _ (y xs q) p
 ·have e:i=xs.length:=by lia
  subst e;exact .inl ⟨⟨xs,q,Z09 _⟩,hd σ H p⟩
theorem B5m {lo:Int} {n:Nat} {g:TG} {tb:TS} {D:B4w} {σ:St} {H:Hp} (Pv:Nat->St->Hp->Prop) (h0:Pv 0 σ H)
  (hs:∀i σ H,i<n->Pv i σ H->g (.int (lo+i)) σ H λσ2 H2=>tb { D with nx:=Pv (i+1),ct:=Pv (i+1),bk:=D.nx } σ2 H2) (hd:∀σ H,Pv n σ H->D.nx σ H) :
  ∃W:Nat->Nat->St->Hp->Prop,(∃m,W 0 m σ H)/\∀i m σ H,W i m σ H->
   ((Itr lo n).stop i H/\D.nx σ H)\/((Itr lo n).go i H/\∃N:St->Hp->Prop,(∀σ' H',N σ' H'->∃m',m'<m/\W (i+1) m' σ' H')/\∀x H',(Itr lo n).yld i H x H'->g x σ H' λσ2 H2=>tb { D with nx:=N,ct:=N,bk:=D.nx } σ2 H2):=by
 refine ⟨λi m σ H=>m=n-i/\i<=n/\Pv i σ H,⟨n,by simp,Z1e _,h0⟩,?_⟩;rintro i m σ H ⟨rfl,hi,p⟩;by_cases hlt:i<n
 ·refine .inr ⟨hlt,Pv (i+1),λσ' H' p'=>⟨n-(i+1),by lia,rfl,hlt,p'⟩,λx H' y=> ?_⟩;obtain ⟨e,y⟩:=y;subst e y;exact hs i σ _ hlt p
 ·have e:i=n:=by lia
  subst e;exact .inl ⟨Z09 _,hd σ H p⟩
abbrev R2:=V->V->Hp->VK->Prop
def OpR (X:Cx) (f:Value->Value->Sem Value) (r:R2):Prop :=
 ∀(pins:List (Addr×Obj)) (s:Shared) (σ:St) (H:Hp) (x y:V) (v u:Value) (Q:VK),Inv X pins σ H s->A1l x v->A1l y u->r x y H Q->
  wpAny (model X.prog X.w) X.A (f v u) (EP X pins σ Q) X.xe s
def UnR (X:Cx) (f:Value->Sem Value) (r:V->Hp->VK->Prop):Prop :=
 ∀(pins:List (Addr×Obj)) (s:Shared) (σ:St) (H:Hp) (x:V) (v:Value) (Q:VK),Inv X pins σ H s->A1l x v->r x H Q->
  wpAny (model X.prog X.w) X.A (f v) (EP X pins σ Q) X.xe s
def B1k (X:Cx) (f:Value) (r:List V->Hp->VK->Prop):Prop :=
 ∀(pins:List (Addr×Obj)) (s:Shared) (σ:St) (H:Hp) (xs:List V) (us:List Value) (Q:VK),Inv X pins σ H s->A1k xs us->r xs H Q->
  wpAny (model X.prog X.w) X.A (call f us) (EP X pins σ Q) X.xe s
def tOp (r:R2) (ta tb:TE):TE:=λσ H Q=>ta σ H λx H1=>tb σ H1 λy H2=>r x y H2 Q
def tUn (r:V->Hp->VK->Prop) (ta:TE):TE:=λσ H Q=>ta σ H λx H1=>r x H1 Q
def rI (C:Int->Int->Prop) (g:Int->Int->V):R2:=λx y H Q=>∃i j,x= .int i/\y= .int j/\C i j/\Q (g i j) H
def rI0 (g:Int->Int->V):R2:=λx y H Q=>∃i j,x= .int i/\y= .int j/\Q (g i j) H
def rU (g:Int->V):V->Hp->VK->Prop:=λx H Q=>∃i,x= .int i/\Q (g i) H
section
variable {X:Cx} {a b c:Expr} {ta tb tc:TE} {pos:Pos}
theorem C5a (ha:PE X a ta) (hb:PE X b tb) {pins:List (Addr×Obj)} {s:Shared} {σ:St} {H:Hp} {R:V->V->Hp->Prop} (I:Inv X pins σ H s)
  (h:ta σ H λx H1=>tb σ H1 λy H2=>R x y H2) {Q:Value->Shared->Prop} {f:Value->Value->Sem Value}
  (hf:∀v u s2 x y H2,Inv X pins σ H2 s2->A1l x v->A1l y u->R x y H2->wpAny (model X.prog X.w) X.A (f v u) Q X.xe s2) :
  wpAny (model X.prog X.w) X.A (eval a X.env) (λv s₁=>wpAny (model X.prog X.w) X.A (eval b X.env) (λu s₂=>wpAny (model X.prog X.w) X.A (f v u) Q X.xe s₂) X.xe s₁) X.xe s:=by
 refine thn (ha pins s σ H _ I h) ?_;rintro v s1 ⟨x,H1,I1,r1,q1⟩;refine thn (hb pins s1 σ H1 _ I1 q1) ?_;rintro u s2 ⟨y,H2,I2,r2,q2⟩;exact hf v u s2 x y H2 I2 r1 r2 q2
theorem A0m {op:Operator} {r:R2} (ho:OpR X (binaryOp op) r) (ha:PE X a ta) (hb:PE X b tb):PE X (.BinOp a op b pos) (tOp r ta tb):=by
 intro pins s σ H Q I h;exact wpAny_BinOp (C5a ha hb I h λv u s2 x y H2 I2 rx ry q=>ho pins s2 σ H2 x y v u Q I2 rx ry q)
theorem B1e {op:UnaryOp} {r:V->Hp->VK->Prop} (ho:UnR X (unaryOp op) r) (ha:PE X a ta):PE X (.UnaryOp op a pos) (tUn r ta):=by
 intro pins s σ H Q I h;exact UnaryOp_ (thn (ha pins s σ H _ I h) (by rintro v s1 ⟨x,H1,I1,r1,q1⟩;exact ho pins s1 σ H1 x v Q I1 r1 q1))
theorem opI {f:Value->Value->Sem Value} {C:Int->Int->Prop} {g:Int->Int->Int}
  (rule:∀(i j:Int) (t u:Tok) (s:Shared) (Q:Value->Shared->Prop) (E:Value->Shared->Prop),C i j->Q (.int (g i j) s.toks) { s with toks:=s.toks+1 }->wpAny (model X.prog X.w) X.A (f (.int i t) (.int j u)) Q E s) :
  OpR X f (rI C λi j=> .int (g i j)):=by
 intro pins s σ H x y v u Q I rx ry h;obtain ⟨i,j,rfl,rfl,hc,q⟩:=h;obtain ⟨t,rfl⟩:=rx;obtain ⟨t',rfl⟩:=ry;exact rule i j t t' s _ _ hc ⟨.int (g i j),H,I.tok _,⟨_,rfl⟩,q⟩
theorem C5z {f:Value->Value->Sem Value} {g:Int->Int->Int}
  (rule:∀(i j:Int) (t u:Tok) (s:Shared) (Q:Value->Shared->Prop) (E:Value->Shared->Prop),Q (.int (g i j) s.toks) { s with toks:=s.toks+1 }->wpAny (model X.prog X.w) X.A (f (.int i t) (.int j u)) Q E s) :
  OpR X f (rI0 λi j=> .int (g i j)):=by
 intro pins s σ H x y v u Q I rx ry h;obtain ⟨i,j,rfl,rfl,q⟩:=h;obtain ⟨t,rfl⟩:=rx;obtain ⟨t',rfl⟩:=ry;exact rule i j t t' s _ _ ⟨.int (g i j),H,I.tok _,⟨_,rfl⟩,q⟩
theorem C3u {f:Value->Value->Sem Value} {g:Int->Int->Bool}
  (rule:∀(i j:Int) (t u:Tok) (s:Shared) (Q:Value->Shared->Prop) (E:Value->Shared->Prop),Q (.bool (g i j)) s->wpAny (model X.prog X.w) X.A (f (.int i t) (.int j u)) Q E s) :
  OpR X f (rI0 λi j=> .bl (g i j)):=by
 intro pins s σ H x y v u Q I rx ry h;obtain ⟨i,j,rfl,rfl,q⟩:=h;obtain ⟨t,rfl⟩:=rx;obtain ⟨t',rfl⟩:=ry;exact rule i j t t' s _ _ ⟨.bl (g i j),H,I,rfl,q⟩
def CDiv (i j:Int):Prop:=0<j/\j<1073741824
def CPow (i j:Int):Prop:=0<=j/\j<=1000000/\i.natAbs<2^64
def C4f (i j:Int):Prop:=(-(2^64)<i/\i<2^64)\/(-(2^64)<j/\j<2^64)
theorem C4f.ok {i j:Int} (h:C4f i j):IntMulOk i j:=by
 rcases h with ⟨h1,h2⟩ | ⟨h1,h2⟩
 ·exact .of_left (intBits_le_64 h1 h2)
 ·exact .of_right (intBits_le_64 h1 h2)
theorem A2s:OpR X (binaryOp .Add) (rI0 λi j=> .int (i+j)):=C5z λ_ _ _ _ _ _ _ q=>add_int q
theorem A7s:OpR X (binaryOp .Sub) (rI0 λi j=> .int (i-j)):=C5z λ_ _ _ _ _ _ _ q=>sub_int q
theorem C3l:OpR X (binaryOp .Mult) (rI C4f λi j=> .int (i*j)):=opI λ_ _ _ _ _ _ _ hc q=>mul_int q hc.ok
theorem A2n:OpR X (binaryOp .FloorDiv) (rI CDiv λi j=> .int (i/j)):=opI λi j _ _ _ _ _ hc q=>by
 have h1:(0:Int)<j:=hc.1;have h2:j<1073741824:=hc.2;exact floordiv_int (by lia) (by rw [Int.fdiv_eq_ediv_of_nonneg i (by lia)];exact q) (.inl (PyProof.noPylong_small (by lia)))
theorem A1g:OpR X (binaryOp .Mod) (rI (λ_ j=>0<j) λi j=> .int (i%j)):=opI λi j _ _ _ _ _ hc q=>by
 have h1:(0:Int)<j:=hc;exact mod_int' (by lia) (by rw [Int.fmod_eq_emod_of_nonneg i (by lia)];exact q)
theorem A7r:OpR X (binaryOp .Pow) (rI CPow λi j=> .int (i^j.toNat)):=opI λ_ _ _ _ _ _ _ hc q=>pow_int_small hc.1 hc.2.1 hc.2.2 q
theorem unI {f:Value->Sem Value} {g:Int->Int}
  (rule:∀(i:Int) (t:Tok) (s:Shared) (Q:Value->Shared->Prop) (E:Value->Shared->Prop),Q (.int (g i) s.toks) { s with toks:=s.toks+1 }->wpAny (model X.prog X.w) X.A (f (.int i t)) Q E s) :
  UnR X f (rU λi=> .int (g i)):=by
 intro pins s σ H x v Q I rx h;obtain ⟨i,rfl,q⟩:=h;obtain ⟨t,rfl⟩:=rx;exact rule i t s _ _ ⟨.int (g i),H,I.tok _,⟨_,rfl⟩,q⟩
theorem A6u:UnR X (unaryOp .USub) (rU λi=> .int (-i)):=unI λ_ _ _ _ _ q=>neg_int q
end
def C5v:V->V->Bool
 | .non,.non=>true | .non,.int _=>true | .int _,.non=>true | .non,.bl _=>true | .bl _,.non=>true | .non,.str _=>true | .str _,.non=>true
 | .int _,.int _=>true | .bl _,.bl _=>true | .str _,.str _=>true | .byt _,.byt _=>true
 | .int _,.str _=>true | .str _,.int _=>true | .bl _,.str _=>true | .str _,.bl _=>true
 | _,_=>false
def rEq:R2:=λx y H Q=>C5v x y=true/\Q (.bl (decide (x=y))) H
def rNe:R2:=λx y H Q=>C5v x y=true/\Q (.bl (!decide (x=y))) H
theorem B6d {i j:Int}:decide (V.int i=V.int j)=(i == j):=by
 rw [Bool.eq_iff_iff];simp
theorem B8k {i j:Bool}:decide (V.bl i=V.bl j)=(i == j):=by
 rw [Bool.eq_iff_iff];simp
theorem B4c {i j:Str}:decide (V.str i=V.str j)=(i == j):=by
 rw [Bool.eq_iff_iff];simp
theorem B5o {i j:Array UInt8}:decide (V.byt i=V.byt j)=(i.toList == j.toList):=by
 rw [Bool.eq_iff_iff];cases i;cases j;simp
section
variable {X:Cx} {a b c:Expr} {ta tb tc:TE} {pos:Pos}
theorem A1a {pins:List (Addr×Obj)} {σ:St} {H:Hp} {s:Shared} {Q:VK} {k k':Bool} (I:Inv X pins σ H s) (q:Q (.bl k) H) (e:k=k'):EP X pins σ Q (.bool k') s:=by
 subst e;exact ⟨.bl k,H,I,rfl,q⟩
theorem A4g:OpR X (compareOp .Eq) rEq:=by
 intro pins s σ H x y v u Q I rx ry h;obtain ⟨hs,q⟩:=h
 cases x with
 | non =>
  cases rx
  cases y with
  | non=>cases ry;exact PySem.EqNone.eq_none_none (A1a I q (by simp))
  | bl j=>cases ry;exact PySem.EqNone.eq_none_bool (A1a I q (by simp))
  | int j=>obtain ⟨t',rfl⟩:=ry;exact PySem.EqNone.eq_none_int (A1a I q (by simp))
  | str j=>obtain ⟨t',rfl⟩:=ry;exact PySem.EqNone.eq_none_str (A1a I q (by simp))
  | _=>exact absurd (show false=true from hs) Z0v
 | bl i =>
  cases rx
  cases y with
  | non=>cases ry;exact PySem.EqNone.eq_bool_none (A1a I q (by simp))
  | bl j=>cases ry;exact eq_bool (A1a I q B8k)
  | str j=>obtain ⟨t',rfl⟩:=ry;exact PySem.EqMixed.eq_bool_str (A1a I q (by simp))
  | _=>exact absurd (show false=true from hs) Z0v
 | int i =>
  obtain ⟨t,rfl⟩:=rx
  cases y with
  | non=>cases ry;exact PySem.EqNone.eq_int_none (A1a I q (by simp))
  | int j=>obtain ⟨t',rfl⟩:=ry;exact eq_int (A1a I q B6d)
  | str j=>obtain ⟨t',rfl⟩:=ry;exact PySem.EqMixed.eq_int_str (A1a I q (by simp))
  | _=>exact absurd (show false=true from hs) Z0v
 | str i =>
  obtain ⟨t,rfl⟩:=rx
  cases y with
  | non=>cases ry;exact PySem.EqNone.eq_str_none (A1a I q (by simp))
  | bl j=>cases ry;exact PySem.EqMixed.eq_str_bool (A1a I q (by simp))
  | int j=>obtain ⟨t',rfl⟩:=ry;exact PySem.EqMixed.eq_str_int (A1a I q (by simp))
  | str j=>obtain ⟨t',rfl⟩:=ry;exact eq_str (A1a I q B4c)
  | _=>exact absurd (show false=true from hs) Z0v
 | byt i =>
  obtain ⟨t,rfl⟩:=rx
  cases y with
  | byt j=>obtain ⟨t',rfl⟩:=ry;exact PySem.W.eq_bytes (A1a I q B5o)
  | _=>exact absurd (show false=true from hs) Z0v
 | _=>cases y <;> exact absurd (show false=true from hs) Z0v
theorem A8i:OpR X (compareOp .NotEq) rNe:=by
 intro pins s σ H x y v u Q I rx ry h;obtain ⟨hs,q⟩:=h
 cases x with
 | non =>
  cases rx
  cases y with
  | non=>cases ry;exact PySem.EqNone.ne_none_none (A1a I q (by simp))
  | bl j=>cases ry;exact PySem.EqNone.ne_none_bool (A1a I q (by simp))
  | int j=>obtain ⟨t',rfl⟩:=ry;exact PySem.EqNone.ne_none_int (A1a I q (by simp))
  | str j=>obtain ⟨t',rfl⟩:=ry;exact PySem.EqNone.ne_none_str (A1a I q (by simp))
  | _=>exact absurd (show false=true from hs) Z0v
 | bl i =>
  cases rx
  cases y with
  | non=>cases ry;exact PySem.EqNone.ne_bool_none (A1a I q (by simp))
  | bl j=>cases ry;exact ne_bool (A1a I q (congrArg not B8k))
  | str j=>obtain ⟨t',rfl⟩:=ry;exact PySem.EqMixed.ne_bool_str (A1a I q (by simp))
  | _=>exact absurd (show false=true from hs) Z0v
 | int i =>
  obtain ⟨t,rfl⟩:=rx
  cases y with
  | non=>cases ry;exact PySem.EqNone.ne_int_none (A1a I q (by simp))
  | int j=>obtain ⟨t',rfl⟩:=ry;exact ne_int (A1a I q (congrArg not B6d))
  | str j=>obtain ⟨t',rfl⟩:=ry;exact PySem.EqMixed.ne_int_str (A1a I q (by simp))
  | _=>exact absurd (show false=true from hs) Z0v
 | str i =>
  obtain ⟨t,rfl⟩:=rx
  cases y with
  | non=>cases ry;exact PySem.EqNone.ne_str_none (A1a I q (by simp))
  | bl j=>cases ry;exact PySem.EqMixed.ne_str_bool (A1a I q (by simp))
  | int j=>obtain ⟨t',rfl⟩:=ry;exact PySem.EqMixed.ne_str_int (A1a I q (by simp))
  | str j=>obtain ⟨t',rfl⟩:=ry;exact ne_str (A1a I q (congrArg not B4c))
  | _=>exact absurd (show false=true from hs) Z0v
 | byt i =>
  obtain ⟨t,rfl⟩:=rx
  cases y with
  | byt j=>obtain ⟨t',rfl⟩:=ry;exact PySem.W.ne_bytes (A1a I q (congrArg not B5o))
  | _=>exact absurd (show false=true from hs) Z0v
 | _=>cases y <;> exact absurd (show false=true from hs) Z0v
theorem C2f:OpR X (compareOp .Lt) (rI0 λi j=> .bl (decide (i<j))):=C3u λ_ _ _ _ _ _ _ q=>lt_int q
theorem C5f:OpR X (compareOp .LtE) (rI0 λi j=> .bl (decide (i<=j))):=C3u λ_ _ _ _ _ _ _ q=>le_int q
theorem C4k:OpR X (compareOp .Gt) (rI0 λi j=> .bl (decide (j<i))):=C3u λ_ _ _ _ _ _ _ q=>gt_int q
theorem C4n:OpR X (compareOp .GtE) (rI0 λi j=> .bl (decide (j<=i))):=C3u λ_ _ _ _ _ _ _ q=>ge_int q
theorem A9r:OpR X (compareOp .Is) (λx y H Q=>y= .non/\Q (.bl (decide (x= .non))) H):=by
 intro pins s σ H x y v u Q I rx ry h;obtain ⟨rfl,q⟩:=h;cases ry;refine is_none_gen (A1a I q ?_)
 cases x <;> first
  | (cases rx;rfl)
  | (obtain ⟨t,rfl⟩:=rx;rfl)
theorem B4s:OpR X (compareOp .IsNot) (λx y H Q=>y= .non/\Q (.bl (!decide (x= .non))) H):=by
 intro pins s σ H x y v u Q I rx ry h;obtain ⟨rfl,q⟩:=h;cases ry;refine isnot_none_gen (A1a I q ?_)
 cases x <;> first
  | (cases rx;rfl)
  | (obtain ⟨t,rfl⟩:=rx;rfl)
theorem A0v (b:Expr) {op:CmpOp} (h:op≠.In:=by decide) (h2:op≠.NotIn:=by decide):behindInMarks op b=false:=by
 have e1:(op == CmpOp.In)=false:=by cases op <;> first | rfl | exact absurd rfl h
 have e2:(op == CmpOp.NotIn)=false:=by cases op <;> first | rfl | exact absurd rfl h2
 cases b <;> simp [behindInMarks,e1,e2]
theorem B0m {op:CmpOp} {r:R2} (ho:OpR X (compareOp op) r) (ha:PE X a ta) (hb:PE X b tb) (hm:behindInMarks op b=false):PE X (.Compare a [op] [b] pos) (tOp r ta tb):=by
 intro pins s σ H Q I h;exact wpAny_Compare1 (C5a ha hb I h λv u s2 x y H2 I2 rx ry q=>ho pins s2 σ H2 x y v u Q I2 rx ry q) hm
def C3g (t:TE):TT:=λσ H Q=>t σ H λx H'=>∃k,x= .bl k/\Q k H'
theorem A0r {op:CmpOp} {r:R2} (ho:OpR X (compareOp op) r) (ha:PE X a ta) (hb:PE X b tb) (hm:behindInMarks op b=false):PT X (.Compare a [op] [b] pos) (C3g (tOp r ta tb)):=by
 intro pins s σ H Q I h
 refine wpAny_isTrue_Compare1 (thn (ha pins s σ H _ I h) λv s1 ⟨x,H1,I1,r1,q1⟩=>thn (hb pins s1 σ H1 _ I1 q1) λu s2 ⟨y,H2,I2,r2,q2⟩ =>
  thn (ho pins s2 σ H2 x y v u _ I2 r1 r2 q2) λc s3 ⟨z,H3,I3,r3,k,e,q3⟩=> ?_) hm
 subst e;cases r3;exact wpAny_truthy_bool ⟨H3,I3,q3⟩
def C1i (r r':R2) (ta tb tc:TE):TE:=λσ H Q=>ta σ H λx H1=>tb σ H1 λy H2=>r x y H2 λz H3=>∃k,z= .bl k/\
 (if k=true then tc σ H3 λw' H4=>r' y w' H4 Q else Q (.bl false) H3)
theorem B8f {op op':CmpOp} {r r':R2} (ho:OpR X (compareOp op) r) (ho':OpR X (compareOp op') r') (ha:PE X a ta) (hb:PE X b tb) (hc:PE X c tc)
  (hm:lastMarks [op,op'] [b,c]=false:=by with_unfolding_all rfl):PT X (.Compare a [op,op'] [b,c] pos) (C3g (C1i r r' ta tb tc)):=by
 intro pins s σ H Q I h
 refine isTrue_chain (thn (ha pins s σ H _ I h) λv s1 ⟨x,H1,I1,r1,q1⟩=>test_link (thn (hb pins s1 σ H1 _ I1 q1) λu s2 ⟨y,H2,I2,r2,q2⟩ =>
  thn (ho pins s2 σ H2 x y v u _ I2 r1 r2 q2) λd s3 ⟨z,H3,I3,r3,k,e,q3⟩=> ?_)) hm
 subst e;cases r3;refine wpAny_truthy_bool ?_
 cases k with
 | false =>
  obtain ⟨k',e',q'⟩:=q3;cases e';exact ite_ff ⟨H3,I3,q'⟩
 | true =>
  refine ite_tt (test_last (thn (hc pins s3 σ H3 _ I3 q3) ?_));rintro w' s4 ⟨z',H4,I4,r4,q4⟩;refine thn (ho' pins s4 σ H4 y z' u w' _ I4 r2 r4 q4) ?_;rintro d' s5 ⟨z2,H5,I5,r5,k2,e2,q5⟩;subst e2;cases r5;exact wpAny_truthy_bool ⟨H5,I5,q5⟩
theorem B2o:(sizeLine:Nat)<2^63:=by rw [sizeLine_eq];decide
theorem B7q {x:V} {us:List Value} (r:A1k [x] us):∃u,us=[u]/\A1l x u:=by
 cases r with
 | cons r1 r2=>cases r2;exact ⟨_,rfl,r1⟩
theorem C4u {x y:V} {us:List Value} (r:A1k [x,y] us):∃u w',us=[u,w']/\A1l x u/\A1l y w':=by
 cases r with
 | cons r1 r2 =>
  cases r2 with
  | cons r3 r4=>cases r4;exact ⟨_,_,rfl,r1,r3⟩
end
structure C0n (h:Heap) (x dx C:Addr) (mA:Str->Option Value):Prop where
 obj:h.get? x=some (instObj C dx)
 ns:h.Ns1 dx mA
 ne:dx≠x
theorem B3z {h:Heap} {dx:Addr} {mA:Str->Option Value} (n:h.Ns1 dx mA):∃od,h.get? dx=some od/\∀name,PySem.W.lookIn name od=some (mA name):=by
 obtain ⟨o,es,ep,ho,hd,hk,_,hm⟩:=n;refine ⟨o,ho,λname=> ?_⟩;have e:=hm name;unfold nsFind findBy at e;rw [<-Array.find?_toList] at e;unfold PySem.W.lookIn;rw [hd];dsimp only;split
 ·rename_i y q;rw [q] at e;exact congrArg some e
 ·rename_i q;rw [q] at e
  have a:es.toList.any (·.refKey)=false:=by
   rw [List.any_eq_false];intro y hy;obtain ⟨z,t,hkey⟩:=hk y (Array.mem_toList_iff.mp hy);simp [DictEntry.refKey,hkey]
  have a':¬es.toList.any (·.refKey)=true:=by rw [a];exact Z0v
  rw [Z0t a'];exact congrArg some e
theorem C0n.look {h:Heap} {x dx C:Addr} {mA:Str->Option Value} (I:C0n h x dx C mA):∃od,PySem.W.InstAt h x (instObj C dx) C (some od)/\∀name,PySem.W.lookIn name od=some (mA name) :=
 let ⟨od,ho,hl⟩:=B3z I.ns
 ⟨od,⟨I.obj,rfl,rfl,ho⟩,hl⟩
section
variable {prog:Program} {w:World} {A:Around} {E:Value->Shared->Prop} {s:Shared} {K:Frag} {x dx C f:Addr} {mA:Str->Option Value} {name:Str} {v:Value}
theorem C0s {expr:Bool} {Q:Value->Shared->Prop} (X:K.In s.heap) (I:C0n s.heap x dx C mA) (hg:plainGet K C name=true) (hh:hasDictIn K C=true)
  (ha:findIn K (.ref C) name=some none) (hv:mA name=some v) (hv':PySem.W.handedIn v=true) (h:Q v { s with toks:=s.toks+1 }) :
  wpAny (model prog w) A (getAttr (.ref x) name expr) Q E s:=by
 obtain ⟨od,J,hl⟩:=I.look;exact PySem.W.get_value X J (PySem.W.plainGet_of hg).1 (PySem.W.findObj_own hh ha rfl (by rw [hl,hv])) hv' h
theorem B7s {pl:Sem Bool} {Q:Value×List Value->Shared->Prop} (X:K.In s.heap) (I:C0n s.heap x dx C mA) (hg:plainGet K C name=true)
  (hf:findIn K (.ref C) name=some (some (.ref f))) (ht:isFn K (.ref f)=true) (hv:mA name=none) (h:Q (.ref f,[.ref x]) s) :
  wpAny (model prog w) A (getMethod (.ref x) name pl) Q E s:=by
 obtain ⟨od,J,hl⟩:=I.look;exact PySem.W.method_fn X J (PySem.W.plainGet_of hg).1 (PySem.W.plainGet_of hg).2 hf (beq_iff_eq.mp ht) (by show (PySem.W.lookIn name od).map (·.isSome)=some false;rw [hl,hv];rfl) h
theorem B9h {ns:List Str} {Q:Unit->Shared->Prop} (X:K.In s.heap) (I:C0n s.heap x dx C mA)
  (hs:findIn K (.ref C) "__setattr__"=some (some (.builtin "object.__setattr__"))) (hp:plainOver K C=true) (ht:PySem.W.takerIn K C name=some none) (hh:hasDictIn K C=true)
  (hw:PySem.Within mA ns) (hsz:ns.length<=sizeLine)
  (h:∀h',C0n h' x dx C (λy=>if y=name then some v else mA y)->Heap.SameBut dx s.heap h'->Q () { s with heap:=h',toks:=s.toks+2 }) :
  wpAny (model prog w) A (setAttr (.ref x) name v) Q E s:=by
 obtain ⟨od,J,hl⟩:=I.look;refine PySem.W.set_plain X J hs (PySem.W.osa_open (s:={ s with toks:=s.toks+1 }) (r:=none) X J hp ht λb=> ?_)
 obtain ⟨cd,hc,hd'⟩:=PySem.W.any_some hh;have hx:s.heap.get? x=some ⟨.ref C,some dx,.plain,#[]⟩:=I.obj;refine Z00 (Z04 (Z00 (Z00 (wpAny_loadPart hx (Z00 (PySem.W.Looks.here (s:={ s with toks:=s.toks+1 }) (PySem.W.looks_clsIn X hc) ?_))))));rw [hd'];refine Z04 (a:=some dx) (Z00 (Z04 (Z00 ?_)));refine wpAny_nsSet1 (s:={ s with toks:=s.toks+1 }) I.ns λh' hn2 hs2=> ?_
 obtain ⟨oD,esD,epD,hoD,hdD,hcD⟩:=hn2.count (PySem.Within.cons name v hw);refine Z00 (wpAny_lookBehind hoD (by rw [hdD];exact pastItsLine_dict (Z1n hcD (by rw [Z0y];lia))) ?_);exact Z04 (h _ ⟨(hs2.2 _ (Ne.symm I.ne)).trans I.obj,hn2,I.ne⟩ hs2)
theorem B7e {R:Result->Shared->Prop} {vs:List Value} {kw:List (Str×Value)} (X:K.In s.heap) (hm:makesIn K C=true)
  (hi:findIn K (.ref C) "__init__"=some (some (.ref f))) (hf:typeIn K (.ref f)=some (.type "function"))
  (h:codeAny (model prog w) (A.under (.builtin "type.__call__" ⟨.ref C::vs,kw⟩)) (.call (.ref f) ⟨.ref (s.heap.objs.size+1)::vs,kw⟩) (PySem.W.InitBack (s.heap.objs.size+1) R)
   { s with heap:=(s.heap.push emptyDict).push (instObj C s.heap.objs.size) }) :
  codeAny (model prog w) A (.call (.ref C) ⟨vs,kw⟩) R s:=by
 obtain ⟨hh,g,d,t,os⟩:=s;exact PySem.W.make_core (PySem.W.makes_of X hm) (PySem.W.looks_findIn X hi) (λself=>PySem.W.bind_fn X self hf) (.inl rfl) h
end
def A6b (f:Str) (v:V):List (Str×V)->List (Str×V)
 | []=>[(f,v)]
 | (g,x)::r=>if g=f then (g,v)::r else (g,x)::A6b f v r
theorem A6v (f g:Str) (v:V):∀fs:List (Str×V),(A6b f v fs).lookup g=if g=f then some v else fs.lookup g
 | []=>by
  show List.lookup g [(f,v)]=_;by_cases h:g=f
  ·have hb:(g == f)=true:=beq_iff_eq.mpr h;simp only [List.lookup,hb,Z12 h]
  ·have hb:(g == f)=false:=Z22.mpr h;simp only [List.lookup,hb,Z0t h]
 | (k,x)::r=>by
  have ih:=A6v f g v r;rw [show A6b f v ((k,x)::r)=(if k=f then (k,v)::r else (k,x)::A6b f v r) from rfl];by_cases hk:k=f
  ·rw [Z12 hk];by_cases h:g=k
   ·have hb:(g == k)=true:=beq_iff_eq.mpr h;simp only [List.lookup,hb,Z12 (h.trans hk)]
   ·have hb:(g == k)=false:=Z22.mpr h;simp only [List.lookup,hb,Z0t (λe:g=f=>h (e.trans hk.symm))]
  ·rw [Z0t hk];by_cases h:g=k
   ·have hb:(g == k)=true:=beq_iff_eq.mpr h;simp only [List.lookup,hb,Z0t (λe:g=f=>hk (h.symm.trans e))]
   ·have hb:(g == k)=false:=Z22.mpr h;simp only [List.lookup,hb];exact ih
theorem A7f (f:Str) (v:V):∀fs:List (Str×V),f∈(A6b f v fs).map (·.1)/\∀g,g∈fs.map (·.1)->g∈(A6b f v fs).map (·.1)
 | []=>⟨by simp [A6b],λg h=>by simp at h⟩
 | (k,x)::r=>by
  obtain ⟨i1,i2⟩:=A7f f v r;rw [show A6b f v ((k,x)::r)=(if k=f then (k,v)::r else (k,x)::A6b f v r) from rfl];by_cases hk:k=f
  ·rw [Z12 hk];subst hk;exact ⟨by simp,λg h=>by simpa using h⟩
  ·rw [Z0t hk];refine ⟨?_,λg h=> ?_⟩
   ·rw [Z0p];exact Z1f _ i1
   ·rw [Z0p] at h⊢;rcases Z0e.mp h with e | e
    ·exact Z0e.mpr (.inl e)
    ·exact Z1f _ (i2 g e)
theorem A6h (f:Str) (v:V):∀fs:List (Str×V),(A6b f v fs).length<=fs.length+1
 | []=>by simp [A6b]
 | (k,x)::r=>by
  have ih:=A6h f v r;rw [show A6b f v ((k,x)::r)=(if k=f then (k,v)::r else (k,x)::A6b f v r) from rfl];by_cases hk:k=f
  ·rw [Z12 hk,Z0y,Z0y];lia
  ·rw [Z0t hk,Z0y,Z0y];lia
theorem A9d.some_of {v:V} {o:Option Value} (r:A9d (some v) o):∃u,o=some u/\A1l v u:=by
 cases o with
 | none=>exact (show False from r).elim
 | some u=>exact ⟨u,rfl,r⟩
theorem A9d.none_of {o:Option Value} (r:A9d none o):o=none:=by
 cases o with
 | none=>rfl
 | some u=>exact (show False from r).elim
theorem B4f {v:V} {u:Value} (r:A1l v u):PySem.W.handedIn u=true:=by
 cases v with
 | non=>cases (show u=Value.none from r);rfl
 | bl b=>cases (show u=Value.bool b from r);rfl
 | int i=>obtain ⟨t,e⟩:=(show∃t,u=Value.int i t from r);cases e;rfl
 | str x=>obtain ⟨t,e⟩:=(show∃t,u=Value.str x t from r);cases e;rfl
 | byt b=>obtain ⟨t,e⟩:=(show∃t,u=Value.bytes b t from r);cases e;rfl
 | flt b=>obtain ⟨t,e⟩:=(show∃t,u=Value.float b t from r);cases e;rfl
 | ref a=>cases (show u=Value.ref a from r);rfl
 | ty n=>cases (show u=Value.type n from r);rfl
section
variable {P:Program} {w:World} {H H':Hp} {h h':Heap} {a C dx:Addr} {fs fs':List (Str×V)}
theorem B1f (hok:HOk P w H h) (e:H a=some (.ins C dx fs)):∃mA,C0n h a dx C mA/\(∀f,A9d (fs.lookup f) (mA f))/\PySem.Within mA (fs.map (·.1))/\fs.length<=1000/\H dx=some (.own a):=by
 obtain ⟨d,z,ne,ob,mA,n,r,q⟩:=(show A2a P w H h a (.ins C dx fs) from hok a _ e);exact ⟨mA,⟨ob,n,ne⟩,r,q,z,d⟩
end
structure Cls (K:Frag) (C:Addr):Prop where
 pg:plainGet K C Str.empty=true
 hd:hasDictIn K C=true
 po:plainOver K C=true
 sa:findIn K (.ref C) "__setattr__"=some (some (.builtin "object.__setattr__"))
theorem Cls.get {K:Frag} {C:Addr} (c:Cls K C) (f:Str):plainGet K C f=true:=c.pg
def A3q (K:Frag) (C:Addr) (f:Str):Prop:=findIn K (.ref C) f=some none
theorem A3q.taker {K:Frag} {C:Addr} {f:Str} (n:A3q K C f):PySem.W.takerIn K C f=some none:=by
 unfold PySem.W.takerIn;rw [show findIn K (.ref C) f=some none from n];rfl
structure B6i (K:Frag) (C:Addr) (m:Str) (f:Addr):Prop where
 at_:findIn K (.ref C) m=some (some (.ref f))
 fn:isFn K (.ref f)=true
 kp:keepIn K (.ref f)=true
section
variable {X:Cx} {pins:List (Addr×Obj)} {σ:St} {H:Hp} {s:Shared} {a C dx:Addr} {fs:List (Str×V)} {f:Str} {v:V} {A:Around} {E:Value->Shared->Prop}
theorem B2s {b:Bool} {Q:Value->Shared->Prop} (I:Inv X pins σ H s) (e:H a=some (.ins C dx fs)) (c:Cls X.K C) (n:A3q X.K C f) (l:fs.lookup f=some v)
  (h:∀u s',Inv X pins σ H s'->A1l v u->Q u s'):wpAny (model X.prog X.w) A (getAttr (.ref a) f b) Q E s:=by
 obtain ⟨mA,O,r,_,_,_⟩:=B1f I.hok e;obtain ⟨u,hu,ru⟩:=A9d.some_of (v:=v) (o:=mA f) (by rw [<-l];exact r f);exact C0s I.kIn O (c.get f) c.hd n hu (B4f ru) (h u _ (I.tok _) ru)
theorem A8b {m:Str} {g:Addr} {pl:Sem Bool} {Q:Value×List Value->Shared->Prop} (I:Inv X pins σ H s) (e:H a=some (.ins C dx fs)) (c:Cls X.K C) (k:B6i X.K C m g) (l:fs.lookup m=none)
  (h:Q (.ref g,[.ref a]) s):wpAny (model X.prog X.w) A (getMethod (.ref a) m pl) Q E s:=by
 obtain ⟨mA,O,r,_,_,_⟩:=B1f I.hok e;have hn:mA m=none:=A9d.none_of (by rw [<-l];exact r m);exact B7s I.kIn O (c.get m) k.at_ k.fn hn h
theorem B2y {y:V} {u:Value} {Q:Unit->Shared->Prop} (I:Inv X pins σ H s) (e:H a=some (.ins C dx fs)) (c:Cls X.K C) (n:A3q X.K C f) (hl:fs.length<1000) (ry:A1l y u)
  (h:∀s',Inv X pins σ (upd H a (.ins C dx (A6b f y fs))) s'->Q () s'):wpAny (model X.prog X.w) A (setAttr (.ref a) f u) Q E s:=by
 obtain ⟨mA,O,r,wi,_,ho⟩:=B1f I.hok e;have hz:(fs.map (·.1)).length<=sizeLine:=by rw [Z08,sizeLine_eq];lia
 refine B9h I.kIn O c.sa c.po n.taker c.hd wi hz λh' O' sb=>h _ ?_;have hd:∃o,h'.get? dx=some o:=let ⟨o,_,_,e',_⟩:=O'.ns;⟨o,e'⟩;refine I.write (x:=a) (e:=dx) (by rw [e];exact True.intro) (.inr ho) (λb q hb z=>(sb.2 b hb).trans z) hd ?_;refine ⟨by rw [A0g O.ne];exact ho,?_,O.ne,O'.obj,_,O'.ns,λg=> ?_,λg hg=> ?_⟩
 ·have:=A6h f y fs;lia
 ·show A9d ((A6b f y fs).lookup g) (if g=f then some u else mA g);rw [A6v];by_cases q:g=f
  ·rw [Z12 q,Z12 q];exact ry
  ·rw [Z0t q,Z0t q];exact r g
 ·by_cases q:g=f
  ·rw [q];exact (A7f f y fs).1
  ·refine (A7f f y fs).2 g (wi g λz=>hg ?_);show (if g=f then some u else mA g)=none;rw [Z0t q];exact z
theorem Inv.made (I:Inv X pins σ H s):Inv X pins σ (upd (upd H s.heap.objs.size (.own (s.heap.objs.size+1))) (s.heap.objs.size+1) (.ins C s.heap.objs.size []))
  { s with heap:=(s.heap.push emptyDict).push (instObj C s.heap.objs.size) }:=by
 have e1:(s.heap.push emptyDict).get? s.heap.objs.size=some emptyDict:=Z0c s.heap rfl
 have e2:((s.heap.push emptyDict).push (instObj C s.heap.objs.size)).get? (s.heap.objs.size+1)=some (instObj C s.heap.objs.size):=by
  have:=Z0c (s.heap.push emptyDict) (o:=instObj C s.heap.objs.size) rfl
  rwa [Z1s] at this
 have e3:(s.heap.push emptyDict).Ns s.heap.objs.size (λ_=>none):=⟨emptyDict,#[],_,e1,rfl,(λe he=>absurd he (by simp)),λ_=>rfl⟩;have I1:=I.laid (a:=s.heap.objs.size) (o:= .own (s.heap.objs.size+1)) (h':=s.heap.push emptyDict) (t':=s.toks) (λb u q=>Z01 _ q) (Z09 _) ⟨_,e1⟩;refine I1.laid (a:=s.heap.objs.size+1) (o:= .ins C s.heap.objs.size []) (t':=s.toks) (λb u q=>Z01 _ q) (Nat.le_of_eq (Z1s _ _)) ?_;have ne:s.heap.objs.size≠s.heap.objs.size+1:=Z0h (Nat.lt_succ_self _);refine ⟨by rw [A0g ne,A0d],Z1e _,ne,e2,λ_=>none,(Heap.Ns1.of_empty e3).at λo q=>Z01 _ q,λ_=>True.intro,λy hy=>absurd rfl hy⟩
theorem C0z {prog:Program} {w:World} {env:Env} {e:Expr} {f:Str} {pos:Pos} {s:Shared} {Q:Value->Shared->Prop} (hb:attributeBase e f env (eval e env)=eval e env)
  (h:wpAny (model prog w) A (eval e env) (λo s₁=>wpAny (model prog w) A (getAttr o f true) Q E s₁) E s):wpAny (model prog w) A (eval (.Attribute e f pos) env) Q E s :=
 Attribute_any_ h (by rw [arm_eval_Attribute,hb])
end
def tFld (K:Frag) (ta:TE) (f:Str):TE:=λσ H Q=>ta σ H λx H1=>∃a C dx fs v,x= .ref a/\H1 a=some (.ins C dx fs)/\Cls K C/\A3q K C f/\fs.lookup f=some v/\Q v H1
def sFld (K:Frag) (ta tv:TE) (f:Str):TS:=λD σ H=>tv σ H λy H1=>ta σ H1 λx H2=>∃a C dx fs,x= .ref a/\H2 a=some (.ins C dx fs)/\Cls K C/\A3q K C f/\fs.length<1000/\
 D.nx σ (upd H2 a (.ins C dx (A6b f y fs)))
section
variable {X:Cx} {o e value:Expr} {f:Str} {pos pos' tpos:Pos} {ta tv:TE}
theorem A2r (he:PE X e ta) (hb:attributeBase e f X.env (eval e X.env)=eval e X.env):PE X (.Attribute e f pos) (tFld X.K ta f):=by
 intro pins s σ H Q I h;refine C0z hb (thn (he pins s σ H _ I h) ?_);rintro u s1 ⟨x,H1,I1,rx,a,C,dx,fs,v,ex,ea,c,n,l,q⟩;subst ex;obtain rfl:u=Value.ref a:=rx;exact B2s I1 ea c n l λu' s2 I2 ru=>⟨v,H1,I2,ru,q⟩
theorem A7t (ha:PE X o ta) (hv:PE X value tv) (hs:swapsWith value (some (.Attribute o f pos')) pos.line X.env=pure false):PS X (.Assign [.Attribute o f pos'] value pos) (sFld X.K ta tv f):=by
 intro pins s σ H D I h;refine plainObj_wpAny_Assign_Attribute (thn (hv pins s σ H _ I h) ?_) hs;rintro u s1 ⟨y,H1,I1,ry,q⟩;refine thn (ha pins s1 σ H1 _ I1 q) ?_;rintro ov s2 ⟨x,H2,I2,rx,a,C,dx,fs,ex,ea,c,n,l,q2⟩;subst ex;obtain rfl:ov=Value.ref a:=rx;exact B2y I2 ea c n l ry λs3 I3=>⟨σ,_,I3,q2⟩
end
section
variable {X:Cx} {pins:List (Addr×Obj)} {σ:St} {H:Hp} {s:Shared} {A:Around} {E:Value->Shared->Prop} {Q:Value->Shared->Prop} {c:Value} {b:Bool}
end
structure A3u (k:Nat) (A:Around):Prop where
 hd:A.handled=none
 dp:A.depth+3*k+5<recursionLimit
 un:A.units+16*k+200<cLine
 gd:A.guards=some []
theorem A3u.mono {j k:Nat} {A:Around} (r:A3u k A) (h:j<=k):A3u j A:=⟨r.hd,by have:=r.dp;lia,by have:=r.un;lia,r.gd⟩
theorem A3u.deeper {k:Nat} {A:Around} (r:A3u (k+1) A) (env:Env):A3u k (A.deeper env) :=
 ⟨r.hd,by have:=r.dp;show A.depth+1+3*k+5<_;lia,by have:=r.un;show A.units+3+16*k+200<_;lia,r.gd⟩
theorem B2x {A:Around} {C:Addr} {us:List Value} {kw:List (Str×Value)}:(A.under (.builtin "type.__call__" ⟨.ref C::us,kw⟩)).depth=A.depth+1:=by
 first | rfl | simp [Around.under,Code.weight,Code.isCreation,Code.isGuard,Code.isCaller,Code.frames,Code.isFrame,guardIds]
theorem B3i {A:Around} {C:Addr} {us:List Value} {kw:List (Str×Value)}:(A.under (.builtin "type.__call__" ⟨.ref C::us,kw⟩)).units=A.units+1:=by
 first | rfl | simp [Around.under,Code.cUnits,Code.frames,Code.isFrame]
theorem B0s {A:Around} {C:Addr} {us:List Value} {kw:List (Str×Value)}:(A.under (.builtin "type.__call__" ⟨.ref C::us,kw⟩)).guards=A.guards:=by
 show pushGuards (Code.guards (.builtin "type.__call__" ⟨.ref C::us,kw⟩)) A.guards=A.guards;have h:Code.isGuard (.builtin "type.__call__" ⟨.ref C::us,kw⟩)=false:=by first | rfl | (simp [Code.isGuard,guardIds]) | decide
 unfold Code.guards;rw [h];cases A.guards <;> rfl
theorem A3u.make {k:Nat} {A:Around} (r:A3u (k+1) A) (C:Addr) (us:List Value) (kw:List (Str×Value)):A3u k (A.under (.builtin "type.__call__" ⟨.ref C::us,kw⟩)) :=
 ⟨r.hd,by have:=r.dp;rw [B2x];lia,by have:=r.un;rw [B3i];lia,by rw [B0s];exact r.gd⟩
theorem A3u.depth {k:Nat} {A:Around} (r:A3u k A):A.depth<recursionLimit:=by have:=r.dp;lia
theorem A3u.units {k:Nat} {A:Around} (r:A3u k A):A.units+64<cLine:=by have:=r.un;lia
def C5u:TA:=λ_ H Q=>Q [] H
def C4b (ta:TE) (tr:TA):TA:=λσ H Q=>ta σ H λx H1=>tr σ H1 λxs H2=>Q (x::xs) H2
section
variable {X:Cx} {e:Expr} {es:List Expr} {te:TE} {t:TA} {pos:Pos}
theorem A0b:PA X [] C5u:=λ_ _ _ _ H Q I h=>Calls.spliced_nil ⟨[],H,I,.nil,h⟩
theorem A0a (ha:PE X e te) (hr:PA X es t) (hs:starEach (e::es) X.env=(false,eval e X.env)::starEach es X.env:=by rfl):PA X (e::es) (C4b te t):=by
 intro pos pins s σ H Q I h;rw [hs];show wpAny _ _ (spliced ((false,eval e X.env)::backTo pos (starEach es X.env))) _ _ s;refine Calls.spliced_cons (thn (ha pins s σ H _ I h) ?_);rintro u s1 ⟨x,H1,I1,r1,q1⟩;exact thn (hr pos pins s1 σ H1 _ I1 q1) (by rintro us s2 ⟨xs,H2,I2,r2,q2⟩;exact ⟨x::xs,H2,I2,.cons r1 r2,q2⟩)
def tTup (t:TA):TE:=λσ H Q=>t σ H λxs H1=>xs.length<=sizeLine/\∀p,H1 p=none->Q (.ref p) (upd H1 p (.tup xs))
def tLst (t:TA):TE:=λσ H Q=>t σ H λxs H1=>xs.length<=sizeLine/\∀p,H1 p=none->Q (.ref p) (upd H1 p (.lst xs))
theorem A1d {x1} (h:PA X es t):PE X (.Tuple es x1 pos) (tTup t):=by
 intro pins s σ H Q I hq;refine wpAny_Tuple_spliced (thn (h pos pins s σ H _ I hq) λus s1 ⟨xs,H1,I1,r,z,q⟩=>⟨by rw [<-r.length];exact z,?_⟩);have hf:H1 s1.heap.objs.size=none:=I1.hok.fresh (Z09 _);refine ⟨.ref s1.heap.objs.size,upd H1 s1.heap.objs.size (.tup xs),I1.laid (t':=s1.toks) (λb u e=>Z01 _ e) (Z09 _) ?_,rfl,q _ hf⟩;exact ⟨z,us,r,⟨_,Z0c _ rfl,rfl,_,rfl⟩⟩
theorem A2t (h:PA X es t):PE X (.List es pos) (tLst t):=by
 intro pins s σ H Q I hq;refine wpAny_List_spliced (thn (h pos pins s σ H _ I hq) λus s1 ⟨xs,H1,I1,r,z,q⟩=>⟨by rw [<-r.length];exact z,?_⟩);have hf:H1 s1.heap.objs.size=none:=I1.hok.fresh (Z09 _);refine ⟨.ref s1.heap.objs.size,upd H1 s1.heap.objs.size (.lst xs),I1.laid (t':=s1.toks) (λb u e=>Z01 _ e) (Z09 _) ?_,rfl,q _ hf⟩;exact ⟨z,us,0,r,Z0c _ rfl⟩
end
abbrev Sp:=List V->Hp->VK->XK->Prop
abbrev CXT:=List Env->Hp->Shared->XK->Value->Shared->Prop
structure B6j (P:Program) (w:World) (K:Frag) (mg:Str->Option Value) (base:Heap) (A:Around) (outer:List Env) (s:Shared) (H:Hp):Prop where
 frames:A.frames=some outer
 mod:Mod K mg base
 bs:∀b o,base.get? b=some o->s.heap.get? b=some o/\H b=none
 bsz:base.objs.size<=s.heap.objs.size
 funs:s.heap.FunFrames base outer
 frf:∀b∈frs outer,H b=none
 hok:HOk P w H s.heap
 bare:AllBare s.gens
def CE (outer:List Env) (P:Program) (w:World) (H:Hp) (s:Shared) (Q:VK) (u:Value) (s':Shared):Prop :=
 ∃v H',s'.os=s.os/\AllBare s'.gens/\Un (frs outer) [] H H' s.heap s'.heap/\HOk P w H' s'.heap/\A1l v u/\Q v H'
def CR (CX:CXT) (outer:List Env) (P:Program) (w:World) (H:Hp) (s:Shared) (Q:VK) (E:XK) (r:Result) (s':Shared):Prop :=
 match r with
 | .ok (.ret u)=>CE outer P w H s Q u s'
 | .ok _=>False
 | .error e=>CX outer H s E e s'
structure A4w (P:Program) (w:World) (K:Frag) (mg:Str->Option Value) (base:Heap) (CX:CXT) (k:Nat) (f:Addr) (fd:FuncData) (ps:List Str) (sp:Sp):Prop where
 len:∀vs H Q E,sp vs H Q E->vs.length=ps.length
 run:∀(A:Around) (outer:List Env) (s:Shared) (H:Hp) (args:Args) (us:List Value) (vs:List V) (Q:VK) (E:XK),A3u k A->B6j P w K mg base A outer s H->BindsTo s fd args (ps.zip us)->A1k vs us->sp vs H Q E->
  codeAny (model P w) A (.call (.ref f) args) (CR CX outer P w H s Q E) s
theorem B6j.make {P:Program} {w:World} {K:Frag} {mg:Str->Option Value} {base:Heap} {A:Around} {outer:List Env} {s:Shared} {H:Hp} (e:B6j P w K mg base A outer s H) (C:Addr) (us:List Value) (kw:List (Str×Value)) :
  B6j P w K mg base (A.under (.builtin "type.__call__" ⟨.ref C::us,kw⟩)) outer s H:=⟨by first | exact e.frames | (simpa [Around.under,Code.envs,Code.isFrame,pushEnvs] using e.frames),e.mod,e.bs,e.bsz,e.funs,e.frf,e.hok,e.bare⟩
section
variable {X:Cx} {pins:List (Addr×Obj)} {σ:St} {H:Hp} {s s':Shared}
theorem Inv.env0 (I:Inv X pins σ H s):B6j X.prog X.w X.K X.mg X.base X.A X.stack s H :=
 ⟨I.ok.frames,I.ok.mod,I.bs,Z1n I.ok.bsz I.sz,I.stack,I.stkFree,I.hok,I.bare⟩
theorem Inv.after {Q:VK} {u:Value} (I:Inv X pins σ H s) (h:CE X.stack X.prog X.w H s Q u s'):EP X pins σ Q u s':=by
 obtain ⟨v,H',os,bare,un,hok,r,q⟩:=h;obtain ⟨hh,g,d,t,os'⟩:=s';obtain rfl:os'=s.os:=os;exact ⟨v,H',I.call (h':=hh) (g':=g) (d':=d) (t':=t) (ch:=[]) un hok bare (λb z=>absurd z (by simp)),r,q⟩
end
def C0b (sp:Sp) (dvs:List V) (E:XK) (t:TA):TE:=λσ H Q=>t σ H λvs H1=>sp (vs++dvs) H1 Q E
def C1q (C:Addr) (m:Str) (sp:Sp) (dvs:List V) (E:XK) (ta:TE) (t:TA):TE:=λσ H Q=>ta σ H λx H1=>∃a dx fs,x= .ref a/\H1 a=some (.ins C dx fs)/\fs.lookup m=none/\
 t σ H1 λvs H2=>sp (x::(vs++dvs)) H2 Q E
def C3r (C:Addr) (sp:Sp) (dvs:List V) (E:XK) (t:TA):TE:=λσ H Q=>t σ H λvs H1=>∀x dx,H1 x=none->H1 dx=none->dx≠x->
 sp (.ref x::(vs++dvs)) (upd (upd H1 dx (.own x)) x (.ins C dx [])) (λv H2=>v= .non/\Q (.ref x) H2) E
def A3x (K:Frag) (fd:FuncData) (ps:List Str) (ds:List Value):Prop :=
 ∀(s:Shared) (us:List Value),K.In s.heap->(us++ds).length=ps.length->BindsTo s fd ⟨us,[]⟩ (ps.zip (us++ds))
theorem A3x.all {K:Frag} {fd:FuncData} {ps:List Str} (h:∀us:List Value,us.length=ps.length->bindArgs fd ⟨us,[]⟩=pure (ps.zip us)):A3x K fd ps []:=λs us _ hl=>by
 rw [Z0u] at hl⊢;exact .of_eq (h us hl)
def A4i (CX:CXT) (X:Cx) (E:XK):Prop:=∀(pins:List (Addr×Obj)) (σ:St) (H:Hp) (s:Shared) (e:Value) (s':Shared),Inv X pins σ H s->CX X.stack H s E e s'->X.xe e s'
section
variable {X:Cx} {CX:CXT} {k:Nat} {f C:Addr} {fd:FuncData} {ps:List Str} {sp:Sp} {dvs:List V} {ds:List Value} {E:XK} {x m:Str} {p pos apos:Pos} {e o:Expr} {es:List Expr} {ta:TE} {t:TA}
theorem B1v {pins:List (Addr×Obj)} {σ:St} {H:Hp} {s:Shared} {Q:VK} {us:List Value} {vs:List V} (F:A4w X.prog X.w X.K X.mg X.base CX k f fd ps sp) (hr:A3u k X.A) (hb:A3x X.K fd ps ds) (hd:A1k dvs ds) (hx:A4i CX X E)
  (I:Inv X pins σ H s) (r:A1k vs us) (h:sp (vs++dvs) H Q E):wpAny (model X.prog X.w) X.A (call (.ref f) us) (EP X pins σ Q) X.xe s:=by
 have r2:A1k (vs++dvs) (us++ds):=r.append hd;have hl:(us++ds).length=ps.length:=by rw [<-r2.length];exact F.len _ _ _ _ h
 refine wpAny_call (codeAny_mono (F.run X.A X.stack s H ⟨us,[]⟩ (us++ds) (vs++dvs) Q E hr I.env0 (hb s us I.kIn hl) r2 h) λr s' hq=> ?_)
 cases r with
 | error e=>exact hx pins σ H s e s' I hq
 | ok fl =>
  cases fl with
  | ret u=>exact I.after hq
  | next=>exact False.elim hq
  | brk=>exact False.elim hq
  | cont=>exact False.elim hq
theorem B9p (F:A4w X.prog X.w X.K X.mg X.base CX k f fd ps sp) (hr:A3u k X.A) (hg:Gl X x) (hm:X.mg x=some (.ref f)) (hk:keepIn X.K (.ref f)=true) (hb:A3x X.K fd ps ds) (hd:A1k dvs ds) (hx:A4i CX X E)
  (ha:PA X (e::es) t) (hdb:(x == ("__debug__":Str))=false:=by decide) (he:starEach (e::es) X.env=(false,eval e X.env)::starEach es X.env:=by rfl) (hpl:(backTo pos (starEach es X.env)).any (·.1)=false:=by rfl) :
  PE X (.Call (.Name x p) (e::es) [] pos) (C0b sp dvs E t):=by
 intro pins s σ H Q I h;refine wpAny_Call_Name_kw (A2x I hg hm ?_ hdb);refine PySem.W.callWith_K (h₀:=X.base) I.ok.mod.kin hk (thn (ha pos pins s σ H _ I h) λus s1 ⟨vs,H1,I1,r,q⟩=>⟨I1.kIn,?_⟩) he hpl;exact B1v F hr hb hd hx I1 r q
theorem A1v {pl:Sem Bool} (he:PE X o ta) (c:Cls X.K C) (hm:B6i X.K C m f) (F:A4w X.prog X.w X.K X.mg X.base CX k f fd ps sp) (hr:A3u k X.A) (hb:A3x X.K fd ps ds) (hd:A1k dvs ds) (hx:A4i CX X E) (ha:PA X (e::es) t)
  (hst:starEach (e::es) X.env=(false,eval e X.env)::starEach es X.env:=by rfl) (hpl:(backTo pos (starEach es X.env)).any (·.1)=false:=by rfl)
  (ht:eval (.Call (.Attribute o m apos) (e::es) [] pos) X.env=(do
   let ov<-eval o X.env
   standAt apos.atName
   let (f,first)<-holding [ov] (getMethod ov m pl)
   callWith pos f first (backTo pos (starEach (e::es) X.env)) (backToKw pos (keywordEach [] X.env))):=by rfl) :
  PE X (.Call (.Attribute o m apos) (e::es) [] pos) (C1q C m sp dvs E ta t):=by
 intro pins s σ H Q I h;refine PySem.W.methodCall_KW (pl:=pl) (thn (he pins s σ H _ I h) ?_) ht;rintro u s1 ⟨x,H1,I1,rx,a,dx,fs,ex,ea,l,q⟩;subst ex;obtain rfl:u=Value.ref a:=rx;refine A8b I1 ea c hm l ?_;refine PySem.W.callWith_K (first:=[.ref a]) (h₀:=X.base) I.ok.mod.kin hm.kp (thn (ha pos pins s1 σ H1 _ I1 q) λus s2 ⟨vs,H2,I2,r,q2⟩=>⟨I2.kIn,?_⟩) hst hpl;exact B1v (us:= .ref a::us) (vs:= .ref a::vs) F hr hb hd hx I2 (.cons rfl r) q2
theorem A8y {pl:Sem Bool} (he:PE X o ta) (c:Cls X.K C) (hm:B6i X.K C m f) (F:A4w X.prog X.w X.K X.mg X.base CX k f fd ps sp) (hr:A3u k X.A) (hb:A3x X.K fd ps ds) (hd:A1k dvs ds) (hx:A4i CX X E)
  (ht:eval (.Call (.Attribute o m apos) [] [] pos) X.env=(do
   let ov<-eval o X.env
   standAt apos.atName
   let (f,first)<-holding [ov] (getMethod ov m pl)
   callWith pos f first (backTo pos (starEach [] X.env)) (backToKw pos (keywordEach [] X.env))):=by rfl) :
  PE X (.Call (.Attribute o m apos) [] [] pos) (C1q C m sp dvs E ta C5u):=by
 intro pins s σ H Q I h;refine PySem.W.methodCall_KW (pl:=pl) (thn (he pins s σ H _ I h) ?_) ht;rintro u s1 ⟨x,H1,I1,rx,a,dx,fs,ex,ea,l,q⟩;subst ex;obtain rfl:u=Value.ref a:=rx;refine A8b I1 ea c hm l ?_;exact PySem.W.callWith_K0 (first:=[.ref a]) I1.kIn hm.kp (B1v (us:=[.ref a]) (vs:=[.ref a]) F hr hb hd hx I1 (.cons rfl .nil) q)
structure Mk (K:Frag) (C f:Addr):Prop where
 makes:makesIn K C=true
 init:findIn K (.ref C) "__init__"=some (some (.ref f))
 fn:isFn K (.ref f)=true
 kp:keepIn K (.ref C)=true
theorem B7b {pins:List (Addr×Obj)} {σ:St} {H:Hp} {s:Shared} {Q:VK} {us:List Value} {vs:List V} (M:Mk X.K C f) (F:A4w X.prog X.w X.K X.mg X.base CX k f fd ps sp) (hr:A3u (k+1) X.A) (hb:A3x X.K fd ps ds) (hd:A1k dvs ds)
  (hx:A4i CX X E) (I:Inv X pins σ H s) (r:A1k vs us)
  (h:∀x dx,H x=none->H dx=none->dx≠x->sp (.ref x::(vs++dvs)) (upd (upd H dx (.own x)) x (.ins C dx [])) (λv H2=>v= .non/\Q (.ref x) H2) E) :
  wpAny (model X.prog X.w) X.A (call (.ref C) us) (EP X pins σ Q) X.xe s:=by
 have hq:=h (s.heap.objs.size+1) s.heap.objs.size (I.hok.fresh (Nat.le_succ _)) (I.hok.fresh (Z09 _)) (Z0h (Nat.lt_succ_self _));have I2:=Inv.made (C:=C) I;have r2:A1k (V.ref (s.heap.objs.size+1)::(vs++dvs)) (Value.ref (s.heap.objs.size+1)::(us++ds)):= .cons rfl (r.append hd)
 have hl:(Value.ref (s.heap.objs.size+1)::us++ds).length=ps.length:=by
  have e:=r2.length;rw [F.len _ _ _ _ hq] at e;exact e.symm
 refine wpAny_call (B7e (f:=f) I.kIn M.makes M.init (beq_iff_eq.mp M.fn) (codeAny_mono (F.run _ X.stack _ _ ⟨Value.ref (s.heap.objs.size+1)::us,[]⟩ (Value.ref (s.heap.objs.size+1)::(us++ds)) _ _ E (hr.make C us [])
  (I2.env0.make C us []) (hb _ (Value.ref (s.heap.objs.size+1)::us) I2.kIn hl) r2 hq) λr s' hq'=> ?_))
 cases r with
 | error e=>exact hx pins σ _ _ e s' I2 hq'
 | ok fl =>
  cases fl with
  | ret u =>
   obtain ⟨v,H',I3,rv,ev,q3⟩:=I2.after hq';subst ev;exact ⟨rv,⟨V.ref (s.heap.objs.size+1),H',I3,rfl,q3⟩⟩
  | next=>exact False.elim hq'
  | brk=>exact False.elim hq'
  | cont=>exact False.elim hq'
theorem B9j (M:Mk X.K C f) (F:A4w X.prog X.w X.K X.mg X.base CX k f fd ps sp) (hr:A3u (k+1) X.A) (hg:Gl X x) (hm:X.mg x=some (.ref C)) (hb:A3x X.K fd ps ds) (hd:A1k dvs ds) (hx:A4i CX X E)
  (ha:PA X (e::es) t) (hdb:(x == ("__debug__":Str))=false:=by decide) (he:starEach (e::es) X.env=(false,eval e X.env)::starEach es X.env:=by rfl) (hpl:(backTo pos (starEach es X.env)).any (·.1)=false:=by rfl) :
  PE X (.Call (.Name x p) (e::es) [] pos) (C3r C sp dvs E t):=by
 intro pins s σ H Q I h;refine wpAny_Call_Name_kw (A2x I hg hm ?_ hdb);refine PySem.W.callWith_K (h₀:=X.base) I.ok.mod.kin M.kp (thn (ha pos pins s σ H _ I h) λus s1 ⟨vs,H1,I1,r,q⟩=>⟨I1.kIn,?_⟩) he hpl;exact B7b M F hr hb hd hx I1 r q
end
section
variable {X:Cx} {CX:CXT} {k:Nat} {f C:Addr} {fd:FuncData} {ps ks:List Str} {sp:Sp} {E:XK} {x m:Str} {p pos apos kpos:Pos} {e o:Expr} {es:List Expr} {kws:List Keyword} {te ta:TE} {t tk:TA} {nm:Option Str}
variable {g:List Value->List Value->List Value} {gV:List V->List V->List V}
end
structure A0n (N P:List Str) (sc:Scope):Prop where
 kind:sc.kind= .function
 co:sc.isCoroutine=false
 gen:sc.isGenerator=false
 nd:N.Nodup
 pre:N.take P.length=P
 par:∀x∈P,sc.names.lookup x=some .local\/sc.names.lookup x=some .cell
 nofree:∀y∈sc.names,y.2≠.free
theorem A9z {kindOf:Str->Option NameKind} {x:Str}:∀{binds:List (Str×Value)} {m:Str->Option Value},(∀v,(x,v)∉binds)->bindL kindOf binds m x=m x
 | [],_,_=>rfl
 | (n,v)::r,m,h=>by
  unfold bindL;rw [A9z λw hw=>h w (Z1f _ hw)];split
  ·have:x≠n:=by rintro rfl;exact h v Z27
   simp [this]
  ·rfl
theorem B0f {kindOf:Str->Option NameKind} {x:Str}:∀{binds:List (Str×Value)} {m:Str->Option Value},(∀v,(x,v)∉binds)->bindC kindOf binds m x=m x
 | [],_,_=>rfl
 | (n,v)::r,m,h=>by
  unfold bindC;rw [B0f λw hw=>h w (Z1f _ hw)];split
  ·rfl
  ·have:x≠n:=by rintro rfl;exact h v Z27
   simp [this]
theorem A9n {kindOf:Str->Option NameKind} {x:Str} {v:Value}:∀{P:List Str} {vs:List Value} {i:Nat} {m:Str->Option Value},P.Nodup->P[i]? =some x->vs[i]? =some v->kindOf x=some .local->
  bindL kindOf (P.zip vs) m x=some v
 | [],_,_,_,_,h,_,_=>by simp at h
 | _::_,[],_,_,_,_,h,_=>by simp at h
 | p::P,w::vs,0,m,nd,h1,h2,hk=>by
  simp at h1 h2;subst h1;subst h2;show bindL kindOf ((p,w)::P.zip vs) m p=_;unfold bindL;rw [A9z λv hv=>(Z15.mp nd).1 (List.of_mem_zip hv).1,Z12 hk];simp
 | p::P,w::vs,i+1,m,nd,h1,h2,hk=>by
  show bindL kindOf ((p,w)::P.zip vs) m x=_;unfold bindL;exact A9n (i:=i) (Z15.mp nd).2 (by simpa using h1) (by simpa using h2) hk
theorem A9j {kindOf:Str->Option NameKind} {x:Str} {v:Value}:∀{P:List Str} {vs:List Value} {i:Nat} {m:Str->Option Value},P.Nodup->P[i]? =some x->vs[i]? =some v->kindOf x≠some .local->
  bindC kindOf (P.zip vs) m x=some v
 | [],_,_,_,_,h,_,_=>by simp at h
 | _::_,[],_,_,_,_,h,_=>by simp at h
 | p::P,w::vs,0,m,nd,h1,h2,hk=>by
  simp at h1 h2;subst h1;subst h2;show bindC kindOf ((p,w)::P.zip vs) m p=_;unfold bindC;rw [B0f λv hv=>(Z15.mp nd).1 (List.of_mem_zip hv).1,Z0t hk];simp
 | p::P,w::vs,i+1,m,nd,h1,h2,hk=>by
  show bindC kindOf ((p,w)::P.zip vs) m x=_;unfold bindC;exact A9j (i:=i) (Z15.mp nd).2 (by simpa using h1) (by simpa using h2) hk
def A6a (N:List Str) (vs:List V):St:=vs.map some++List.replicate (N.length-vs.length) none
def B6k (CX:CXT) (P:Program) (w:World) (K:Frag) (mg:Str->Option Value) (base:Heap) (N:List Str) (qual:Str) (scope:Scope) (f:Addr) (cd:Value) (A:Around) (outer:List Env) (s:Shared) (H:Hp) (E:XK):Cx where
 prog:=P
 w:=w
 K:=K
 mg:=mg
 base:=base
 A:=A.deeper (envOfC qual scope s.heap.objs.size f cd)
 N:=N
 s₀:=s
 H₀:=H
 env:=envOfC qual scope s.heap.objs.size f cd
 outer:=outer
 stack:=envOfC qual scope s.heap.objs.size f cd::outer
 ex:=[]
 calm:=true
 fn:=λ_=>true
 pn:=[]
 xe:=λe s'=>wpAny (model P w) (A.deeper (envOfC qual scope s.heap.objs.size f cd)) (leaving (envOfC qual scope s.heap.objs.size f cd) e) (λ_ s''=>CX outer H s E e s'') (λe' s''=>CX outer H s E e' s'') s'
theorem B2b {sc:Scope} {n:Nat} {x:Str} (h:sc.names.lookup x=some .cell):∃c,(cellsFrom n sc.names []).lookup x=some c:=by
 have q:=PySem.W.cellsFrom_some sc.names n [] (.inl h);exact Option.isSome_iff_exists.mp q
theorem B0c {CX:CXT} {P:Program} {w:World} {K:Frag} {mg:Str->Option Value} {base:Heap} {N ps:List Str} {qual:Str} {scope:Scope} {f:Addr} {cd:Value} {A:Around} {outer:List Env} {s s1:Shared} {H:Hp} {E:XK} {us:List Value} {vs:List V}
  (S:A0n N ps scope) (hd:A.handled=none) (e0:B6j P w K mg base A outer s H) (hl:vs.length=ps.length) (r:A1k vs us)
  (x:InCallC s s.heap.objs.size (bindL (envOfC qual scope s.heap.objs.size f cd).kindOf (ps.zip us) λ_=>none) (cellsFrom (s.heap.objs.size+1) scope.names []) (bindC (envOfC qual scope s.heap.objs.size f cd).kindOf (ps.zip us) λ_=>none) s1) :
  Inv (B6k CX P w K mg base N qual scope f cd A outer s H E) [] (A6a N vs) H s1:=by
 have hpl:ps.length<=N.length:=by have:=congrArg List.length S.pre;rw [Z0x] at this;lia
 obtain ⟨h1,tk,rfl,hk⟩:=x.done;have noA:∀b:Addr,b∉(B6k CX P w K mg base N qual scope f cd A outer s H E).ex:=λb z=>absurd (show b∈([]:List Addr) from z) (by simp)
 refine ⟨⟨e0.mod,S.kind,rfl,rfl,Z09 _,λy z c h1 h2=> ?_,λy hy=> ?_,λy c _ h=> ?_,λ_=>hd,Around.frames_deeper e0.frames,.inr ⟨rfl,rfl⟩,λb z=>absurd z (noA b),e0.bs,e0.bsz,λb _ _=>noA b,λb z=>absurd z (noA b),e0.funs,e0.frf⟩,
  rfl,e0.bare,Un.kept hk,⟨_,x.toInCall.ns,λi y v h1 h2 h3=> ?_⟩,λy c h=>⟨_,x.cell y c h⟩,e0.hok.fresh (Z09 _),λy c h=> ?_,λp hp=>absurd (show p∈([]:List (Addr×Obj)) from hp) (by simp),e0.hok.kept hk,?_⟩
 ·exact name_of_addr x.apart (PySem.mem_of_lookup h1) (PySem.mem_of_lookup h2)
 ·have hy:scope.names.lookup y=some .cell\/scope.names.lookup y=some .free:=hy;rcases hy with hy | hy
  ·exact B2b hy
  ·exact absurd rfl (S.nofree _ (PySem.mem_of_lookup hy))
 ·exact Nat.le_of_lt (x.above y c (PySem.mem_of_lookup h))
 ·have hi:i<vs.length:=by
   unfold A6a at h2;by_cases hi:i<vs.length
   ·exact hi
   ·rw [Z1l (by simpa using hi)] at h2;rw [List.getElem?_replicate] at h2;split at h2 <;> cases h2
  have ha:vs[i]? =some v:=by
   unfold A6a at h2;rw [Z26 (by simpa using hi),Z1z] at h2
   cases e:vs[i]? with
   | none=>rw [e] at h2;cases h2
   | some a=>rw [e] at h2;cases h2;rfl
  obtain ⟨u,hu,rv⟩:=r.get ha
  have hp:ps[i]? =some y:=by
   rw [<-S.pre,List.getElem?_take_of_lt (by lia)];exact h1
  have ndP:ps.Nodup:=by rw [<-S.pre];exact S.nd.sublist (List.take_sublist _ _)
  refine ⟨u,rv,?_⟩;rcases S.par y (Z13 hp) with k | k
  ·exact .inl ⟨k,A9n ndP hp hu k⟩
  ·obtain ⟨c,e⟩:=B2b (n:=s.heap.objs.size+1) k;refine .inr ⟨.inl k,c,e,?_⟩;have q:=x.cell y c e;rw [A9j ndP hp hu (by show scope.names.lookup y≠_;rw [k];decide)] at q;exact q
 ·exact e0.hok.fresh (Nat.le_of_lt (x.above y c (PySem.mem_of_lookup h)))
 ·unfold A6a;show _=N.length;rw [Z06,Z08,List.length_replicate]
  lia
theorem C3i {CX:CXT} {P:Program} {w:World} {K:Frag} {mg:Str->Option Value} {base:Heap} {k:Nat} {f:Addr} {name qual:Str} {params:Arguments} {body:List Stmt} {scope:Scope} {dV kV doc pm cdv ct oc:Value} {an od:Option Addr}
  {osl:Array (Option Value)} {N ps:List Str} {sp:Sp} (lk:K.lookup f=some ⟨oc,od,.func (fnOf name qual params body scope dV kV doc pm an cdv ct),osl⟩) (hcd:codeIn K cdv qual=true) (S:A0n N ps scope)
  (len:∀vs H Q E,sp vs H Q E->vs.length=ps.length)
  (hbody:∀(A:Around) (outer:List Env) (s:Shared) (H:Hp) (vs:List V) (Q:VK) (E:XK),A3u k (A.deeper (envOfC qual scope s.heap.objs.size f cdv))->sp vs H Q E->
   ∃t,PSs (B6k CX P w K mg base N qual scope f cdv A outer s H E) body t/\t { nx:=λ_ H'=>Q .non H',rt:=Q } (A6a N vs) H) :
  A4w P w K mg base CX (k+1) f (fnOf name qual params body scope dV kV doc pm an cdv ct) ps sp:=by
 refine ⟨len,λA outer s H args us vs Q E hr e0 hb r hsp=> ?_⟩;have hl:=len _ _ _ _ hsp;have KX:K.In s.heap:=e0.mod.kin.keeps λb o e=>(e0.bs b o e).1;have lim:s.heap.NoLimit:=e0.mod.nolimit.keeps λb o e=>(e0.bs b o e).1
 have hkind:∀y∈ps.zip us,scope.names.lookup y.1=some .local\/(scope.names.lookup y.1=some .cell/\((cellsFrom (s.heap.objs.size+1) scope.names []).lookup y.1).isSome=true):=λ⟨n,v⟩ hy=>by
  rcases S.par n (List.of_mem_zip hy).1 with q | q
  ·exact .inl q
  ·exact .inr ⟨q,PySem.W.cellsFrom_some _ _ _ (.inl q)⟩
 refine codeAny_call_function hr.depth (KX _ _ lk) rfl S.co S.gen rfl (PySem.W.codeRec_of KX hcd) (hb _ _ _ _ ?_);refine wpAny_newFunctionEnv_cells S.kind hkind λenv he s1 x=> ?_;subst he;refine ⟨lim.keeps x.toInCall.keep,codeAny_func ?_⟩;obtain ⟨t,ht,hq⟩:=hbody A outer s H vs Q E (hr.deeper _) hsp;have I:Inv (B6k CX P w K mg base N qual scope f cdv A outer s H E) [] (A6a N vs) H s1:=B0c S hr.hd e0 hl r x;refine Z10 (ht [] s1 (A6a N vs) H _ I hq) (λfl s' hs=> ?_) λe s' hs=>hs
 have fin:∀{σ':St} {H':Hp} {v:V} {u:Value},Inv (B6k CX P w K mg base N qual scope f cdv A outer s H E) [] σ' H' s'->A1l v u->Q v H'->CE outer P w H s Q u s' :=
  λ{σ' H' v u} J rv q=>⟨v,H',J.os,J.bare,J.base,J.hok,rv,q⟩
 cases fl with
 | ret u =>
  obtain ⟨v,σ',H',J,rv,q⟩:=hs;exact fin J rv q
 | next =>
  obtain ⟨σ',H',J,q⟩:=hs;exact fin (v:=V.non) (u:=Value.none) J rfl q
 | brk =>
  obtain ⟨_,_,_,q⟩:=hs;exact False.elim q
 | cont =>
  obtain ⟨_,_,_,q⟩:=hs;exact False.elim q
section
variable {X:Cx} {x:Str} {p pos:Pos} {e:Expr} {es:List Expr} {t:TA} {id T:String} {r:List V->Hp->VK->Prop}
def tCB (r:List V->Hp->VK->Prop) (t:TA):TE:=λσ H Q=>t σ H λvs H1=>r vs H1 Q
theorem A0x (hc:B1k X (.builtin id) r) (hg:Gl X x) (hm:X.mg x=none) (hv:bootBuiltins x=some (.builtin id)) (ha:PA X (e::es) t) (hn:x≠"__name__":=by decide) (hdb:(x == ("__debug__":Str))=false:=by decide)
  (he:starEach (e::es) X.env=(false,eval e X.env)::starEach es X.env:=by rfl) (hpl:(backTo pos (starEach es X.env)).any (·.1)=false:=by rfl):PE X (.Call (.Name x p) (e::es) [] pos) (tCB r t):=by
 intro pins s σ H Q I h;refine wpAny_Call_Name_kw (B1x I hg hm hv ?_ hn hdb);exact PyProof.Rows.callWith_builtin1 (thn (ha pos pins s σ H _ I h) (by rintro us s1 ⟨vs,H1,I1,r1,q1⟩;exact hc pins s1 σ H1 vs us Q I1 r1 q1)) he hpl
theorem A1o (hc:B1k X (.type T) r) (hg:Gl X x) (hm:X.mg x=none) (hv:bootBuiltins x=some (.type T)) (ha:PA X (e::es) t) (hn:x≠"__name__":=by decide) (hdb:(x == ("__debug__":Str))=false:=by decide)
  (he:starEach (e::es) X.env=(false,eval e X.env)::starEach es X.env:=by rfl) (hpl:(backTo pos (starEach es X.env)).any (·.1)=false:=by rfl):PE X (.Call (.Name x p) (e::es) [] pos) (tCB r t):=by
 intro pins s σ H Q I h;refine wpAny_Call_Name_kw (B1x I hg hm hv ?_ hn hdb);exact PyProof.Rows.callWith_type1 (thn (ha pos pins s σ H _ I h) (by rintro us s1 ⟨vs,H1,I1,r1,q1⟩;exact hc pins s1 σ H1 vs us Q I1 r1 q1)) he hpl
end
end L2
namespace HT
open PySem PyProof.Rows
section
open PySem.SeqAt
open PySem.AutoSeq1 (wpAny_loadPart')
open PySem.MeetsSeq PySem.MeetsSeq2 PySem.MeetsSeq3
end
section
variable {prog:Program} {w:World} {A:Around} {E:Value->Shared->Prop} {s:Shared}
theorem cat_tup {t b:Addr} {vs ws:List Value} {Q:Value->Shared->Prop} (ht:IsTup s.heap t vs.toArray) (hb:IsTup s.heap b ws.toArray) (hv:vs≠[])
  (h1:ws=[]->Q (.ref t) s) (h2:ws≠[]->Q (.ref s.heap.objs.size) { s with heap:=s.heap.push { cls:= .type "tuple",data:= .seq (vs++ws).toArray } })
  (hsz:vs.length+ws.length<=sizeLine):wpAny (model prog w) A (binaryOp .Add (.ref t) (.ref b)) Q E s:=by
 obtain ⟨⟨cls,dd,data,sl⟩,ho,hc,n,hd⟩:=id ht;obtain ⟨⟨cls2,dd2,data2,sl2⟩,ho2,hc2,n2,hd2⟩:=id hb;simp only at hc hd hc2 hd2;subst hc hd hc2 hd2;have e:vs.toArray++ws.toArray=(vs++ws).toArray:=by simp
 by_cases hw:ws=[]
 ·exact concat_meets ⟨_,ho,rfl⟩ ⟨_,ho2,rfl⟩ noFill_tuple_add seq_tuple_add PySem.F.slot_tuple_add PySem.F.entry_tuple_add (PySem.F.args_tuple_add_2 _ _)
   (tuple_addW1 t b vs.toArray ws.toArray n n2 dd dd2 sl sl2 (by simpa using hv) (by simp [hw])) ⟨ho,ho2,h1 hw⟩
 ·refine concat_meets ⟨_,ho,rfl⟩ ⟨_,ho2,rfl⟩ noFill_tuple_add seq_tuple_add PySem.F.slot_tuple_add PySem.F.entry_tuple_add (PySem.F.args_tuple_add_2 _ _)
   (tuple_addW2 t b vs.toArray ws.toArray n n2 dd dd2 sl sl2 (by simpa using hv) (by simpa using hw) (by rw [Z0g,Z0g];exact hsz)) ⟨ho,ho2,?_⟩
  rw [e];exact h2 hw
def sIx (n d:Nat):Option Int->Nat
 | none=>d
 | some v=>if v<0 then (v+(n:Int)).toNat else min v.toNat n
theorem sIx_nat (n d k:Nat):sIx n d (some (k:Int))=min k n:=by
 show (if (k:Int)<0 then ((k:Int)+(n:Int)).toNat else min (k:Int).toNat n)=min k n;rw [Z0t (by lia),Int.toNat_natCast]
theorem C2w (n d:Nat) (hd:d<=n) (o:Option Int):sIx n d o<=n:=by
 cases o with
 | none=>exact hd
 | some v =>
  show (if v<0 then (v+(n:Int)).toNat else min v.toNat n)<=n;by_cases hv:v<0
  ·rw [Z12 hv];lia
  ·rw [Z0t hv];exact Nat.min_le_right _ _
theorem B4a (v:Int) (n d:Nat):(if v<0 then max (v+(n:Int)) 0 else min v (n:Int))=((sIx n d (some v):Nat):Int):=by
 show (if v<0 then max (v+(n:Int)) 0 else min v (n:Int))=(((if v<0 then (v+(n:Int)).toNat else min v.toNat n):Nat):Int);by_cases hv:v<0
 ·simp only [Z12 hv];lia
 ·simp only [Z0t hv];lia
theorem B3l (lo hi:Option Int) (n:Nat):Builtin.Slice.sliceAdjust lo hi 1 (n:Int)=(((sIx n 0 lo:Nat):Int),((sIx n n hi:Nat):Int)):=by
 have h1:¬((1:Int)<0):=by lia
 unfold Builtin.Slice.sliceAdjust;simp only [h1,if_false];refine Prod.ext ?_ ?_
 ·cases lo with
  | none=>rfl
  | some v=>exact B4a v n 0
 ·cases hi with
  | none=>rfl
  | some v=>exact B4a v n n
theorem B3p (i j:Nat):Builtin.Slice.slicePlaces (i:Int) (j:Int) 1=j-i:=by
 unfold Builtin.Slice.slicePlaces;have h1:(1:Int)>0:=by lia
 simp only [h1,if_true,Int.ediv_one];split <;> lia
theorem A8a {v:Value} {o:Option Int} {Q:Option Int->Shared->Prop} (p:IsPart v o) (h:Q o s):wpAny (model prog w) A (Builtin.Slice.slicePartIndex v) Q E s:=by
 cases p with
 | none=>exact slicePart_none h
 | int i t=>exact slicePart_int h
theorem A3r {sl:Addr} {vl vu:Value} {lo hi:Option Int} {n:Nat} {Q:Int×Int×Nat->Shared->Prop} (hs:s.heap.IsSliceOf sl vl vu .none) (pl:IsPart vl lo) (pu:IsPart vu hi)
  (h:Q (((sIx n 0 lo:Nat):Int),1,sIx n n hi-sIx n 0 lo) s):wpAny (model prog w) A (Builtin.Slice.sliceApplied (.ref sl) (pure (n:Int))) Q E s:=by
 obtain ⟨os,hos,hcs,hds⟩:=id hs;unfold Builtin.Slice.sliceApplied Builtin.Slice.sliceFields;refine Z00 (Z00 (Z11 hos hds (x:=vl) rfl (Z00 (Z11 hos hds (x:=vu) rfl (Z00 (Z11 hos hds (x:= .none) rfl (Z04 ?_)))))));refine Z00 (slicePart_none ?_);show wpAny _ _ (if ((1:Int) == 0)=true then _ else _) _ _ s;rw [Z0t (by decide)];refine Z00 (A8a pl (Z00 (A8a pu (Z00 (Z04 ?_)))));show wpAny _ _ (match Builtin.Slice.sliceAdjust lo hi 1 (n:Int) with | (lo,hi)=>pure (lo,(1:Int),Builtin.Slice.slicePlaces lo hi 1)) _ _ s
 rw [B3l lo hi n];show wpAny _ _ (pure (((sIx n 0 lo:Nat):Int),(1:Int),Builtin.Slice.slicePlaces ((sIx n 0 lo:Nat):Int) ((sIx n n hi:Nat):Int) 1)) _ _ s;rw [B3p];exact Z04 h
theorem B7u (xs:Array Value) (i k:Nat):((List.range k).filterMap λ(m:Nat)=>xs[((i:Int)+(m:Int)*1).toNat]?).toArray=((xs.toList.drop i).take k).toArray:=by
 have e:(λ(m:Nat)=>xs[((i:Int)+(m:Int)*1).toNat]?)=λm=>xs[i+m]? :=by
  funext m;have:((i:Int)+(m:Int)*1).toNat=i+m:=by lia
  rw [this]
 rw [e];have:=pick_run xs i k;rw [List.filterMap_map] at this;have e2:((λx=>xs[x]?)∘λx=>i+x)=λm=>xs[i+m]? :=rfl;rw [e2] at this;rw [this]
theorem getItem_tuple_cut {t sl:Addr} {items:Array Value} {vl vu:Value} {lo hi:Option Int} {Q:Value->Shared->Prop} (ht:IsTup s.heap t items) (hs:s.heap.IsSliceOf sl vl vu .none) (pl:IsPart vl lo) (pu:IsPart vu hi)
  (hw:¬(sIx items.size 0 lo=0/\sIx items.size items.size hi=items.size))
  (h:Q (.ref s.heap.objs.size) { s with heap:=s.heap.push { cls:= .type "tuple",data:= .seq ((items.toList.drop (sIx items.size 0 lo)).take (sIx items.size items.size hi-sIx items.size 0 lo)).toArray } })
  (hsz:items.size<=sizeLine):wpAny (model prog w) A (getItem (.ref t) (.ref sl)) Q E s:=by
 have htake:sizeOk (.seq ((items.toList.drop (sIx items.size 0 lo)).take (sIx items.size items.size hi-sIx items.size 0 lo)).toArray):=by
  show ((items.toList.drop (sIx items.size 0 lo)).take (sIx items.size items.size hi-sIx items.size 0 lo)).toArray.size<=sizeLine;rw [Z0g,Z0x,Z19,Array.length_toList]
  lia
 have hj:sIx items.size items.size hi<=items.size:=C2w _ _ (Z09 _) hi;obtain ⟨os,hos,hcs,hds⟩:=id hs;have hTs:s.TypeIs (.ref sl) "slice":=⟨os,hos,hcs⟩;unfold getItem
 try with_reducible refine Z1w ?_
 first | refine Z00 (Z04 ?_) | skip
 refine Z00 (wpAny_sequenceKey ht.typeIs (by decide) ?_)
 refine Z00 (Z1b (name:=Str.ofString "__getitem__") ht.typeIs Z2k
  (Z1g Z2k ht.typeIs entry_tuple_getitem ?_ (args_tuple_getitem _ _)))
 show wpAny _ _ (Builtin.Tuple.tupleItemsOf (.ref t) >>= _) _ _ s;refine Z00 (tupleItemsOf_ ht ?_);refine Z00 (wpAny_typeOf hTs ?_);rw [Z12 (by decide)];refine Z00 (A3r hs pl pu ?_)
 have hno:¬((((sIx items.size 0 lo:Nat):Int) == 0&&(1:Int) == 1&&(sIx items.size items.size hi-sIx items.size 0 lo) == items.size)=true):=by
  intro q;rw [Z1x,Z1x] at q;have q1:((sIx items.size 0 lo:Nat):Int)=0:=eq_of_beq q.1.1;have q2:sIx items.size items.size hi-sIx items.size 0 lo=items.size:=eq_of_beq q.2;exact hw ⟨by lia,by lia⟩
 show wpAny _ _ (if (((sIx items.size 0 lo:Nat):Int) == 0&&(1:Int) == 1&&(sIx items.size items.size hi-sIx items.size 0 lo) == items.size)=true then _ else _) _ _ s;rw [Z0t hno,B7u]
 first
  | exact Z00 (m:=Builtin.Tuple.tupleExact _) (Z16 (Z04 ⟨_,rfl,Z04 h⟩) htake)
  | exact Z00 (m:=Builtin.Tuple.tupleExact _) (Z16 (Z00 (Z04 (Z04 ⟨_,rfl,Z04 h⟩))) htake)
  | exact Z00 (Z00 (m:=Builtin.Tuple.tupleExact _) (Z16 (Z04 (Z04 ⟨_,rfl,Z04 h⟩)) htake))
  | exact Z00 (Z00 (m:=Builtin.Tuple.tupleExact _) (Z16 (Z04 ⟨_,rfl,Z04 h⟩) htake))
end
end HT
namespace L2
open PySem PySem.Spec PyProof.Rows
abbrev TO:=St->Hp->(Option Int->Hp->Prop)->Prop
def PO (X:Cx) (e:Option Expr) (t:TO):Prop :=
 ∀(pins:List (Addr×Obj)) (s:Shared) (σ:St) (H:Hp) (Q:Option Int->Hp->Prop),Inv X pins σ H s->t σ H Q->
  wpAny (model X.prog X.w) X.A (evalPart e X.env) (λu s'=>∃o H',Inv X pins σ H' s'/\IsPart u o/\Q o H') X.xe s
def B9q:TO:=λ_ H Q=>Q none H
def C4o (t:TE):TO:=λσ H Q=>t σ H λx H1=>∃i,x= .int i/\Q (some i) H1
section
variable {X:Cx} {e:Expr} {te:TE} {lo hi:Option Expr} {tl th:TO} {pos p2:Pos}
theorem A5h:PO X none B9q:=by
 intro pins s σ H Q I h;rw [evalPart_none];exact Z04 ⟨none,H,I,.none,h⟩
theorem A4b (h:PE X e te):PO X (some e) (C4o te):=by
 intro pins s σ H Q I hw;rw [evalPart_some];refine thn (h pins s σ H _ I hw) ?_;rintro u s1 ⟨x,H1,I1,r1,q1⟩;obtain ⟨i,rfl,q⟩:=q1;obtain ⟨t,rfl⟩:=r1;exact ⟨some i,H1,I1,.int i t,q⟩
def SlR (X:Cx) (r:V->Option Int->Option Int->Hp->VK->Prop):Prop :=
 ∀(pins:List (Addr×Obj)) (s:Shared) (σ:St) (H:Hp) (x:V) (v vl vu:Value) (lo hi:Option Int) (sl:Addr) (Q:VK),Inv X pins σ H s->A1l x v->s.heap.IsSliceOf sl vl vu .none->IsPart vl lo->IsPart vu hi->r x lo hi H Q->
  ∃T id,typeLookup (.type T) "__getitem__"=pure (some (.builtin id))/\s.TypeIs v T/\wpAny (model X.prog X.w) X.A (getItem v (.ref sl)) (EP X pins σ Q) X.xe s
def tSl (r:V->Option Int->Option Int->Hp->VK->Prop) (te:TE) (tl th:TO):TE:=λσ H Q=>te σ H λx H1=>tl σ H1 λl H2=>th σ H2 λu H3=>r x l u H3 Q
theorem A3n {r:V->Option Int->Option Int->Hp->VK->Prop} (hr:SlR X r) (he:PE X e te) (hl:PO X lo tl) (hu:PO X hi th):PE X (.Subscript e (.Slice lo hi none p2) pos) (tSl r te tl th):=by
 intro pins s σ H Q I h;refine Subscript_ (thn (he pins s σ H _ I h) ?_);rintro v s1 ⟨x,H1,I1,r1,q1⟩;refine wpAny_Slice (thn (hl pins s1 σ H1 _ I1 q1) ?_);rintro vl s2 ⟨l,H2,I2,pl,q2⟩;refine thn (hu pins s2 σ H2 _ I2 q2) ?_;rintro vu s3 ⟨u,H3,I3,pu,q3⟩;rw [evalPart_none];refine Z04 ?_;have I4:Inv X pins σ H3 { s3 with heap:=s3.heap.push { cls:= .type "slice",data:= .fields #[vl,vu,.none] } }:=I3.kept (t':=s3.toks) λb ob q=>Z01 _ q
 obtain ⟨T,id,hT,ht,hg⟩:=hr pins { s3 with heap:=s3.heap.push { cls:= .type "slice",data:= .fields #[vl,vu,.none] } } σ H3 x v vl vu l u s3.heap.objs.size Q I4 r1 (Heap.IsSliceOf.new ..) pl pu q3;show wpAny (model X.prog X.w) X.A (subscriptTail e (.Slice lo hi none p2) v (.ref s3.heap.objs.size)) (EP X pins σ Q) X.xe { s3 with heap:=s3.heap.push { cls:= .type "slice",data:= .fields #[vl,vu,.none] } };exact tail_any (ops:=[.ref s3.heap.objs.size,v]) ht hT hg (by with_unfolding_all rfl)
def B1b (xs:List V) (lo hi:Option Int):List V:=(xs.drop (HT.sIx xs.length 0 lo)).take (HT.sIx xs.length xs.length hi-HT.sIx xs.length 0 lo)
theorem A6p (xs:List V) (lo hi:Option Int):(B1b xs lo hi).length<=xs.length:=by
 unfold B1b;rw [Z0x,Z19]
 lia
def C4l (K:Frag):R2:=λx y H Q=>∃a b xs ys,x= .ref a/\y= .ref b/\SqT K H a xs/\SqT K H b ys/\xs≠[]/\xs.length+ys.length<=sizeLine/\
 (ys=[]->Q (.ref a) H)/\(ys≠[]->∀p,H p=none->Q (.ref p) (upd H p (.tup (xs++ys))))
theorem A1k.nil_iff {xs:List V} {us:List Value} (r:A1k xs us):us=[]↔xs=[]:=by
 cases r with
 | nil=>simp
 | cons _ _=>simp
theorem C0q:OpR X (binaryOp .Add) (C4l X.K):=by
 intro pins s σ H x y v u Q I rx ry h;obtain ⟨a,b,xs,ys,rfl,rfl,ha,hb,hx,hz,q1,q2⟩:=h;cases rx;cases ry;obtain ⟨its,r1,p1,_⟩:=I.tuple ha;obtain ⟨its2,r2,p2,_⟩:=I.tuple hb;refine HT.cat_tup p1 p2 (λz=>hx (r1.nil_iff.mp z)) (λz=>⟨.ref a,H,I,rfl,q1 (r2.nil_iff.mp z)⟩) (λz=> ?_) (by rw [<-r1.length,<-r2.length];exact hz);refine ⟨.ref s.heap.objs.size,_,I.laid (t':=s.toks) (o:= .tup (xs++ys)) (λb ob q=>Z01 _ q) (Z09 _) ?_,rfl,q2 (λw=>z (r2.nil_iff.mpr w)) _ (I.hok.fresh (Z09 _))⟩;exact ⟨by rw [Z06];exact hz,_,r1.append r2,IsTup.new _ _⟩
end
def ixN (n:Nat) (i:Int):Option Nat:=if 0<=i then (if i<n then some i.toNat else none) else if -(n:Int)<=i then some (i+n).toNat else none
def atI {α:Type} (xs:List α) (i:Int):Option α:=(ixN xs.length i).bind λj=>xs[j]?
theorem B6h {n:Nat} {i:Int} {j:Nat} (h:ixN n i=some j):seqIndex? i n=some j/\j<n/\-(n:Int)<=i/\i<n:=by
 unfold ixN at h;by_cases h0:0<=i
 ·rw [Z12 h0] at h;by_cases h1:i<n
  ·rw [Z12 h1] at h;have e:i.toNat=j:=Z1a h;exact ⟨by rw [seqIndex_of h0 h1,e],by lia,by lia,h1⟩
  ·rw [Z0t h1] at h;cases h
 ·rw [Z0t h0] at h;by_cases h1: -(n:Int)<=i
  ·rw [Z12 h1] at h;have e:(i+n).toNat=j:=Z1a h;exact ⟨by rw [seqIndex_neg (by lia) h1,e],by lia,h1,by lia⟩
  ·rw [Z0t h1] at h;cases h
theorem B6b {α:Type} {xs:List α} {i:Int} {v:α} (h:atI xs i=some v):∃j,seqIndex? i xs.length=some j/\xs[j]? =some v/\j<xs.length/\-(xs.length:Int)<=i/\i<xs.length:=by
 unfold atI at h
 cases e:ixN xs.length i with
 | none=>rw [e] at h;cases h
 | some j =>
  rw [e] at h;obtain ⟨h1,h2,h3,h4⟩:=B6h e;exact ⟨j,h1,h,h2,h3,h4⟩
theorem A2q {α:Type} {xs:List α} {j:Nat} {v:α} (h:xs[j]? =some v):atI xs (j:Int)=some v:=by
 have hj:j<xs.length:=(Z03.mp h).1
 have e:ixN xs.length (j:Int)=some j:=by
  unfold ixN;rw [Z12 (by lia),Z12 (by lia)];simp
 unfold atI;rw [e];exact h
def C0k (b:Expr):Prop:=∀o i,subscripted b false o i=operate [o,i] (getItem o i)
def IxR (X:Cx) (r:R2):Prop :=
 ∀(value slice:Expr) (pins:List (Addr×Obj)) (s:Shared) (σ:St) (H:Hp) (x y:V) (v u:Value) (Q:VK),Inv X pins σ H s->A1l x v->A1l y u->r x y H Q->
  subscripted slice false v u=operate [v,u] (getItem v u)->wpAny (model X.prog X.w) X.A (subscriptTail value slice v u) (EP X pins σ Q) X.xe s
def MtR (X:Cx) (id:String) (r:V->List V->Hp->VK->Prop):Prop :=
 ∀(pins:List (Addr×Obj)) (s:Shared) (σ:St) (H:Hp) (x:V) (xs:List V) (v:Value) (us:List Value) (Q:VK),Inv X pins σ H s->A1l x v->A1k xs us->r x xs H Q->
  wpAny (model X.prog X.w) X.A (call (.builtin id) (v::us)) (EP X pins σ Q) X.xe s
section
variable {X:Cx} {a b:Expr} {ta tb:TE} {pos:Pos}
theorem A3g {r:R2} (hr:IxR X r) (ha:PE X a ta) (hb:PE X b tb) (hs:C0k b):PE X (.Subscript a b pos) (tOp r ta tb):=by
 intro pins s σ H Q I h;exact Subscript_ (C5a ha hb I h λv u s2 x y H2 I2 rx ry q=>hr a b pins s2 σ H2 x y v u Q I2 rx ry q (hs _ _))
def C5s (K:Frag):R2:=λx y H Q=>∃p xs i v,x= .ref p/\y= .int i/\SqL K H p xs/\atI xs i=some v/\Q v H
def C5r (K:Frag):R2:=λx y H Q=>∃p xs i v,x= .ref p/\y= .int i/\SqT K H p xs/\atI xs i=some v/\Q v H
theorem A2y:IxR X (C5s X.K):=by
 intro value slice pins s σ H x y v u Q I rx ry h hs;obtain ⟨p,xs,i,z,rfl,rfl,hq,he,q⟩:=h;cases rx;obtain ⟨t,rfl⟩:=ry;obtain ⟨its,r,pl,hz⟩:=I.list hq;obtain ⟨j,h1,h2,h3,h4,h5⟩:=B6b he;obtain ⟨w,ew,rw'⟩:=r.get h2;have hl:=r.length;have hn:=B2o;have fin:EP X pins σ Q w s:=⟨z,H,I,rw',q⟩;by_cases h0:0<=i
 ·have hj:i.toNat=j:=by
   rw [seqIndex_of h0 h5] at h1;exact Z1a h1
  exact item_listR pl.isList h0 (by lia) (by rw [hj];simpa using ew) fin hs
 ·have hj:(i+(its.toArray.size:Int)).toNat=j:=by
   rw [seqIndex_neg (by lia) h4] at h1;rw [Z0g,<-hl];exact Z1a h1
  exact subscriptTail_builtinR (x:=w) pl.isList.typeIs slot_list_getitem.lookup
   (wpAny_getItem_list_neg (Q:=λr s'=>r=w/\EP X pins σ Q r s') pl.isList (by lia) (by rw [Z0g] <;> lia) (by lia) (by rw [hj];simpa using ew) ⟨rfl,fin⟩) hs
theorem A7y:IxR X (C5r X.K):=by
 intro value slice pins s σ H x y v u Q I rx ry h hs;obtain ⟨p,xs,i,z,rfl,rfl,hq,he,q⟩:=h;cases rx;obtain ⟨t,rfl⟩:=ry;obtain ⟨its,r,pl,hz⟩:=I.tuple hq;obtain ⟨j,h1,h2,h3,h4,h5⟩:=B6b he;obtain ⟨w,ew,rw'⟩:=r.get h2;have hl:=r.length;have hn:=B2o;have fin:EP X pins σ Q w s:=⟨z,H,I,rw',q⟩
 exact subscriptTail_builtinR (x:=w) pl.typeIs slot_tuple_getitem.lookup
  (getItem_tuple (j:=j) (Q:=λr s'=>r=w/\EP X pins σ Q r s') pl (by lia) (by lia) (by rw [Z0g,<-hl];exact h1) (by simpa using ew) ⟨rfl,fin⟩) hs
theorem B3r (its:List Value) (n j:Nat) (u:Value):Obj.mapSeq (·.setIfInBounds j u) { cls:= .type "list",data:= .seq its.toArray n }={ cls:= .type "list",data:= .seq (its.set j u).toArray n }:=by
 simp [Obj.mapSeq]
theorem Inv.lst {pins:List (Addr×Obj)} {σ:St} {H:Hp} {s:Shared} {p:Addr} {xs:List V} (I:Inv X pins σ H s) (h:H p=some (.lst xs)) :
  ∃(its:List Value) (n:Nat),A1k xs its/\s.heap.get? p=some { cls:= .type "list",data:= .seq its.toArray n }/\xs.length<=sizeLine:=by
 obtain ⟨z,its,n,r,e⟩:=I.hok p _ h;exact ⟨its,n,r,e,z⟩
theorem Inv.lstUpd {pins:List (Addr×Obj)} {σ:St} {H:Hp} {s:Shared} {p:Addr} {xs ys:List V} {its its':List Value} {n n':Nat} {f:Obj->Obj} (I:Inv X pins σ H s) (h:H p=some (.lst xs))
  (ho:s.heap.get? p=some { cls:= .type "list",data:= .seq its.toArray n }) (hf:f { cls:= .type "list",data:= .seq its.toArray n }={ cls:= .type "list",data:= .seq its'.toArray n' }) (r:A1k ys its') (hz:ys.length<=sizeLine) (t:Nat) :
  Inv X pins σ (upd H p (.lst ys)) { s with heap:=s.heap.update p f,toks:=t }:=by
 have e:(s.heap.update p f).get? p=some { cls:= .type "list",data:= .seq its'.toArray n' }:=by
  rw [Z1r f ho (by rw [hf] <;> rfl),hf]
 refine I.write (x:=p) (e:=p) (by rw [h];trivial) (.inl rfl) (λb u hb q=>(Z1d _ _ (Ne.symm hb)).trans q) ⟨_,e⟩ ?_;exact ⟨hz,its',n',r,e⟩
def C5d:V->V->V->Hp->(Hp->Prop)->Prop:=λo i v H Q=>∃p xs k j,o= .ref p/\i= .int k/\H p=some (.lst xs)/\ixN xs.length k=some j/\Q (upd H p (.lst (xs.set j v)))
theorem B2j:C5t X C5d:=by
 intro pins s σ H o i v ov iv u Q I ro ri rv h;obtain ⟨p,xs,k,j,rfl,rfl,hp,hj,q⟩:=h;cases ro;obtain ⟨t,rfl⟩:=ri;obtain ⟨its,n,r,ho,hz⟩:=I.lst hp;obtain ⟨h1,h2,h3,h4⟩:=B6h hj;have hl:=r.length;have hn:=B2o
 have I':Inv X pins σ (upd H p (.lst (xs.set j v))) { s with heap:=s.heap.update p (Obj.mapSeq (·.setIfInBounds j u)) } :=
  I.lstUpd hp ho (B3r its n j u) (r.set rv j) (by rw [List.length_set];exact hz) s.toks
 by_cases h0:0<=k
 ·have hk:k.toNat=j:=by
   rw [seqIndex_of h0 h4] at h1;exact Z1a h1
  exact PySem.W.ki_setAt ho h0 (by lia) (by rw [Z0g,<-hl];exact h4) (by rw [hk];exact ⟨_,I',q⟩)
 ·have hk:(k+(its.toArray.size:Int)).toNat=j:=by
   rw [seqIndex_neg (by lia) h3] at h1;rw [Z0g,<-hl];exact Z1a h1
  exact PySem.W.ki_setBack ho (by lia) (by rw [Z0g,<-hl];exact h3) (by lia) (by rw [hk];exact ⟨_,I',q⟩)
theorem A9t (lo hi:Option Int) (n:Nat):(sliceBounds lo hi none n).1=((HT.sIx n 0 lo:Nat):Int)/\(sliceBounds lo hi none n).2.1=((HT.sIx n n hi:Nat):Int)/\(sliceBounds lo hi none n).2.2=1:=by
 refine ⟨?_,?_,rfl⟩
 ·cases lo with
  | none=>simp [sliceBounds,HT.sIx]
  | some i =>
   simp only [sliceBounds,HT.sIx,Option.getD_none,show (1:Int)>0 by decide,if_true];by_cases h:i<0
   ·simp only [h,if_true] <;> lia
   ·simp only [h,if_false] <;> lia
 ·cases hi with
  | none=>simp [sliceBounds,HT.sIx]
  | some i =>
   simp only [sliceBounds,HT.sIx,Option.getD_none,show (1:Int)>0 by decide,if_true];by_cases h:i<0
   ·simp only [h,if_true] <;> lia
   ·simp only [h,if_false] <;> lia
theorem A8w (its:List Value) (lo hi:Option Int):slicePick its.toArray lo hi none=((its.drop (HT.sIx its.length 0 lo)).take (HT.sIx its.length its.length hi-HT.sIx its.length 0 lo)).toArray:=by
 obtain ⟨h1,h2,h3⟩:=A9t lo hi its.toArray.size;unfold slicePick;rw [h1,h2,h3];simp only [sliceRange_one,pick_run,Z0g] <;> rfl
def rSlL (K:Frag):V->Option Int->Option Int->Hp->VK->Prop:=λx lo hi H Q=>∃a xs,x= .ref a/\SqL K H a xs/\∀p,H p=none->Q (.ref p) (upd H p (.lst (B1b xs lo hi)))
theorem A5m:SlR X (rSlL X.K):=by
 intro pins s σ H x v vl vu lo hi sl Q I rx hs pl pu h;obtain ⟨a,xs,rfl,hx,q⟩:=h;cases rx;obtain ⟨its,r,ht,hz⟩:=I.list hx;have hlen:=r.length;refine ⟨"list",_,slot_list_getitem.lookup,ht.isList.typeIs,?_⟩;refine wpAny_getItem_list_slice ht.isList hs pl pu .none (by simp) ?_ (by rw [Z0g] <;> lia);rw [A8w,<-hlen];refine ⟨.ref s.heap.objs.size,_,I.laid (t':=s.toks) (o:= .lst (B1b xs lo hi)) (λb ob q=>Z01 _ q) (Z09 _) ?_,rfl,q _ (I.hok.fresh (Z09 _))⟩;exact ⟨Z1n (A6p xs lo hi) hz,_,0,(r.drop (HT.sIx xs.length 0 lo)).take (HT.sIx xs.length xs.length hi-HT.sIx xs.length 0 lo),Z0c _ rfl⟩
theorem A0l:B1k X (.builtin "len") (λxs H Q=>∃p ys,xs=[.ref p]/\(SqL X.K H p ys\/SqT X.K H p ys)/\Q (.int ys.length) H):=by
 intro pins s σ H xs us Q I r h;obtain ⟨p,ys,rfl,hq,q⟩:=h;obtain ⟨u,rfl,rx⟩:=B7q r;cases rx;have hn:=B2o;rcases hq with hq | hq
 ·obtain ⟨its,r',pl,hz⟩:=I.list hq;have hlen:=r'.length;exact Calls.call_len_list pl.isList (by simp only [Z0g] <;> lia) ⟨.int ys.length,H,I.tok _,⟨s.toks+1,by rw [Z0g,hlen]⟩,q⟩
 ·obtain ⟨its,r',pl,hz⟩:=I.tuple hq;have hlen:=r'.length;exact len_tuple pl (by simp only [Z0g] <;> lia) ⟨.int ys.length,H,I.tok _,⟨s.toks+1,by rw [Z0g,hlen]⟩,q⟩
theorem A1z:B1k X (.type "list") (λxs H Q=>∃p ys,xs=[.ref p]/\(SqL X.K H p ys\/SqT X.K H p ys)/\∀l,H l=none->Q (.ref l) (upd H l (.lst ys))):=by
 intro pins s σ H xs us Q I r h;obtain ⟨p,ys,rfl,hq,q⟩:=h;obtain ⟨u,rfl,rx⟩:=B7q r;cases rx
 have fin:∀(its:List Value),A1k ys its->ys.length<=sizeLine->∀(h':Heap) (c':Nat),(∀b o',s.heap.get? b=some o'->h'.get? b=some o')->
   h'.get? s.heap.objs.size=some { cls:= .type "list",dict:=none,data:= .seq its.toArray c',slots:= #[] }->EP X pins σ Q (.ref s.heap.objs.size) { s with heap:=h' }:=λits r' hz h' c' kp e =>
  ⟨.ref s.heap.objs.size,_,I.laid (t':=s.toks) kp (Z09 _) (show A2a X.prog X.w _ h' _ (.lst ys) from ⟨hz,its,c',r',e⟩),rfl,q _ (I.hok.fresh (Z09 _))⟩
 rcases hq with hq | hq
 ·obtain ⟨its,r',pl,hz⟩:=I.list hq;have hlen:=r'.length;obtain ⟨o,ho,hc,n,hd⟩:=pl.isList;exact call_list_seq p (.inl rfl) ho hc hd (λh' c' kp e=>fin its r' hz h' c' kp e) (by simp only [Z0g] <;> lia)
 ·obtain ⟨its,r',pl,hz⟩:=I.tuple hq;have hlen:=r'.length;obtain ⟨o,ho,hc,n,hd⟩:=pl;exact call_list_seq p (.inr rfl) ho hc hd (λh' c' kp e=>fin its r' hz h' c' kp e) (by simp only [Z0g] <;> lia)
theorem A8j:B1k X (.type "tuple") (λxs H Q=>∃p ys,xs=[.ref p]/\((SqL X.K H p ys/\∀l,H l=none->Q (.ref l) (upd H l (.tup ys)))\/(SqT X.K H p ys/\Q (.ref p) H))):=by
 intro pins s σ H xs us Q I r h;obtain ⟨p,ys,rfl,h⟩:=h;obtain ⟨u,rfl,rx⟩:=B7q r;cases rx;rcases h with ⟨hq,q⟩ | ⟨hq,q⟩
 ·obtain ⟨its,r',pl,hz⟩:=I.list hq;have hlen:=r'.length;refine call_tuple_list pl.isList (λh' kp=> ?_) (by simp only [Z0g] <;> lia);have I1:Inv X pins σ H { s with heap:=h' }:=I.kept (t':=s.toks) kp
  have I2:Inv X pins σ (upd H h'.objs.size (.tup ys)) { s with heap:=h'.push { cls:= .type "tuple",data:= .seq its.toArray } } :=
   I1.laid (t':=s.toks) (λb o e=>Z01 _ e) (Z09 _) (show A2a X.prog X.w _ _ _ (.tup ys) from ⟨hz,its,r',IsTup.new _ _⟩)
  exact ⟨.ref h'.objs.size,_,I2,rfl,q _ (I1.hok.fresh (Z09 _))⟩
 ·obtain ⟨its,r',pl,hz⟩:=I.tuple hq;exact call_tuple_same pl ⟨.ref p,H,I,rfl,q⟩
def tyV (K:Frag) (T:String) (x:V) (H:Hp):Prop:=match x with
 | .str _=>T="str"
 | .int _=>T="int"
 | .ref p=>(T="list"/\∃xs,SqL K H p xs)\/(T="tuple"/\∃o,K.lookup p=some o/\o.cls= .type "tuple"/\o.dict=none)\/
   (T="dict"/\((∃kvs,H p=some (.dK kvs))\/∃kvs,H p=some (.dT kvs)))\/(T="set"/\∃S n,H p=some (.set S n))
 | _=>False
theorem B8u {pins:List (Addr×Obj)} {σ:St} {H:Hp} {s:Shared} {T:String} {x:V} {v:Value} (I:Inv X pins σ H s) (r:A1l x v) (ty:tyV X.K T x H) :
  s.TypeIs v T/\∀a,v= .ref a->∃ob,s.heap.get? a=some ob/\ob.dict=none:=by
 cases x with
 | str z =>
  obtain ⟨t,rfl⟩:=r;cases (show T="str" from ty);exact ⟨typeIs_str s z t,λ_ e=>nomatch e⟩
 | int i =>
  obtain ⟨t,rfl⟩:=r;cases (show T="int" from ty);exact ⟨typeIs_int s i t,λ_ e=>nomatch e⟩
 | ref p =>
  cases r
  rcases ty with ⟨rfl,xs,hq⟩ | ⟨rfl,o,hk,hc,hd⟩ | ⟨rfl,hk⟩ | ⟨rfl,S,n,hk⟩
  ·obtain ⟨its,_,pl,_⟩:=I.list hq;refine ⟨pl.isList.typeIs,λa e=> ?_⟩;cases e;obtain ⟨o,n,e,c,hd,_⟩:=pl;exact ⟨o,e,hd⟩
  ·refine ⟨⟨o,I.kIn p o hk,hc⟩,λa e=> ?_⟩;cases e;exact ⟨o,I.kIn _ o hk,hd⟩
  ·have z:∃o,s.heap.get? p=some o/\o.ExactDict:=by
    rcases hk with ⟨kvs,hk⟩ | ⟨kvs,hk⟩
    ·obtain ⟨_,_,_,_,o,_,_,e,ex,_⟩:=I.hok p _ hk;exact ⟨o,e,ex⟩
    ·obtain ⟨_,_,_,_,o,_,_,e,ex,_⟩:=I.hok p _ hk;exact ⟨o,e,ex⟩
   obtain ⟨o,e,ex⟩:=z;refine ⟨⟨o,e,ex.1⟩,λa e2=> ?_⟩;cases e2;exact ⟨o,e,ex.2.1⟩
  ·obtain ⟨o,_,_,_,e,ex,_⟩:=I.hok p _ hk;refine ⟨⟨o,e,ex.1⟩,λa e2=> ?_⟩;cases e2;exact ⟨o,e,ex.2.1⟩
 | _=>exact False.elim ty
def tBM0 (K:Frag) (T:String) (r:V->List V->Hp->VK->Prop) (to:TE):TE:=λσ H Q=>to σ H λx H1=>tyV K T x H1/\r x [] H1 Q
def tBM (K:Frag) (T:String) (r:V->List V->Hp->VK->Prop) (to:TE) (t:TA):TE:=λσ H Q=>to σ H λx H1=>tyV K T x H1/\t σ H1 λxs H2=>r x xs H2 Q
variable {o e:Expr} {es:List Expr} {to:TE} {t:TA} {name:Str} {apos cpos:Pos} {T id:String} {r:V->List V->Hp->VK->Prop}
theorem B1n (pa:PlainAttrs T) (slot:Slot T name id) (hty:typeOf (.builtin id)=pure (.type "method_descriptor")) (hm:MtR X id r) (ho:PE X o to)
  (hbase:attributeBase o name X.env (eval o X.env)=eval o X.env:=by rfl) (hline:(apos.endLine == cpos.line)=true:=by rfl):PE X (.Call (.Attribute o name apos) [] [] cpos) (tBM0 X.K T r to):=by
 intro pins s σ H Q I h;refine wpAny_Call_method0_late hbase hline (thn (ho pins s σ H _ I h) ?_);rintro v s1 ⟨x,H1,I1,r1,ty,q1⟩;obtain ⟨h1,h2⟩:=B8u I1 r1 ty;exact ⟨T,id,pa,slot,hty,h1,h2,Calls.callWith_builtin rfl (PySem.evalArgs_none (hm pins s1 σ H1 x [] v [] Q I1 r1 .nil q1))⟩
theorem A6z (pa:PlainAttrs T) (slot:Slot T name id) (hty:typeOf (.builtin id)=pure (.type "method_descriptor")) (hm:MtR X id r) (ho:PE X o to) (ha:PA X (e::es) t)
  (hbase:attributeBase o name X.env (eval o X.env)=eval o X.env:=by rfl)
  (hfew:((backTo cpos (starEach (e::es) X.env)).all (λx=> !x.1)&&(backToKw cpos (keywordEach [] X.env)).all (λx=>x.1.isSome)
   && decide ((e::es).length+([]:List Keyword).length+(if ([]:List Keyword).isEmpty then 0 else 1)<30))=true:=by rfl)
  (hline:(apos.endLine == cpos.line)=true:=by rfl) (hs:starEach (e::es) X.env=(false,eval e X.env)::starEach es X.env:=by rfl) (hplain:(backTo cpos (starEach es X.env)).any (·.1)=false:=by rfl) :
  PE X (.Call (.Attribute o name apos) (e::es) [] cpos) (tBM X.K T r to t):=by
 intro pins s σ H Q I h;refine wpAny_Call_method_late hbase hfew hline rfl (thn (ho pins s σ H _ I h) ?_);rintro v s1 ⟨x,H1,I1,r1,ty,q1⟩;obtain ⟨h1,h2⟩:=B8u I1 r1 ty;refine ⟨T,id,pa,slot,hty,h1,h2,?_⟩;have hA:=ha cpos pins s1 σ H1 _ I1 q1;rw [hs] at hA⊢;refine Calls.callWith_builtin (by show (false||(backTo cpos (starEach es X.env)).any (·.1))=false;rw [hplain] <;> rfl) (Calls.evalArgs_plain ?_);exact thn hA (by rintro us s2 ⟨vs,H2,I2,r2,q2⟩;exact hm pins s2 σ H2 x vs v us Q I2 r1 r2 q2)
end
def MtM (X:Cx) (id:String) (r:V->List V->Hp->VK->Prop):Prop :=
 ∀(pins:List (Addr×Obj)) (s:Shared) (σ:St) (H:Hp) (x:V) (xs:List V) (v:Value) (us:List Value) (Q:VK),Inv X pins σ H s->A1l x v->A1k xs us->r x xs H Q->
  wpAny (model X.prog X.w) X.A (call (.builtin id) (v::us)) (EP X pins σ Q) X.xe s
theorem A1k.one:∀{x:V} {us:List Value},A1k [x] us->∃u,us=[u]/\A1l x u
 | _,_,.cons r .nil=>⟨_,rfl,r⟩
theorem A1k.zero:∀{us:List Value},A1k [] us->us=[]
 | _,.nil=>rfl
theorem A1k.dropLast {xs:List V} {us:List Value} (h:A1k xs us):A1k xs.dropLast us.dropLast:=by
 induction h with
 | nil=>exact .nil
 | cons r t ih =>
  cases t with
  | nil=>exact .nil
  | cons q t'=>exact .cons r ih
theorem B2t {α:Type} (l:List α):l.eraseIdx (l.length-1)=l.dropLast:=by
 induction l with
 | nil=>rfl
 | cons a r ih =>
  cases r with
  | nil=>rfl
  | cons b r =>
   have e:(a::b::r).length-1=((b::r).length-1)+1:=by
    have h1:(a::b::r).length=r.length+2:=rfl;have h2:(b::r).length=r.length+1:=rfl
    lia
   rw [e,List.eraseIdx_cons_succ,ih]
   all_goals rfl
section
variable {X:Cx} {pins:List (Addr×Obj)} {σ:St} {H:Hp} {s:Shared} {l b:Addr} {xs ys zs:List V}
theorem Inv.lset {its its':List Value} {n:Nat} {f:Array Value->Array Value} {t':Nat} (I:Inv X pins σ H s) (hH:H l=some (.lst xs))
  (e:s.heap.get? l=some { cls:= .type "list",data:= .seq its.toArray n }) (hf:f its.toArray=its'.toArray) (hv:A1k ys its') (hz:ys.length<=sizeLine) :
  Inv X pins σ (upd H l (.lst ys)) { s with heap:=s.heap.update l (Obj.mapSeq f),toks:=t' }:=by
 have q:=PySem.IsL.update e f;rw [hf] at q;refine I.write (x:=l) (e:=l) (by rw [hH];exact trivial) (.inl rfl) (λb' u hb hu=>(Z1d s.heap (Obj.mapSeq f) (Ne.symm hb)).trans hu) ⟨_,q⟩ ?_;exact ⟨hz,its',_,hv,q⟩
theorem Inv.lnew {its:List Value} {t':Nat} (I:Inv X pins σ H s) (hv:A1k ys its) (hz:ys.length<=sizeLine) :
  Inv X pins σ (upd H s.heap.objs.size (.lst ys)) { s with heap:=s.heap.push { cls:= .type "list",data:= .seq its.toArray },toks:=t' } :=
 I.laid (λ_ _ q=>Z01 _ q) (Z09 _) ⟨hz,its,0,hv,Z0c _ rfl⟩
theorem Inv.fresh (I:Inv X pins σ H s):H s.heap.objs.size=none:=I.hok.fresh (Z09 _)
theorem Inv.lstM (I:Inv X pins σ H s) (hH:H l=some (.lst xs)):xs.length<=sizeLine/\∃(its:List Value) (n:Nat),A1k xs its/\xs.length=its.length/\s.heap.get? l=some { cls:= .type "list",data:= .seq its.toArray n }:=by
 obtain ⟨z,its,n,r,e⟩:=I.hok l _ hH;exact ⟨z,its,n,r,r.length,e⟩
end
section
variable {X:Cx}
def B9x:V->List V->Hp->VK->Prop:=λx vs H Q=>∃l xs y,x= .ref l/\vs=[y]/\H l=some (.lst xs)/\xs.length<sizeLine/\Q .non (upd H l (.lst (xs++[y])))
theorem A1e:MtM X "list.append" B9x:=by
 intro pins s σ H x vs v us Q I rx rv h;obtain ⟨l,xs,y,rfl,rfl,hH,hz,q⟩:=h;cases rx;obtain ⟨u,rfl,ru⟩:=rv.one;obtain ⟨z,its,n,r,hl,e⟩:=I.lstM hH;refine call_meets F.slot_list_append ⟨_,e,rfl⟩ F.entry_list_append (F.args_list_append_2 _ _) (PySem.list_append l its.toArray n u (by rw [Z0g];lia)) ⟨e,?_⟩;refine ⟨.non,_,I.lset (its':=its++[u]) hH e (by simp) (r.append (.cons ru .nil)) ?_,rfl,q⟩;rw [Z06,Z0j]
 lia
def rPop:V->List V->Hp->VK->Prop:=λx vs H Q=>∃l xs y,x= .ref l/\vs=[]/\H l=some (.lst xs)/\xs[xs.length-1]? =some y/\Q y (upd H l (.lst xs.dropLast))
theorem B2k:MtM X "list.pop" rPop:=by
 intro pins s σ H x vs v us Q I rx rv h;obtain ⟨l,xs,y,rfl,rfl,hH,hy,q⟩:=h;cases rx;have hus:=rv.zero;subst hus;obtain ⟨z,its,n,r,hl,e⟩:=I.lstM hH;obtain ⟨u,hu,ru⟩:=r.get hy
 have hy':its.toArray[its.toArray.size-1]? =some u:=by
  show its.toArray[its.length-1]? =some u;rw [<-Array.getElem?_toList,<-hl];exact hu
 refine call_meets F.slot_list_pop ⟨_,e,rfl⟩ F.entry_list_pop (F.args_list_pop_1 _) (MeetsSeq.list_pop_last l its.toArray n u hy' (by rw [Z0g];lia)) ⟨e,?_⟩;refine ⟨y,_,I.lset (its':=its.dropLast) hH e ?_ r.dropLast ?_,ru,q⟩
 ·show its.toArray.eraseIdxIfInBounds (its.toArray.size-1)=its.dropLast.toArray;rw [Z0g,List.eraseIdxIfInBounds_toArray,B2t]
 ·rw [List.length_dropLast]
  lia
def rCat:R2:=λx y H Q=>∃l b xs zs,x= .ref l/\y= .ref b/\H l=some (.lst xs)/\H b=some (.lst zs)/\xs.length+zs.length<=sizeLine/\∀p,H p=none->Q (.ref p) (upd H p (.lst (xs++zs)))
theorem A6t:OpR X (binaryOp .Add) rCat:=by
 intro pins s σ H x y v u Q I rx ry h;obtain ⟨l,b,xs,zs,rfl,rfl,hH,hB,hz,q⟩:=h;cases rx;cases ry;obtain ⟨z,its,n,r,hl,e⟩:=I.lstM hH;obtain ⟨z2,its2,n2,r2,hl2,e2⟩:=I.lstM hB;refine PySem.P.add_list e e2 ?_ (by rw [Z0g,Z0g];lia);have ea:its.toArray++its2.toArray=(its++its2).toArray:=by simp
 rw [ea];exact ⟨.ref _,_,I.lnew (t':=s.toks) (r.append r2) (by rw [Z06];lia),rfl,q _ I.fresh⟩
end
section
variable {prog:Program} {w:World} {A:Around} {E:Value->Shared->Prop} {s:Shared}
set_option maxRecDepth 100000 in
end
section
variable {X:Cx}
end
section
variable {κ:Type} [DecidableEq κ]
def B0i (kvs:List (κ×V)) (k:κ):Option V:=(kvs.find? λkv=>decide (kv.1=k)).map (·.2)
def A7x (kvs:List (κ×V)) (k:κ) (v:V):List (κ×V) :=
 if (kvs.any λkv=>decide (kv.1=k))=true then kvs.map (λkv=>if kv.1=k then (kv.1,v) else kv) else kvs++[(k,v)]
theorem A9b {p:κ×V} {r:List (κ×V)} {k:κ} (e:p.1=k):B0i (p::r) k=some p.2:=by simp [B0i,Z2h,e]
theorem A8q {p:κ×V} {r:List (κ×V)} {k:κ} (e:¬p.1=k):B0i (p::r) k=B0i r k:=by simp [B0i,Z2h,e]
theorem B2l (k:κ):∀kvs:List (κ×V),(kvs.any λkv=>decide (kv.1=k))=(B0i kvs k).isSome
 | []=>rfl
 | p::r=>by
  rw [List.any_cons];by_cases e:p.1=k
  ·simp only [A9b e,Z20 e,Bool.true_or,Option.isSome_some]
  ·rw [A8q e,Z1j e,Bool.false_or];exact B2l k r
theorem A4s (kvs:List (κ×V)) (k:κ) (v:V):(A7x kvs k v).length<=kvs.length+1:=by
 unfold A7x;split
 ·rw [Z08];lia
 ·rw [Z06,Z0y,List.length_nil];lia
theorem A9d.isSome_eq {o:Option V} {u:Option Value} (r:A9d o u):o.isSome=u.isSome:=by
 cases o with
 | none=>cases u with
  | none=>rfl
  | some _=>exact (show False from r).elim
 | some _=>cases u with
  | none=>exact (show False from r).elim
  | some _=>rfl
theorem A9d.getD {o:Option V} {u:Option Value} {d:V} {d':Value} (r:A9d o u) (rd:A1l d d'):A1l (o.getD d) (u.getD d'):=by
 cases o with
 | none=>cases u with
  | none=>exact rd
  | some _=>exact (show False from r).elim
 | some _=>cases u with
  | none=>exact (show False from r).elim
  | some _=>exact r
theorem KV.val {kvs:List (κ×V)} {vs:List (κ×Value)} (r:KV kvs vs) (k:κ):A9d (B0i kvs k) (valueAt vs k):=by
 unfold KV at r
 induction r with
 | nil=>exact True.intro
 | @cons p q ps qs h t ih =>
  obtain ⟨h1,h2⟩:=h;by_cases e:p.1=k
  ·have e':q.1=k:=h1.symm.trans e;have b:valueAt (q::qs) k=some q.2:=by simp [valueAt,Z2h,e']
   rw [A9b e,b];exact h2
  ·have e':¬q.1=k:=λz=>e (h1.trans z);have b:valueAt (q::qs) k=valueAt qs k:=by simp [valueAt,Z2h,e']
   rw [A8q e,b];exact ih
theorem KV.any {kvs:List (κ×V)} {vs:List (κ×Value)} (r:KV kvs vs) (k:κ):(kvs.any λkv=>decide (kv.1=k))=vs.any λkv=>decide (kv.1=k):=by
 unfold KV at r
 induction r with
 | nil=>rfl
 | cons h t ih=>rw [List.any_cons,List.any_cons,ih,h.1]
theorem KV.repl {kvs:List (κ×V)} {vs:List (κ×Value)} (r:KV kvs vs) (k:κ) {y:V} {u:Value} (ry:A1l y u) :
  KV (kvs.map λkv=>if kv.1=k then (kv.1,y) else kv) (vs.map λkv=>if kv.1=k then (kv.1,u) else kv):=by
 unfold KV at r⊢
 induction r with
 | nil=>exact .nil
 | @cons p q ps qs h t ih =>
  rw [Z0p,Z0p];refine .cons ?_ ih;obtain ⟨h1,h2⟩:=h;by_cases e:p.1=k
  ·rw [Z12 e,Z12 (h1.symm.trans e)];exact ⟨h1,ry⟩
  ·rw [Z0t e,Z0t (λz=>e (h1.trans z))];exact ⟨h1,h2⟩
theorem KV.put {kvs:List (κ×V)} {vs:List (κ×Value)} (r:KV kvs vs) (k:κ) {y:V} {u:Value} (ry:A1l y u):KV (A7x kvs k y) (stored vs k u):=by
 unfold A7x stored;rw [r.any k];by_cases e:(vs.any λkv=>decide (kv.1=k))=true
 ·rw [Z12 e,Z12 e];exact r.repl k ry
 ·rw [Z0t e,Z0t e];exact Paired.snoc r ⟨rfl,ry⟩
theorem KV.length {kvs:List (κ×V)} {vs:List (κ×Value)} (r:KV kvs vs):kvs.length=vs.length:=Paired.length r
end
theorem B3h {P:Program} {w:World} {k:Key} {u:Value} (r:A1l (kV k) u):(A0t P w).is k u=true:=by
 cases k with
 | inl i=>obtain ⟨t,e⟩:=(show∃t,u=Value.int i t from r);subst e;exact B0v P w i t
 | inr x=>obtain ⟨t,e⟩:=(show∃t,u=Value.str x t from r);subst e;exact B0w P w x t
theorem B0a {P:Program} {w:World}:∀{ks:List Key} {us:List Value},A1k (ks.map kV) us->ItemsAre (A0t P w) ks us
 | [],_,r=>by rw [List.map_nil] at r;cases r;exact .nil
 | k::ks,_,r=>by
  rw [Z0p] at r
  cases r with
  | cons h t=>exact .cons (B3h h) (B0a t)
abbrev KT (H:Hp):List (List Key×V)->List (List Key×Addr×Value)->Prop:=Paired λp q=>p.1=q.1/\H q.2.1=some (.tup (p.1.map kV))/\A1l p.2 q.2.2
theorem KT.val {H:Hp} {kvs:List (List Key×V)} {xs:List (List Key×Addr×Value)} (r:KT H kvs xs) (k:List Key):A9d (B0i kvs k) ((atKey xs k).map (·.2)):=by
 induction r with
 | nil=>exact True.intro
 | @cons p q ps qs h t ih =>
  obtain ⟨h1,_,h2⟩:=h;by_cases e:p.1=k
  ·have e':q.1=k:=h1.symm.trans e;have b:atKey (q::qs) k=some q.2:=by simp [atKey,Z2h,e']
   rw [A9b e,b];exact h2
  ·have e':¬q.1=k:=λz=>e (h1.trans z);have b:atKey (q::qs) k=atKey qs k:=by simp [atKey,Z2h,e']
   rw [A8q e,b];exact ih
theorem KT.repl {H:Hp} {kvs:List (List Key×V)} {xs:List (List Key×Addr×Value)} (r:KT H kvs xs) (k:List Key) {y:V} {u:Value} (ry:A1l y u) :
  KT H (kvs.map λkv=>if kv.1=k then (kv.1,y) else kv) (xs.map (putAt k u)):=by
 induction r with
 | nil=>exact .nil
 | @cons p q ps qs h t ih =>
  rw [Z0p,Z0p];refine .cons ?_ ih;obtain ⟨h1,h2,h3⟩:=h;unfold putAt;by_cases e:p.1=k
  ·rw [Z12 e,Z12 (h1.symm.trans e)];exact ⟨h1,h2,ry⟩
  ·rw [Z0t e,Z0t (λz=>e (h1.trans z))];exact ⟨h1,h2,h3⟩
theorem KT.put {H:Hp} {kvs:List (List Key×V)} {xs:List (List Key×Addr×Value)} (r:KT H kvs xs) (k:List Key) {b:Addr} {y:V} {u:Value} (hb:H b=some (.tup (k.map kV))) (ry:A1l y u) :
  KT H (A7x kvs k y) (storedH xs k b u):=by
 have e:(kvs.any λkv=>decide (kv.1=k))=(atKey xs k).isSome:=by
  rw [B2l,(r.val k).isSome_eq,Option.isSome_map]
 unfold A7x storedH;rw [e];by_cases q:(atKey xs k).isSome=true
 ·rw [Z12 q,Z12 q];exact r.repl k ry
 ·rw [Z0t q,Z0t q];exact Paired.snoc r ⟨rfl,hb,ry⟩
theorem KT.keeps {H H':Hp} {kvs:List (List Key×V)} {xs:List (List Key×Addr×Value)} (r:KT H kvs xs) (ht:∀b ys,H b=some (.tup ys)->H' b=some (.tup ys)):KT H' kvs xs :=
 Paired.mapP r λ_ _ z=>⟨z.1,ht _ _ z.2.1,z.2.2⟩
section
variable {P:Program} {w:World} {H:Hp} {h:Heap} {a:Addr}
theorem C1s {u:HO} (ok:HOk P w H h) (e:Rd H a u):A2a P w H h a u:=e.ok ok
theorem B3a {kvs:List (Key×V)} (ok:HOk P w H h) (e:Rd H a (.dK kvs)):kvs.length<=sizeLine/\(a == sysModules)=false/\∃vs,KV kvs vs/\h.DictOf (A0t P w) a vs :=
 show A2a P w H h a (.dK kvs) from C1s ok e
theorem C2t {kvs:List (Key×V)} (ok:HOk P w H h) (e:H a=some (.dK kvs)):kvs.length<=sizeLine/\(a == sysModules)=false/\∃vs,KV kvs vs/\h.DictOf (A0t P w) a vs:=B3a ok (.inl e)
theorem A9w {ks:List Key} (ok:HOk P w H h) (e:H a=some (.tup (ks.map kV))):(tupleKind (A0t P w)).is h ks a:=by
 obtain ⟨_,its,r,o,h1,h2,n,h3⟩:=(show A2a P w H h a (.tup (ks.map kV)) from ok a _ e);exact ⟨o,its.toArray,n,h1,h2,h3,by simpa using B0a r⟩
theorem B1d {kvs:List (List Key×V)} (ok:HOk P w H h) (e:Rd H a (.dT kvs)):kvs.length<=sizeLine/\(a == sysModules)=false/\
  ∃xs,KT H kvs xs/\h.DictOfH (tupleKind (A0t P w)) a xs:=by
 obtain ⟨z,y,xs,r,o,es,ep,h1,h2,h3,h4,h5⟩:=(show A2a P w H h a (.dT kvs) from C1s ok e);refine ⟨z,y,xs,r,o,es,ep,h1,h2,h3,h4,λx hx=> ?_,h5⟩
 have all:∀{l:List (List Key×V)} {m:List (List Key×Addr×Value)},KT H l m->∀x∈m,(tupleKind (A0t P w)).is h x.1 x.2.1:=by
  intro l m q
  induction q with
  | nil=>intro x hx;exact nomatch hx
  | @cons p q ps qs hq t ih =>
   intro x hx;rcases Z0e.mp hx with e | hx
   ·subst e;exact A9w ok (by rw [<-hq.1];exact hq.2.1)
   ·exact ih x hx
 exact all r x hx
theorem C4a {kvs:List (List Key×V)} (ok:HOk P w H h) (e:H a=some (.dT kvs)):kvs.length<=sizeLine/\(a == sysModules)=false/\
  ∃xs,KT H kvs xs/\h.DictOfH (tupleKind (A0t P w)) a xs:=B1d ok (.inl e)
end
def B6l (H:Hp) (a:Addr) (y:V) (r:Option V):Prop :=
 (∃kvs k,Rd H a (.dK kvs)/\y=kV k/\r=B0i kvs k)\/∃kvs k b,Rd H a (.dT kvs)/\y= .ref b/\H b=some (.tup (k.map kV))/\r=B0i kvs k
def B8o (H:Hp) (a:Addr) (y v:V) (H':Hp):Prop :=
 (∃kvs k,H a=some (.dK kvs)/\y=kV k/\kvs.length<sizeLine/\H'=upd H a (.dK (A7x kvs k v)))\/
 ∃kvs k b,H a=some (.dT kvs)/\y= .ref b/\H b=some (.tup (k.map kV))/\kvs.length<sizeLine/\H'=upd H a (.dT (A7x kvs k v))
theorem B6l.t {H:Hp} {a b:Addr} {kvs:List (List Key×V)} {k:List Key} (e:H a=some (.dT kvs)) (eb:H b=some (.tup (k.map kV))):B6l H a (.ref b) (B0i kvs k):= .inr ⟨kvs,k,b,.inl e,rfl,eb,rfl⟩
theorem B8o.t {H:Hp} {a b:Addr} {kvs:List (List Key×V)} {k:List Key} {v:V} (e:H a=some (.dT kvs)) (eb:H b=some (.tup (k.map kV))) (hl:kvs.length<sizeLine) :
  B8o H a (.ref b) v (upd H a (.dT (A7x kvs k v))):= .inr ⟨kvs,k,b,e,rfl,eb,hl,rfl⟩
section
variable {X:Cx} {pins:List (Addr×Obj)} {σ:St} {H:Hp} {s:Shared} {a:Addr} {y v:V} {u r:Value} {o:Option V} {A:Around} {E:Value->Shared->Prop}
theorem Inv.big (I:Inv X pins σ H s):sysModules<s.heap.objs.size:=by
 have h:mainGlobals<s.heap.objs.size:=(I.mod.glob.keeps I.bk).lt;exact Nat.lt_trans (by decide) h
theorem B5k {Q:Value->Shared->Prop} (hu:A.units+1<cLine) (I:Inv X pins σ H s) (g:B6l H a y (some v)) (ry:A1l y u) (h:∀w' s',Inv X pins σ H s'->A1l v w'->Q w' s') :
  wpAny (model X.prog X.w) A (getItem (.ref a) u) Q E s:=by
 rcases g with ⟨kvs,k,e,ey,l⟩ | ⟨kvs,k,b,e,ey,eb,l⟩
 ·subst ey;obtain ⟨z,hd,vs,rel,dd⟩:=B3a I.hok e;obtain ⟨w',hw,rw'⟩:=A9d.some_of (v:=v) (o:=valueAt vs k) (by rw [l];exact rel.val k);exact wpAny_getItem_of (B3h ry) dd.mapOf hw (h w' _ (I.tok _) rw')
 ·subst ey;cases (show u=Value.ref b from ry);obtain ⟨z,hd,xs,rel,dd⟩:=B1d I.hok e;obtain ⟨w',hw,rw'⟩:=A9d.some_of (v:=v) (o:=(atKey xs k).map (·.2)) (by rw [l];exact rel.val k);obtain ⟨p,hp,hp2⟩:=Option.map_eq_some_iff.mp hw;refine wpAny_getItem_heap (tupleKind_room_in1 hu) (A9w I.hok eb) dd hp ?_;rw [hp2];exact h w' _ (I.tok _) rw'
theorem B9c {Q:Value->Shared->Prop} (hu:A.units+1<cLine) (I:Inv X pins σ H s) (g:B6l H a y o) (ry:A1l y u) (h:∀s',Inv X pins σ H s'->Q (.bool (!o.isSome)) s') :
  wpAny (model X.prog X.w) A (compareOp .NotIn u (.ref a)) Q E s:=by
 rcases g with ⟨kvs,k,e,ey,l⟩ | ⟨kvs,k,b,e,ey,eb,l⟩
 ·subst ey;obtain ⟨z,hd,vs,rel,dd⟩:=B3a I.hok e;refine wpAny_notIn_of (B3h ry) hd dd.mapOf ?_;rw [<-(rel.val k).isSome_eq,<-l];exact h _ (I.tok _)
 ·subst ey;cases (show u=Value.ref b from ry);obtain ⟨z,hd,xs,rel,dd⟩:=B1d I.hok e;refine wpAny_notIn_heap (tupleKind_room_in1 hu) (A9w I.hok eb) hd dd ?_;have q:=(rel.val k).isSome_eq;rw [Option.isSome_map] at q;rw [<-q,<-l];exact h _ (I.tok _)
theorem B0r {h':Heap} {t':Nat} {ob:HO} (I:Inv X pins σ H s) (mu:Mut (H a)) (hs:Heap.SameBut a s.heap h') (he:∃q,h'.get? a=some q) (new:A2a X.prog X.w (upd H a ob) h' a ob) :
  Inv X pins σ (upd H a ob) { s with heap:=h',toks:=t' } :=
 I.write (x:=a) (e:=a) mu (.inl rfl) (λb q hb z=>(hs.2 b hb).trans z) he new
theorem B8s {P:Program} {w:World} {H':Hp} {h':Heap} {kvs:List (Key×V)} {vs:List (Key×Value)} (z:kvs.length<=sizeLine) (hd:(a == sysModules)=false) (rel:KV kvs vs) (dd:h'.DictOf (A0t P w) a vs) :
  A2a P w H' h' a (.dK kvs):=⟨z,hd,vs,rel,dd⟩
theorem B4t {H':Hp} {Q:Unit->Shared->Prop} (hu:A.units+1<cLine) (I:Inv X pins σ H s) (g:B8o H a y v H') (ry:A1l y u) (rv:A1l v r) (h:∀s',Inv X pins σ H' s'->Q () s') :
  wpAny (model X.prog X.w) A (setItem (.ref a) u r) Q E s:=by
 rcases g with ⟨kvs,k,e,ey,l,eH⟩ | ⟨kvs,k,b,e,ey,eb,l,eH⟩
 ·subst ey eH;obtain ⟨z,hd,vs,rel,dd⟩:=C2t I.hok e;have hz:vs.length<=sizeLine:=by rw [<-rel.length];exact z
  have hl:(A7x kvs k v).length<=sizeLine:=by have:=A4s kvs k v;lia
  refine wpAny_setItem_pairs (hsz:=hz) (B3h ry) dd λh' dd' hs=>h _ ?_;have he:∃q,h'.get? a=some q:=let ⟨q,_,_,hq,_⟩:=dd';⟨q,hq⟩;exact B0r I (by rw [e];exact True.intro) hs he (B8s hl hd (rel.put k rv) dd')
 ·subst ey eH;cases (show u=Value.ref b from ry);obtain ⟨z,hd,xs,rel,dd⟩:=C4a I.hok e;have hz:xs.length<=sizeLine:=by rw [<-Paired.length rel];exact z
  have hl:(A7x kvs k v).length<=sizeLine:=by have:=A4s kvs k v;lia
  refine wpAny_setItem_heap (hsz:=hz) (tupleKind_room_in1 hu) (A9w I.hok eb) dd λh' dd' hs=>h _ ?_;obtain ⟨q,es,ep,hq,h2,h3,h4,_,h5⟩:=dd';refine B0r I (by rw [e];exact True.intro) hs ⟨q,hq⟩ ⟨hl,hd,_,(rel.put k eb rv).keeps λc ys ec=> ?_,q,es,ep,hq,h2,h3,h4,h5⟩;rw [A0g (B2z ec e (λz=>nomatch z))];exact ec
end
section
variable {X:Cx} {pins:List (Addr×Obj)} {σ:St} {H:Hp} {s:Shared} {a:Addr} {kvs:List (Key×V)} {k:Key} {u:Value} {A:Around} {E:Value->Shared->Prop}
end
def C4s (i:Expr):Prop:=∀ov iv,subscripted i false ov iv=operate [ov,iv] (getItem ov iv)
theorem B4g {prog:Program} {w:World} {A:Around} {E:Value->Shared->Prop} {s:Shared} {env:Env} {value slice:Expr} {pos:Pos} {T id:String} {Q:Value->Shared->Prop}
  (hl:typeLookup (.type T) "__getitem__"=pure (some (.builtin id))) (hs:C4s slice)
  (h:wpAny (model prog w) A (eval value env) (λo s₁=>wpAny (model prog w) A (eval slice env) (λi s₂=>s₂.TypeIs o T/\wpAny (model prog w) A (getItem o i) Q E s₂) E s₁) E s) :
  wpAny (model prog w) A (eval (.Subscript value slice pos) env) Q E s:=by
 refine Subscript_ (Z10 h (λo s₁ h₁=>Z10 h₁ (λi s₂ h₂=> ?_) λ_ _ x=>x) λ_ _ x=>x);obtain ⟨hT,h₂⟩:=h₂;unfold subscriptTail;refine Z00 ?_;rw [getitemInPython_of_ne hT.not_modules];refine Z00 (wpAny_specialOf hT hl ?_)
 have fin:wpAny (model prog w) A (subscripted slice false o i) (λr s₃=>wpAny (model prog w) A (letTemporaryGo value o r >>= λ_=>pure r) Q E s₃) E s₂:=by
  rw [hs o i];exact wpAny_operating (Z10 h₂ (λr s₃ h₃=>Z00 (wpAny_letTemporaryGo (Z04 h₃))) λ_ _ x=>x)
 first
  | exact Z04 (Z00 fin)
  | exact Z00 (Z04 (Z00 fin))
  | exact Z00 fin
theorem B1l {X:Cx} {pins:List (Addr×Obj)} {σ:St} {H:Hp} {s:Shared} {a:Addr} {y:V} {o:Option V} (I:Inv X pins σ H s) (g:B6l H a y o):s.TypeIs (.ref a) "dict":=by
 rcases g with ⟨kvs,k,e,_,_⟩ | ⟨kvs,k,b,e,_,_,_⟩
 ·obtain ⟨_,_,vs,_,dd⟩:=B3a I.hok e;exact dd.typeIs
 ·obtain ⟨_,_,xs,_,dd⟩:=B1d I.hok e;exact dd.typeIs
def C5n (td ty:TE):TE:=λσ H Q=>td σ H λx H1=>ty σ H1 λy H2=>∃a v,x= .ref a/\B6l H2 a y (some v)/\Q v H2
def C0u (ty td:TE):TE:=λσ H Q=>ty σ H λy H1=>td σ H1 λx H2=>∃a o,x= .ref a/\B6l H2 a y o/\Q (.bl (!o.isSome)) H2
def C5o (td ty tv:TE):TS:=λD σ H=>tv σ H λv H1=>td σ H1 λx H2=>ty σ H2 λy H3=>∃a H4,x= .ref a/\B8o H3 a y v H4/\D.nx σ H4
section
variable {X:Cx} {o i e value:Expr} {pos pos' tpos:Pos} {td ty tv:TE}
theorem C1a (hu:X.A.units+1<cLine) (ho:PE X o td) (hi:PE X i ty) (hs:C4s i):PE X (.Subscript o i pos) (C5n td ty):=by
 intro pins s σ H Q I h;refine B4g PySem.F.slot_dict_getitem.lookup hs (thn (ho pins s σ H _ I h) ?_);rintro u s1 ⟨x,H1,I1,rx,q1⟩;refine thn (hi pins s1 σ H1 _ I1 q1) ?_;rintro iv s2 ⟨y,H2,I2,ry,a,v,ex,g,q2⟩;subst ex;obtain rfl:u=Value.ref a:=rx;exact ⟨B1l I2 g,B5k hu I2 g ry λw' s3 I3 rw'=>⟨v,H2,I3,rw',q2⟩⟩
theorem B5x (hu:X.A.units+1<cLine) (hi:PE X i ty) (ho:PE X o td):PC X .NotIn i o (C0u ty td):=by
 intro pins s σ H Q I h;refine thn (hi pins s σ H _ I h) ?_;rintro iv s1 ⟨y,H1,I1,ry,q1⟩;refine thn (ho pins s1 σ H1 _ I1 q1) ?_;rintro u s2 ⟨x,H2,I2,rx,a,ov,ex,g,q2⟩;subst ex;obtain rfl:u=Value.ref a:=rx;exact B9c hu I2 g ry λs3 I3=>⟨.bl (!ov.isSome),H2,I3,rfl,q2⟩
theorem B0x (hu:X.A.units+1<cLine) (ho:PE X o td) (hi:PE X i ty) (hv:PE X value tv) (hs:swapsWith value (some (.Subscript o i pos')) pos.line X.env=pure false) :
  PS X (.Assign [.Subscript o i pos'] value pos) (C5o td ty tv):=by
 intro pins s σ H D I h;refine wpAny_Assign_Subscript (thn (hv pins s σ H _ I h) ?_) hs;rintro r s1 ⟨v,H1,I1,rv,q1⟩;refine thn (ho pins s1 σ H1 _ I1 q1) ?_;rintro u s2 ⟨x,H2,I2,rx,q2⟩;refine thn (hi pins s2 σ H2 _ I2 q2) ?_;rintro iv s3 ⟨y,H3,I3,ry,a,H4,ex,g,q3⟩;subst ex;obtain rfl:u=Value.ref a:=rx;exact B4t hu I3 g ry rv λs4 I4=>⟨σ,H4,I4,q3⟩
end
theorem B1z {P:Program} {w:World} {H:Hp} (h:Heap) (hb:sysModules<h.objs.size):A2a P w H (h.push { cls:= .type "dict",data:= .dict #[] }) h.objs.size (.dK []) :=
 ⟨Z1e _,Z22.mpr (Ne.symm (Z0h hb)),[],.nil,Heap.DictOf.new h⟩
theorem B7a {P:Program} {w:World} {H:Hp} (h:Heap) (hb:sysModules<h.objs.size):A2a P w H (h.push { cls:= .type "dict",data:= .dict #[] }) h.objs.size (.dT []) :=
 ⟨Z1e _,Z22.mpr (Ne.symm (Z0h hb)),[],.nil,_,#[],0,Z0c _ rfl,⟨rfl,rfl,rfl⟩,rfl,rfl,List.nodup_nil⟩
def C2j:TE:=λ_ H Q=>∀p,H p=none->Q (.ref p) (upd H p (.dK []))
def C1p:TE:=λ_ H Q=>∀p,H p=none->Q (.ref p) (upd H p (.dT []))
section
variable {X:Cx} {pos:Pos}
theorem B7w:PE X (.Dict [] [] pos) C2j:=λpins s σ H Q I h =>
 wpAny_Dict_empty ⟨.ref s.heap.objs.size,_,I.laid (a:=s.heap.objs.size) (o:= .dK []) (t':=s.toks) (λ_ _ q=>Z01 _ q) (Z09 _) (B1z s.heap I.big),rfl,h _ (I.hok.fresh (Z09 _))⟩
theorem B7f:PE X (.Dict [] [] pos) C1p:=λpins s σ H Q I h =>
 wpAny_Dict_empty ⟨.ref s.heap.objs.size,_,I.laid (a:=s.heap.objs.size) (o:= .dT []) (t':=s.toks) (λ_ _ q=>Z01 _ q) (Z09 _) (B7a s.heap I.big),rfl,h _ (I.hok.fresh (Z09 _))⟩
end
def B5h:List (TE×TE)->St->Hp->(List (V×V)->Hp->Prop)->Prop
 | [],_,H,Q=>Q [] H
 | (tk,tv)::r,σ,H,Q=>tk σ H λx H1=>tv σ H1 λy H2=>B5h r σ H2 λps H3=>Q ((x,y)::ps) H3
abbrev VV:List (V×V)->List (Value×Value)->Prop:=Paired λp q=>A1l p.1 q.1/\A1l p.2 q.2
def PPs (X:Cx) (pos:Pos) (keys:List (Option Expr)) (values:List Expr) (trs:List (TE×TE)):Prop :=
 ∀(pins:List (Addr×Obj)) (s:Shared) (σ:St) (H:Hp) (Q:List (V×V)->Hp->Prop),Inv X pins σ H s->B5h trs σ H Q->
  wpAny (model X.prog X.w) X.A (evalPairs (pairTrees keys values X.env pos)) (λvs s'=>∃ps H',Inv X pins σ H' s'/\VV ps vs/\Q ps H') X.xe s
theorem B5b {X:Cx} {pos:Pos}:PPs X pos [] [] []:=λpins s σ H Q I h=>pairTrees_nil_walk ⟨[],H,I,.nil,h⟩
theorem B1y {X:Cx} {pos:Pos} {k v:Expr} {ks:List (Option Expr)} {vs:List Expr} {tk tv:TE} {trs:List (TE×TE)} (hk:PE X k tk) (hv:PE X v tv) (hr:PPs X pos ks vs trs) :
  PPs X pos (some k::ks) (v::vs) ((tk,tv)::trs):=λpins s σ H Q I h =>
 pairTrees_cons_walk (thn (hk pins s σ H _ I h) λu s1 ⟨x,H1,I1,rx,q1⟩=>thn (hv pins s1 σ H1 _ I1 q1) λw2 s2 ⟨y,H2,I2,ry,q2⟩ =>
  thn (hr pins s2 σ H2 _ I2 q2) (by rintro ws s3 ⟨ps,H3,I3,rel,q3⟩;exact ⟨(x,y)::ps,H3,I3,.cons ⟨rx,ry⟩ rel,q3⟩))
def A6i (kvs more:List (Key×V)):List (Key×V):=more.foldl (λacc kv=>A7x acc kv.1 kv.2) kvs
theorem KV.merge:∀{more:List (Key×V)} {rs:List (Key×Value)} {kvs:List (Key×V)} {vs:List (Key×Value)},KV more rs->KV kvs vs->KV (A6i kvs more) (merged vs rs):=by
 intro more rs kvs vs r;unfold KV at r
 induction r generalizing kvs vs with
 | nil=>intro q;exact q
 | @cons p q ps qs h t ih =>
  intro r0
  have e:KV (A7x kvs p.1 p.2) (stored vs q.1 q.2):=by
   have:=r0.put p.1 h.2;rw [<-h.1];exact this
  exact ih e
theorem A4u:∀(more kvs:List (Key×V)),(A6i kvs more).length<=kvs.length+more.length
 | [],kvs=>by show kvs.length<=kvs.length+0;lia
 | p::r,kvs=>by
  have h1:=A4u r (A7x kvs p.1 p.2);have h2:=A4s kvs p.1 p.2;show (A6i (A7x kvs p.1 p.2) r).length<=_;rw [Z0y];lia
theorem A7z {P:Program} {w:World}:∀{kvs:List (Key×V)} {ws:List (Value×Value)},VV (kvs.map λkv=>(kV kv.1,kv.2)) ws->∃rs,Carries (A0t P w) ws rs/\KV kvs rs
 | [],_,r=>by rw [List.map_nil] at r;cases r;exact ⟨[],True.intro,.nil⟩
 | p::kvs,_,r=>by
  rw [Z0p] at r
  cases r with
  | @cons a b as bs h t =>
   obtain ⟨rs,c,q⟩:=A7z (P:=P) (w:=w) t;obtain ⟨b1,b2⟩:=b;exact ⟨(p.1,b2)::rs,⟨B3h h.1,rfl,c⟩,.cons ⟨rfl,h.2⟩ q⟩
def C4h (trs:List (TE×TE)):TE:=λσ H Q=>∀p,H p=none->B5h trs σ (upd H p (.dK [])) λps H2=>H2 p=some (.dK [])/\∃kvs:List (Key×V),ps=kvs.map (λkv=>(kV kv.1,kv.2))/\kvs.length<=15/\Q (.ref p) (upd H2 p (.dK (A6i [] kvs)))
theorem B3x {X:Cx} {pos:Pos} {keys:List (Option Expr)} {values:List Expr} {trs:List (TE×TE)} (h:PPs X pos keys values trs) (hall:keys.all (·.isSome)=true) (hl:keys.length=values.length) (h0:keys≠[])
  (h15:keys.length<=15):PE X (.Dict keys values pos) (C4h trs):=by
 intro pins s σ H Q I q;have hn:=I.hok.fresh (Z09 s.heap.objs.size);have I1:=I.laid (a:=s.heap.objs.size) (o:= .dK []) (h':=s.heap.push { cls:= .type "dict",data:= .dict #[] }) (t':=s.toks) (λ_ _ q=>Z01 _ q) (Z09 _) (B1z s.heap I.big);refine wpAny_Dict_walk (knd:=A0t X.prog X.w) hall hl h0 h15 (thn (h pins _ σ _ _ I1 (q _ hn)) ?_);rintro ws s2 ⟨ps,H2,I2,rel,e,kvs,ep,lk,q2⟩;subst ep;obtain ⟨rs,c,rk⟩:=A7z (P:=X.prog) (w:=X.w) rel;obtain ⟨z,hd,vs0,r0,dd⟩:=C2t I2.hok e;cases r0;refine ⟨rs,c,dd,λh' dd' hs=>⟨.ref s.heap.objs.size,_,?_,rfl,q2⟩⟩
 have hz:(A6i [] kvs).length<=sizeLine:=by
  have h1:=A4u kvs [];rw [List.length_nil] at h1;rw [sizeLine_eq];lia
 have he:∃q,h'.get? s.heap.objs.size=some q:=let ⟨q,_,_,hq,_⟩:=dd';⟨q,hq⟩;exact B0r I2 (by rw [e];exact True.intro) hs he (B8s hz hd (rk.merge .nil) dd')
structure M1 (X:Cx) (o:Expr) (m:Str) (apos:Pos) (e:Expr) (cpos:Pos):Prop where
 base:attributeBase o m X.env (eval o X.env)=eval o X.env
 few:((backTo cpos (starEach [e] X.env)).all (λx=> !x.1)&&(backToKw cpos (keywordEach [] X.env)).all (λx=>x.1.isSome)
  && decide (([e]:List Expr).length+([]:List Keyword).length+(if ([]:List Keyword).isEmpty then 0 else 1)<30))=true
 line:(apos.endLine == cpos.line)=true
 trees:backTo cpos (starEach [e] X.env)=[(false,eval e X.env)]
def IsD (H:Hp) (a:Addr):Prop:=(∃kvs,Rd H a (.dK kvs))\/∃kvs,Rd H a (.dT kvs)
theorem C2h {X:Cx} {pins:List (Addr×Obj)} {σ:St} {H:Hp} {s:Shared} {a:Addr} (I:Inv X pins σ H s) (d:IsD H a) :
  s.TypeIs (.ref a) "dict"/\(∀b,Value.ref a= .ref b->∃ob,s.heap.get? b=some ob/\ob.dict=none)/\(a == sysModules)=false:=by
 rcases d with ⟨kvs,e⟩ | ⟨kvs,e⟩
 ·obtain ⟨_,hd,vs,_,dd⟩:=B3a I.hok e;refine ⟨dd.typeIs,λb q=> ?_,hd⟩;cases q;obtain ⟨ob,_,_,h1,h2,_⟩:=dd;exact ⟨ob,h1,h2.2.1⟩
 ·obtain ⟨_,hd,xs,_,dd⟩:=B1d I.hok e;refine ⟨dd.typeIs,λb q=> ?_,hd⟩;cases q;obtain ⟨ob,_,_,h1,h2,_⟩:=dd;exact ⟨ob,h1,h2.2.1⟩
section
variable {X:Cx} {pins:List (Addr×Obj)} {σ:St} {H:Hp} {s:Shared} {a:Addr} {y d:V} {u r:Value} {o:Option V} {A:Around} {E:Value->Shared->Prop}
theorem C3d {Q:Value->Shared->Prop} (hu:A.units+1<cLine) (I:Inv X pins σ H s) (g:B6l H a y o) (ry:A1l y u) (h:∀w' s',Inv X pins σ H s'->A1l (o.getD .non) w'->Q w' s') :
  wpAny (model X.prog X.w) A (call (.builtin "dict.get") [.ref a,u]) Q E s:=by
 rcases g with ⟨kvs,k,e,ey,l⟩ | ⟨kvs,k,b,e,ey,eb,l⟩
 ·subst ey;obtain ⟨z,hd,vs,rel,dd⟩:=B3a I.hok e;refine call_meetsIn PySem.F.slot_dict_get dd.typeIs PySem.F.entry_dict_get (PySem.F.args_dict_get_2 _ _) (meets_dict_get (A0t X.prog X.w) a (B3h ry) hd) ⟨_,dd.mapOf,h _ _ (I.tok _) ?_⟩;rw [l];exact (rel.val k).getD rfl
 ·subst ey;cases (show u=Value.ref b from ry);obtain ⟨z,hd,xs,rel,dd⟩:=B1d I.hok e;refine call_meetsIn PySem.F.slot_dict_get dd.typeIs PySem.F.entry_dict_get (PySem.F.args_dict_get_2 _ _) (meetsH_dict_get (tupleKind (A0t X.prog X.w)) a b hd) ⟨tupleKind_room_in1 hu,k,xs,A9w I.hok eb,dd,h _ _ (I.tok _) ?_⟩;rw [l];exact (rel.val k).getD rfl
end
def C1j (td ty:TE):TE:=λσ H Q=>td σ H λx H1=>∃a,x= .ref a/\IsD H1 a/\ty σ H1 λy H2=>∃o,B6l H2 a y o/\Q (o.getD .non) H2
section
variable {X:Cx} {o e f:Expr} {apos cpos:Pos} {td ty tx:TE}
theorem B7t (hu:X.A.units+1<cLine) (ho:PE X o td) (he:PE X e ty) (m:M1 X o "get" apos e cpos):PE X (.Call (.Attribute o "get" apos) [e] [] cpos) (C1j td ty):=by
 intro pins s σ H Q I h;refine wpAny_Call_method m.base m.few m.line PySem.F.plainAttrs_dict PySem.F.slot_dict_get PySem.F.type_dict_get (thn (ho pins s σ H _ I h) ?_);rintro u s1 ⟨x,H1,I1,rx,a,ex,d,q1⟩;subst ex;obtain rfl:u=Value.ref a:=rx;obtain ⟨t1,t2,_⟩:=C2h I1 d;refine ⟨t1,t2,?_⟩;rw [m.trees];refine Calls.callWith_builtin rfl (Calls.evalArgs_plain (Calls.spliced_cons (thn (he pins s1 σ H1 _ I1 q1) ?_)));rintro iv s2 ⟨y,H2,I2,ry,ov,g,q2⟩;refine Calls.spliced_nil ?_;exact C3d hu I2 g ry λw' s3 I3 rw'=>⟨_,H2,I3,rw',q2⟩
end
section
variable {X:Cx} {pins:List (Addr×Obj)} {σ:St} {H:Hp} {s:Shared} {a:Addr} {kvs:List (Key×V)} {A:Around} {E:Value->Shared->Prop}
end
section
variable {X:Cx} {pins:List (Addr×Obj)} {σ:St} {H:Hp} {s:Shared} {a:Addr} {y:V} {u:Value} {A:Around} {E:Value->Shared->Prop}
end
end L2
namespace Att
open PySem PySem.W PySem.Calls PyProof.Rows
theorem A7k {P:Params} {h:Heap}:∀(ns:List Int) (vs:List Value),WellAll P h vs (ns.map WData.int)->IntsAre vs ns:=by
 intro ns
 induction ns with
 | nil =>
  intro vs w;rw [List.map_nil] at w;cases w;exact .nil
 | cons n ns ih =>
  intro vs w;rw [Z0p] at w
  cases w with
  | cons a b =>
   cases a
   exact .cons _ _ (ih _ b)
theorem B4l {l:OpenLaw} {n:Nat} (hn:l.most=some n) {P:Params} {h:Heap} {args:List WData} {vals:List Value}
  (hpre:l.row.toRowW.claim.pre args=true) (hwl:WellAll P h vals args) :
  ∃a vs ns,vals=[Value.ref a]/\args=[WData.list (ns.map WData.int)]/\h.get? a=some { cls:= .type "list",data:= .seq vs.toArray }/\IntsAre vs ns/\ns.length<=n:=by
 have hsh:WShape.hasAll [] args [.list .int]=true:=(pre_splitW hpre).1;have hc:l.pre.holds [] { args:=args }=true:=(pre_splitW hpre).2;obtain ⟨d,r,rfl,h1,h2⟩:=hasAllW_cons hsh;obtain rfl:=hasAllW_nil h2;obtain ⟨xs,rfl,h3⟩:=hasW_list h1;obtain ⟨ns,rfl⟩:=items_int h3
 have hlen:ns.length<=n:=by
  unfold OpenLaw.pre at hc
  have h4:(WTm.not (.lt (.lit (.int (n:Int))) (.len (.arg 0)))).holds [] { args:=[.list (ns.map .int)] }=true:=by
   have h4:=(holds_andW hc).1;rw [hn] at h4;exact h4
  have h5:=condW_of h4 (w_not (w_lt w_lit (w_len_list (w_arg rfl))));rw [Z08] at h5;refine Nat.le_of_not_lt λq=> ?_;have q':(n:Int)<((ns.length:Nat):Int):=by lia
  first
   | (rw [Z20 q'] at h5;exact absurd h5 (by decide))
   | (simp at h5;lia)
 cases hwl with
 | cons w1 w2 =>
  cases w2
  cases w1 with
  | list ho hall=>exact ⟨_,_,ns,rfl,rfl,ho,A7k ns _ hall,hlen⟩
theorem B4e (l:OpenLaw) (args:List WData):l.row.toRowW.claim.post args (.bool true) args=true :=
 postW_of (r:=l.row.toRowW) (X:=(true == true))
  (show WShape.has [] (.bool true) .bool=true by first | rfl | decide | simp [WShape.has,WShape.arms,WShape.armsAll])
  (show (WTm.eq .res (.lit (.bool true))).value [] { args:=args,res:=some (.bool true),after:=args }=some (.bool (true == true)) from w_eq_bool (w_res rfl) w_lit) rfl
theorem attach_call {l:OpenLaw} {n:Nat} {q:Program} {loose:List Str} {XP:(Str->Option Value)->Heap->Prop} {YP:World->Heap->Prop} {d:DefRec}
  (hn:l.most=some n) (hdf:d.params.defaults=[])
  (call:∀(w:World) (s₀ s₁:Shared) (mg mb:Str->Option Value) (fa:Addr) (o:Obj) (pm cd doc:Value) (a:Addr) (vs:List Value) (ns:List Int),
   Ground q loose [] XP w s₀ mg mb s₁.heap->YP w s₁.heap->
   s₁.heap.get? fa=some o->o.data= .func (docDef d.name d.params d.body d.scope pm cd doc)->s₁.heap.CodeRec cd d.name->mg d.name=some (.ref fa)->
   s₁.heap.get? a=some { cls:= .type "list",data:= .seq vs.toArray }->IntsAre vs ns->ns.length<=n->s₁.gens= #[]->
   codeAny (model l.prog w) callerA (.call (.ref fa) ⟨[.ref a],[]⟩) (λr s'=>r= .ok (.ret (.bool true))/\OldK s₁.heap s'.heap/\s'.os=s₁.os/\AllBare s'.gens) s₁) :
  WalkO q loose XP YP l.row.toRowW d [] (λf vs=>PySem.call f vs):=by
 intro w s₀ s₁ mg mb G Y fa o pm cd doc dV kV ho hd hcd hD hmg hg args vals as hpre hlay hrd hwl hlo;obtain rfl:dV= .none:=Dflts.none hD hdf;obtain rfl:kV= .none:=Dflts.noKw hD;obtain ⟨a,vs,ns,rfl,rfl,hobj,hints,hlen⟩:=B4l hn hpre hwl;refine enter_call (codeAny_mono (call w s₀ s₁ mg mb fa o pm cd doc a vs ns G Y ho (fd_plain hd) hcd hmg hobj hints hlen hg) λr s' hq=> ?_);obtain ⟨rfl,h2,h3,h4⟩:=hq;exact ⟨.inl ⟨.bool true,.bool true,[],rfl,λ_=>rfl,.bool true,B4e l _,λ_=>⟨List.Pairwise.nil,λ_ hm=>(nomatch hm)⟩⟩,h2,h3,h4⟩
section
variable {prog:Program} {w:World} {A:Around} {E:Value->Shared->Prop} {s:Shared} {K:Frag}
end
end Att
namespace L2
open PySem PySem.Spec PyProof.Rows
theorem B0g:∀{vs:List Value} {ns:List Int},IntsAre vs ns->A1k (ns.map V.int) vs
 | _,_,.nil=> .nil
 | _,_,.cons n t h=> .cons ⟨t,rfl⟩ (B0g h)
def C4p (H:Hp):Prop:=∀b,H b=none\/∃o xs,H b=some (.frz o (.lst xs))
theorem B7c {P:Program} {w:World} {K:Frag} {mg mb:Str->Option Value} {CX:CXT} {k:Nat} {fa a:Addr} {fd:FuncData} {x:Str} {sp:Sp} {s₁:Shared} {vs:List Value} {ns:List Int}
  (KX:K.In s₁.heap) (hns:s₁.heap.Ns mainGlobals mg) (hb:s₁.heap.Ns builtinsNs mb) (hbb:∀x:Str,x≠"__name__"->mb x=bootBuiltins x) (hlim:s₁.heap.NoLimit) (hg:s₁.gens= #[])
  (ha:s₁.heap.get? a=some { cls:= .type "list",data:= .seq vs.toArray }) (hi:IntsAre vs ns) (hl:ns.length<=sizeLine) (hr:A3u k callerA)
  (F:∀base:Heap,K.In base->base.Ns mainGlobals mg->A4w P w K mg base CX k fa fd [x] sp) (hbind:∀(s:Shared) (u:Value),BindsTo s fd ⟨[u],[]⟩ [(x,u)])
  (hsp:∀H:Hp,C4p H->SqL K H a (ns.map V.int)->sp [.ref a] H (λv _=>v= .bl true) λ_ _ _=>False)
  (hCX:∀H e s',CX [] H s₁ (λ_ _ _=>False) e s'->False) :
  codeAny (model P w) callerA (.call (.ref fa) ⟨[.ref a],[]⟩) (λr s'=>r= .ok (.ret (.bool true))/\OldK s₁.heap s'.heap/\s'.os=s₁.os/\AllBare s'.gens) s₁:=by
 have rv:=B0g hi;have lenV:=hi.length
 have core:∀H:Hp,C4p H->SqL K H a (ns.map V.int)->HOk P w H s₁.heap->(∀b,H b≠none->b=a)->(H a≠none->K.lookup a=none)->
   codeAny (model P w) callerA (.call (.ref fa) ⟨[.ref a],[]⟩) (λr s'=>r= .ok (.ret (.bool true))/\OldK s₁.heap s'.heap/\s'.os=s₁.os/\AllBare s'.gens) s₁:=by
  intro H hO hS hok hA hK;have base_of:∀{b:Addr} {o:Obj},s₁.heap.get? b=some o->H b=none->(B8e s₁.heap H).get? b=some o:=λe n=>B6x e n
  have noA:∀{b:Addr} {o:Obj} {es:Array DictEntry} {ep:Nat},s₁.heap.get? b=some o->o.data= .dict es ep->H b=none:=λ{b o es ep} e d=>by
   cases q:H b with
   | none=>rfl
   | some u =>
    have e':b=a:=hA b (by rw [q];simp);subst e';rw [ha] at e;cases e;have d':Data.seq vs.toArray _=Data.dict es ep:=d;cases d'
  have nsK:∀{b:Addr} {m:Str->Option Value},s₁.heap.Ns b m->(B8e s₁.heap H).Ns b m:=λ{b m} ⟨o,es,ep,e,d,r⟩=>⟨o,es,ep,base_of e (noA e d),d,r⟩
  have hKb:K.In (B8e s₁.heap H):=λb o e=>base_of (KX b o e) (by
   cases q:H b with
   | none=>rfl
   | some u =>
    have e':b=a:=hA b (by rw [q];simp);subst e'
    rw [hK (by rw [q];simp)] at e;cases e)
  have hM:Mod K mg (B8e s₁.heap H):=⟨hKb,nsK hns,⟨mb,nsK hb,hbb⟩,let ⟨mc,h1,h2⟩:=hlim;⟨mc,nsK h1,h2⟩⟩;have e0:B6j P w K mg (B8e s₁.heap H) callerA [] s₁ H:=⟨rfl,hM,λb o e=>B9g e,Nat.le_of_eq (B5q _ _),trivial,λb hb=>absurd (show b∈([]:List Addr) from hb) (by simp),hok,.of_eq hg⟩;refine codeAny_mono ((F _ hKb (nsK hns)).run callerA [] s₁ H ⟨[.ref a],[]⟩ [.ref a] [.ref a] _ _ hr e0 (hbind s₁ (.ref a)) (.cons rfl .nil) (hsp H hO hS)) λr s' h=> ?_
  cases r with
  | error e=>exact (hCX H e s' h).elim
  | ok fl =>
   cases fl with
   | next=>exact False.elim h
   | brk=>exact False.elim h
   | cont=>exact False.elim h
   | ret u =>
    obtain ⟨v,H',os,bare,un,hok',r',q⟩:=h;have q':v= .bl true:=q;subst q';obtain rfl:u=Value.bool true:=r';refine ⟨rfl,OldK.of_keep λb o e=> ?_,os,bare⟩
    cases q:H b with
    | none=>exact un.keep b o e q (by intro z;exact absurd (show b∈([]:List Addr) from z) (by simp)) (by simp)
    | some u =>
     rcases hO b with z | ⟨ob,xs,z⟩
     ·rw [q] at z;cases z
     ·have z2:=un.frzs b ob _ z;obtain ⟨e1,_⟩:=hok b _ z;obtain ⟨e2,_⟩:=hok' b _ z2;rw [e] at e1;cases e1;exact e2
 cases hk:K.lookup a with
 | some o =>
  have e:=KX a o hk;rw [ha] at e;cases e;refine core (λ_=>none) (λ_=> .inl rfl) (.inr ⟨_,vs.toArray,_,hk,rfl,rfl,rfl,by rw [Z0g,lenV];exact hl,by simpa using rv⟩) (λb u z=>by have z':(none:Option HO)=some u:=z;cases z') (λb z=>absurd rfl z) λz=>absurd rfl z
 | none =>
  refine core (λb=>if b=a then some (.frz { cls:= .type "list",data:= .seq vs.toArray } (.lst (ns.map V.int))) else none) (λb=> ?_) (.inl (.inr ⟨{ cls:= .type "list",data:= .seq vs.toArray },Z12 rfl⟩)) (λb u z=> ?_) (λb z=> ?_) λ_=>hk
  ·by_cases hb:b=a
   ·exact .inr ⟨_,_,Z12 hb⟩
   ·exact .inl (Z0t hb)
  ·by_cases hb:b=a
   ·have z':=(Z12 hb).symm.trans z;cases z';subst hb;exact ⟨ha,by rw [Z08];exact hl,vs,_,rv,ha⟩
   ·have z':=(Z0t hb).symm.trans z;cases z'
  ·by_cases hb:b=a
   ·exact hb
   ·exact absurd (Z0t hb) z
theorem B9i {l:PySem.W.OpenLaw} {n k:Nat} {q:Program} {loose:List Str} {XP:(Str->Option Value)->Heap->Prop} {YP:World->Heap->Prop} {d:DefRec} {K:Params->Frag} {CX:World->CXT} {sp:World->Sp} {x:Str}
  (hn:l.most=some n) (hn2:n<=sizeLine) (hdf:d.params.defaults=[]) (hr:A3u k callerA)
  (hY:∀(w:World) (h:Heap),YP w h->(K w.params).In h)
  (F:∀(w:World) (mg:Str->Option Value) (fa:Addr) (h:Heap),(K w.params).In h->h.Ns mainGlobals mg->mg d.name=some (.ref fa)->
   ∃fd:FuncData,(∀(s:Shared) (u:Value),BindsTo s fd ⟨[u],[]⟩ [(x,u)])/\
    ∀base:Heap,(K w.params).In base->base.Ns mainGlobals mg->A4w l.prog w (K w.params) mg base (CX w) k fa fd [x] (sp w))
  (hsp:∀(w:World) (H:Hp) (a:Addr) (ns:List Int),ns.length<=n->C4p H->SqL (K w.params) H a (ns.map V.int)->sp w [.ref a] H (λv _=>v= .bl true) λ_ _ _=>False)
  (hCX:∀(w:World) (H:Hp) (s:Shared) (e:Value) (s':Shared),CX w [] H s (λ_ _ _=>False) e s'->False) :
  PySem.W.WalkO q loose XP YP l.row.toRowW d [] (λf vs=>PySem.call f vs):=by
 refine Att.attach_call hn hdf λw s₀ s₁ mg mb fa o pm cd doc a vs ns G Y ho hd hcd hmg hobj hints hlen hg=> ?_;have KX:=hY w _ Y;obtain ⟨fd,hb,hF⟩:=F w mg fa _ KX G.T.g hmg;exact B7c KX G.T.g G.T.b G.T.builtins G.T.nolimit hg hobj hints (Z1n hlen hn2) hr hF hb (λH hO hS=>hsp w H a ns hlen hO hS) λH e s'=>hCX w H s₁ e s'
def A4a (s:Stmt) (j:Nat):Stmt:=match s with
 | .ClassDef _ _ _ body _ _ _ _ _ _ _=>body.getD j (.Pass ⟨0,0,0,0⟩)
 | _=> .Pass ⟨0,0,0,0⟩
def A4o (s:Stmt):Arguments:=match s with
 | .FunctionDef _ a _ _ _ _ _ _ _ _=>a
 | _=>{ posonlyargs:=[],args:=[],vararg:=none,kwonlyargs:=[],kw_defaults:=[],kwarg:=none,defaults:=[] }
def A3a (s:Stmt):List Stmt:=match s with
 | .FunctionDef _ _ b _ _ _ _ _ _ _=>b
 | _=>[]
def A0h (s:Stmt):Scope:=match s with
 | .FunctionDef _ _ _ _ _ _ sc _ _ _=>sc
 | _=>{ kind:= .function,names:=[],isGenerator:=false,isCoroutine:=false }
abbrev CX0:CXT:=λ_ _ _ _ _ _=>False
abbrev E0:XK:=λ_ _ _=>False
theorem A3t {X:Cx}:A4i CX0 X E0:=λ_ _ _ _ _ _ _ h=>h.elim
structure Fun (K:Frag) (x qual:Str) (st:Stmt) (f:Addr) (fd:FuncData):Prop where
 ex:∃(oc:Value) (od:Option Addr) (kV doc pm:Value) (an:Option Addr) (cdv ct:Value) (osl:Array (Option Value)),
  fd=fnOf x qual (A4o st) (A3a st) (A0h st) .none kV doc pm an cdv ct/\K.lookup f=some ⟨oc,od,.func fd,osl⟩/\codeIn K cdv qual=true
 kp:keepIn K (.ref f)=true
section
variable {P:Program} {w:World} {K:Frag} {mg:Str->Option Value} {base:Heap}
theorem Fun.ok {x qual:Str} {st:Stmt} {f:Addr} {fd:FuncData} {N ps:List Str} {k:Nat} {sp:Sp} (F:Fun K x qual st f fd) (S:A0n N ps (A0h st)) (len:∀vs H Q E,sp vs H Q E->vs.length=ps.length)
  (hbody:∀(cdv:Value) (A:Around) (outer:List Env) (s:Shared) (H:Hp) (vs:List V) (Q:VK) (E:XK),A3u k (A.deeper (envOfC qual (A0h st) s.heap.objs.size f cdv))->sp vs H Q E->
   ∃t,PSs (B6k CX0 P w K mg base N qual (A0h st) f cdv A outer s H E).nox (A3a st) t/\t { nx:=λ_ H'=>Q .non H',rt:=Q } (A6a N vs) H):A4w P w K mg base CX0 (k+1) f fd ps sp:=by
 obtain ⟨oc,od,kV,doc,pm,an,cdv,ct,osl,rfl,lk,hcd⟩:=F.ex;refine C3i lk hcd S len λA outer s H vs Q E hr hsp=> ?_;obtain ⟨t,h,q⟩:=hbody cdv A outer s H vs Q E hr hsp;exact ⟨t,h.nox,q⟩
theorem Fun.binds {x qual:Str} {st:Stmt} {f:Addr} {fd:FuncData} {ps:List Str} (F:Fun K x qual st f fd)
  (h:∀(kV doc pm:Value) (an:Option Addr) (cdv ct:Value) (us:List Value),us.length=ps.length->bindArgs (fnOf x qual (A4o st) (A3a st) (A0h st) .none kV doc pm an cdv ct) ⟨us,[]⟩=pure (ps.zip us)):A3x K fd ps []:=by
 obtain ⟨oc,od,kV,doc,pm,an,cdv,ct,osl,rfl,lk,hcd⟩:=F.ex;exact .all (h kV doc pm an cdv ct)
theorem B8z {x qual:Str} {st:Stmt} {f:Addr} {oc:Value} {od an:Option Addr} {osl:Array (Option Value)} {kV doc pm cdv ct:Value} (l:K.lookup f=some ⟨oc,od,.func (fnOf x qual (A4o st) (A3a st) (A0h st) .none kV doc pm an cdv ct),osl⟩)
  (c:codeIn K cdv qual=true) (k:keepIn K (.ref f)=true):Fun K x qual st f (fnOf x qual (A4o st) (A3a st) (A0h st) .none kV doc pm an cdv ct):=⟨⟨oc,od,kV,doc,pm,an,cdv,ct,osl,rfl,l,c⟩,k⟩
end
theorem B6v {A:Around} {k:Nat} (hr:A3u k A):A.units+1<cLine:=Z2d (Nat.add_le_add_left (by decide:1<=64) _) hr.units
section
variable {X:Cx}
theorem pv (i:Nat) {x:Str} {pos:Pos} (hN:X.N[i]? =some x:=by rfl) (hv:Vis X.env.scope x:=by first | exact Or.inl rfl | exact Or.inr (Or.inl rfl) | exact Or.inr (Or.inr rfl)) (hd:(x == ("__debug__":Str))=false:=by decide)
  (hcd:(x == ("__classdict__":Str))=false:=by decide):PE X (.Name x pos) (C6b i):=C1m hN hv hd hcd
end
theorem B6r {A B:Prop} (h:B):if false=true then A else B:=by
 rw [Z0t Z0v];exact h
theorem C3x {A B:Prop} (h:A):if true=true then A else B:=by
 rw [Z12 rfl];exact h
theorem C5y {c A B:Prop} [Decidable c] (h1:c->A) (h2:¬c->B):if c then A else B:=by
 by_cases h:c
 ·rw [Z12 h];exact h1 h
 ·rw [Z0t h];exact h2 h
def A0z (H H':Hp):Prop:=∀b o,H b=some o->H' b=some o
theorem A0z.refl (H:Hp):A0z H H:=λ_ _ h=>h
theorem A0z.trans {H H1 H2:Hp} (a:A0z H H1) (b:A0z H1 H2):A0z H H2:=λc o h=>b c o (a c o h)
theorem A0z.free {H H':Hp} (e:A0z H H') {l:Addr} (h:H' l=Option.none):H l=Option.none:=by
 cases q:H l with
 | none=>rfl
 | some o =>
  rw [e l o q] at h;cases h
theorem A0z.seq {K:Frag} {H H':Hp} {a:Addr} {xs:List V} (e:A0z H H') (h:SqL K H a xs):SqL K H' a xs:=by
 rcases h with (h | ⟨o,h⟩) | h
 ·exact .inl (.inl (e _ _ h))
 ·exact .inl (.inr ⟨o,e _ _ h⟩)
 ·exact .inr h
section
variable {κ:Type} [DecidableEq κ]
end
section
variable {X:Cx}
def tCut (t u:TS):TS:=λD σ H=>∃M:St->Hp->Prop,t { D with nx:=M } σ H/\∀σ' H',M σ' H'->u D σ' H'
theorem A2b {st:Stmt} {rest:List Stmt} {t u:TS} (h1:PS X st t) (h2:PSs X rest u):PSs X (st::rest) (tCut t u):=by
 intro pins s σ H D I h;obtain ⟨M,h,hm⟩:=h;refine wpAny_execs_cons (thn (h1 pins s σ H { D with nx:=M } I h) λf s1 q=> ?_)
 cases f with
 | next =>
  obtain ⟨σ',H',I',q⟩:=q;exact h2 pins s1 σ' H' D I' (hm _ _ q)
 | ret v=>exact q
 | brk=>exact q
 | cont=>exact q
def CBig (i j:Int):Prop:=i.natAbs<2^4000/\j.natAbs<2^4000
theorem C0v:OpR X (binaryOp .Mult) (rI CBig λi j=> .int (i*j)):=opI λ_ _ _ _ _ _ _ hc q =>
 mul_int q (IntMulOk.of_le (m:=4000) (n:=4000) (intBits_le_iff.mpr hc.1) (intBits_le_iff.mpr hc.2) (by decide))
end
structure B8w (X:Cx) (scope:Scope) (cl:List (Str×Addr)):Prop where
 eq:closureFor scope X.env=pure cl
 sub:∀x c,cl.lookup x=some c->X.env.cells.lookup x=some c
 has:∀x,((relabel scope X.env).names.lookup x=some .cell\/(relabel scope X.env).names.lookup x=some .free)->∃c,cl.lookup x=some c
 kind:scope.kind= .function
 ncell:∀y∈scope.names,y.2≠.cell
 names:∀y∈scope.names,y.2= .local->scope.names.lookup y.1=some .local
noncomputable def blk (X:Cx) (N':List Str) (scope:Scope) (cl:List (Str×Addr)) (C:Addr) (s₀:Shared) (H₀:Hp) (fp:List Addr):Cx :=
 { X with N:=N',s₀:=s₀,H₀:=H₀,env:=compEnvC scope cl C X.env,outer:=X.stack,ex:=fp,fn:=λ_=>false,pn:=[],xe:=λ_ _=>False }
def A2w (ix:List (Option Nat)) (σ:St):St:=ix.map λo=>o.bind λj=>(σ[j]?).bind id
section
variable {X:Cx} {pins:List (Addr×Obj)} {σ:St} {H:Hp} {s:Shared} {N':List Str} {scope:Scope} {cl:List (Str×Addr)} {fp:List Addr} {ix:List (Option Nat)}
def B9l (X:Cx) (N':List Str) (scope:Scope) (ix:List (Option Nat)):Prop :=
 ix.length=N'.length/\∀i j:Nat,ix[i]? =some (some j)->∃x,N'[i]? =some x/\X.N[j]? =some x/\(X.env.scope.names.lookup x=some .cell\/X.env.scope.names.lookup x=some .free)/\
  ((relabel scope X.env).names.lookup x=some .cell\/(relabel scope X.env).names.lookup x=some .free)
theorem C3e (I:Inv X pins σ H s) (ck:B8w X scope cl) (f:∀b∈fp,B1q X pins H b) (hlt:∀b∈fp,b<s.heap.objs.size):(blk X N' scope cl s.heap.objs.size s H fp).Ok where
 mod:=I.ok.mod
 kind:=ck.kind
 glob:=I.ok.glob
 blt:=I.ok.blt
 above:=Z09 _
 inj:=λx y c h1 h2=>I.ok.inj x y c (ck.sub x c h1) (ck.sub y c h2)
 has:=λx h=>ck.has x h
 cab:=λx c h=>by cases h
 hd:=I.ok.hd
 frames:=I.ok.frames
 stk:= .inl rfl
 exf:=λb hb=>⟨Z0h (hlt b hb),λx c h=>(f b hb).2.2.2.2.1 x c (ck.sub x c h)⟩
 bs:=I.bs
 bsz:=Z1n I.ok.bsz I.sz
 noex:=λb o e hb=>by
  rcases (f b hb).2.2.2.1 with z | z
  ·exact I.ok.noex b o e z
  ·exact absurd (Z0q (Z0a (I.ok.bs b o e).1) z) (Nat.lt_irrefl _)
 exfs:=λb hb hs=>by
  rcases Z0e.mp (I.stkSub b hs) with z | z
  ·exact (f b hb).2.1 z
  ·exact (f b hb).2.2.1 z
 funs:=I.stack
 frf:=I.stkFree
theorem B0j (I:Inv X pins σ H s) (ck:B8w X scope cl) (io:B9l X N' scope ix) (f:∀b∈fp,B1q X pins H b) (hlt:∀b∈fp,b<s.heap.objs.size) {h':Heap} {m:Str->Option Value} {t':Nat}
  (hn:h'.Ns s.heap.objs.size m) (k:∀b o,s.heap.get? b=some o->h'.get? b=some o):Inv (blk X N' scope cl s.heap.objs.size s H fp) [] (A2w ix σ) H { s with heap:=h',toks:=t' }:=by
 have cl':∀x c,cl.lookup x=some c->∃v,s.heap.IsCell c v:=λx c h=>I.cell x c (ck.sub x c h);refine ⟨C3e I ck f hlt,rfl,I.bare,Un.kept k,⟨m,hn,λi x v e1 e2 e3=> ?_⟩,λx c e=> ?_,I.hok.fresh (Z09 _),λx c e=>I.freeC x c (ck.sub x c e),(λp hp=>by cases hp),I.hok.kept k,?_⟩
 ·unfold A2w at e2;rw [Z1z] at e2
  cases hi:ix[i]? with
  | none=>rw [hi] at e2;cases e2
  | some o =>
   rw [hi] at e2
   cases o with
   | none=>cases Z1a e2
   | some j =>
    have e2':(σ[j]?).bind id=some v:=Z1a e2;obtain ⟨x',n1,n2,k1,k2⟩:=io.2 i j hi;have ex:x'=x:=Z1a (n1.symm.trans e1);subst ex
    have es:σ[j]? =some (some v):=by
     cases q:σ[j]? with
     | none=>rw [q] at e2';cases e2'
     | some w =>
      rw [q] at e2';exact congrArg some e2'
    obtain ⟨m0,_,hl⟩:=I.loc;obtain ⟨u,ru,lo⟩:=hl j x' v n2 es (k1.elim (λz=> .inr (.inl z)) λz=> .inr (.inr z));refine ⟨u,ru,.inr ⟨k2,?_⟩⟩;obtain ⟨c,hc⟩:=ck.has x' k2;refine ⟨c,hc,?_⟩;rcases lo with ⟨z,_⟩ | ⟨_,c',hc',ic⟩
    ·exfalso;have z':X.env.scope.names.lookup x'=some .local:=z;rcases k1 with k1 | k1 <;> (rw [z'] at k1;cases k1)
    ·have ec:c'=c:=Z1a (hc'.symm.trans (ck.sub x' c hc));subst ec;obtain ⟨o,ho,hd⟩:=ic;exact ⟨o,k _ _ ho,hd⟩
 ·obtain ⟨v,o,ho,hd⟩:=cl' x c e;exact ⟨v,o,k _ _ ho,hd⟩
 ·unfold A2w;rw [Z08];exact io.1
theorem B5d (I:Inv X pins σ H s) (f:∀b∈fp,B1q X pins H b) {σ':St} {H':Hp} {s':Shared} {pl:List (Addr×Obj)} (J:Inv (blk X N' scope cl s.heap.objs.size s H fp) pl σ' H' s') {h':Heap} (sb:Heap.SameBut s.heap.objs.size s'.heap h') :
  Inv X pins σ H' { s' with heap:=h' }:=by
 have nC:∀b o,s.heap.get? b=some o->b≠s.heap.objs.size:=λb o e=>Z0h (Z0a e);have hC:H' s.heap.objs.size=none:=J.free;have u:Un (frs X.stack) fp H H' s.heap s'.heap:=J.base
 refine I.call' (ch:=fp) (s':={ s' with heap:=h' }) J.os ⟨λb o e n hb hx=>(sb.2 b (nC b o e)).trans (u.keep b o e n hb hx),λb o e n hb hx=> ?_,u.free,λb o e hx=> ?_,u.tups,u.frzs,u.tbls⟩ (λb o e=> ?_) J.bare
  (λb hb=>⟨(f b hb).2.2.2.1,(f b hb).2.1,(f b hb).2.2.2.2.1,(f b hb).2.2.2.2.2⟩)
 ·obtain ⟨sl,q⟩:=u.slot b o e n hb hx;exact ⟨sl,(sb.2 b (nC b o e)).trans q⟩
 ·obtain ⟨o',q⟩:=u.there b o e hx;exact ⟨o',(sb.2 b (nC b o e)).trans q⟩
 ·refine (J.hok b o e).stay (λc v hc q=>(sb.2 c ?_).trans q) (λc q=>q) λc xs q=>q;rcases hc with rfl | hc
  ·exact A0i e hC
  ·exact A0i hc hC
end
def A1x:St->St->Prop
 | [],_=>True
 | none::r,_::r'=>A1x r r'
 | none::r,[]=>A1x r []
 | some v::r,w::r'=>w=some v/\A1x r r'
 | some _::_,[]=>False
theorem A1x.get:∀{a b:St},A1x a b->∀(j:Nat) v,a[j]? =some (some v)->b[j]? =some (some v)
 | [],_,_,_,_,e=>by simp at e
 | none::r,_::r',h,0,v,e=>by simp at e
 | none::r,_::r',h,j+1,v,e=>by simpa using A1x.get (a:=r) (b:=r') h j v (by simpa using e)
 | none::r,[],h,0,v,e=>by simp at e
 | none::r,[],h,j+1,v,e=>by have:=A1x.get (a:=r) (b:=[]) h j v (by simpa using e);simp at this
 | some w::r,_::r',h,0,v,e=>by
  have e':w=v:=by simpa using e
  subst e'
  simpa using h.1
 | some _::r,_::r',h,j+1,v,e=>by simpa using A1x.get (a:=r) (b:=r') h.2 j v (by simpa using e)
section
variable {X:Cx}
def C5c (ix:List (Option Nat)) (wi:TI) (g:TG) (te:TE):TE:=λσ H Q=>wi σ H λJ H1=>∀D,H1 D=none->∃W:Nat->Nat->Hp->Prop,(∃m,W 0 m (upd H1 D (.lst [])))/\∀i m H2,W i m H2->
 (J.stop i H2/\Q (.ref D) H2)\/(J.go i H2/\∃N:VK,(∀y H5,N y H5->∃xs,H5 D=some (.lst xs)/\xs.length<sizeLine/\∃m',m'<m/\W (i+1) m' (upd H5 D (.lst (xs++[y]))))/\∀x H3,J.yld i H2 x H3->g x (A2w ix σ) H3 λσ4 H4=>A1x (A2w ix σ) σ4/\te σ4 H4 N)
end
section
variable {X:Cx} {m:Str} {pos apos:Pos} {e o:Expr} {es:List Expr} {ta:TE} {t:TA}
end
mutual
inductive Rep (H:Hp):V->PyData->Prop
 | non:Rep H .non .none
 | bl (b:Bool):Rep H (.bl b) (.bool b)
 | int (i:Int):Rep H (.int i) (.int i)
 | str (x:Str):Rep H (.str x) (.str x)
 | lst {p:Addr} {xs:List V} {ds:List PyData}:H p=some (.lst xs)->C1e H xs ds->Rep H (.ref p) (.list ds)
 | tup {p:Addr} {xs:List V} {ds:List PyData}:H p=some (.tup xs)->C1e H xs ds->Rep H (.ref p) (.tuple ds)
inductive C1e (H:Hp):List V->List PyData->Prop
 | nil:C1e H [] []
 | cons {v:V} {vs:List V} {d:PyData} {ds:List PyData}:Rep H v d->C1e H vs ds->C1e H (v::vs) (d::ds)
end
section
variable {X:Cx} {pins:List (Addr×Obj)} {σ:St} {H:Hp} {s:Shared}
mutual
theorem A6x (I:Inv X pins σ H s):∀{v:V} {d:PyData} {u:Value},Rep H v d->A1l v u->∃as,Reads s.heap u d as
 | _,_,u,.non,r=>by cases (show u=Value.none from r);exact ⟨_,.none⟩
 | _,_,u,.bl b,r=>by cases (show u=Value.bool b from r);exact ⟨_,.bool b⟩
 | _,_,u,.int i,r=>by obtain ⟨t,q⟩:=(show∃t,u=Value.int i t from r);cases q;exact ⟨_,.int i t⟩
 | _,_,u,.str x,r=>by obtain ⟨t,q⟩:=(show∃t,u=Value.str x t from r);cases q;exact ⟨_,.str x t⟩
 | _,_,u,@Rep.lst _ p xs ds e q,r=>by
  cases (show u=Value.ref p from r)
  obtain ⟨_,its,n,rv,ho⟩:=(show A2a X.prog X.w H s.heap p (.lst xs) from I.hok p _ e);obtain ⟨as,z⟩:=A5o I q rv;exact ⟨_,Reads.list ho rfl rfl (by simpa using z)⟩
 | _,_,u,@Rep.tup _ p xs ds e q,r=>by
  cases (show u=Value.ref p from r)
  obtain ⟨_,its,rv,o,ho,hc,n,hd⟩:=(show A2a X.prog X.w H s.heap p (.tup xs) from I.hok p _ e);obtain ⟨as,z⟩:=A5o I q rv;exact ⟨_,Reads.tuple ho hc hd (by simpa using z)⟩
theorem A5o (I:Inv X pins σ H s):∀{vs:List V} {ds:List PyData} {us:List Value},C1e H vs ds->A1k vs us->∃as,ReadsAll s.heap us ds as
 | _,_,_,.nil,.nil=>⟨_,.nil⟩
 | _,_,_,.cons a r,.cons q rv=>by
  obtain ⟨as,z⟩:=A6x I a q;obtain ⟨bs,y⟩:=A5o I r rv;exact ⟨_,.cons z y⟩
end
end
def rEqD (neg:Bool):R2:=λx y H Q=>∃d e,Rep H x d/\Rep H y e/\SeqAt.shaped d=true/\SeqAt.shaped e=true/\Q (.bl (if neg then !PyData.eqv d e else PyData.eqv d e)) H
section
variable {X:Cx}
theorem B8n (hu:X.A.units+64<cLine):OpR X (compareOp .NotEq) (rEqD true):=by
 intro pins s σ H x y v u Q I rx ry h;obtain ⟨d,e,h1,h2,s1,s2,q⟩:=h;obtain ⟨as,r1⟩:=A6x I h1 rx;obtain ⟨bs,r2⟩:=A6x I h2 ry;exact ne_dataH r1 r2 s1 s2 hu ⟨.bl (!PyData.eqv d e),H,I,rfl,q⟩
end
theorem B3y {X:Cx} {scope:Scope} (hk:scope.kind= .function) (hn:∀y∈scope.names,y.2≠.free/\y.2≠.cell) (hl:∀y∈scope.names,y.2= .local->scope.names.lookup y.1=some .local):B8w X scope [] where
 eq:=closureFor_none λy hy=>(hn y hy).1
 sub:=λx c h=>by cases h
 has:=λx h=>by
  exfalso
  have e:(relabel scope X.env).names=scope.names:=map_eq_self λy hy=>by
   obtain ⟨n,k⟩:=y;have z:=(hn _ hy).1;have z':(k == NameKind.free)=false:=by simpa using z
   simp [z']
  rw [e] at h
  have mem:∀{k:NameKind},scope.names.lookup x=some k->(x,k)∈scope.names:=λ{k} q=>by
   generalize scope.names=l at q
   induction l with
   | nil=>cases q
   | cons a r ih =>
    obtain ⟨n,k'⟩:=a;rw [Z28] at q;split at q
    ·rename_i hb;have hb':x=n:=by simpa using hb
     cases q
     subst hb';exact .head _
    ·exact .tail _ (ih q)
  rcases h with h | h
  ·exact (hn _ (mem h)).2 rfl
  ·exact (hn _ (mem h)).1 rfl
 kind:=hk
 ncell:=λy hy=>(hn y hy).2
 names:=hl
theorem B4r {X:Cx} {N':List Str} {scope:Scope} {n:Nat} (h:n=N'.length):B9l X N' scope (List.replicate n none):=⟨by rw [List.length_replicate];exact h,λi j e=>by
 rw [List.getElem?_replicate] at e
 split at e <;> cases e⟩
section
variable {K:Frag} {a D:Addr} {xs:List V} {g:TG} {te:TE} {Q:VK} {σ₀:St} {H:Hp}
theorem B6q (Pv:Nat->List V->Hp->Prop) (h0:Pv 0 [] (upd H D (.lst []))) (hl:∀i ys H,Pv i ys H->SqT K H a xs)
  (hs:∀i x ys H,xs[i]? =some x->Pv i ys H->g x σ₀ H λσ4 H4=>A1x σ₀ σ4/\te σ4 H4 λy H5=>H5 D=some (.lst ys)/\ys.length<sizeLine/\Pv (i+1) (ys++[y]) (upd H5 D (.lst (ys++[y])))) (hd:∀ys H,Pv xs.length ys H->Q (.ref D) H) :
  ∃W:Nat->Nat->Hp->Prop,(∃m,W 0 m (upd H D (.lst [])))/\∀i m H2,W i m H2->
   ((Itt K a).stop i H2/\Q (.ref D) H2)\/((Itt K a).go i H2/\∃N:VK,(∀y H5,N y H5->∃xs,H5 D=some (.lst xs)/\xs.length<sizeLine/\∃m',m'<m/\W (i+1) m' (upd H5 D (.lst (xs++[y]))))/\
    ∀x H3,(Itt K a).yld i H2 x H3->g x σ₀ H3 λσ4 H4=>A1x σ₀ σ4/\te σ4 H4 N):=by
 refine ⟨λi m H=>m=xs.length-i/\i<=xs.length/\∃ys,Pv i ys H,⟨xs.length,by simp,Z1e _,[],h0⟩,?_⟩;rintro i m H2 ⟨rfl,hi,ys,p⟩;have q:=hl i ys H2 p;by_cases hlt:i<xs.length
 ·refine .inr ⟨⟨xs,xs[i],q,by simp [hlt]⟩,λy H5=>H5 D=some (.lst ys)/\ys.length<sizeLine/\Pv (i+1) (ys++[y]) (upd H5 D (.lst (ys++[y]))),λy H5 n=>⟨ys,n.1,n.2.1,xs.length-(i+1),by lia,rfl,hlt,_,n.2.2⟩,λx H3 z=> ?_⟩;obtain ⟨e,z⟩:=z;subst e;exact hs i x ys _ (z xs q) p
 ·have e:i=xs.length:=by lia
  subst e;exact .inl ⟨⟨xs,q,Z09 _⟩,hd ys H2 p⟩
end
abbrev TJ:=St->Hp->Str->(Str->Hp->Prop)->Prop
def PJ (X:Cx) (es:List Expr) (t:TJ):Prop :=
 ∀(pins:List (Addr×Obj)) (s:Shared) (σ:St) (H:Hp) (out:Str) (Q:Str->Hp->Prop),Inv X pins σ H s->t σ H out Q->wpAny (model X.prog X.w) X.A (joinParts out (evalEach es X.env)) (EP X pins σ λv H'=>∃z,v= .str z/\Q z H') X.xe s
def C6g (x:V) (y:Str):Prop:=(x= .str y/\y.length<=sizeLine)\/∃i:Int,x= .int i/\i.natAbs.log2<1920/\y=(toString i:Str)
def C4w:TJ:=λ_ H out Q=>out.length<=sizeLine/\Q out H
def C3h (te:TE) (tr:TJ):TJ:=λσ H out Q=>te σ H λx H1=>∃y,C6g x y/\(out++y).length<=sizeLine/\tr σ H1 (out++y) Q
def C4y (x:Str) (tr:TJ):TJ:=λσ H out Q=>(out++x).length<=sizeLine/\tr σ H (out++x) Q
section
variable {X:Cx} {e:Expr} {es:List Expr} {te:TE} {tr:TJ} {pos p2:Pos}
theorem B1w:PJ X [] C4w:=λpins s σ H out Q I h=>joinParts_nil ⟨.str out,H,I.tok _,⟨_,rfl⟩,out,rfl,h.2⟩ h.1
theorem B6a (he:PE X e te) (hr:PJ X es tr) (hs:evalEach (.FormattedValue e (-1) none pos::es) X.env=eval (.FormattedValue e (-1) none pos) X.env::evalEach es X.env:=by rfl):PJ X (.FormattedValue e (-1) none pos::es) (C3h te tr):=by
 intro pins s σ H out Q I h;rw [hs];refine joinParts_cons (FormattedValue_plain (thn (he pins s σ H _ I h) ?_));rintro v s1 ⟨x,H1,I1,rx,y,f,hz,q⟩;rcases f with ⟨rfl,hy⟩ | ⟨i,rfl,hi,rfl⟩
 ·obtain ⟨t,rfl⟩:=(show∃t,v=Value.str y t from rx);exact formatField_str (λt' tk=>⟨hz,hr pins _ σ H1 _ Q (I1.tok tk) q⟩) hy
 ·obtain ⟨t,rfl⟩:=(show∃t,v=Value.int i t from rx);exact formatField_int_small hi ⟨hz,hr pins _ σ H1 _ Q (I1.tok _) q⟩
theorem A6k {x:Str} {j:Nat} (hr:PJ X es tr) (hs:evalEach (.Constant (.str x) j pos::es) X.env=eval (.Constant (.str x) j pos) X.env::evalEach es X.env:=by rfl):PJ X (.Constant (.str x) j pos::es) (C4y x tr):=by
 intro pins s σ H out Q I h;rw [hs];refine joinParts_cons (thn (A0s pins s σ H (λv H'=>v= .str x/\H'=H) I ⟨rfl,rfl⟩) ?_);rintro v s1 ⟨y,H1,I1,rx,ey,eH⟩;subst ey eH;obtain ⟨t,rfl⟩:=(show∃t,v=Value.str x t from rx);exact ⟨h.1,hr pins s1 σ H1 _ Q I1 h.2⟩
def C4q (tj:TJ):TE:=λσ H Q=>tj σ H Str.empty λz H'=>Q (.str z) H'
theorem A8e {a b:Expr} {tj:TJ} (h:PJ X (a::b::es) tj) (hs:evalEach (a::b::es) X.env=eval a X.env::eval b X.env::evalEach es X.env:=by rfl):PE X (.JoinedStr (a::b::es) pos) (C4q tj):=by
 intro pins s σ H Q I hq;refine JoinedStr_many ?_;rw [<-hs];exact thn (h pins s σ H _ _ I hq) (by rintro u s1 ⟨v,H1,I1,rv,z,ez,q⟩;subst ez;exact ⟨.str z,H1,I1,rv,q⟩)
end
theorem A5r {x:Str} {k:NameKind}:∀{l:List (Str×NameKind)},l.lookup x=some k->(x,k)∈l
 | [],q=>by cases q
 | (n,k')::r,q=>by
  rw [Z28] at q;split at q
  ·rename_i hb;have hb':x=n:=by simpa using hb
   cases q
   subst hb';exact .head _
  ·exact .tail _ (A5r q)
theorem A6d {X:Cx} {scope:Scope} {x:Str} {c:Addr} (he:closureFor scope X.env=pure [(x,c)]) (hc:X.env.cells.lookup x=some c) (hk:scope.kind= .function) (hn:∀y∈scope.names,y.2≠.cell/\(y.2= .free->y.1=x))
  (hl:∀y∈scope.names,y.2= .local->scope.names.lookup y.1=some .local):B8w X scope [(x,c)] where
 eq:=he
 sub:=λy d h=>by
  rw [Z28] at h;split at h
  ·rename_i hb;have hb':y=x:=by simpa using hb
   cases h
   subst hb';exact hc
  ·cases h
 has:=λy h=>by
  have key:y=x:=by
   have m:∃k,(y,k)∈(relabel scope X.env).names/\(k= .cell\/k= .free):=h.elim (λz=>⟨_,A5r z,.inl rfl⟩) λz=>⟨_,A5r z,.inr rfl⟩;obtain ⟨k,hm,hk⟩:=m;obtain ⟨⟨n,k0⟩,h0,e⟩:=Z2c.mp hm;dsimp only at e;by_cases hf:k0= .free
   ·have en:n=y:=by
     split at e
     ·exact congrArg Prod.fst e
     ·exact congrArg Prod.fst e
    rw [<-en];exact (hn _ h0).2 hf
   ·have hb:(k0 == NameKind.free)=false:=by simpa using hf
    simp only [hb,Bool.false_and,Bool.false_eq_true,if_false] at e;have e2:k0=k:=congrArg Prod.snd e;subst e2;rcases hk with hk | hk
    ·exact absurd hk (hn _ h0).1
    ·exact absurd hk hf
  subst key;exact ⟨c,by simp [Z28]⟩
 kind:=hk
 ncell:=λy hy=>(hn y hy).1
 names:=hl
theorem A4y {X:Cx} {N0:List Str} {x:Str} {scope:Scope} {j:Nat} (hN:X.N[j]? =some x) (h1:X.env.scope.names.lookup x=some .cell\/X.env.scope.names.lookup x=some .free)
  (h2:(relabel scope X.env).names.lookup x=some .cell\/(relabel scope X.env).names.lookup x=some .free):B9l X (N0++[x]) scope (List.replicate N0.length none++[some j]):=by
 refine ⟨by simp,λi k e=> ?_⟩;by_cases hi:i<N0.length
 ·rw [Z26 (by simpa using hi),List.getElem?_replicate] at e;split at e <;> cases e
 ·have hi':i=N0.length:=by
   have:=(Z03.mp e).1;simp at this
   lia
  subst hi';rw [Z1l (by simp)] at e;have ek:j=k:=by simpa using e
  subst ek;exact ⟨x,by simp,hN,h1,h2⟩
theorem A1b {H H':Hp} {l:Addr} {o:HO} (s:A0z H H') (hl:H l=none):A0z H (upd H' l o):=λb u e=>by
 rw [A0g (A0i e hl)];exact s b u e
theorem A0j {H:Hp} {l:Addr} {o:HO} (hl:H l=none):A0z H (upd H l o):=A1b (A0z.refl H) hl
theorem A1c {n:Nat} (h:n<=1000000):n<=sizeLine:=by rw [sizeLine_eq];lia
theorem A1n {n:Nat} (h:n<=1000000):n<sizeLine:=by rw [sizeLine_eq];lia
theorem Paired.snoc {α β:Type} {F:α->β->Prop} {a:α} {b:β} (h:F a b):∀{xs:List α} {ys:List β},Paired F xs ys->Paired F (xs++[a]) (ys++[b])
 | _,_,.nil=> .cons h .nil
 | _,_,.cons r t=> .cons r (Paired.snoc h t)
section
variable {G:Hp} {v:V} {vs:List V} {d:PyData} {ds:List PyData}
end
theorem lk0 {k:Str} {v:V} {r:List (Str×V)}:List.lookup k ((k,v)::r)=some v:=by simp [Z28]
theorem lk1 {k j:Str} {v:V} {r:List (Str×V)} {o:Option V} (h:(k == j)=false) (e:List.lookup k r=o):List.lookup k ((j,v)::r)=o:=by
 rw [Z28,h];exact e
theorem A4d {f:Str} {v:V}:A6b f v []=[(f,v)]:=rfl
theorem A1t {f g:Str} {v x:V} {r:List (Str×V)} (h:¬g=f):A6b f v ((g,x)::r)=(g,x)::A6b f v r:=by rw [A6b,Z0t h]
theorem A8h {c A B:Prop} [Decidable c] (hc:¬c) (h:B):if decide c=true then A else B:=by
 rw [Z1j hc];exact B6r h
theorem A6m {c A B:Prop} [Decidable c] (hc:c) (h:A):if decide c=true then A else B:=by
 rw [Z20 hc];exact C3x h
theorem A9e {c A B:Prop} [Decidable c] (h1:c->A) (h2:¬c->B):if decide c=true then A else B :=
 C5y (λh=>h1 (of_decide_eq_true h)) (λh=>h2 λhc=>h (Z20 hc))
theorem A5s {c A B:Prop} [Decidable c] (h1:¬c->A) (h2:c->B):if (!decide c)=true then A else B :=
 C5y (λh=>h1 λhc=>by rw [Z20 hc] at h;cases h) (λh=>h2 (by
  by_cases hc:c
  ·exact hc
  ·rw [Z1j hc] at h;exact absurd rfl h))
section
variable {X:Cx}
end
theorem at0 {α:Type} {v:α} {r:List α}:atI (v::r) 0=some v:=by simp [atI,ixN]
theorem C0f {α:Type} {f:α->V} {xs:List α} {i:Int} (h0:0<=i) (h1:i<xs.length):∃x,xs[i.toNat]? =some x/\atI (xs.map f) i=some (f x):=by
 obtain ⟨n,rfl⟩:=Int.eq_ofNat_of_zero_le h0;have hn:n<xs.length:=by lia
 exact ⟨xs[n],by simp [hn],A2q (by simp [hn])⟩
theorem B2a {α:Type} {f:α->V} {xs:List α} {i:Nat} {v:V} (h:(xs.map f)[i]? =some v):∃x,xs[i]? =some x/\v=f x:=by
 rw [Z1z] at h
 cases e:xs[i]? with
 | none=>rw [e] at h;cases h
 | some x=>rw [e] at h;exact ⟨x,rfl,(Z1a h).symm⟩
section
variable {K:Frag} {a D:Addr} {xs:List V} {g:TG} {te:TE} {QD:Hp->Prop} {σ₀:St} {H:Hp}
theorem B4p (Pv:Nat->List V->Hp->Prop) (h0:Pv 0 [] (upd H D (.lst []))) (hl:∀i ys H,Pv i ys H->SqT K H a xs)
  (hs:∀i x ys H,xs[i]? =some x->Pv i ys H->g x σ₀ H λσ4 H4=>A1x σ₀ σ4/\te σ4 H4 λy H5=>H5 D=some (.lst ys)/\ys.length<sizeLine/\Pv (i+1) (ys++[y]) (upd H5 D (.lst (ys++[y])))) (hd:∀ys H,Pv xs.length ys H->QD H) :
  ∃W:Nat->Nat->Hp->Prop,(∃m,W 0 m (upd H D (.lst [])))/\∀i m H2,W i m H2->
   ((Itt K a).stop i H2/\QD H2)\/((Itt K a).go i H2/\∃N:VK,(∀y H5,N y H5->∃xs,H5 D=some (.lst xs)/\xs.length<sizeLine/\∃m',m'<m/\W (i+1) m' (upd H5 D (.lst (xs++[y]))))/\
    ∀x H3,(Itt K a).yld i H2 x H3->g x σ₀ H3 λσ4 H4=>A1x σ₀ σ4/\te σ4 H4 N):=B6q (Q:=λ_ H=>QD H) Pv h0 hl hs hd
end
theorem A8p {K:Frag} {C D:Addr} (h1:isClsIn K D=true) (h2:typeIn K (.ref D)=some (.type "type")) (h3:mroIn K C (.ref D)=some true):kitOne K (.ref C) (.ref D)=some true:=by
 unfold kitOne;split
 ·rfl
 ·show (if ((clsIn K D).isSome&&typeIn K (.ref D) == some (.type "type"))=true then subIn K (.ref C) (.ref D) else none)=some true;have h1':(clsIn K D).isSome=true:=h1;rw [Z12 (by rw [h1',h2];rfl)];exact h3
theorem A3d {K:Frag} {C D:Addr} (h0:(Value.ref C == Value.ref D)=false) (h1:isClsIn K D=true) (h2:typeIn K (.ref D)=some (.type "type")) (h3:mroIn K C (.ref D)=some false):kitOne K (.ref C) (.ref D)=some false:=by
 unfold kitOne;rw [Z0t (by rw [h0];exact Z0v)];show (if ((clsIn K D).isSome&&typeIn K (.ref D) == some (.type "type"))=true then subIn K (.ref C) (.ref D) else none)=some false;have h1':(clsIn K D).isSome=true:=h1;rw [Z12 (by rw [h1',h2];rfl)];exact h3
section
variable {X:Cx}
def C0e (ix:List (Option Nat)) (wi:TI) (g:TG) (tc:TT) (te:TE):TE:=λσ H Q=>wi σ H λJ H1=>∀D,H1 D=none->∃W:Nat->Nat->Hp->Prop,(∃m,W 0 m (upd H1 D (.lst [])))/\∀i m H2,W i m H2->
 (J.stop i H2/\Q (.ref D) H2)\/(J.go i H2/\∃(N:VK) (M:Hp->Prop),(∀y H5,N y H5->∃xs,H5 D=some (.lst xs)/\xs.length<sizeLine/\∃m',m'<m/\W (i+1) m' (upd H5 D (.lst (xs++[y]))))/\(∀H5,M H5->∃m',m'<m/\W (i+1) m' H5)/\∀x H3,J.yld i H2 x H3->g x (A2w ix σ) H3 λσ4 H4=>A1x (A2w ix σ) σ4/\tc σ4 H4 λb H5=>if b=true then te σ4 H5 N else M H5)
def PTs (X:Cx) (cs:List Expr) (t:TT):Prop :=
 ∀(pins:List (Addr×Obj)) (s:Shared) (σ:St) (H:Hp) (Q:Bool->Hp->Prop),Inv X pins σ H s->t σ H Q->wpAny (model X.prog X.w) X.A (forIn cs true λc r=>if r=true then do let ok<-isTrue c X.env (eval c X.env);pure (ForInStep.yield ok) else pure (ForInStep.yield r)) (TP X pins σ Q) X.xe s
theorem B7o {elt iter tg:Expr} {cs:List Expr} {scope:Scope} {pos:Pos} {N':List Str} {ix:List (Option Nat)} {cl:List (Str×Addr)} {wi:TI} {g:TG} {tc:TT} {te:TE} (hc:X.calm=true) (ck:B8w X scope cl) (io:B9l X N' scope ix) (hi:PI X tg iter wi)
  (hg:∀C s₀ H₀ fp,PG (blk X N' scope cl C s₀ H₀ fp) tg g) (ht:∀C s₀ H₀ fp,PTs (blk X N' scope cl C s₀ H₀ fp) cs tc) (he:∀C s₀ H₀ fp,PE (blk X N' scope cl C s₀ H₀ fp) elt te) (R:VK->St->It->Hp->Prop) (hR:∀Q σ J H1,R Q σ J H1->∀D,H1 D=none->∃W:Nat->Nat->Hp->Prop,(∃m,W 0 m (upd H1 D (.lst [])))/\∀i m H2,W i m H2->
 (J.stop i H2/\Q (.ref D) H2)\/(J.go i H2/\∃(N:VK) (M:Hp->Prop),(∀y H5,N y H5->∃xs,H5 D=some (.lst xs)/\xs.length<sizeLine/\∃m',m'<m/\W (i+1) m' (upd H5 D (.lst (xs++[y]))))/\(∀H5,M H5->∃m',m'<m/\W (i+1) m' H5)/\∀x H3,J.yld i H2 x H3->g x (A2w ix σ) H3 λσ4 H4=>A1x (A2w ix σ) σ4/\tc σ4 H4 λb H5=>if b=true then te σ4 H5 N else M H5)) (hs:∀x,foldedSetIterable iter X.env x=pure x:=by intro _;rfl) :
  PE X (.ListComp elt [⟨tg,iter,cs,0⟩] scope pos) (λσ H Q=>wi σ H (R Q σ)):=by
 intro pins s σ H Q I h;rw [eval_ListComp];refine wpAny_comprehension_free (use:=none) rfl hs ck.eq ck.kind ck.names (thn (hi pins s σ H _ I h) λxv s1 h1=>thn h1 λitv s2 h2=> ?_);obtain ⟨it,fp,tn,J,H1,rfl,I1,T,st1,f1,R1⟩:=h2;refine Z16 ?_;have hD:H1 s2.heap.objs.size=none:=I1.hok.fresh (Z09 _);obtain ⟨W,⟨m0,w0⟩,turn⟩:=hR _ _ _ _ R1 _ hD;have hfD:∀b∈fp,b<s2.heap.objs.size:=λb hb=>let ⟨o,e,_⟩:=T.obj _ _ st1 b hb;Z0a e;have I2:Inv X pins σ (upd H1 s2.heap.objs.size (.lst [])) { s2 with heap:=s2.heap.push { cls:= .type "list",data:= .seq ([]:List Value).toArray },toks:=s2.toks }:=I1.lnew (its:=[]) .nil (Z1e _);have f2:∀b∈fp,B1q X pins (upd H1 s2.heap.objs.size (.lst [])) b:=λb hb=>⟨by rw [A0g (Z0h (hfD b hb))];exact (f1 b hb).1,(f1 b hb).2⟩
 have lt2:∀b∈fp,b<(s2.heap.push { cls:= .type "list",data:= .seq ([]:List Value).toArray }).objs.size:=λb hb=>by rw [Z1s];exact Nat.lt_succ_of_lt (hfD b hb)
 refine wpAny_newFunctionEnv ck.ncell (by intro y hy;simp at hy) (λh3 hns sb3=> ?_) ck.kind;dsimp only at hns sb3⊢;have k3:∀b o,(s2.heap.push { cls:= .type "list",data:= .seq ([]:List Value).toArray }).get? b=some o->h3.get? b=some o:=λb o e=>(sb3.2 b (Z0h (Z0a e))).trans (Z01 _ e);generalize hs2:({ s2 with heap:=s2.heap.push { cls:= .type "list",data:= .seq ([]:List Value).toArray },toks:=s2.toks }:Shared)=s3 at I2;have e3:s2.heap.push { cls:= .type "list",data:= .seq ([]:List Value).toArray }=s3.heap:=by rw [<-hs2]
 rw [e3] at hns k3 lt2;have I3:=B0j (N':=N') (ix:=ix) I2 ck io f2 lt2 (h':=h3) (t':=s2.toks+([]:List (Str×Value)).length) hns k3;have e4:({ s3 with heap:=h3,toks:=s2.toks+([]:List (Str×Value)).length }:Shared)={ s2 with heap:=h3,toks:=s2.toks+([]:List (Str×Value)).length }:=by rw [<-hs2]
 rw [e4] at I3;have st3:tn 0 h3:=T.keep _ _ _ st1 λb hb o e=>k3 b o (by rw [<-e3];exact Z01 _ e)
 have loop:∀s4:Shared,s4={ s2 with heap:=h3,toks:=s2.toks+([]:List (Str×Value)).length }->
   codeAny (model X.prog X.w) X.A (.compLoop (.ListComp elt [⟨tg,iter,cs,0⟩] scope pos) 0 (.ref it) (.ref s2.heap.objs.size) (compEnvC scope cl s3.heap.objs.size X.env))
    (compPost (model X.prog X.w) X.A X.xe none (EP X pins σ Q) (.ref s2.heap.objs.size) s3.heap.objs.size) s4:=by
  rintro s4 rfl
  have stat:∀{H':Hp},(∀b∈fp,H' b=none)->∀b∈fp,B1q (blk X N' scope cl s3.heap.objs.size s3 (upd H1 s2.heap.objs.size (.lst [])) fp) [] H' b:=λhn b hb =>
   ⟨hn b hb,Z0h (lt2 b hb),λhs=>I3.ok.exfs b hb hs,.inl hb,λx c e=>(f2 b hb).2.2.2.2.1 x c (ck.sub x c e),(λp hp=>by cases hp)⟩
  refine codeAny_loop rfl (λn s'=>∃i σ' H',Inv (blk X N' scope cl s3.heap.objs.size s3 (upd H1 s2.heap.objs.size (.lst [])) fp) [] σ' H' s'/\(∀(j:Nat) v,(A2w ix σ)[j]? =some (some v)->σ'[j]? =some (some v))/\tn i s'.heap/\(∀b∈fp,H' b=none)/\W i n H')
   (λn s' hI=> ?_) m0 ⟨0,_,_,I3,λ_ _ z=>z,st3,λb hb=>(f2 b hb).1,w0⟩
  obtain ⟨i,σ5,H5,I5,wk,st5,fr5,w5⟩:=hI;show wpAny _ _ ((compTurn (.ListComp elt [⟨tg,iter,cs,0⟩] scope pos) 0 (.ref it) (.ref s2.heap.objs.size) (compEnvC scope cl s3.heap.objs.size X.env)).onRaise (λx=>do noteFrame x (compEnvC scope cl s3.heap.objs.size X.env);theTreesLotGoes x)) _ _ s';refine wpAny_noted ?_;rw [compTurn_list];refine Z00 (Z1y ?_);rcases turn i n H5 w5 with ⟨stop,qn⟩ | ⟨go,NN,MM,hNN,hMM,step⟩
  ·refine Z00 (Z10 (T.done (blk X N' scope cl s3.heap.objs.size s3 (upd H1 s2.heap.objs.size (.lst [])) fp) rfl rfl rfl hc i [] s' σ5 H5 (λ_ _=>False) I5 (stat fr5) st5 stop) (λr s6 h6=> ?_) λ_ _ z=>z.elim);obtain ⟨rfl,I6⟩:=h6;refine Z04 ?_;obtain ⟨mm,hm,_⟩:=id I6.loc;exact ⟨mm,hm,λh' sb=>⟨.ref s2.heap.objs.size,H5,B5d I2 f2 I6 sb,rfl,qn⟩⟩
  ·refine Z00 (Z10 (T.item (blk X N' scope cl s3.heap.objs.size s3 (upd H1 s2.heap.objs.size (.lst [])) fp) rfl rfl rfl hc i [] s' σ5 H5 (λ_ _=>False) I5 (stat fr5) st5 go) (λr s6 h6=> ?_) λ_ _ z=>z.elim);obtain ⟨u,rfl,h6⟩:=h6;refine Z00 (Z10 h6 (λ_ s7 h7=> ?_) λ_ _ z=>z.elim);obtain ⟨x,H7,I7,r7,y7,st7,fr7⟩:=h7;have I7w:Inv (blk X N' scope cl s3.heap.objs.size s3 (upd H1 s2.heap.objs.size (.lst [])) fp) [] (A2w ix σ) H7 s7:=I7.weak (by rw [I7.len];unfold A2w;rw [Z08];exact io.1) wk;have I7p:=I7w.pinned (stat fr7) (T.obj _ _ st7);refine Z00 (Z10 (hg _ _ _ _ _ s7 _ H7 x u _ I7p r7 (step x H7 y7)) (λ_ s8 h8=> ?_) λ_ _ z=>z.elim);obtain ⟨σ8,H8,I8,kp8,q8⟩:=h8
   have back:∀{s10:Shared} {σ10:St} {H10:Hp} {m':Nat},Inv (blk X N' scope cl s3.heap.objs.size s3 (upd H1 s2.heap.objs.size (.lst [])) fp) ([]++A7u fp s7.heap) σ10 H10 s10->(∀(j:Nat) v,(A2w ix σ)[j]? =some (some v)->σ10[j]? =some (some v))->W (i+1) m' H10->
     ∃i σ' H',Inv (blk X N' scope cl s3.heap.objs.size s3 (upd H1 s2.heap.objs.size (.lst [])) fp) [] σ' H' s10/\(∀(j:Nat) v,(A2w ix σ)[j]? =some (some v)->σ'[j]? =some (some v))/\tn i s10.heap/\(∀b∈fp,H' b=none)/\W i m' H':=by
    intro s10 σ10 H10 m' I10 kk w10;refine ⟨i+1,σ10,H10,I10.unpinned,kk,T.keep _ _ _ st7 λb hb o e=>(I10.pin (b,o) (Z02 _ (Z02 _ (A2l hb e)))).1,λb hb=> ?_,w10⟩;obtain ⟨o,e,d⟩:=T.obj _ _ st7 b hb;exact (I10.pin (b,o) (Z02 _ (Z02 _ (A2l hb e)))).2.1
   refine Z00 (Z10 (ht _ _ _ _ _ s8 σ8 H8 _ I8 q8) (λok s9' h9'=> ?_) λ_ _ z=>z.elim);obtain ⟨H9',I9',q9'⟩:=h9'
   cases ok with
   | false =>
    have q9'':MM H9':=by simpa using q9'
    obtain ⟨m',hm',w9⟩:=hMM _ q9'';exact Z00 (Z04 (Z04 ⟨rfl,m',hm',back I9' kp8.get w9⟩))
   | true =>
    have q9'':te σ8 H9' NN:=by simpa using q9'
    refine Z00 (Z00 (Z10 (he _ _ _ _ _ s9' σ8 H9' _ I9' q9'') (λyv s9 h9=> ?_) λ_ _ z=>z.elim));obtain ⟨y,H9,I9,r9,n9⟩:=h9;obtain ⟨xs,hx9,hz9,m',hm',w9⟩:=hNN _ _ n9;refine Z00 (Z10 (A1e (X:=blk X N' scope cl s3.heap.objs.size s3 (upd H1 s2.heap.objs.size (.lst [])) fp) _ s9 σ8 H9 (.ref s2.heap.objs.size) [y] (.ref s2.heap.objs.size) [yv] (λ_ H'=>W (i+1) m' H') I9 rfl (.cons r9 .nil) ⟨_,xs,y,rfl,rfl,hx9,hz9,w9⟩) (λ_ s10 h10=> ?_) λ_ _ z=>z.elim);obtain ⟨_,H10,I10,_,w10⟩:=h10;exact Z04 (Z04 ⟨rfl,m',hm',back I10 kp8.get w10⟩)
 have e5:s3.heap.objs.size=(s2.heap.push { cls:= .type "list",data:= .seq ([]:List Value).toArray }).objs.size:=by rw [e3]
 rw [e5] at loop;exact codeAny_compStart_list (loop _ rfl) (T.self X.A 0 _ _ _ st3 (loop _ rfl))
theorem C0x {elt iter tg:Expr} {scope:Scope} {pos:Pos} {N':List Str} {ix:List (Option Nat)} {cl:List (Str×Addr)} {wi:TI} {g:TG} {te:TE} (hc:X.calm=true) (ck:B8w X scope cl) (io:B9l X N' scope ix) (hi:PI X tg iter wi)
  (hg:∀C s₀ H₀ fp,PG (blk X N' scope cl C s₀ H₀ fp) tg g) (he:∀C s₀ H₀ fp,PE (blk X N' scope cl C s₀ H₀ fp) elt te) (hs:∀x,foldedSetIterable iter X.env x=pure x:=by intro _;rfl) :
  PE X (.ListComp elt [⟨tg,iter,[],0⟩] scope pos) (C5c ix wi g te) :=
 B7o (tc:=λ_ H Q=>Q true H) hc ck io hi hg (λ_ _ _ _ _ _ _ _ _ I h=>wpAny_tests_nil ⟨_,I,h⟩) he _ (λ_ _ _ _ R D2 hD=>by
  obtain ⟨W,w0,turn⟩:=R D2 hD;refine ⟨W,w0,λi m H2 w=>(turn i m H2 w).imp id λ⟨go,N,hN,step⟩=>⟨go,N,λ_=>False,hN,λ_ z=>z.elim,?_⟩⟩
  simpa using step) hs
end
section
variable {K:Frag} {a D:Addr} {xs:List V} {g:TG} {tc:TT} {te:TE} {QD:Hp->Prop} {σ₀:St} {H:Hp}
theorem A7e (Pv:Nat->List V->Hp->Prop) (h0:Pv 0 [] (upd H D (.lst []))) (hl:∀i ys H,Pv i ys H->SqL K H a xs)
  (hs:∀i x ys H,xs[i]? =some x->Pv i ys H->g x σ₀ H λσ4 H4=>A1x σ₀ σ4/\tc σ4 H4 λb H5=>if b=true then te σ4 H5 (λy H5=>H5 D=some (.lst ys)/\ys.length<sizeLine/\Pv (i+1) (ys++[y]) (upd H5 D (.lst (ys++[y])))) else Pv (i+1) ys H5) (hd:∀ys H,Pv xs.length ys H->QD H) :
  ∃W:Nat->Nat->Hp->Prop,(∃m,W 0 m (upd H D (.lst [])))/\∀i m H2,W i m H2->
   ((Itl K a).stop i H2/\QD H2)\/((Itl K a).go i H2/\∃(N:VK) (M:Hp->Prop),(∀y H5,N y H5->∃xs,H5 D=some (.lst xs)/\xs.length<sizeLine/\∃m',m'<m/\W (i+1) m' (upd H5 D (.lst (xs++[y]))))/\(∀H5,M H5->∃m',m'<m/\W (i+1) m' H5)/\
    ∀x H3,(Itl K a).yld i H2 x H3->g x σ₀ H3 λσ4 H4=>A1x σ₀ σ4/\tc σ4 H4 λb H5=>if b=true then te σ4 H5 N else M H5):=by
 refine ⟨λi m H=>m=xs.length-i/\i<=xs.length/\∃ys,Pv i ys H,⟨xs.length,by simp,Z1e _,[],h0⟩,?_⟩;rintro i m H2 ⟨rfl,hi,ys,p⟩;have q:=hl i ys H2 p;by_cases hlt:i<xs.length
 ·refine .inr ⟨⟨xs,xs[i],q,by simp [hlt]⟩,λy H5=>H5 D=some (.lst ys)/\ys.length<sizeLine/\Pv (i+1) (ys++[y]) (upd H5 D (.lst (ys++[y]))),λH5=>Pv (i+1) ys H5,λy H5 n=>⟨ys,n.1,n.2.1,xs.length-(i+1),by lia,rfl,hlt,_,n.2.2⟩,λH5 n=>⟨xs.length-(i+1),by lia,rfl,hlt,_,n⟩,λx H3 z=> ?_⟩;obtain ⟨e,z⟩:=z;subst e;exact hs i x ys _ (z xs q) p
 ·have e:i=xs.length:=by lia
  subst e;exact .inl ⟨⟨xs,q,Z09 _⟩,hd ys H2 p⟩
end
section
variable {D:Addr} {g:TG} {te:TE} {QD:Hp->Prop} {σ₀:St} {H:Hp}
end
theorem B1r {X:Cx} {K:Frag} (h:X.K=K):IxR X (C5s K):=h▸A2y
theorem A9a {X:Cx} {K:Frag} (h:X.K=K):IxR X (C5r K):=h▸A7y
theorem C3b {K:Frag} {C:Addr} {U:String} {b:Bool} (h:mroIn K C (.type U)=some b) (hm:PySem.W.kitMeta U=true):∀u,A1l (.ty U) u->kitOne K (.ref C) u=some b:=by
 intro u z;cases (show u=Value.type U from z);unfold kitOne;rw [Z0t (show¬(Value.ref C == Value.type U)=true from Z0v)];show (if PySem.W.kitMeta U=true then subIn K (.ref C) (.type U) else none)=some b;rw [Z12 hm];exact h
section
variable {X:Cx}
theorem B7l {i₀:Nat} {x₀:Str} {pos₀ spos:Pos} {elt iter tg:Expr} {cs:List Expr} {scope:Scope} {pos:Pos} {N':List Str} {ix:List (Option Nat)} {cl:List (Str×Addr)} {wi:TI} {g:TG} {tc:TT} {te:TE} (hN₀:X.N.Nodup) (hi₀:X.N[i₀]? =some x₀) (hx₀:Loc X.env.scope x₀) (hc:X.calm=true) (ck:B8w X scope cl) (io:B9l X N' scope ix) (hi:PI X tg iter wi)
  (hg:∀C s₀ H₀ fp,PG (blk X N' scope cl C s₀ H₀ fp) tg g) (ht:∀C s₀ H₀ fp,PTs (blk X N' scope cl C s₀ H₀ fp) cs tc) (he:∀C s₀ H₀ fp,PE (blk X N' scope cl C s₀ H₀ fp) elt te) (R:B4w->St->It->Hp->Prop) (hR:∀D σ J H1,R D σ J H1->∀D2,H1 D2=none->∃W:Nat->Nat->Hp->Prop,(∃m,W 0 m (upd H1 D2 (.lst [])))/\∀i m H2,W i m H2->
   (J.stop i H2/\D.nx (σ.set i₀ (some (.ref D2))) H2)\/(J.go i H2/\∃(N:VK) (M:Hp->Prop),(∀y H5,N y H5->∃xs,H5 D2=some (.lst xs)/\xs.length<sizeLine/\∃m',m'<m/\W (i+1) m' (upd H5 D2 (.lst (xs++[y]))))/\(∀H5,M H5->∃m',m'<m/\W (i+1) m' H5)/\∀x H3,J.yld i H2 x H3->g x (A2w ix σ) H3 λσ4 H4=>A1x (A2w ix σ) σ4/\tc σ4 H4 λb H5=>if b=true then te σ4 H5 N else M H5)) (hs:∀x,foldedSetIterable iter X.env x=pure x:=by intro _;rfl)
  (hsw:swapsWith (.ListComp elt [⟨tg,iter,cs,0⟩] scope pos) (some (.Name x₀ pos₀)) spos.line X.env=pure true:=by rfl) (hf₀:X.fn x₀=true\/X.env.scope.names.lookup x₀=some .local:=by first | exact .inl rfl | exact .inr rfl | assumption) :
  PS X (.Assign [.Name x₀ pos₀] (.ListComp elt [⟨tg,iter,cs,0⟩] scope pos) spos) (λD σ H=>wi σ H (R D σ)):=by
 intro pins s σ H D₀ I h;rw [exec_Assign_Name_used _ _ _ _ hsw];refine Z00 (Z1y (Z00 ?_));show wpAny _ X.A (do let _<-comprehension (.ListComp elt [⟨tg,iter,cs,0⟩] scope pos) scope X.env _ (newList []) false (eval iter X.env) (some (assign (.Name x₀ pos₀) X.env))) _ _ s;refine Z00 (Z10 (wpAny_comprehension_free (use:=some (assign (.Name x₀ pos₀) X.env)) (Q:=λ_ s'=>∃σ' H',Inv X pins σ' H' s'/\D₀.nx σ' H') rfl hs ck.eq ck.kind ck.names (thn (hi pins s σ H _ I h) λxv s1 h1=>thn h1 λitv s2 h2=> ?_)) (λ_ s' hq=>Z04 (Z04 hq)) λ_ _ e=>e);obtain ⟨it,fp,tn,J,H1,rfl,I1,T,st1,f1,R1⟩:=h2;refine Z16 ?_;have hD:H1 s2.heap.objs.size=none:=I1.hok.fresh (Z09 _);obtain ⟨W,⟨m0,w0⟩,turn⟩:=hR _ _ _ _ R1 _ hD;have hfD:∀b∈fp,b<s2.heap.objs.size:=λb hb=>let ⟨o,e,_⟩:=T.obj _ _ st1 b hb;Z0a e;have I2:Inv X pins σ (upd H1 s2.heap.objs.size (.lst [])) { s2 with heap:=s2.heap.push { cls:= .type "list",data:= .seq ([]:List Value).toArray },toks:=s2.toks }:=I1.lnew (its:=[]) .nil (Z1e _);have f2:∀b∈fp,B1q X pins (upd H1 s2.heap.objs.size (.lst [])) b:=λb hb=>⟨by rw [A0g (Z0h (hfD b hb))];exact (f1 b hb).1,(f1 b hb).2⟩
 have lt2:∀b∈fp,b<(s2.heap.push { cls:= .type "list",data:= .seq ([]:List Value).toArray }).objs.size:=λb hb=>by rw [Z1s];exact Nat.lt_succ_of_lt (hfD b hb)
 refine wpAny_newFunctionEnv ck.ncell (by intro y hy;simp at hy) (λh3 hns sb3=> ?_) ck.kind;dsimp only at hns sb3⊢;have k3:∀b o,(s2.heap.push { cls:= .type "list",data:= .seq ([]:List Value).toArray }).get? b=some o->h3.get? b=some o:=λb o e=>(sb3.2 b (Z0h (Z0a e))).trans (Z01 _ e);generalize hs2:({ s2 with heap:=s2.heap.push { cls:= .type "list",data:= .seq ([]:List Value).toArray },toks:=s2.toks }:Shared)=s3 at I2;have e3:s2.heap.push { cls:= .type "list",data:= .seq ([]:List Value).toArray }=s3.heap:=by rw [<-hs2]
 rw [e3] at hns k3 lt2;have I3:=B0j (N':=N') (ix:=ix) I2 ck io f2 lt2 (h':=h3) (t':=s2.toks+([]:List (Str×Value)).length) hns k3;have e4:({ s3 with heap:=h3,toks:=s2.toks+([]:List (Str×Value)).length }:Shared)={ s2 with heap:=h3,toks:=s2.toks+([]:List (Str×Value)).length }:=by rw [<-hs2]
 rw [e4] at I3;have st3:tn 0 h3:=T.keep _ _ _ st1 λb hb o e=>k3 b o (by rw [<-e3];exact Z01 _ e)
 have loop:∀s4:Shared,s4={ s2 with heap:=h3,toks:=s2.toks+([]:List (Str×Value)).length }->
   codeAny (model X.prog X.w) X.A (.compLoop (.ListComp elt [⟨tg,iter,cs,0⟩] scope pos) 0 (.ref it) (.ref s2.heap.objs.size) (compEnvC scope cl s3.heap.objs.size X.env))
    (compPost (model X.prog X.w) X.A X.xe (some (assign (.Name x₀ pos₀) X.env)) (λ_ s'=>∃σ' H',Inv X pins σ' H' s'/\D₀.nx σ' H') (.ref s2.heap.objs.size) s3.heap.objs.size) s4:=by
  rintro s4 rfl
  have stat:∀{H':Hp},(∀b∈fp,H' b=none)->∀b∈fp,B1q (blk X N' scope cl s3.heap.objs.size s3 (upd H1 s2.heap.objs.size (.lst [])) fp) [] H' b:=λhn b hb =>
   ⟨hn b hb,Z0h (lt2 b hb),λhs=>I3.ok.exfs b hb hs,.inl hb,λx c e=>(f2 b hb).2.2.2.2.1 x c (ck.sub x c e),(λp hp=>by cases hp)⟩
  refine codeAny_loop rfl (λn s'=>∃i σ' H',Inv (blk X N' scope cl s3.heap.objs.size s3 (upd H1 s2.heap.objs.size (.lst [])) fp) [] σ' H' s'/\(∀(j:Nat) v,(A2w ix σ)[j]? =some (some v)->σ'[j]? =some (some v))/\tn i s'.heap/\(∀b∈fp,H' b=none)/\W i n H')
   (λn s' hI=> ?_) m0 ⟨0,_,_,I3,λ_ _ z=>z,st3,λb hb=>(f2 b hb).1,w0⟩
  obtain ⟨i,σ5,H5,I5,wk,st5,fr5,w5⟩:=hI;show wpAny _ _ ((compTurn (.ListComp elt [⟨tg,iter,cs,0⟩] scope pos) 0 (.ref it) (.ref s2.heap.objs.size) (compEnvC scope cl s3.heap.objs.size X.env)).onRaise (λx=>do noteFrame x (compEnvC scope cl s3.heap.objs.size X.env);theTreesLotGoes x)) _ _ s';refine wpAny_noted ?_;rw [compTurn_list];refine Z00 (Z1y ?_);rcases turn i n H5 w5 with ⟨stop,qn⟩ | ⟨go,NN,MM,hNN,hMM,step⟩
  ·refine Z00 (Z10 (T.done (blk X N' scope cl s3.heap.objs.size s3 (upd H1 s2.heap.objs.size (.lst [])) fp) rfl rfl rfl hc i [] s' σ5 H5 (λ_ _=>False) I5 (stat fr5) st5 stop) (λr s6 h6=> ?_) λ_ _ z=>z.elim);obtain ⟨rfl,I6⟩:=h6;refine Z04 ?_;obtain ⟨mm,hm,_⟩:=id I6.loc;have fC:B1q X pins H5 s3.heap.objs.size:=I2.fpOk (Z09 _) I6.free;have Io:Inv X pins σ H5 s6:=B5d I2 f2 I6 (Heap.SameBut.refl _ _);show wpAny _ X.A (assign (.Name x₀ pos₀) X.env (.ref s2.heap.objs.size)) _ _ s6;refine wpAny_assign_Name (A9g Io hN₀ hi₀ hx₀ (v:= .ref s2.heap.objs.size) rfl (λs7 I7 sb7=> ?_) hf₀);obtain ⟨a,sb,ha⟩:=sb7
   have ca:s3.heap.objs.size≠a:=by
    rcases ha with ha | ha
    ·rw [ha];exact fC.2.1
    ·exact λz=>fC.2.2.2.2.1 _ _ ha z.symm
   obtain ⟨oC,es,ep,ho,r⟩:=hm;exact ⟨mm,⟨oC,es,ep,(sb.2 _ ca).trans ho,r⟩,λh' sb'=>⟨_,H5,I7.turned (t':=s7.toks) (λb o hb e=>(sb'.2 b hb).trans e) fC.1 fC.2.1 fC.2.2.2.1 fC.2.2.2.2.1 fC.2.2.2.2.2,qn⟩⟩
  ·refine Z00 (Z10 (T.item (blk X N' scope cl s3.heap.objs.size s3 (upd H1 s2.heap.objs.size (.lst [])) fp) rfl rfl rfl hc i [] s' σ5 H5 (λ_ _=>False) I5 (stat fr5) st5 go) (λr s6 h6=> ?_) λ_ _ z=>z.elim);obtain ⟨u,rfl,h6⟩:=h6;refine Z00 (Z10 h6 (λ_ s7 h7=> ?_) λ_ _ z=>z.elim);obtain ⟨x,H7,I7,r7,y7,st7,fr7⟩:=h7;have I7w:Inv (blk X N' scope cl s3.heap.objs.size s3 (upd H1 s2.heap.objs.size (.lst [])) fp) [] (A2w ix σ) H7 s7:=I7.weak (by rw [I7.len];unfold A2w;rw [Z08];exact io.1) wk;have I7p:=I7w.pinned (stat fr7) (T.obj _ _ st7);refine Z00 (Z10 (hg _ _ _ _ _ s7 _ H7 x u _ I7p r7 (step x H7 y7)) (λ_ s8 h8=> ?_) λ_ _ z=>z.elim);obtain ⟨σ8,H8,I8,kp8,q8⟩:=h8
   have back:∀{s10:Shared} {σ10:St} {H10:Hp} {m':Nat},Inv (blk X N' scope cl s3.heap.objs.size s3 (upd H1 s2.heap.objs.size (.lst [])) fp) ([]++A7u fp s7.heap) σ10 H10 s10->(∀(j:Nat) v,(A2w ix σ)[j]? =some (some v)->σ10[j]? =some (some v))->W (i+1) m' H10->
     ∃i σ' H',Inv (blk X N' scope cl s3.heap.objs.size s3 (upd H1 s2.heap.objs.size (.lst [])) fp) [] σ' H' s10/\(∀(j:Nat) v,(A2w ix σ)[j]? =some (some v)->σ'[j]? =some (some v))/\tn i s10.heap/\(∀b∈fp,H' b=none)/\W i m' H':=by
    intro s10 σ10 H10 m' I10 kk w10;refine ⟨i+1,σ10,H10,I10.unpinned,kk,T.keep _ _ _ st7 λb hb o e=>(I10.pin (b,o) (Z02 _ (Z02 _ (A2l hb e)))).1,λb hb=> ?_,w10⟩;obtain ⟨o,e,d⟩:=T.obj _ _ st7 b hb;exact (I10.pin (b,o) (Z02 _ (Z02 _ (A2l hb e)))).2.1
   refine Z00 (Z10 (ht _ _ _ _ _ s8 σ8 H8 _ I8 q8) (λok s9' h9'=> ?_) λ_ _ z=>z.elim);obtain ⟨H9',I9',q9'⟩:=h9'
   cases ok with
   | false =>
    have q9'':MM H9':=by simpa using q9'
    obtain ⟨m',hm',w9⟩:=hMM _ q9'';exact Z00 (Z04 (Z04 ⟨rfl,m',hm',back I9' kp8.get w9⟩))
   | true =>
    have q9'':te σ8 H9' NN:=by simpa using q9'
    refine Z00 (Z00 (Z10 (he _ _ _ _ _ s9' σ8 H9' _ I9' q9'') (λyv s9 h9=> ?_) λ_ _ z=>z.elim));obtain ⟨y,H9,I9,r9,n9⟩:=h9;obtain ⟨xs,hx9,hz9,m',hm',w9⟩:=hNN _ _ n9;refine Z00 (Z10 (A1e (X:=blk X N' scope cl s3.heap.objs.size s3 (upd H1 s2.heap.objs.size (.lst [])) fp) _ s9 σ8 H9 (.ref s2.heap.objs.size) [y] (.ref s2.heap.objs.size) [yv] (λ_ H'=>W (i+1) m' H') I9 rfl (.cons r9 .nil) ⟨_,xs,y,rfl,rfl,hx9,hz9,w9⟩) (λ_ s10 h10=> ?_) λ_ _ z=>z.elim);obtain ⟨_,H10,I10,_,w10⟩:=h10;exact Z04 (Z04 ⟨rfl,m',hm',back I10 kp8.get w10⟩)
 have e5:s3.heap.objs.size=(s2.heap.push { cls:= .type "list",data:= .seq ([]:List Value).toArray }).objs.size:=by rw [e3]
 rw [e5] at loop;exact codeAny_compStart_list (loop _ rfl) (T.self X.A 0 _ _ _ st3 (loop _ rfl))
theorem A5d {i₀:Nat} {x₀:Str} {pos₀ spos:Pos} {elt iter tg c:Expr} {scope:Scope} {pos:Pos} {N':List Str} {ix:List (Option Nat)} {cl:List (Str×Addr)} {wi:TI} {g:TG} {tc:TT} {te:TE} (hN₀:X.N.Nodup) (hi₀:X.N[i₀]? =some x₀) (hx₀:Loc X.env.scope x₀) (hc:X.calm=true) (ck:B8w X scope cl) (io:B9l X N' scope ix) (hi:PI X tg iter wi)
  (hg:∀C s₀ H₀ fp,PG (blk X N' scope cl C s₀ H₀ fp) tg g) (ht:∀C s₀ H₀ fp,PT (blk X N' scope cl C s₀ H₀ fp) c tc) (he:∀C s₀ H₀ fp,PE (blk X N' scope cl C s₀ H₀ fp) elt te) (hs:∀x,foldedSetIterable iter X.env x=pure x:=by intro _;rfl)
  (hsw:swapsWith (.ListComp elt [⟨tg,iter,[c],0⟩] scope pos) (some (.Name x₀ pos₀)) spos.line X.env=pure true:=by rfl) (hf₀:X.fn x₀=true\/X.env.scope.names.lookup x₀=some .local:=by first | exact .inl rfl | exact .inr rfl | assumption) :
  PS X (.Assign [.Name x₀ pos₀] (.ListComp elt [⟨tg,iter,[c],0⟩] scope pos) spos) (C4j (C0e ix wi g tc te) (B4h i₀)) :=
 B7l hN₀ hi₀ hx₀ hc ck io hi hg (λC s₀ H₀ fp pins s σ H Q I h=>wpAny_tests_one (ht C s₀ H₀ fp pins s σ H Q I h)) he _ (λ_ _ _ _ R=>R) hs hsw hf₀
end
theorem A2a.at18 {P:Program} {w:World} {H:Hp} {h:Heap} {a:Addr} {o:HO} (x:A2a P w H h a o):∃u,h.get? a=some u:=by
 cases o with
 | lst xs=>obtain ⟨_,_,_,_,e⟩:=x;exact ⟨_,e⟩
 | tup xs=>obtain ⟨_,_,_,o,e,_⟩:=x;exact ⟨_,e⟩
 | dK kvs=>obtain ⟨_,_,_,_,o,_,_,e,_⟩:=x;exact ⟨_,e⟩
 | dT kvs=>obtain ⟨_,_,_,_,o,_,_,e,_⟩:=x;exact ⟨_,e⟩
 | set S n=>obtain ⟨o,_,_,_,e,_⟩:=x;exact ⟨_,e⟩
 | ins C dx fs=>obtain ⟨_,_,_,e,_⟩:=x;exact ⟨_,e⟩
 | own y=>obtain ⟨_,e⟩:=x;exact ⟨_,e⟩
 | xd fs=>obtain ⟨_,⟨_,_,_,e,_⟩,_⟩:=x;exact ⟨_,e⟩
 | rng lo hi=>obtain ⟨_,_,_,e⟩:=x;exact ⟨_,e⟩
 | frz ob u=>obtain ⟨e,_⟩:=x;exact ⟨_,e⟩
 | tbl ps=>exact ⟨_,(show h.get? a=some _ from x)⟩
 | met f y=>exact ⟨_,(show h.get? a=some _ from x)⟩
 | ext φ=>obtain ⟨_,⟨_,e⟩,_⟩:=x;exact ⟨_,e⟩
section
variable {X:Cx} {pins:List (Addr×Obj)} {σ:St} {H1 H':Hp} {s1:Shared} {B h1 h':Heap}
theorem B8p (I:Inv X pins σ H1 s1) (hx:X.ex=[]) (u:Un (frs X.stack) [] H1 H' s1.heap h1) (hb1:∀b o,s1.heap.get? b=some o->b∉frs X.stack->∃o',B.get? b=some o') (hst:B.StaysIn h1) (hst':B.StaysIn h') (up:h1.UpToSlots h') :
  Un X.fs [] X.H₀ H' X.s₀.heap h'/\∀b o,X.s₀.heap.get? b=some o->b∉X.fs->∃o',B.get? b=some o':=by
 have a:Un X.fs [] X.H₀ H1 X.s₀.heap s1.heap:=by
  have z:=I.base;rw [hx] at z;exact z
 have no:∀b:Addr,b∉([]:List Addr):=λb=>by simp
 have nst:∀b o,X.s₀.heap.get? b=some o->b∉X.fs->b∉frs X.stack:=λb o e hb m =>
  (Z0e.mp (I.stkSub b m)).elim (Z0h (Z0q (Z0a e) I.ok.above)) hb
 have B1:∀b o,X.s₀.heap.get? b=some o->b∉X.fs->∃o',B.get? b=some o':=λb o e hb=>by
  obtain ⟨o1,e1⟩:=a.there b o e (no b);exact hb1 b o1 e1 (nst b o e hb)
 have slot:∀b o,X.s₀.heap.get? b=some o->X.H₀ b=none->b∈X.fs->∃sl,h'.get? b=some { o with slots:=sl }:=λb o e n hb=>by
  obtain ⟨sl,e1⟩:=a.slot b o e n hb (no b);obtain ⟨sl2,e2⟩:=u.any e1 (a.free b o e n (no b)) (no b);obtain ⟨_,of,ho,hd⟩:=I.ok.funs.mem hb;rw [e] at ho;cases ho;obtain ⟨sl3,e3⟩:=up b _ e2 hd;exact ⟨sl3,e3⟩
 refine ⟨⟨λb o e n hb _=> ?_,λb o e n hb _=>slot b o e n hb,λb o e n _=> ?_,λb o e _=> ?_,λb xs e=>u.tups b xs (a.tups b xs e),λb o v e=>u.frzs b o v (a.frzs b o v e),λb ps e=> ?_⟩,B1⟩
 ·have e2:=u.keep b o (a.keep b o e n hb (no b)) (a.free b o e n (no b)) (nst b o e hb) (no b);obtain ⟨o',eB⟩:=B1 b o e hb;have e3:=hst b o' eB;rw [e2] at e3;cases e3;exact hst' b o eB
 ·obtain ⟨o1,e1⟩:=a.there b o e (no b);exact u.free b o1 e1 (a.free b o e n (no b)) (no b)
 ·by_cases hb:b∈X.fs
  ·obtain ⟨sl,q⟩:=slot b o e (I.ok.frf b hb) hb;exact ⟨_,q⟩
  ·obtain ⟨o',eB⟩:=B1 b o e hb;exact ⟨o',hst' b o' eB⟩
 ·obtain ⟨m1,e1⟩:=a.tbls b ps e;obtain ⟨m2,e2⟩:=u.tbls b _ e1;exact ⟨m1++m2,by rw [e2,Array.append_assoc]⟩
theorem B5i {P:Program} {w:World} (ok:HOk P w H' h1) (b2:∀b o,H' b=some o->∃o',B.get? b=some o') (hst:B.StaysIn h1) (hst':B.StaysIn h'):HOk P w H' h':=λa o e =>
 (ok a o e).stay (λb u hb q=>by
  have:∃o',B.get? b=some o':=by
   rcases hb with rfl | hb
   ·exact b2 _ _ e
   ·exact b2 _ _ hb
  obtain ⟨o',eB⟩:=this;have z:=hst b o' eB;rw [q] at z;cases z
  exact hst' b u eB) (λ_ q=>q) λ_ _ q=>q
end
section
variable {P:Program} {w:World} {K:Frag} {mg:Str->Option Value} {base:Heap} {N:List Str} {qual:Str} {scope:Scope} {f:Addr} {cd:Value} {A:Around} {outer:List Env} {s:Shared} {H:Hp} {E:XK}
def B8x (X:Cx) (C:Addr) (E:XK):Prop:=∀(pins:List (Addr×Obj)) (σ:St) (H:Hp) (s:Shared) (h':Heap) (e:Addr) (vs:List Value),Inv X pins σ H s->Heap.MadeExcOf s.heap h' e (.ref C) vs->E (.ref C) none H->X.xe (.ref e) { s with heap:=h' }
end
theorem C0t {K:Frag} {h:Heap} {C:Addr} {bmB:List Value} {newId:String} (X:K.In h) (q:excIn K C bmB newId=true) :
  ∃(nm qn:Str) (N:Addr) (bs bm:List Value) (hdct:Bool) (sn:List Str) (sub:List Value) (ab:Bool) (col:Option Bool) (dd:Option Addr) (k0 k1 k2 k3 k5:Option Value) (mN:Str->Option Value),
   h.get? C=some (excClassObj nm qn C N bs bm hdct sn sub ab col dd k0 k1 k2 k3 k5 newId)/\h.Ns N mN/\mN "__init__"=none/\OwnTail h bmB bm:=by
 cases lk:K.lookup C with
 | none=>simp [excIn,lk] at q
 | some ob =>
  have there:=X _ _ lk;unfold excIn at q;rw [lk] at q;split at q
  case h_2=>cases q
  case h_1 dct cls parts same =>
   injection same with same;subst same;split at q
   case h_2=>cases q
   case h_1 own tl p0 p1 p2 p3 made p5 along row =>
    repeat rw [Z1x] at q
    have w1:own=C:=beq_iff_eq.mp q.1.1.1.1.1;have w2:made=newId:=beq_iff_eq.mp q.1.1.1.1.2;have w3:cls.hasDel=false:=by simpa using q.1.1.1.2
    have w4:=beq_iff_eq.mp q.2;subst w1 w2;have sl:parts= #[p0,p1,p2,p3,some (.builtin made),p5]:=Array.toList_inj.mp row;rw [sl] at there;cases cls;dsimp only at along w3 w4 q;rw [along,w3] at there;exact ⟨_,_,_,_,tl,_,_,_,_,_,dct,p0,p1,p2,p3,p5,_,there,Heap.Ns.of_isNs (PySem.W.isNs_of_in X q.1.2),PySem.W.nsMap_none_of_in X q.1.2 w4,PySem.W.tail_of_in X q.1.1.2⟩
abbrev C1g:List Value:=[.type "ValueError",.type "Exception",.type "BaseException",.type "object"]
def C1t (C:Addr) (E:XK) (t:TA):TS:=λ_ σ H=>t σ H λvs H1=>vs.length<=sizeLine/\E (.ref C) none H1
theorem A6g {X:Cx} {C:Addr} {E:XK} {x:Str} {np cpos pos:Pos} {e:Expr} {es:List Expr} {t:TA} (hT:B8x X C E) (q:excIn X.K C C1g "ValueError.__new__"=true) (hg:Gl X x) (hm:X.mg x=some (.ref C)) (hc:X.calm=true)
  (ha:PA X (e::es) t) (hdb:(x == ("__debug__":Str))=false:=by decide) (he:starEach (e::es) X.env=(false,eval e X.env)::starEach es X.env:=by rfl) (hpl:(backTo cpos (starEach es X.env)).any (·.1)=false:=by rfl) :
  PS X (.Raise (some (.Call (.Name x np) (e::es) [] cpos)) none pos) (C1t C E t):=by
 intro pins s σ H D I h;obtain ⟨nm,qn,N,bs,bm,hdct,sn,sub,ab,col,dd,k0,k1,k2,k3,k5,mN,hC,hN,hni,T⟩:=C0t I.mod.kin q;have kb:∀{s2:Shared} {σ2:St} {H2:Hp},Inv X pins σ2 H2 s2->∀b o,X.base.get? b=some o->s2.heap.get? b=some o:=λI2=>I2.bk
 have hpl':(backTo cpos (starEach (e::es) X.env)).any (·.1)=false:=by
  rw [he];exact hpl
 refine wpAny_Raise_call_subU (C:=C) (nm:=nm) (q:=qn) (N:=N) (bs:=bs) (bm:=bm) (hdct:=hdct) (sn:=sn) (sub:=sub) (ab:=ab) (col:=col) (dd:=dd) (k0:=k0) (k1:=k1) (k2:=k2) (k3:=k3) (k5:=k5) (mN:=mN) (bmB:=C1g)
  PySem.F.excBase_ValueError (by decide +kernel) PySem.F.excBase_ValueError (T.hasType (by decide +kernel)) (I.ok.hd hc) hpl' hni ?_
 refine A2x I hg hm ⟨rfl,?_⟩ hdb
 have hA:=thn (ha cpos pins s σ H _ I h) (Q':=λus s2=>us.length<=sizeLine/\s2.heap.get? C=some (excClassObj nm qn C N bs bm hdct sn sub ab col dd k0 k1 k2 k3 k5 "ValueError.__new__")/\s2.heap.Ns N mN/\OwnTail s2.heap C1g bm/\
    ∀h' e,Heap.MadeExcOf s2.heap h' e (.ref C) us->X.xe (.ref e) { s2 with heap:=h' }) λus s2 ⟨vs,H2,I2,r,hl,hE⟩ =>
  ⟨r.length▸hl,kb I2 _ _ hC,hN.keeps (kb I2),T.keeps (kb I2),λh' e hx=>hT pins σ H2 s2 h' e us I2 hx hE⟩
 rw [he] at hA⊢;exact Calls.evalArgs_plain (thn hA (by rintro us s2 ⟨a,b,c,d,k⟩;exact ⟨rfl,a,b,c,d,k⟩))
abbrev Cx.held (X:Cx) (ea:Addr):Cx:={ X with A:=X.A.mark (some (.ref ea)),calm:=false,xe:=λ_ _=>False }
theorem Cx.Ok.held {X:Cx} (ok:X.Ok) (ea:Addr):(X.held ea).Ok :=
 ⟨ok.mod,ok.kind,ok.glob,ok.blt,ok.above,ok.inj,ok.has,ok.cab,λz=>(by cases z),ok.frames,ok.stk,ok.exf,ok.bs,ok.bsz,ok.noex,ok.exfs,ok.funs,ok.frf⟩
section
variable {X:Cx} {pins:List (Addr×Obj)} {σ:St} {H H1:Hp} {s s1:Shared} {ea C:Addr} {a0:Value} {B:Heap}
theorem Inv.held (I:Inv X pins σ H s) (ea:Addr):Inv (X.held ea) pins σ H s:=⟨I.ok.held ea,I.os,I.bare,I.base,I.loc,I.cell,I.free,I.freeC,I.pin,I.hok,I.len⟩
theorem Inv.unheld (I:Inv (X.held ea) pins σ H s) (ok:X.Ok):Inv X pins σ H s:=⟨ok,I.os,I.bare,I.base,I.loc,I.cell,I.free,I.freeC,I.pin,I.hok,I.len⟩
theorem A5a {M:Model} {A:Around} {E:Value->Shared->Prop} {i:Nat} {x:Str} {pos:Pos} {Q:Unit->Shared->Prop} (I:Inv X pins σ H s) (hN:X.N.Nodup) (hi:X.N[i]? =some x) (hx:X.env.scope.names.lookup x=some .local)
  (h:∀s',Inv X pins (σ.set i none) H s'->Q () s'):wpAny M A (do bindName X.env x .none;unbindBehindTheSuite X.env x pos) Q E s:=by
 refine Z00 (wpAny_bindName (A6e (v:= .non) (u:= .none) I hN hi (.inl hx) rfl (λs1 I1=> ?_) (.inr hx)));unfold unbindBehindTheSuite;refine wpAny_onRaise ?_;obtain ⟨m,hn,hl⟩:=id I1.loc;have hcls:(X.env.scope.kind == .class||(X.env.scope.kind == .module&&X.env.locals != X.env.globals))=false:=by rw [I1.ok.kind];rfl
 have hiσ:i<σ.length:=by rw [I.len];exact (Z03.mp hi).1
 have cne:=I1.cne;have hk:X.env.kindOf x=some .local:=hx;obtain ⟨u,ru,hu⟩:=hl i x .non hi (Z23 hiσ) (.inl hx)
 have hm:m x=some u:=by
  rcases hu with ⟨_,e⟩ | ⟨k,_⟩
  ·exact e
  ·rw [hk] at k;rcases k with k | k <;> cases k
 refine wpAny_unbindName_local hk hn hm hcls λh' v hn' hs=> ?_;obtain ⟨oL,_,_,hoL,_⟩:=id hn;refine h _ ⟨I1.ok,I1.os,I1.bare,⟨λb o e n hb hx=> ?_,λb o e n hb hx=> ?_,I1.base.free,λb o e hx=> ?_,I1.base.tups,I1.base.frzs,I1.base.tbls⟩,⟨_,hn',λj y v' e1 e2 e3=> ?_⟩,λy c e=> ?_,I1.free,I1.freeC,λp hp=> ?_,λb ob e=> ?_,by simpa using I.len⟩
 ·exact (hs.2 b (Z0h (Z0q (Z0a e) I1.ok.above))).trans (I1.base.keep b o e n hb hx)
 ·obtain ⟨sl,e1⟩:=I1.base.slot b o e n hb hx;exact ⟨sl,(hs.2 b (Z0h (Z0q (Z0a e) I1.ok.above))).trans e1⟩
 ·obtain ⟨o',e1⟩:=I1.base.there b o e hx;exact ⟨o',(hs.2 b (Z0h (Z0q (Z0a e) I1.ok.above))).trans e1⟩
 ·by_cases hj:j=i
  ·subst hj;rw [Z23 hiσ] at e2;cases e2
  ·rw [Z2a (Ne.symm hj)] at e2;obtain ⟨u',r',q⟩:=hl j y v' e1 (by rw [Z2a (Ne.symm hj)];exact e2) e3;refine ⟨u',r',?_⟩;rcases q with ⟨k,e⟩ | ⟨k,c,e,z⟩
   ·refine .inl ⟨k,?_⟩;have:y≠x:=λe=>hj (A8o hN e1 (e▸hi));simp [this,e]
   ·exact .inr ⟨k,c,e,z.sameBut hs (cne y c e)⟩
 ·obtain ⟨w',z⟩:=I1.cell y c e;exact ⟨w',z.sameBut hs (cne y c e)⟩
 ·obtain ⟨e,n,ne,nf,d⟩:=I1.pin p hp;exact ⟨(hs.2 p.1 ne).trans e,n,ne,nf,d⟩
 ·refine (I1.hok b ob e).stay (λc w' hc q=>(hs.2 c ?_).trans q) (λ_ q=>q) λ_ _ q=>q;rintro rfl;rcases hc with rfl | hc
  ·rw [I1.free] at e;cases e
  ·rw [I1.free] at hc;cases hc
def xcF (ea C:Addr):Heap->Prop:=λh=>∃o vs,h.get? ea=some o/\o.cls= .ref C/\o.data= .fields vs
structure B5s (X:Cx) (pins:List (Addr×Obj)) (σ:St) (H1:Hp) (s1:Shared) (H:Hp) (B:Heap) (ea C:Addr) (a0:Value) (s:Shared):Prop where
 i1:Inv X pins σ H1 s1
 os:s.os=s1.os
 bare:AllBare s.gens
 un:Un (frs X.stack) [] H1 H s1.heap s.heap
 hok:HOk X.prog X.w H s.heap
 b1:∀b o,s1.heap.get? b=some o->b∉frs X.stack->∃o',B.get? b=some o'
 b2:∀b o,H b=some o->∃o',B.get? b=some o'
 fl:Heap.FlyingW B X.stack ea (.ref C) a0 s.heap
theorem B5s.new (F:B5s X pins σ H1 s1 H B ea C a0 s):s1.heap.get? ea=none:=by
 cases q:s1.heap.get? ea with
 | none=>rfl
 | some o =>
  by_cases hb:ea∈frs X.stack
  ·obtain ⟨sl,e1⟩:=F.un.slot ea o q (F.i1.stkFree ea hb) hb (by simp);obtain ⟨_,of,ho,hd⟩:=F.i1.stack.mem hb;rw [q] at ho;cases ho;obtain ⟨oe,vs,e2,_,e3,_⟩:=F.fl.first;rw [e1] at e2;cases e2;exact absurd e3 (hd vs)
  ·obtain ⟨o',eB⟩:=F.b1 ea o q hb;rw [F.fl.2.1] at eB;cases eB
theorem B5s.no (F:B5s X pins σ H1 s1 H B ea C a0 s):H ea=none:=by
 cases q:H ea with
 | none=>rfl
 | some o =>
  obtain ⟨o',eB⟩:=F.b2 ea o q;rw [F.fl.2.1] at eB;cases eB
end
section
variable {X:Cx} {C C':Addr} {y n:Str} {yp hpos:Pos} {b₀:Stmt} {suite:List Stmt} {rest:List ExceptHandler} {th:Addr->TS} {i:Nat}
theorem B5t {M:Model} {K:Frag} {h:Heap} {ea:Addr} {c:Value} {b:Bool} (X:K.In h) (hx:xcF ea C h) (e:exmOne K (.ref C) c=some b):PySem.W.Looks M h (excMatches (.ref ea) c) b:=by
 obtain ⟨o,vs,ho,hc,_⟩:=hx
 have LT:PySem.W.Looks M h (typeOf (.ref ea)) (.ref C):=by
  have z:PySem.W.Looks M h (typeOf (.ref ea)) o.cls:=(PySem.W.Looks.ld ho).andThen .now;rw [hc] at z;exact z
 exact PySem.W.exm_one X LT e
end
abbrev TX:=St->Hp->VK->XK->Prop
def C2u (sp:Sp) (t:TA):TX:=λσ H Q E=>t σ H λvs H1=>sp vs H1 Q E
section
variable {X:Cx} {k:Nat} {f:Addr} {fd:FuncData} {ps:List Str} {sp:Sp} {x:Str} {p pos:Pos} {e:Expr} {es:List Expr} {t:TA}
end
section
variable {X:Cx} {hs:List ExceptHandler} {h₀:ExceptHandler} {e:Expr} {tx:TX} {pos epos npos:Pos} {i:Nat} {n:Str}
end
section
variable {P:Program} {w:World} {K:Frag} {mg:Str->Option Value} {base:Heap}
end
theorem B2c {X:Cx} {x:Str} {v:V} {pos:Pos} (h:∃u,X.mg x=some u/\A1l v u) (hg:Gl X x) (hd:(x == ("__debug__":Str))=false:=by decide):PE X (.Name x pos) (tC v):=by
 obtain ⟨u,hm,r⟩:=h;exact λ_ _ _ H _ I q=>A2x I hg hm ⟨v,H,I,r,q⟩ hd
theorem A5c {K:Frag} {C D:Addr} {b:Bool} (hb:mroIn K D (.type "BaseException")=some true) (h1:isClsIn K D=true) (h2:typeIn K (.ref D)=some (.type "type")) (h3:mroIn K C (.ref D)=some b) :
  exmOne K (.ref C) (.ref D)=some b:=by
 unfold exmOne;have e:subIn K (.ref D) (.type "BaseException")=some true:=hb;have h1':(clsIn K D).isSome=true:=h1;rw [Z12 (by rw [e];rfl)];show (if ((clsIn K D).isSome&&typeIn K (.ref D) == some (.type "type"))=true then subIn K (.ref C) (.ref D) else none)=some b;rw [Z12 (by rw [h1',h2];rfl)];exact h3
end L2
namespace PySem.W
open PySem PySem.Spec PySem.Calls PyProof.Rows PySem.Builtin.ObjectAttr
structure XcIn (K:Frag) (C:Addr):Prop where
 ga:findIn K (.ref C) "__getattribute__"=some (some (.builtin "BaseException.__getattribute__"))
 gt:findIn K (.ref C) "__getattr__"=some none
 mB:mroIn K C (.type "BaseException")=some true
 mO:mroIn K C (.type "object")=some true
 cl:findIn K (.ref C) "__class__"=some (some (.builtin "object.__class__"))
 sp:specialIn K (.builtin "object.__class__") "__get__"=some (some (.builtin "getset_descriptor.__get__"))
 tk:takesIn K (.builtin "object.__class__")=some true
def KitE (a C:Addr) (h:Heap):Prop:=∃o,h.get? a=some o/\o.cls= .ref C
section
variable {prog:Program} {w:World} {A:Around} {E:Value->Shared->Prop} {h:Heap} {g:Array GenState} {d:Drawn} {t:Nat} {os:OsState} {a C:Addr} {o:Obj} {K:Frag} {name:Str}
theorem XcIn.cls (c:XcIn K C):∃cd,clsIn K C=some cd:=by
 obtain ⟨cd,h,_⟩:=Option.bind_eq_some_iff.mp c.mB;exact ⟨cd,h⟩
theorem KitE.type {M:Model} (p:KitE a C h):Looks M h (typeOf (.ref a)) (.ref C):=by
 obtain ⟨o,ho,hc⟩:=p;have z:Looks M h (typeOf (.ref a)) o.cls:=(Looks.ld ho).andThen .now
 rwa [hc] at z
theorem B7x {M:Model} {nv:Value} {Q:Unit->Shared->Prop} (X:K.In h) (c:XcIn K C) (ho:h.get? a=some o) (ok:o.cls= .ref C) (hq:Q () ⟨h,g,d,t,os⟩) :
  wpAny M A (checkBuiltinCall "BaseException.__getattribute__" ⟨[.ref a,nv],[]⟩) Q E ⟨h,g,d,t,os⟩:=by
 have sub:=looks_mroIn (M:=M) X c.mB;have ar:=F.args_bexc_ga (.ref a) nv;simp only [checkBuiltinCall,(by decide +kernel:builtinKind "BaseException.__getattribute__"=some .slot),(by decide +kernel:splitId "BaseException.__getattribute__"=some ("BaseException","__getattribute__"))];refine Z00 ?_;unfold isInstance
 repeat (first | (with_reducible refine Z1k ho ?_;rw [ok]) | (with_reducible refine sub.at ?_) | wp_step)
 exact hq
theorem C0y {M:Model} (X:K.In h) (c:XcIn K C):Looks M h (find (.ref a) (.ref C) "__class__") (.bind (.builtin "getset_descriptor.__get__") (.builtin "object.__class__")) :=
 (looks_findIn X c.cl).andThen ((show Looks M h (getOf (some (.builtin "object.__class__"))) (some (.builtin "getset_descriptor.__get__")) from looks_specialIn X c.sp).andThen
  ((show Looks M h (dataDescriptor? (some (.builtin "object.__class__")) (some (.builtin "getset_descriptor.__get__"))) (some (.builtin "getset_descriptor.__get__",.builtin "object.__class__")) from (looks_takesIn X c.tk).andThen .now).andThen (Looks.tag .now)))
theorem C2s {R:Result->Shared->Prop} (X:K.In h) (c:XcIn K C) (ho:h.get? a=some o) (ok:o.cls= .ref C) (hq:R (.ok (.ret (.ref C))) ⟨h,g,d,t,os⟩) :
  codeAny (model prog w) A (.call (.builtin "getset_descriptor.__get__") ⟨[.builtin "object.__class__",.ref a,.ref C],[]⟩) R ⟨h,g,d,t,os⟩:=by
 have ty:(⟨h,g,d,t,os⟩:Shared).TypeIs (.builtin "object.__class__") "getset_descriptor":=F.typeOf_object_class
 have sub:Looks (model prog w) h (isSubtype (.ref C) (.type (".".intercalate ("object.__class__".cutAt '.').dropLast))) true:=by
  rw [F.owner_object_class];exact looks_mroIn X c.mO
 refine codeAny_call_builtin F.slot_gs_get.plain F.entry_gs_get (F.slot_gs_get.check _ _ _ _ _ _ _ _ ty (F.args_gs_get _ _ _) ?_)
 repeat (any_goals (first | assumption | (with_reducible refine Z1k ho ?_;rw [ok]) | (with_reducible refine sub.at ?_) | wp_step))
 refine ⟨Code.quiet_builtin _ (by decide +kernel),codeAny_builtin F.entry_object_class ?_⟩
 repeat (any_goals (first | assumption | (with_reducible refine Z1k ho ?_;rw [ok]) | wp_step))
theorem B7d {tk:Tok} {Q:Fin->Shared->Prop} (X:K.In h) (c:XcIn K C) (ho:h.get? a=some o) (ok:o.cls= .ref C) (hq:Q (.done (.ret (.ref C))) ⟨h,g,d,t,os⟩) :
  wpAny (model prog w) A (Builtin.«object.__getattribute__» ⟨[.ref a,.str "__class__" tk],[]⟩) Q E ⟨h,g,d,t,os⟩:=by
 have L:=C0y (M:=model prog w) (a:=a) X c;unfold Builtin.«object.__getattribute__»
 repeat (any_goals (first | assumption | (with_reducible refine L.at ?_) | (with_reducible refine Z1k ho ?_;rw [ok]) | wp_step))
 refine C2s X c ho ok ?_
 repeat (any_goals (first | assumption | wp_step))
theorem C4r {tk:Tok} {fill expr:Bool} {v:Value} {Q:Value->Shared->Prop} (X:K.In h) (c:XcIn K C) (ho:h.get? a=some o) (ok:o.cls= .ref C)
  (hq:∀(A:Around) (R:Result->Shared->Prop),R (.ok (.ret v)) ⟨h,g,d,t,os⟩->codeAny (model prog w) A (.call (.builtin "BaseException.__getattribute__") ⟨[.ref a,.str name tk],[]⟩) R ⟨h,g,d,t,os⟩) (hh:handedIn v=true) (hQ:Q v ⟨h,g,d,t,os⟩) :
  wpAny (model prog w) A (getAttrBy (.ref a) (.str name tk) fill expr) Q E ⟨h,g,d,t,os⟩:=by
 have b:=F.attr_ValueError.ga.bind (.ref a);have L1:=looks_findIn (M:=model prog w) X c.ga;have L2:=looks_findIn (M:=model prog w) X c.gt;have n1:(Value.builtin "BaseException.__getattribute__" == Value.builtin "object.__getattribute__")=false:=by decide +kernel
 have n2:(onTheHeap (Value.ref C)&&Value.builtin "BaseException.__getattribute__" == Value.builtin "object.__getattribute__")=false:=by simp [n1]
 have n3:(expr&&onTheHeap (Value.builtin "BaseException.__getattribute__"))=false:=Bool.and_eq_false_iff.mpr (.inr rfl)
 repeat (any_goals (first | assumption | (with_reducible refine Z1k ho ?_;rw [ok]) | (with_reducible refine L1.at ?_) | (with_reducible refine L2.at ?_) | wp_step))
 refine hq _ _ ?_
 repeat (any_goals (first | assumption | wp_step))
 show wpAny _ _ (handedOut v) _ _ _;rw [handedOut_of hh];exact Z04 hQ
theorem B8g {Q:Option Value->Shared->Prop} {s:Shared} (X:K.In s.heap) (c:XcIn K C) (p:KitE a C s.heap) (hq:Q (some (.ref C)) { s with toks:=s.toks+1 }):wpAny (model prog w) A (getAttr? (.ref a) "__class__") Q E s:=by
 obtain ⟨o,ho,ok⟩:=p;obtain ⟨h,g,d,t,os⟩:=s;unfold getAttr? getAttrBy?
 have B:∀{A:Around} {E:Value->Shared->Prop} {Q:Value->Shared->Prop},Q (.ref C) ⟨h,g,d,t+1,os⟩->wpAny (model prog w) A (getAttrBy (.ref a) (.str "__class__" t) false) Q E ⟨h,g,d,t+1,os⟩:=λ{A E Q} hQ =>
  C4r X c ho ok (λA R hR=>codeAny_call_builtin F.attr_ValueError.ga.plain F.entry_bexc_ga (B7x X c ho ok (B7d X c ho ok hR))) rfl hQ
 repeat (any_goals (first | assumption | with_reducible apply B | wp_step))
theorem kitx_exc (c:XcIn K C):KitX K (.ref a) (.ref C) (KitE a C) where
 ty:=λ_ _ _ p=>p.type
 it:=λ_ _ X _=>by
  obtain ⟨cd,e⟩:=c.cls;intro A Q E s k q;unfold clsIn at e;split at e
  case h_1 there=>exact Z00 (wpAny_loadPart (k _ _ (X _ _ there)) (Z04 q))
  case h_2=>cases e
 ne:=λh tp dd its n sl X htp=>by
  obtain ⟨cd,e⟩:=c.cls;rw [Bool.eq_false_iff];intro q;cases beq_iff_eq.mp q;unfold clsIn at e;split at e
  case h_1 there=>cases (X _ _ there).symm.trans htp
  case h_2=>cases e
 ca:=λX p k=>B8g X c p k
end
end PySem.W
namespace L2
open PySem PySem.Spec PyProof.Rows
section
variable {X:Cx}
def C2y (K:Frag):R2:=λx y H Q=>∃a b xs ys,x= .ref a/\y= .ref b/\SqT K H a xs/\SqT K H b ys/\xs.length+ys.length<=sizeLine/\
 (xs=[]->Q (.ref b) H)/\(xs≠[]->ys=[]->Q (.ref a) H)/\(xs≠[]->ys≠[]->∀p,H p=none->Q (.ref p) (upd H p (.tup (xs++ys))))
theorem B8c:OpR X (binaryOp .Add) (C2y X.K):=by
 intro pins s σ H x y v u Q I rx ry h;obtain ⟨a,b,xs,ys,rfl,rfl,ha,hb,hz,q1,q2,q3⟩:=h;by_cases hx:xs=[]
 ·subst hx;cases rx;cases ry;obtain ⟨its,r1,p1,_⟩:=I.tuple ha;obtain ⟨its2,r2,p2,_⟩:=I.tuple hb;have e1:its=[]:=r1.nil_iff.mpr rfl;obtain ⟨⟨cls,dd,data,sl⟩,ho,hc,n,hd⟩:=id p1;obtain ⟨⟨cls2,dd2,data2,sl2⟩,ho2,hc2,n2,hd2⟩:=id p2;simp only at hc hd hc2 hd2;subst hc hd hc2 hd2
  exact concat_meets ⟨_,ho,rfl⟩ ⟨_,ho2,rfl⟩ noFill_tuple_add seq_tuple_add PySem.F.slot_tuple_add PySem.F.entry_tuple_add (PySem.F.args_tuple_add_2 _ _)
   (tuple_addW0 a b its.toArray its2.toArray n n2 dd dd2 sl sl2 (by simp [e1])) ⟨ho,ho2,⟨.ref b,H,I,rfl,q1 rfl⟩⟩
 ·exact C0q pins s σ H _ _ v u Q I rx ry ⟨a,b,xs,ys,rfl,rfl,ha,hb,hx,hz,λz=>q2 hx z,λz=>q3 hx z⟩
def C2v:R2:=λx y H Q=>∃a b xs ys,x= .ref a/\y= .ref b/\H a=some (.tup xs)/\H b=some (.tup ys)/\xs.length+ys.length<=sizeLine/\∀q H',A0z H H'->H' q=some (.tup (xs++ys))->Q (.ref q) H'
theorem A4e:OpR X (binaryOp .Add) C2v:=λpins s σ H x y v u Q I rx ry h=>by
 obtain ⟨a,b,xs,ys,e1,e2,ha,hb,hz,q⟩:=h;refine B8c pins s σ H x y v u Q I rx ry ⟨a,b,xs,ys,e1,e2,SqT.of ha,SqT.of hb,hz,λz=> ?_,λ_ z=> ?_,λ_ _ p hp=> ?_⟩
 ·subst z;exact q b H (A0z.refl _) hb
 ·subst z;exact q a H (A0z.refl _) (by rw [Z0u];exact ha)
 ·exact q p _ (A0j hp) A0d
end
section
variable {X:Cx} {pins:List (Addr×Obj)} {σ:St} {H H1:Hp} {s s1:Shared} {a:Addr} {o:HO}
theorem Inv.trackO (I1:Inv X pins σ H1 s1) (I:Inv X pins σ H s) (hn:s1.heap.get? a=none) (hH:H a=none) (new:A2a X.prog X.w (upd H a o) s.heap a o):Inv X pins σ (upd H a o) s:=by
 have ne1:∀b o,s1.heap.get? b=some o->b≠a:=λb o e z=>by
  rw [z,hn] at e;cases e
 have up:∀b u,H b=some u->upd H a o b=some u:=λb u e=>by
  rw [A0g (A0i e hH)];exact e
 refine ⟨I.ok,I.os,I.bare,⟨I.base.keep,I.base.slot,λb o e n hb=> ?_,I.base.there,λb xs e=>up _ _ (I.base.tups b xs e),λb o u e=>up _ _ (I.base.frzs b o u e),λb ps e=> ?_⟩,I.loc,I.cell,?_,λx c e=> ?_,λp hp=> ?_,λb u e=> ?_,I.len⟩
 ·obtain ⟨o1,e1⟩:=I1.base.there b o e hb;rw [A0g (ne1 b o1 e1)];exact I.base.free b o e n hb
 ·obtain ⟨m,q⟩:=I.base.tbls b ps e;exact ⟨m,up _ _ q⟩
 ·obtain ⟨m,⟨o,_,_,ho,_⟩,_⟩:=I1.loc;rw [A0g (ne1 _ o ho)];exact I.free
 ·obtain ⟨v,o,ho,_⟩:=I1.cell x c e;rw [A0g (ne1 _ o ho)];exact I.freeC x c e
 ·obtain ⟨e,n,r⟩:=I.pin p hp;have e1:=(I1.pin p hp).1;exact ⟨e,by rw [A0g (ne1 _ _ e1)];exact n,r⟩
 ·by_cases hb:b=a
  ·subst hb;rw [A0d] at e;cases e;exact new
  ·rw [A0g hb] at e;exact (I.hok b u e).stay (λ_ _ _ q=>q) (λc q=>up _ _ q) λc xs q=>up _ _ q
end
open PySem PySem.Spec PyProof.Rows PyProof.Rows.KTD
def B4y:V->Value->Bool
 | .non,.none=>true
 | .bl b,.bool c=>b == c
 | .int i,.int j _=>i == j
 | .str x,.str y _=>x == y
 | .ref a,.ref b=>a == b
 | .ty n,.type m=>n == m
 | _,_=>false
theorem B2u:∀(v:V) (u:Value),B4y v u=true->A1l v u:=by
 intro v u h;cases v <;> cases u <;> simp only [B4y,beq_iff_eq] at h <;> first | cases h;done | (subst h;first | rfl | exact ⟨_,rfl⟩) | skip
 all_goals first | rfl | (cases h;rfl)
def B8i (K:Frag) (p:Addr) (D:List (Str×V)):Prop:=tabLook B4y (λa=>K.lookup a) p D=true
section
variable {X:Cx} {pins:List (Addr×Obj)} {σ:St} {H:Hp} {s:Shared} {p:Addr} {D:List (Str×V)} {k:Str} {tk:Tok} {A:Around} {E:Value->Shared->Prop}
theorem B8i.at (T:B8i X.K p D) (I:Inv X pins σ H s):TabOf A1l s.heap p D:=tab_of_look B2u (λa o e=>I.kIn a o e) T
theorem TabOf.ty {R:V->Value->Prop} (T:TabOf R s.heap p D):s.TypeIs (.ref p) "dict":=by
 obtain ⟨_,o,_,_,ho,hc,_⟩:=T;exact ⟨o,ho,hc.1⟩
theorem B9e {prog:Program} {w:World} {Q:Option Value->Shared->Prop} (T:TabOf A1l s.heap p D) (h1:∀d v,datumAt k D=some d->A1l d v->Q (some v) { s with toks:=s.toks+1 }) (h2:datumAt k D=none->Q none { s with toks:=s.toks+1 }) :
  wpAny (model prog w) A (dictGet p (.str k tk)) Q E s:=by
 obtain ⟨_,o,es,ep,ho,hc,hd,hr⟩:=T
 have ex:(es.all λe=>isExactStrKey e.key)=true:=by
  have:=hr.exact;rw [<-Array.all_toList];exact this
 have fb:findBy (λk v=>v.isStr k) es k=(es.toList.find? λe=>e.key.isStr k).map (·.val):=by unfold findBy;rw [Array.find?_toList]
 have q:Q (findBy (λk v=>v.isStr k) es k) { s with toks:=s.toks+1 }:=by
  rw [fb];cases e:datumAt k D with
  | none=>rw [hr.find_none e];exact h2 e
  | some d=>obtain ⟨v,hv,r⟩:=hr.find_some e;rw [hv];exact h1 d v e r
 unfold dictGet
 try with_reducible refine Z1w ?_
 refine Z00 (wpAny_pyHash_str (Z00 (kt_dictFind_strs (s:={ s with toks:=s.toks+1 }) ho hd ex ?_)))
 rw [findBy_of_findIdx?] at q;cases hi:es.findIdx? λe=>e.key.isStr k with
 | none=>rw [hi] at q;exact Z04 q
 | some i=>rw [hi] at q;exact Z00 (wpAny_dictEntries (s:={ s with toks:=s.toks+1 }) ho hd (Z04 q))
end
section
variable {X:Cx}
def C2e (K:Frag):R2:=λx y H Q=>∃(p:Addr) (D:List (Str×V)) (k:Str) (v:V),x= .ref p/\y= .str k/\B8i K p D/\datumAt k D=some v/\Q v H
theorem B9r {o i:Expr} {td ty:TE} {pos:Pos} (ho:PE X o td) (hi:PE X i ty) (hs:C4s i):PE X (.Subscript o i pos) (tOp (C2e X.K) td ty):=by
 intro pins s σ H Q I h;refine B4g PySem.F.slot_dict_getitem.lookup hs (thn (ho pins s σ H _ I h) ?_);rintro u s1 ⟨x,H1,I1,rx,q1⟩;refine thn (hi pins s1 σ H1 _ I1 q1) ?_;rintro iv s2 ⟨y,H2,I2,ry,q2⟩;obtain ⟨p,D,k,d,rfl,rfl,T,hd,q⟩:=q2;cases rx;obtain ⟨t,rfl⟩:=(show∃t,iv=Value.str k t from ry);have T':=T.at I2;refine ⟨TabOf.ty T',?_⟩;unfold getItem
 try with_reducible refine Z1w ?_
 refine Z00 (wpAny_sequenceKey (TabOf.ty T') (by decide) ?_);refine (Z00 (Z1b (name:=Str.ofString "__getitem__") (TabOf.ty T') PySem.F.slot_dict_getitem (Z1g PySem.F.slot_dict_getitem (TabOf.ty T') PySem.F.entry_dict_getitem ?_ (PySem.F.args_dict_getitem_2 _ _))));show wpAny _ _ (dictGet p (.str k t) >>= _) _ _ s2;refine Z00 (B9e T' (λd' v' e r=>Z04 ⟨v',rfl,Z04 ?_⟩) λe=> ?_)
 ·rw [hd] at e;cases e;exact ⟨d,H2,I2.tok _,r,q⟩
 ·rw [hd] at e;cases e
end
def C2 (o o':Obj):Prop:=∀vs,o.data= .fields vs->∃vs',o'.data= .fields vs'/\vs'[2]? =vs[2]?
theorem C2.refl (o:Obj):C2 o o:=λvs e=>⟨vs,e,rfl⟩
theorem C2.trans {a b c:Obj} (x:C2 a b) (y:C2 b c):C2 a c:=λvs e=>by
 obtain ⟨v1,e1,q1⟩:=x vs e;obtain ⟨v2,e2,q2⟩:=y v1 e1;exact ⟨v2,e2,q2.trans q1⟩
def KD (h h':Heap):Prop:=∀b o,h.get? b=some o->∃o',h'.get? b=some o'/\o'.cls=o.cls/\o'.dict=o.dict/\C2 o o'
theorem KD.refl (h:Heap):KD h h:=λb o e=>⟨o,e,rfl,rfl,C2.refl o⟩
theorem KD.trans {h1 h2 h3:Heap} (a:KD h1 h2) (b:KD h2 h3):KD h1 h3:=λx o e=>by
 obtain ⟨o1,e1,c1,d1,f1⟩:=a x o e;obtain ⟨o2,e2,c2,d2,f2⟩:=b x o1 e1;exact ⟨o2,e2,c2.trans c1,d2.trans d1,f1.trans f2⟩
theorem KD.field {h:Heap} {T:Addr} {o:Obj} {ts:Array Value} (hT:h.get? T=some o) (hd:o.data= .fields ts) (f:Array Value->Array Value) (hf:∀a:Array Value,(f a)[2]? =a[2]?):KD h (h.update T (Obj.mapFields f)):=λb u e=>by
 by_cases z:b=T
 ·subst z;rw [hT] at e;cases e;exact ⟨_,Z1r _ hT (Obj.isFreed_of_fields (Obj.data_mapFields hd _)),Obj.cls_mapFields _ _,by obtain ⟨_,_,dd,_⟩:=o;cases hd;rfl,λvs ev=>⟨_,Obj.data_mapFields ev _,hf vs⟩⟩
 ·exact ⟨u,(Z1d _ _ (Ne.symm z)).trans e,rfl,rfl,C2.refl u⟩
def B7v (h B:Heap) (e:Addr) (cls a0:Value):Prop:=(∃oe vs,h.get? e=some oe/\(oe.cls=cls/\vs[0]? =some a0)/\oe.data= .fields vs/\vs[1]? =some .none)\/∃fl,h.TracedAtW B e cls a0 fl
section
variable {M:Model} {A:Around} {E:Value->Shared->Prop} {s:Shared} {B:Heap} {env:Env} {outer:List Env} {L e:Addr} {cls a0:Value} {Q:Unit->Shared->Prop}
theorem B8v {oe:Obj} {vs:Array Value} {hd:Value} {nx:Bool} (hfr:A.frames=some (env::outer)) (ff:s.heap.FunFrames B (env::outer)) (hf:env.frame=some L) (he:s.heap.get? e=some oe) (st:B.StaysIn s.heap) (hn:B.get? e=none) (hv:oe.data= .fields vs) (hz:1<vs.size) (h0:vs[0]? =some a0)
  (h:∀h',Heap.NotedW B (env::outer) e oe.cls a0 (rawInt L) s.heap h'->KD s.heap h'->Q () { s with heap:=h' }) :
  wpAny M A (do let a<-frameOf env;let pl<-entryPlaceOf L nx;let b<-EntryCells.newEntry hd a .none (rawInt L) .none pl;setField (.ref e) 1 b) Q E s:=by
 have nf:e∉(env::outer).filterMap (·.frame):=λm=>by
  obtain ⟨_,o,ho,hnf⟩:=ff.mem m;rw [he] at ho;cases ho;exact hnf vs hv
 refine Z00 (wpAny_frameOf_fun hfr ff hf λg sg=>Z00 (wpAny_entryPlaceOf λpl hpl=> ?_));unfold EntryCells.newEntry newFields;refine Z00 (Z16 ?_ (hpl.sizeOk5 _ _ _ _ _));have he1:g.get? e=some oe:=(sg.2.1 e nf).trans he;have st1:B.StaysIn g:=λb o hb=>(sg.2.1 b λm=>by rw [(ff.mem m).1] at hb;cases hb).trans (st b o hb);generalize hob:({ cls:= .type "traceback",dict:=none,data:= .fields ([hd,.ref L,.none,rawInt L,.none]++(if pl.isEmpty then List.replicate 6 Value.none else pl)).toArray }:Obj)=ob;have he2:=Z01 (h:=g) ob he1;have eb:({ cls:=Value.type "traceback",data:= .fields ([hd,.ref L,.none,rawInt L,.none]++(if pl.isEmpty then List.replicate 6 Value.none else pl)).toArray }:Obj)=ob:=hob;refine Z1t (by first | exact he2 | (rw [eb];exact he2)) hv hz ?_
 try rw [eb]
 have nTe:g.objs.size≠e:=Z1q (Z0a he1);have dm:=Obj.data_mapFields hv (·.setIfInBounds 1 (Value.ref g.objs.size));have he3:=Z1r (Obj.mapFields (·.setIfInBounds 1 (Value.ref g.objs.size))) he2 (Obj.isFreed_of_fields dm);have hT3:((g.push ob).update e (Obj.mapFields (·.setIfInBounds 1 (Value.ref g.objs.size)))).get? g.objs.size=some ob:=(Z1d _ _ (Ne.symm nTe)).trans (Z0c g (by rw [<-hob];rfl));have kp:∀b o,b≠e->g.get? b=some o->((g.push ob).update e (Obj.mapFields (·.setIfInBounds 1 (Value.ref g.objs.size)))).get? b=some o:=λb o ne hb=>(Z1d _ _ (Ne.symm ne)).trans (Z01 _ hb)
 have nr:∀b o,s.heap.get? b=some o->(∀vs,o.data≠.fields vs)->b≠e:=λb o hb hnf z=>by
  rw [z,he] at hb;cases hb;exact hnf vs hv
 refine h _ ⟨λb o hb=>kp b o (λz=>by rw [z,hn] at hb;cases hb) (st1 b o hb),ff.of_keeps λb o hb hnf=> ?_,?_,λb o hb hnf=> ?_⟩ λb o hb=> ?_
 ·obtain ⟨sl,hs⟩:=sg.2.2 b o hb;exact ⟨_,kp b _ (nr b o hb hnf) hs,rfl⟩
 ·refine ⟨_,_,g.objs.size,ob,_,he3,⟨Obj.cls_mapFields _ _,?_⟩,dm,by simp [hz],st1.fresh,nTe,hT3,by rw [<-hob],?_⟩
  ·rw [Z25 (by decide)];exact h0
  ·rcases hpl with rfl | ⟨_,_,_,_,_,_,_,rfl⟩ <;> simp
 ·obtain ⟨sl,hs⟩:=sg.2.2 b o hb;exact ⟨sl,kp b _ (nr b o hb hnf) hs⟩
 ·by_cases z:b=e
  ·subst z;rw [he] at hb;cases hb;exact ⟨_,he3,Obj.cls_mapFields _ _,by obtain ⟨_,_,dd,_⟩:=oe;cases hv;rfl,λws ew=>⟨_,Obj.data_mapFields ew _,Z25 (by decide)⟩⟩
  ·obtain ⟨sl,hs⟩:=sg.2.2 b o hb;exact ⟨_,kp b _ z hs,rfl,rfl,λws ew=>⟨ws,ew,rfl⟩⟩
theorem C1z (hfr:A.frames=some (env::outer)) (hf:env.frame=some L) (st:B.StaysIn s.heap) (hn:B.get? e=none) (ff:s.heap.FunFrames B (env::outer)) (ht:B7v s.heap B e cls a0)
  (hQ:∀h',Heap.HeldW B (env::outer) e cls a0 L h'->s.heap.UpToSlots h'->KD s.heap h'->Q () { s with heap:=h' }):wpAny M A (noteFrame (.ref e) env) Q E s:=by
 rcases ht with ⟨oe,vs,he,⟨hc,h0⟩,hv,h1⟩ | ⟨fl,ht⟩
 ·subst hc;unfold noteFrame;simp only [hf];refine Z00 (Z11 he hv h1 ?_);rw [Z0t (show¬((Value.none != Value.none)=true) by simp)];exact B8v hfr ff hf he st hn hv (Z1m.mp h1).1 h0 λh' N kd=>hQ h' ⟨N.1,hn,N.2.1,N.2.2.1⟩ N.2.2.2 kd
 ·by_cases hfl:(fl == rawInt L)=true
  ·have e1:fl=rawInt L:=beq_iff_eq.mp hfl;subst e1;exact wpAny_noteFrame_againW hf ht (hQ s.heap ⟨st,hn,ff,ht⟩ (Heap.UpToSlots.refl _) (KD.refl _))
  ·obtain ⟨oe,vs,T,oT,ts,he,⟨hcls,h0⟩,hd,h1,hnT,hTe,hT,hdT,h3⟩:=id ht;subst hcls;unfold noteFrame;simp only [hf];refine Z00 (Z11 he hd h1 ?_);rw [Z12 (show (Value.ref T != Value.none)=true by simp)];refine Z00 (Z11 hT hdT h3 ?_);rw [Z0t hfl];refine Z00 (Z1t hT hdT (Z1m.mp h3).1 ?_);have oth:∀b,b≠T->(s.heap.update T (Obj.mapFields (·.setIfInBounds 3 Value.none))).get? b=s.heap.get? b:=λb hb=>Z1d _ _ (Ne.symm hb)
   have nr:∀b o,s.heap.get? b=some o->(∀vs,o.data≠.fields vs)->b≠T:=λb o hb hnf q=>by
    rw [q,hT] at hb;cases hb;exact hnf ts hdT
   exact B8v hfr (ff.of_keeps λb o hb hnf=>⟨o,(oth b (nr b o hb hnf)).trans hb,rfl⟩) hf ((oth e (Ne.symm hTe)).trans he) (λb o hbo=>(oth b λq=>by rw [q,hnT] at hbo;cases hbo).trans (st b o hbo)) hn hd (Z1m.mp h1).1 h0
    λh' N kd=>hQ h' ⟨N.1,hn,N.2.1,N.2.2.1⟩ (λb o hb hnf=>N.2.2.2 b o ((oth b (nr b o hb hnf)).trans hb) hnf) ((KD.field hT hdT _ λ_=>Z25 (by decide)).trans kd)
theorem B9w {l:List Env} {fl:Value} {fr:Option Addr} (st:B.StaysIn s.heap) (ff:s.heap.FunFrames B l) (ht:s.heap.TracedAtW B e cls a0 fl)
  (hQ:∀h',B.StaysIn h'->h'.FunFrames B l->h'.TracedAtW B e cls a0 (fr.elim .none λf=>rawInt f)->s.heap.UpToSlots h'->KD s.heap h'->Q () { s with heap:=h' }):wpAny M A (setFlight (.ref e) fr) Q E s:=by
 obtain ⟨oe,vs,T,oT,ts,he,hcls,hd,h1,hnT,hTe,hT,hdT,h3⟩:=ht;have z3:3<ts.size:=(Z1m.mp h3).1;have oth:∀b,b≠T->(s.heap.update T (Obj.mapFields (·.setIfInBounds 3 (fr.elim Value.none λf=>rawInt f)))).get? b=s.heap.get? b:=λb hb=>Z1d _ _ (Ne.symm hb)
 have nr:∀b o,s.heap.get? b=some o->(∀vs,o.data≠.fields vs)->b≠T:=λb o hb hnf q=>by
  rw [q,hT] at hb;cases hb;exact hnf ts hdT
 unfold setFlight;refine Z00 (Z11 he hd h1 ?_);rw [Z12 (show (Value.ref T != Value.none)=true by simp)];refine Z1t hT hdT z3 (hQ _ (λb o hbo=>(oth b λq=>by rw [q,hnT] at hbo;cases hbo).trans (st b o hbo)) (ff.of_keeps λb o hb hnf=>⟨o,(oth b (nr b o hb hnf)).trans hb,rfl⟩) ?_ (λb o hb hnf=>⟨o.slots,(oth b (nr b o hb hnf)).trans hb⟩) (KD.field hT hdT _ λ_=>Z25 (by decide)));exact ⟨oe,vs,T,_,_,(oth e (Ne.symm hTe)).trans he,hcls,hd,h1,hnT,hTe,Z1r _ hT (Obj.isFreed_of_fields (Obj.data_mapFields hdT _)),Obj.data_mapFields hdT _,by simp [z3]⟩
theorem B8r (hfr:A.frames=some (env::outer)) (hf:env.frame=some L) (st:B.StaysIn s.heap) (hn:B.get? e=none) (ff:s.heap.FunFrames B (env::outer)) (ht:B7v s.heap B e cls a0)
  (hQ:∀h',Heap.FlyingW B outer e cls a0 h'->s.heap.UpToSlots h'->KD s.heap h'->Q () { s with heap:=h' }):wpAny M A (leaving env (.ref e)) Q E s:=by
 unfold leaving;refine Z00 (C1z hfr hf st hn ff ht λh1 held u1 k1=>B9w (s:={ s with heap:=h1 }) held.1 held.2.2.1 held.2.2.2 λh2 s2 f2 t2 u2 k2=> ?_)
 exact hQ h2 ⟨s2,hn,f2.2.2,t2⟩ (u1.trans u2) (k1.trans k2)
end
theorem FlyingW.exc {B h:Heap} {l:List Env} {e:Addr} {cls a0:Value} (f:Heap.FlyingW B l e cls a0 h):B7v h B e cls a0:= .inr ⟨.none,f.2.2.2⟩
def A5v (h:Heap) (e:Addr) (od:Option Addr):Prop:=∃o vs,h.get? e=some o/\o.dict=od/\o.data= .fields vs/\vs[2]? =some .none
theorem A5v.kd {h h':Heap} {e:Addr} {od:Option Addr} (d:A5v h e od) (k:KD h h'):A5v h' e od:=by
 obtain ⟨o,vs,e1,e2,e5,e6⟩:=d;obtain ⟨o',e3,_,e4,c2⟩:=k _ o e1;obtain ⟨vs',e7,e8⟩:=c2 vs e5;exact ⟨o',vs',e3,e4.trans e2,e7,e8.trans e6⟩
def CXD (P:Program) (w:World):CXT:=λouter H s E e s' =>
 ∃(ea C:Addr) (a0:Value) (od:Option Addr) (H':Hp) (B:Heap),e= .ref ea/\s'.os=s.os/\AllBare s'.gens/\Un (frs outer) [] H H' s.heap s'.heap/\HOk P w H' s'.heap/\
  (∀b o,s.heap.get? b=some o->b∉frs outer->∃o',B.get? b=some o')/\(∀b o,H' b=some o->∃o',B.get? b=some o')/\
  Heap.FlyingW B outer ea (.ref C) a0 s'.heap/\A5v s'.heap ea od/\E (.ref C) od H'
section
variable {P:Program} {w:World} {K:Frag} {mg:Str->Option Value} {base:Heap} {N:List Str} {qual:Str} {scope:Scope} {f:Addr} {cd:Value} {A:Around} {outer:List Env} {s:Shared} {H:Hp} {E:XK}
theorem B3g:A4i (CXD P w) (B6k (CXD P w) P w K mg base N qual scope f cd A outer s H E) E:=by
 intro pins σ H1 s1 e s' I hcx;obtain ⟨ea,C,a0,od,H',B,rfl,os,bare,un,hok,b1,b2,fl,dd,q⟩:=hcx;refine B8r I.ok.frames rfl fl.1 fl.2.1 fl.2.2.1 (FlyingW.exc fl) λh' fl' up kd=> ?_;obtain ⟨un',b1'⟩:=B8p I rfl un b1 fl.1 fl'.1 up;exact ⟨ea,C,a0,od,H',B,rfl,os.trans I.os,bare,un',B5i hok b2 fl.1 fl'.1,b1',b2,fl',dd.kd kd,q⟩
theorem B2e {C:Addr}:B8x (B6k (CXD P w) P w K mg base N qual scope f cd A outer s H E) C E:=by
 intro pins σ H1 s1 h1 e vs I hx q;obtain ⟨t,he,htn,ht⟩:=hx.there;have kB:∀b o,s1.heap.get? b=some o->b∉frs (envOfC qual scope s.heap.objs.size f cd::outer)->(hideAll s1.heap (frs (envOfC qual scope s.heap.objs.size f cd::outer))).get? b=some o:=λb o e hb=>PySem.W.hideAll_get _ e hb
 have en:(hideAll s1.heap (frs (envOfC qual scope s.heap.objs.size f cd::outer))).get? e=none:=by
  cases z:(hideAll s1.heap (frs (envOfC qual scope s.heap.objs.size f cd::outer))).get? e with
  | none=>rfl
  | some o=>have:=PySem.W.of_hideAll _ z;rw [hx.new] at this;cases this
 have st1:(hideAll s1.heap (frs (envOfC qual scope s.heap.objs.size f cd::outer))).StaysIn h1:=λb o z=>hx.keeps b o (PySem.W.of_hideAll _ z)
 refine B8r (B:=hideAll s1.heap (frs (envOfC qual scope s.heap.objs.size f cd::outer))) (cls:= .ref C) (a0:= .ref t) I.ok.frames rfl st1 en
  ((PySem.W.funFrames_hide I.stack λenv he b hb=>List.mem_filterMap.mpr ⟨env,he,hb⟩).of_keeps λb o hb _=>⟨o,hx.keeps b o hb,rfl⟩) (.inl ⟨_,_,he,⟨rfl,rfl⟩,rfl,rfl⟩) λh' fl up kd=> ?_
 have b2:∀b o,H1 b=some o->∃o',(hideAll s1.heap (frs (envOfC qual scope s.heap.objs.size f cd::outer))).get? b=some o':=λb o z=>by
  obtain ⟨u,hu⟩:=(I.hok b o z).at18;refine ⟨u,kB b u hu λm=> ?_⟩;have:=I.stkFree b m;rw [z] at this;cases this
 obtain ⟨un',b1'⟩:=B8p (B:=hideAll s1.heap (frs (envOfC qual scope s.heap.objs.size f cd::outer))) I rfl (Un.kept hx.keeps) (λb o z hb=>⟨o,kB b o z hb⟩) st1 fl.1 up;exact ⟨e,C,.ref t,none,H1,_,rfl,I.os,I.bare,un',B5i (I.hok.kept hx.keeps) b2 st1 fl.1,b1',b2,fl,A5v.kd (h:=h1) ⟨_,_,he,rfl,rfl,rfl⟩ kd,q⟩
theorem Fun.okD {x qual:Str} {st:Stmt} {f:Addr} {fd:FuncData} {N ps:List Str} {k:Nat} {sp:Sp} (F:Fun K x qual st f fd) (S:A0n N ps (A0h st)) (len:∀vs H Q E,sp vs H Q E->vs.length=ps.length)
  (hbody:∀(cdv:Value) (A:Around) (outer:List Env) (s:Shared) (H:Hp) (vs:List V) (Q:VK) (E:XK),A3u k (A.deeper (envOfC qual (A0h st) s.heap.objs.size f cdv))->sp vs H Q E->
   ∃t,PSs (B6k (CXD P w) P w K mg base N qual (A0h st) f cdv A outer s H E) (A3a st) t/\t { nx:=λ_ H'=>Q .non H',rt:=Q } (A6a N vs) H):A4w P w K mg base (CXD P w) (k+1) f fd ps sp:=by
 obtain ⟨oc,od,kV,doc,pm,an,cdv,ct,osl,rfl,lk,hcd⟩:=F.ex;exact C3i lk hcd S len λA outer s H vs Q E hr hsp=>hbody cdv A outer s H vs Q E hr hsp
end
def xcG (ea C:Addr) (od:Option Addr):Heap->Prop:=λh=>∃o vs,h.get? ea=some o/\o.cls= .ref C/\o.dict=od/\o.data= .fields vs/\vs[2]? =some .none
section
variable {X:Cx} {pins:List (Addr×Obj)} {σ:St} {H H1:Hp} {s s1:Shared} {ea C:Addr} {a0:Value} {B:Heap} {od:Option Addr}
theorem C2m {P:Program} {w:World} {H:Hp} {h:Heap} (q:xcG ea C od h):A2a P w H h ea (.ext (xcG ea C od)):=by
 obtain ⟨o,vs,r⟩:=id q;exact ⟨q,⟨o,r.1⟩,(by rintro h1 h2 ⟨o,vs,q1,q2⟩ k;exact ⟨o,vs,k o q1,q2⟩)⟩
structure B1i (X:Cx) (pins:List (Addr×Obj)) (σ:St) (H:Hp) (B:Heap) (ea C:Addr) (a0:Value) (od:Option Addr) (s:Shared):Prop where
 inv:Inv X pins σ H s
 fl:Heap.FlyingW B X.stack ea (.ref C) a0 s.heap
 d:A5v s.heap ea od
 no:H ea=none
 go:∀h',B.StaysIn h'->s.heap.UpToSlots h'->xcG ea C od h'->Inv X pins σ H { s with heap:=h' }/\Inv X pins σ (upd H ea (.ext (xcG ea C od))) { s with heap:=h' }
theorem B4m (fl:Heap.FlyingW B X.stack ea (.ref C) a0 s.heap) (d:A5v s.heap ea od):xcG ea C od s.heap:=by
 obtain ⟨oe,vs,e,c,dt,_⟩:=fl.first;obtain ⟨o,vs',e2,d2,d3,d4⟩:=d;rw [e] at e2;cases e2;exact ⟨oe,vs',e,c,d2,d3,d4⟩
theorem B1i.cls (F:B1i X pins σ H B ea C a0 od s):xcF ea C s.heap:=by
 obtain ⟨oe,vs,e,c,d,_⟩:=F.fl.first;exact ⟨oe,vs,e,c,d⟩
end
def PHD (X:Cx) (hs:List ExceptHandler) (C:Addr) (th:Option Addr->Addr->TS):Prop :=
 ∀(pins:List (Addr×Obj)) (σ:St) (H:Hp) (B:Heap) (ea:Addr) (a0:Value) (od:Option Addr) (s:Shared) (D:B4w),B1i X pins σ H B ea C a0 od s->th od ea D σ H->wpAny (model X.prog X.w) X.A (handleBy (.ref ea) X.env hs) (SP X pins D) X.xe s
section
variable {M:Model} {A:Around} {E:Value->Shared->Prop} {s:Shared} {B:Heap} {l:List Env} {e:Addr} {cls a0:Value} {Q:Unit->Shared->Prop}
theorem A5w (f:Heap.FlyingW B l e cls a0 s.heap) (hQ:∀h',Heap.FlyingW B l e cls a0 h'->s.heap.UpToSlots h'->KD s.heap h'->Q () { s with heap:=h' }):wpAny M A (setFlight (.ref e) none) Q E s :=
 B9w f.1 f.2.2.1 f.2.2.2 λh' s2 f2 t2 u2 k2=>hQ h' ⟨s2,f.2.1,f2,t2⟩ u2 k2
end
section
variable {X:Cx} {C C':Addr} {y n:Str} {yp hpos:Pos} {b₀:Stmt} {suite:List Stmt} {rest:List ExceptHandler} {i:Nat}
theorem A8d {th:Option Addr->Addr->TS} {nm:Option Str} (hg:Gl X y) (hm:X.mg y=some (.ref C')) (q:exmOne X.K (.ref C) (.ref C')=some false) (hr:PHD X rest C th) (hd:(y == ("__debug__":Str))=false:=by decide) :
  PHD X (.ExceptHandler (some (.Name y yp)) nm (b₀::suite) hpos::rest) C th:=by
 intro pins σ H B ea a0 od s D F h;refine wpAny_handleBy_cons (codeAny_handlers_test ?_) (by intro q;cases q);refine A2x (X:=X.held ea) (F.inv.held ea) hg hm ?_ hd;refine (B5t F.inv.kIn F.cls q).here ?_;exact hr pins σ H B ea a0 od s D F h
def C1r (ts:TS):Option Addr->Addr->TS:=λ_ _ D σ H=>ts D σ H
theorem A8l {ts:TS} (hg:Gl X y) (hm:X.mg y=some (.ref C')) (q:exmOne X.K (.ref C) (.ref C')=some true)
  (hs:∀ea,PSs (X.held ea) (b₀::suite) ts) (hd:(y == ("__debug__":Str))=false:=by decide) :
  PHD X (.ExceptHandler (some (.Name y yp)) none (b₀::suite) hpos::rest) C (C1r ts):=by
 intro pins σ H B ea a0 od s D F h;refine wpAny_handleBy_cons (codeAny_handlers_test ?_) (by intro q;cases q);refine A2x (X:=X.held ea) (F.inv.held ea) hg hm ?_ hd;refine (B5t F.inv.kIn F.cls q).here (codeAny_handlers_suite ?_);refine A5w F.fl λh' fl' up kd=> ?_;have F':=(F.go h' fl'.1 up (B4m (s:={ s with heap:=h' }) fl' (F.d.kd kd))).1;refine Z10 (hs ea pins _ _ _ _ (F'.held ea) h) (λf s3 hf=> ?_) λ_ _ z=>False.elim z
 dsimp only
 cases f with
 | next =>
  obtain ⟨σ',H',I',r⟩:=hf;exact ⟨_,H',I'.unheld F.inv.ok,r⟩
 | brk =>
  obtain ⟨σ',H',I',r⟩:=hf;exact ⟨_,H',I'.unheld F.inv.ok,r⟩
 | cont =>
  obtain ⟨σ',H',I',r⟩:=hf;exact ⟨_,H',I'.unheld F.inv.ok,r⟩
 | ret u =>
  obtain ⟨v,σ',H',I',rv,r⟩:=hf;exact ⟨v,_,H',I'.unheld F.inv.ok,rv,r⟩
end
def Rsd (X:Cx) (pins:List (Addr×Obj)) (σ:St) (E:XK) (e:Value) (s':Shared):Prop:=∃(ea C:Addr) (a0:Value) (od:Option Addr) (H':Hp) (B:Heap),e= .ref ea/\B.StaysIn s'.heap/\B.get? ea=none/\s'.heap.FunFrames B X.stack/\B7v s'.heap B ea (.ref C) a0/\A5v s'.heap ea od/\H' ea=none/\X.A.frames=some X.stack/\
 (∀h',B.StaysIn h'->s'.heap.UpToSlots h'->xcG ea C od h'->Inv X pins σ H' { s' with heap:=h' }/\Inv X pins σ (upd H' ea (.ext (xcG ea C od))) { s' with heap:=h' })/\E (.ref C) od H'
def C0r (X:Cx) (hs:List ExceptHandler) (D:B4w) (σ:St):XK:=λc od H2=>∃(C:Addr) (th:Option Addr->Addr->TS),c= .ref C/\PHD X hs C th/\∀ea,H2 ea=none->th od ea D σ H2
section
variable {X:Cx} {hs:List ExceptHandler} {h₀:ExceptHandler} {e:Expr} {pos epos npos:Pos} {i:Nat} {n:Str}
theorem B0k {pins:List (Addr×Obj)} {σ:St} {D:B4w} {s':Shared} {ev:Value} (hst:X.stack=X.env::X.outer/\X.env.frame=some X.env.locals) (hc:Rsd X pins σ (C0r X (h₀::hs) D σ) ev s') :
  wpAny (model X.prog X.w) X.A (noteFrame ev X.env) (λ_ s₂=>wpAny (model X.prog X.w) X.A (setFlight ev none) (λ_ s₃=>wpAny (model X.prog X.w) X.A (handleBy ev X.env (h₀::hs)) (SP X pins D) X.xe s₃) X.xe s₂) X.xe s':=by
 obtain ⟨ea,C,a0,od,H',B,rfl,st,en,ff,ex,dd,hno,hfr0,go,q⟩:=hc;obtain ⟨C',th,hC,hP,q⟩:=q;cases hC;have hfr:X.A.frames=some (X.env::X.outer):=by rw [<-hst.1];exact hfr0
 refine C1z hfr hst.2 st en (by rw [<-hst.1];exact ff) ex λh4 held up4 kd4=> ?_;refine B9w (s:={ s' with heap:=h4 }) held.1 held.2.2.1 held.2.2.2 λh5 st5 ff5 t5 up5 kd5=> ?_
 have fl5:Heap.FlyingW B X.stack ea (.ref C) a0 h5:=⟨st5,en,by rw [hst.1];exact ff5,t5⟩;have d5:=(dd.kd kd4).kd kd5;have up:=up4.trans up5;have x5:xcG ea C od h5:=B4m (X:=X) (s:={ s' with heap:=h5 }) fl5 d5;exact hP pins σ H' B ea a0 od _ D ⟨(go h5 st5 up x5).1,fl5,d5,hno,λh' s2 u2 x2=>go h' s2 (up.trans u2) x2⟩ (q ea hno)
def PXD (X:Cx) (e:Expr) (t:TX):Prop :=
 ∀(pins:List (Addr×Obj)) (s:Shared) (σ:St) (H:Hp) (Q:VK) (E:XK),Inv X pins σ H s->t σ H Q E->wpAny (model X.prog X.w) X.A (eval e X.env) (EP X pins σ Q) (Rsd X pins σ E) s
theorem Rsd.of_call {pins:List (Addr×Obj)} {σ:St} {H1:Hp} {s1 s':Shared} {E:XK} {ev:Value} (I1:Inv X pins σ H1 s1) (h:CXD X.prog X.w X.stack H1 s1 E ev s'):Rsd X pins σ E ev s':=by
 obtain ⟨ea,C,a0,od,H',B,rfl,os,bare,un,hok,b1,b2,fl,dd,q⟩:=h;have F:B5s X pins σ H1 s1 H' B ea C a0 s':=⟨I1,os,bare,un,hok,b1,b2,fl⟩;have no:∀b:Addr,b∉([]:List Addr):=λb=>by simp
 refine ⟨ea,C,a0,od,H',B,rfl,fl.1,fl.2.1,fl.2.2.1,FlyingW.exc fl,dd,F.no,I1.ok.frames,λh5 st5 up x5=> ?_,q⟩
 have slot:∀b o,s1.heap.get? b=some o->H1 b=none->b∈frs X.stack->∃sl,h5.get? b=some { o with slots:=sl }:=λb o e n hb=>by
  obtain ⟨sl,e1⟩:=un.slot b o e n hb (no b);obtain ⟨_,of,ho,hd⟩:=I1.stack.mem hb;rw [e] at ho;cases ho;obtain ⟨sl3,e3⟩:=up b _ e1 hd;exact ⟨sl3,e3⟩
 have u5:Un (frs X.stack) [] H1 H' s1.heap h5:=by
  refine ⟨λb o e n hb _=> ?_,λb o e n hb _=>slot b o e n hb,un.free,λb o e _=> ?_,un.tups,un.frzs,un.tbls⟩
  ·have e2:=un.keep b o e n hb (no b);obtain ⟨o',eB⟩:=b1 b o e hb;have e3:=fl.1 b o' eB;rw [e2] at e3;cases e3;exact st5 b o eB
  ·by_cases hb:b∈frs X.stack
   ·obtain ⟨sl,q⟩:=slot b o e (I1.stkFree b hb) hb;exact ⟨_,q⟩
   ·obtain ⟨o',eB⟩:=b1 b o e hb;exact ⟨o',st5 b o' eB⟩
 have I5:Inv X pins σ H' { s' with heap:=h5 }:=I1.call' (s':={ s' with heap:=h5 }) os u5 (B5i hok b2 fl.1 st5) bare (ch:=[]) (λb z=>absurd z (by simp))
 exact ⟨I5,I1.trackO I5 F.new F.no (C2m x5)⟩
theorem B2g {k:Nat} {f:Addr} {fd:FuncData} {ps:List Str} {sp:Sp} {x:Str} {p pos:Pos} {e:Expr} {es:List Expr} {t:TA} (F:A4w X.prog X.w X.K X.mg X.base (CXD X.prog X.w) k f fd ps sp) (hr:A3u k X.A) (hg:Gl X x) (hm:X.mg x=some (.ref f)) (hk:keepIn X.K (.ref f)=true) (hb:A3x X.K fd ps [])
  (ha:PA X.nox (e::es) t) (hdb:(x == ("__debug__":Str))=false:=by decide) (he:starEach (e::es) X.env=(false,eval e X.env)::starEach es X.env:=by rfl) (hpl:(backTo pos (starEach es X.env)).any (·.1)=false:=by rfl) :
  PXD X (.Call (.Name x p) (e::es) [] pos) (C2u sp t):=by
 intro pins s σ H Q E I h;refine wpAny_Call_Name_kw (A2x I hg hm ?_ hdb)
 have hA:wpAny (model X.prog X.w) X.A (spliced (backTo pos (starEach (e::es) X.env))) (AP X pins σ λvs H1=>sp vs H1 Q E) (Rsd X pins σ E) s :=
  Z10 (ha pos pins s σ H _ (I.wish _) h) (by rintro us s1 ⟨vs,H1,I1,r,q⟩;exact ⟨vs,H1,I1.unwish,r,q⟩) λ_ _ z=>False.elim z
 refine PySem.W.callWith_K (h₀:=X.base) I.ok.mod.kin hk (thn hA λus s1 ⟨vs,H1,I1,r,q⟩=>⟨I1.kIn,?_⟩) he hpl;have hl:us.length=ps.length:=by rw [<-r.length];exact F.len _ _ _ _ q
 have hb':=hb s1 us I1.kIn (by simpa using hl);rw [Z0u] at hb';refine wpAny_call (codeAny_mono (F.run X.A X.stack s1 H1 ⟨us,[]⟩ us vs Q E hr I1.env0 hb' r q) λr s' hq=> ?_)
 cases r with
 | error e=>exact Rsd.of_call I1 hq
 | ok fl =>
  cases fl with
  | ret u=>exact I1.after hq
  | next=>exact False.elim hq
  | brk=>exact False.elim hq
  | cont=>exact False.elim hq
def C2n (X:Cx) (hs:List ExceptHandler) (tx:TX):TS:=λD σ H=>tx σ H (λ_ H1=>D.nx σ H1) (C0r X hs D σ)
theorem B1u {tx:TX} (hst:X.stack=X.env::X.outer/\X.env.frame=some X.env.locals) (he:PXD X e tx) (hs':swapsWith e none epos.line X.env=pure false:=by rfl) :
  PS X (.Try [.Expr e epos] (h₀::hs) [] [] pos) (C2n X (h₀::hs) tx):=by
 intro pins s σ H D I h;refine wpAny_Try_except (Z10 (Q:=λf s1=>f= .next/\∃σ' H',Inv X pins σ' H' s1/\D.nx σ' H') (E:=Rsd X pins σ (C0r X (h₀::hs) D σ)) ?_ (λf s1 q=> ?_) λev s1 hc=>B0k hst hc)
 ·exact wpAny_execs_cons (wpAny_Expr_any (thn (he pins s σ H _ _ I h) (by rintro v s1 ⟨y,H1,I1,r1,q1⟩;exact Z2b ⟨rfl,σ,H1,I1,q1⟩)) I.quiet hs')
 ·obtain ⟨rfl,q⟩:=q;exact Z2b q
end
end L2
namespace PySem.W
open PySem PySem.Spec PySem.Calls PyProof.Rows PySem.Builtin.ObjectAttr PySem.Builtin
section
variable {prog:Program} {w:World} {A:Around} {s:Shared} {K:Frag} {x C:Addr}
end
end PySem.W
namespace L2
open PySem PySem.Spec PyProof.Rows
section
variable {X:Cx} {pins:List (Addr×Obj)} {σ:St} {H:Hp} {s:Shared} {dx:Addr} {fs fs':List (Str×V)} {h':Heap} {t':Nat}
end
theorem xcG.kit {ea C:Addr} {od:Option Addr} {h:Heap} (p:xcG ea C od h):PySem.W.KitE ea C h:=by
 obtain ⟨o,vs,ho,hc,_⟩:=p;exact ⟨o,ho,hc⟩
def C4x (K:Frag):List V->Hp->VK->Prop:=λxs H Q=>∃ea C od c b,xs=[.ref ea,c]/\H ea=some (.ext (xcG ea C od))/\PySem.W.XcIn K C/\(∀u,A1l c u->kitOne K (.ref C) u=some b)/\Q (.bl b) H
theorem A5b {X:Cx} {K:Frag} (hK:X.K=K):B1k X (.builtin "isinstance") (C4x K):=by
 subst hK;intro pins s σ H xs us Q I r h;obtain ⟨ea,C,od,c,b,rfl,he,xc,k,q⟩:=h;obtain ⟨u,w',rfl,ru,rw'⟩:=C4u r;cases ru;exact PySem.W.kia_one (PySem.W.kitx_exc xc) I.kIn (xcG.kit (I.hok ea _ he).1) (k w' rw') (λz=>nomatch z) λtk=>⟨.bl b,H,I.tok tk,rfl,q⟩
abbrev B1c (A:Around):Around:={ A with handled:=none }
def A7n (k:Nat) (A:Around):Prop:=A3u k (B1c A)
theorem A7n.deeper {k:Nat} {A:Around} (r:A7n (k+1) A) (env:Env):A7n k (A.deeper env):=A3u.deeper r env
theorem A7n.depth {k:Nat} {A:Around} (r:A7n k A):A.depth<recursionLimit:=A3u.depth (A:=B1c A) r
theorem A3u.held {k:Nat} {A:Around} (r:A3u k A) (h:Option Value):A7n k (A.mark h):=⟨rfl,r.dp,r.un,r.gd⟩
noncomputable abbrev cxH (CX:CXT) (P:Program) (w:World) (K:Frag) (mg:Str->Option Value) (base:Heap) (N:List Str) (qual:Str) (scope:Scope) (f:Addr) (cd:Value) (A:Around) (outer:List Env) (s:Shared) (H:Hp) (E:XK):Cx :=
 { B6k CX P w K mg base N qual scope f cd A outer s H E with calm:=false }
theorem B3d {CX:CXT} {P:Program} {w:World} {K:Frag} {mg:Str->Option Value} {base:Heap} {N ps:List Str} {qual:Str} {scope:Scope} {f:Addr} {cd:Value} {A:Around} {outer:List Env} {s s1:Shared} {H:Hp} {E:XK} {us:List Value} {vs:List V}
  (S:A0n N ps scope) (e0:B6j P w K mg base A outer s H) (hl:vs.length=ps.length) (r:A1k vs us)
  (x:InCallC s s.heap.objs.size (bindL (envOfC qual scope s.heap.objs.size f cd).kindOf (ps.zip us) λ_=>none) (cellsFrom (s.heap.objs.size+1) scope.names []) (bindC (envOfC qual scope s.heap.objs.size f cd).kindOf (ps.zip us) λ_=>none) s1) :
  Inv (cxH CX P w K mg base N qual scope f cd A outer s H E) [] (A6a N vs) H s1:=by
 have e1:B6j P w K mg base (B1c A) outer s H:=⟨e0.frames,e0.mod,e0.bs,e0.bsz,e0.funs,e0.frf,e0.hok,e0.bare⟩;have I:=B0c (CX:=CX) (E:=E) S rfl e1 hl r x;have ok:=I.ok
 exact ⟨⟨ok.mod,ok.kind,ok.glob,ok.blt,ok.above,ok.inj,ok.has,ok.cab,(λz=>nomatch z),Around.frames_deeper e0.frames,ok.stk,ok.exf,ok.bs,ok.bsz,ok.noex,ok.exfs,ok.funs,ok.frf⟩,
  I.os,I.bare,I.base,I.loc,I.cell,I.free,I.freeC,I.pin,I.hok,I.len⟩
section
variable {P:Program} {w:World} {K:Frag} {mg:Str->Option Value} {base:Heap}
end
section
variable {X:Cx} {CX:CXT} {k:Nat} {f:Addr} {fd:FuncData} {ps:List Str} {sp:Sp} {dvs:List V} {ds:List Value} {E:XK} {x:Str} {p pos:Pos} {e:Expr} {es:List Expr} {t:TA}
end
section
variable {X:Cx}
end
abbrev B5u (ea:Addr):Around->Prop:=λA=>A.handled=some (.ref ea)
section
variable {X:Cx} {tg:Expr}
end
structure C0l (ea:Addr) (P:Program) (w:World) (K:Frag) (mg:Str->Option Value) (base:Heap) (CX:CXT) (k:Nat) (f:Addr) (fd:FuncData) (ps:List Str) (sp:Sp):Prop where
 len:∀vs H Q E,sp vs H Q E->vs.length=ps.length
 run:∀(A:Around) (outer:List Env) (s:Shared) (H:Hp) (args:Args) (us:List Value) (vs:List V) (Q:VK) (E:XK),A7n k A->A.handled=some (.ref ea)->B6j P w K mg base A outer s H->BindsTo s fd args (ps.zip us)->A1k vs us->sp vs H Q E->
  codeAny (model P w) A (.call (.ref f) args) (CR CX outer P w H s Q E) s
section
variable {P:Program} {w:World} {K:Frag} {mg:Str->Option Value} {base:Heap}
theorem Fun.okE {ea:Addr} {x qual:Str} {st:Stmt} {f:Addr} {fd:FuncData} {N ps:List Str} {k:Nat} {sp:Sp} (F:Fun K x qual st f fd) (S:A0n N ps (A0h st)) (len:∀vs H Q E,sp vs H Q E->vs.length=ps.length)
  (hbody:∀(cdv:Value) (A:Around) (outer:List Env) (s:Shared) (H:Hp) (vs:List V) (Q:VK) (E:XK),A7n k (A.deeper (envOfC qual (A0h st) s.heap.objs.size f cdv))->B5u ea (A.deeper (envOfC qual (A0h st) s.heap.objs.size f cdv))->sp vs H Q E->
   ∃t,PSs (cxH CX0 P w K mg base N qual (A0h st) f cdv A outer s H E).nox (A3a st) t/\t { nx:=λ_ H'=>Q .non H',rt:=Q } (A6a N vs) H):C0l ea P w K mg base CX0 (k+1) f fd ps sp:=by
 obtain ⟨oc,od,kV,doc,pm,an,cdv,ct,osl,rfl,lk,hcd⟩:=F.ex;refine ⟨len,λA outer s H args us vs Q E hr hh e0 hb r hsp=> ?_⟩;have stay:∀b o,base.get? b=some o->s.heap.get? b=some o:=λb o e=>(e0.bs b o e).1;have kin:=e0.mod.kin.keeps stay;have nl:=e0.mod.nolimit.keeps stay;have hl:vs.length=ps.length:=len _ _ _ _ hsp
 have kinds:∀y∈ps.zip us,(A0h st).names.lookup y.1=some .local\/((A0h st).names.lookup y.1=some .cell/\((cellsFrom (s.heap.objs.size+1) (A0h st).names []).lookup y.1).isSome=true):=by
  rintro ⟨n,v⟩ hy;exact (S.par n (List.of_mem_zip hy).1).imp id λq=>⟨q,PySem.W.cellsFrom_some _ _ _ (.inl q)⟩
 refine codeAny_call_function (A7n.depth hr) (kin _ _ lk) rfl S.co S.gen rfl
  (PySem.W.codeRec_of kin hcd) (hb _ _ _ _ (wpAny_newFunctionEnv_cells S.kind kinds λenv he s1 x=> ?_))
 cases he
 refine ⟨nl.keeps x.toInCall.keep,codeAny_func ?_⟩;obtain ⟨t,ht,hq⟩:=hbody cdv A outer s H vs Q E (hr.deeper _) hh hsp;have ht:=PSs.nox ht;have I:=B3d (CX:=CX0) (E:=E) S e0 hl r x;refine Z10 (ht [] s1 (A6a N vs) H _ I hq) (λfl s' hs=> ?_) λe s' hs=>hs
 cases fl with
 | ret u =>
  obtain ⟨v,σ',H',J,rv,q⟩:=hs;exact ⟨v,H',J.os,J.bare,J.base,J.hok,rv,q⟩
 | next =>
  obtain ⟨σ',H',J,q⟩:=hs;exact ⟨.non,H',J.os,J.bare,J.base,J.hok,rfl,q⟩
 | brk =>
  obtain ⟨_,_,_,q⟩:=hs;exact False.elim q
 | cont =>
  obtain ⟨_,_,_,q⟩:=hs;exact False.elim q
end
section
variable {X:Cx} {CX:CXT} {k:Nat} {f ea:Addr} {fd:FuncData} {ps:List Str} {sp:Sp} {dvs:List V} {ds:List Value} {E:XK} {x:Str} {p pos:Pos} {e:Expr} {es:List Expr} {t:TA}
theorem A8m (F:C0l ea X.prog X.w X.K X.mg X.base CX k f fd ps sp) (hr:A7n k X.A) (hh:B5u ea X.A) (hg:Gl X x) (hm:X.mg x=some (.ref f)) (hk:keepIn X.K (.ref f)=true) (hb:A3x X.K fd ps ds) (hd:A1k dvs ds) (hx:A4i CX X E)
  (ha:PA X (e::es) t) (hdb:(x == ("__debug__":Str))=false:=by decide) (he:starEach (e::es) X.env=(false,eval e X.env)::starEach es X.env:=by rfl) (hpl:(backTo pos (starEach es X.env)).any (·.1)=false:=by rfl) :
  PE X (.Call (.Name x p) (e::es) [] pos) (C0b sp dvs E t):=by
 intro pins s σ H Q I h;refine wpAny_Call_Name_kw (A2x I hg hm ?_ hdb);refine PySem.W.callWith_K (h₀:=X.base) I.ok.mod.kin hk (thn (ha pos pins s σ H _ I h) λus s1 ⟨vs,H1,I1,r,q⟩=>⟨I1.kIn,?_⟩) he hpl;have r2:=r.append hd;have hl:(us++ds).length=ps.length:=by rw [<-r2.length];exact F.len _ _ _ _ q
 refine wpAny_call (codeAny_mono (F.run X.A X.stack s1 H1 ⟨us,[]⟩ (us++ds) (vs++dvs) Q E hr hh I1.env0 (hb s1 us I1.kIn hl) r2 q) λr s' hq=> ?_);rcases r with e | fl
 ·exact hx pins σ H1 s1 e s' I1 hq
 ·cases fl with
  | ret u=>exact I1.after hq
  | _=>exact False.elim hq
end
section
variable {X:Cx} {C C':Addr} {y n:Str} {yp hpos:Pos} {b₀:Stmt} {suite:List Stmt} {rest:List ExceptHandler} {i:Nat}
def C2b (i:Nat) (C:Addr) (ts:Addr->TS):Option Addr->Addr->TS:=λod ea D σ H=>ts ea { nx:=λσ' H'=>D.nx (σ'.set i none) H',rt:=D.rt,bk:=λσ' H'=>D.bk (σ'.set i none) H',ct:=λσ' H'=>D.ct (σ'.set i none) H' } (σ.set i (some (.ref ea))) (upd H ea (.ext (xcG ea C od)))
theorem A8z {ts:Addr->TS} (hg:Gl X y) (hm:X.mg y=some (.ref C')) (q:exmOne X.K (.ref C) (.ref C')=some true) (hN:X.N.Nodup) (hi:X.N[i]? =some n) (hx:X.env.scope.names.lookup n=some .local)
  (hs:∀ea,PSs (X.held ea) (b₀::suite) (ts ea)) (hd:(y == ("__debug__":Str))=false:=by decide) :
  PHD X (.ExceptHandler (some (.Name y yp)) (some n) (b₀::suite) hpos::rest) C (C2b i C ts):=by
 intro pins σ H B ea a0 od s D F h;refine wpAny_handleBy_cons (codeAny_handlers_test ?_) (by intro q;cases q);refine A2x (X:=X.held ea) (F.inv.held ea) hg hm ?_ hd;refine (B5t F.inv.kIn F.cls q).here (codeAny_handlers_suite_as ?_);refine A5w F.fl λh' fl' up kd=> ?_;have F':=(F.go h' fl'.1 up (B4m (s:={ s with heap:=h' }) fl' (F.d.kd kd))).2;refine A6e (X:=X.held ea) (v:= .ref ea) (F'.held ea) hN hi (.inl hx) rfl (λs2 I2=> ?_) (.inr hx)
 refine Z10 (hs ea pins s2 _ _ _ I2 h) (λf s3 hf=> ?_) λ_ _ z=>False.elim z;dsimp only
 cases f with
 | next =>
  obtain ⟨σ',H',I',r⟩:=hf;exact A5a (I'.unheld F.inv.ok) hN hi hx λs4 I4=>⟨_,H',I4,r⟩
 | brk =>
  obtain ⟨σ',H',I',r⟩:=hf;exact A5a (I'.unheld F.inv.ok) hN hi hx λs4 I4=>⟨_,H',I4,r⟩
 | cont =>
  obtain ⟨σ',H',I',r⟩:=hf;exact A5a (I'.unheld F.inv.ok) hN hi hx λs4 I4=>⟨_,H',I4,r⟩
 | ret u =>
  obtain ⟨v,σ',H',I',rv,r⟩:=hf;exact A5a (I'.unheld F.inv.ok) hN hi hx λs4 I4=>⟨v,_,H',I4,rv,r⟩
end
theorem B6p {y:Str} (h:PyData.strOk y=true):(reprText y).length<=10*y.length+2:=by
 refine StrLaws.reprText_len y λc hc=> ?_;have h2:∀(i:Nat) (x:i<y.cps.size),y.cps[i]<1114112:=by simpa [PyData.strOk] using h
 obtain ⟨i,hi,e⟩:=List.mem_iff_getElem.mp hc;have:=h2 i (by simpa using hi);rw [<-e];exact Z0q (by simpa using this) (by decide)
def C1n (te:TE) (tr:TJ):TJ:=λσ H out Q=>te σ H λx H1=>∃y:Str,x= .str y/\PyData.strOk y=true/\out.length+10*y.length+2<=sizeLine/\∀z:Str,z.length<=10*y.length+2->tr σ H1 (out++z) Q
section
variable {X:Cx} {e:Expr} {es:List Expr} {te:TE} {tr:TJ} {pos p2:Pos}
theorem C0j (he:PE X e te) (hr:PJ X es tr) (hs:evalEach (.FormattedValue e 114 none pos::es) X.env=eval (.FormattedValue e 114 none pos) X.env::evalEach es X.env:=by rfl):PJ X (.FormattedValue e 114 none pos::es) (C1n te tr):=by
 intro pins s σ H out Q I h;rw [hs];refine joinParts_cons (wpAny_FormattedValue_repr (thn (he pins s σ H _ I h) ?_));rintro v s1 ⟨x,H1,I1,rx,y,ex,oky,hz,q⟩;subst ex;obtain ⟨t,rfl⟩:=(show∃t,v=Value.str y t from rx);have hl:=B6p oky;refine pyReprObj_str ?_ (by lia);refine formatField_str (λt' tk=>⟨?_,hr pins _ σ H1 _ Q ((I1.tok _).tok tk) (q _ hl)⟩) (by lia);rw [strLen_append];lia
end
end L2
namespace HT
open PySem PySem.Spec PyProof.Rows L2
section
variable {prog:Program} {w:World} {A:Around} {E:Value->Shared->Prop} {s:Shared}
theorem getItem_tuple_all {t sl:Addr} {items:Array Value} {vl vu:Value} {lo hi:Option Int} {Q:Value->Shared->Prop} (ht:IsTup s.heap t items) (hs:s.heap.IsSliceOf sl vl vu .none) (pl:IsPart vl lo) (pu:IsPart vu hi)
  (hw:sIx items.size 0 lo=0/\sIx items.size items.size hi=items.size) (h:Q (.ref t) s):wpAny (model prog w) A (getItem (.ref t) (.ref sl)) Q E s:=by
 obtain ⟨os,hos,hcs,hds⟩:=id hs;have hTs:s.TypeIs (.ref sl) "slice":=⟨os,hos,hcs⟩;unfold getItem
 try with_reducible refine Z1w ?_
 first | refine Z00 (Z04 ?_) | skip
 refine Z00 (wpAny_sequenceKey ht.typeIs (by decide) ?_)
 refine Z00 (Z1b (name:=Str.ofString "__getitem__") ht.typeIs Z2k
  (Z1g Z2k ht.typeIs entry_tuple_getitem ?_ (args_tuple_getitem _ _)))
 show wpAny _ _ (Builtin.Tuple.tupleItemsOf (.ref t) >>= _) _ _ s;refine Z00 (tupleItemsOf_ ht ?_);refine Z00 (wpAny_typeOf hTs ?_);rw [Z12 (by decide)];refine Z00 (A3r hs pl pu ?_)
 have hyes:(((sIx items.size 0 lo:Nat):Int) == 0&&(1:Int) == 1&&(sIx items.size items.size hi-sIx items.size 0 lo) == items.size)=true:=by
  rw [hw.1,hw.2];simp
 show wpAny _ _ (if (((sIx items.size 0 lo:Nat):Int) == 0&&(1:Int) == 1&&(sIx items.size items.size hi-sIx items.size 0 lo) == items.size)=true then _ else _) _ _ s;rw [Z12 hyes];refine Z00 ?_;unfold Builtin.Tuple.tupleIsExact;refine Z00 (wpAny_typeOf ht.typeIs (Z04 ?_));rw [Z12 (by decide)]
 first
  | exact Z00 (wpAny_rule (Z04 ⟨_,rfl,Z04 h⟩))
  | exact Z00 (Z04 (Z04 ⟨_,rfl,Z04 h⟩))
  | exact Z04 ⟨_,rfl,Z04 h⟩
  | skip
 done
end
end HT
namespace L2
open PySem PySem.Spec PyProof.Rows
section
variable {X:Cx}
theorem B7k {xs:List V} {lo hi:Option Int} (h:HT.sIx xs.length 0 lo=0/\HT.sIx xs.length xs.length hi=xs.length):B1b xs lo hi=xs:=by
 unfold B1b;rw [h.1,h.2,List.drop_zero,Nat.sub_zero,Z18]
def rSlA:V->Option Int->Option Int->Hp->VK->Prop:=λx lo hi H Q=>∃a xs,x= .ref a/\H a=some (.tup xs)/\∀p H',A0z H H'->H' p=some (.tup (B1b xs lo hi))->Q (.ref p) H'
theorem C1c:SlR X rSlA:=by
 intro pins s σ H x v vl vu lo hi sl Q I rx hs pl pu h;obtain ⟨a,xs,rfl,hx,q⟩:=h;cases rx;obtain ⟨its,r,ht,hz⟩:=I.tuple (SqT.of hx);have hlen:its.toArray.size=xs.length:=by rw [Z0g];exact r.length.symm
 refine ⟨"tuple",_,Z2k.lookup,ht.typeIs,?_⟩;by_cases hw:HT.sIx xs.length 0 lo=0/\HT.sIx xs.length xs.length hi=xs.length
 ·refine HT.getItem_tuple_all ht hs pl pu (by rw [hlen];exact hw) ?_;exact ⟨.ref a,H,I,rfl,q a H (A0z.refl _) (by rw [B7k hw];exact hx)⟩
 ·refine HT.getItem_tuple_cut ht hs pl pu (by rw [hlen];exact hw) ?_ (by rw [hlen];exact hz);rw [hlen];have fr:=I.hok.fresh (Z09 _);refine ⟨.ref s.heap.objs.size,_,I.laid (t':=s.toks) (o:= .tup (B1b xs lo hi)) (λb ob q=>Z01 _ q) (Z09 _) ?_,rfl,q _ _ (A0j fr) A0d⟩;exact ⟨Z1n (A6p xs lo hi) hz,_,(r.drop (HT.sIx xs.length 0 lo)).take (HT.sIx xs.length xs.length hi-HT.sIx xs.length 0 lo),IsTup.new _ _⟩
theorem C0c {α:Type} {f:α->V} {ys:List α} {i:Nat}:B1b (ys.map f) none (some (i:Int))=(ys.take i).map f:=by
 unfold B1b;have e1:HT.sIx (ys.map f).length 0 none=0:=rfl;have e2:HT.sIx (ys.map f).length (ys.map f).length (some (i:Int))=min i (ys.map f).length:=HT.sIx_nat _ _ _;rw [e1,e2,List.drop_zero,Nat.sub_zero,List.map_take];by_cases h:i<=(ys.map f).length
 ·rw [Nat.min_eq_left h]
 ·rw [Nat.min_eq_right (by lia),Z2l (Z09 _),Z2l (by lia)]
end
section
variable {D:Addr} {g:TG} {tc:TT} {te:TE} {QD:Hp->Prop} {σ₀:St} {H:Hp}
theorem A6l {J:It} (n:Nat) (Pv:Nat->List V->Hp->Prop) (h0:Pv 0 [] (upd H D (.lst []))) (hgo:∀i ys H,i<n->Pv i ys H->J.go i H) (hst:∀ys H,Pv n ys H->J.stop n H)
  (hs:∀i ys H,i<n->Pv i ys H->∀x H3,J.yld i H x H3->g x σ₀ H3 λσ4 H4=>A1x σ₀ σ4/\tc σ4 H4 λb H5=>if b=true then te σ4 H5 (λy H5=>H5 D=some (.lst ys)/\ys.length<sizeLine/\Pv (i+1) (ys++[y]) (upd H5 D (.lst (ys++[y])))) else Pv (i+1) ys H5) (hd:∀ys H,Pv n ys H->QD H) :
  ∃W:Nat->Nat->Hp->Prop,(∃m,W 0 m (upd H D (.lst [])))/\∀i m H2,W i m H2->
   (J.stop i H2/\QD H2)\/(J.go i H2/\∃(N:VK) (M:Hp->Prop),(∀y H5,N y H5->∃xs,H5 D=some (.lst xs)/\xs.length<sizeLine/\∃m',m'<m/\W (i+1) m' (upd H5 D (.lst (xs++[y]))))/\(∀H5,M H5->∃m',m'<m/\W (i+1) m' H5)/\
    ∀x H3,J.yld i H2 x H3->g x σ₀ H3 λσ4 H4=>A1x σ₀ σ4/\tc σ4 H4 λb H5=>if b=true then te σ4 H5 N else M H5):=by
 refine ⟨λi m H=>m=n-i/\i<=n/\∃ys,Pv i ys H,⟨n,by simp,Z1e _,[],h0⟩,?_⟩;rintro i m H2 ⟨rfl,hi,ys,p⟩;by_cases hlt:i<n
 ·exact .inr ⟨hgo i ys H2 hlt p,λy H5=>H5 D=some (.lst ys)/\ys.length<sizeLine/\Pv (i+1) (ys++[y]) (upd H5 D (.lst (ys++[y]))),λH5=>Pv (i+1) ys H5,λy H5 q=>⟨ys,q.1,q.2.1,n-(i+1),by lia,rfl,hlt,_,q.2.2⟩,λH5 q=>⟨n-(i+1),by lia,rfl,hlt,_,q⟩,λx H3 z=>hs i ys H2 hlt p x H3 z⟩
 ·have e:i=n:=by lia
  subst e;exact .inl ⟨hst ys H2 p,hd ys H2 p⟩
end
theorem A4w.up {P:Program} {w:World} {K:Frag} {mg:Str->Option Value} {base:Heap} {CX:CXT} {k:Nat} {f:Addr} {fd:FuncData} {ps:List Str} {sp:Sp} (F:A4w P w K mg base CX0 k f fd ps sp) :
  A4w P w K mg base CX k f fd ps sp :=
 ⟨F.len,λA outer s H args us vs Q E hr he hb hv hs=>codeAny_mono (F.run A outer s H args us vs Q E hr he hb hv hs) λr s' hq=>by
  cases r with
  | error e=>exact False.elim hq
  | ok fl=>cases fl <;> exact hq⟩
def B6s (R:Addr->Sp->Prop) (E:XK) (tf:TE) (t:TA):TE:=λσ H Q=>tf σ H λx H1=>∃f sp,x= .ref f/\R f sp/\t σ H1 λvs H2=>sp vs H2 Q E
section
variable {X:Cx} {CX:CXT} {E:XK} {p pos:Pos} {e o i:Expr} {es:List Expr} {tf:TE} {t:TA}
theorem B3t {R:Addr->Sp->Prop} (hT:∀f sp,R f sp->∃fd ps k,A4w X.prog X.w X.K X.mg X.base CX k f fd ps sp/\A3u k X.A/\keepIn X.K (.ref f)=true/\A3x X.K fd ps []) (hx:A4i CX X E)
  (hf:PE X (.Subscript o i p) tf) (ha:PA X (e::es) t) (hst:starEach (e::es) X.env=(false,eval e X.env)::starEach es X.env:=by rfl) (hpl:(backTo pos (starEach es X.env)).any (·.1)=false:=by rfl) :
  PE X (.Call (.Subscript o i p) (e::es) [] pos) (B6s R E tf t):=by
 intro pins s σ H Q I h;have arm:eval (.Call (.Subscript o i p) (e::es) [] pos) X.env=(do callWith pos (<-eval (.Subscript o i p) X.env) [] (backTo pos (starEach (e::es) X.env)) (backToKw pos (keywordEach [] X.env))):=rfl;rw [arm];refine Z00 (thn (hf pins s σ H _ I h) ?_);rintro u s1 ⟨x,H1,I1,rx,f,sp,rfl,hR,q⟩;obtain rfl:u=Value.ref f:=rx;obtain ⟨fd,ps,k,F,hr,hk,hb⟩:=hT f sp hR;refine PySem.W.callWith_K (h₀:=X.base) I.ok.mod.kin hk (thn (ha pos pins s1 σ H1 _ I1 q) ?_) hst hpl;rintro us s2 ⟨vs,H2,I2,r,q2⟩;exact ⟨I2.kIn,B1v (ds:=[]) (dvs:=[]) F hr hb .nil hx I2 r (by rw [Z0u];exact q2)⟩
end
theorem C2r {α:Type} {f:α->Int} {c:Int}:∀{l:List α},(l.map f).Nodup->(l.filter λx=>f x == c).length<=1
 | [],_=>by simp
 | x::r,h=>by
  rw [Z0p,Z15] at h;by_cases e:f x=c
  ·have:r.filter (λx=>f x == c)=[]:=by
    rw [List.filter_eq_nil_iff];intro y hy z;have:f y=c:=by simpa using z
    exact h.1 (by rw [e,<-this];exact Z2c.mpr ⟨y,hy,rfl⟩)
   rw [List.filter_cons,Z12 (by simpa using e),this];simp
  ·rw [List.filter_cons,Z0t (by simpa using e)];exact C2r h.2
theorem B2f {α β γ δ:Type} {F:(α×β)->(α×γ)->Prop} {g:α->δ} (h:∀p q,F p q->p.1=q.1):∀{l:List (α×β)} {m:List (α×γ)},Paired F l m->m.map (λx=>g x.1)=l.map λx=>g x.1
 | _,_,.nil=>rfl
 | _,_,.cons z r=>by rw [Z0p,Z0p,B2f h r,h _ _ z]
def A4x (P:Program) (w:World) (k:List Key):Int:=(tupleKind (A0t P w)).hash k
section
variable {prog:Program} {w:World} {A:Around} {E:Value->Shared->Prop} {s:Shared}
theorem A5z {id:String} {d:Addr} {o:Obj} {es:Array DictEntry} {ep:Nat} {xs:List (List Key×Addr×Value)} {Q:Array DictEntry->Shared->Prop} (ho:s.heap.get? d=some o) (hd:o.data= .dict es ep)
  (he:es.toList=xs.map (entryOfKey (tupleKind (A0t prog w)))) (hk:∀x∈xs,(tupleKind (A0t prog w)).is s.heap x.1 x.2.1) (hn:(xs.map λx=>A4x prog w x.1).Nodup) (h:Q es s) :
  wpAny (model prog w) A (Builtin.Dict.entriesForEmpty id d) Q E s:=by
 unfold Builtin.Dict.entriesForEmpty;refine Z00 (wpAny_dictEntries ho hd ?_);refine Z00 ?_;rw [<-Array.forIn_toList];refine wpAny_forIn_list _ (λrest _ s'=>s'=s/\∀e∈rest,e∈es.toList) _ ?_ ?_ _ _ ⟨rfl,λe z=>z⟩
 ·rintro e rest b s' ⟨rfl,hm⟩;have hin:=hm e Z27;rw [he] at hin;obtain ⟨x,hx,rfl⟩:=Z2c.mp hin;have ty:s'.TypeIs (.ref x.2.1) "tuple":=IsTupleKey.typeIs (hk x hx);show wpAny _ _ (Builtin.Dict.quietEq (.ref x.2.1) >>= _) _ _ _;refine Z00 ?_;unfold Builtin.Dict.quietEq;refine Z00 (wpAny_specialOf ty F.slot_tuple_eq.lookup (Z04 ?_))
  have hsz:¬((es.filter (·.hash == (entryOfKey (tupleKind (A0t prog w)) x).hash)).size>1):=by
   have e1:(es.filter (·.hash == (entryOfKey (tupleKind (A0t prog w)) x).hash)).size=(es.toList.filter (·.hash == (entryOfKey (tupleKind (A0t prog w)) x).hash)).length:=by
    rw [<-Array.length_toList,Array.toList_filter]
   rw [e1,he];have:=C2r (f:=λe:DictEntry=>e.hash) (c:=(entryOfKey (tupleKind (A0t prog w)) x).hash) (l:=xs.map (entryOfKey (tupleKind (A0t prog w)))) (by rw [List.map_map];exact hn)
   lia
  have hq:(some (Value.builtin "tuple.__eq__") == some (Value.builtin "object.__eq__"))=false:=by decide
  first
   | (rw [hq];simp only [Bool.not_false,if_true];rw [Z0t hsz];exact Z04 ⟨rfl,λe' z=>hm e' (Z1f _ z)⟩)
   | (simp only [hq,Bool.not_false,if_true,Z0t hsz];exact Z04 ⟨rfl,λe' z=>hm e' (Z1f _ z)⟩)
 ·rintro b s' ⟨rfl,_⟩;exact Z04 h
theorem B2w {nm:String} {d o:Addr} {od oo:Obj} {eso:Array DictEntry} {epd epo:Nat} {xs:List (List Key×Addr×Value)} {Q:Unit->Shared->Prop} (hdo:d≠o) (hoS:(o == sysModules)=false)
  (hod:s.heap.get? d=some od) (hcd:od.ExactDict) (hdd:od.data= .dict #[] epd) (hoo:s.heap.get? o=some oo) (hdo':oo.data= .dict eso epo)
  (he:eso.toList=xs.map (entryOfKey (tupleKind (A0t prog w)))) (hk:∀x∈xs,(tupleKind (A0t prog w)).is s.heap x.1 x.2.1) (hn:(xs.map λx=>A4x prog w x.1).Nodup) (hsz:xs.length<=sizeLine)
  (hQ:∀h' ob ep,h'.get? d=some ob->ob.ExactDict->ob.data= .dict eso ep->Heap.SameBut d s.heap h'->Q () { s with heap:=h' }) :
  wpAny (model prog w) A (Builtin.Dict.mergeDict nm d o) Q E s:=by
 have hlen:xs.length=eso.size:=by have:=congrArg List.length he;simpa using this.symm
 unfold Builtin.Dict.mergeDict;rw [Z0t (by simpa using hdo)];unfold Builtin.Dict.showsAll;rw [Z0t (by rw [hoS];exact Z0v)];refine Z00 (Z04 ?_);refine Z00 (wpAny_dictEntries hoo hdo' ?_);dsimp only;by_cases hx:xs=[]
 ·have h0:eso= #[]:=by
   have:eso.toList=[]:=by rw [he,hx];rfl
   exact Array.toList_eq_nil_iff.mp this
  subst h0;rw [Z0t (by simp)];refine Z00 (wpAny_dictEpoch hoo hdo' ?_);refine Z00 (wpAny_dictEntries hoo hdo' ?_);refine Z00 ?_;rw [Std.Legacy.Range.forIn_eq_forIn_range'];exact Z04 (Z04 (hQ _ od epd hod hcd hdd (Heap.SameBut.refl _ _)))
 ·obtain ⟨x,r,rfl⟩:∃x r,xs=x::r:=by
   cases xs with
   | nil=>exact absurd rfl hx
   | cons x r=>exact ⟨x,r,rfl⟩
  have hf:(decide (eso.size<=8)&&eso.all λe=>(keyPart e.key).isSome)=false:=by
   have:(eso.all λe=>(keyPart e.key).isSome)=false:=by
    rw [<-Array.all_toList,he];rfl
   rw [this,Bool.and_false]
  rw [hf];rw [Z12 (by decide)];refine Z00 (wpAny_dictEntries hod hdd ?_);rw [Z12 (by decide)];refine Z00 (A5z hoo hdo' he hk hn ?_)
  have hne:(!eso.isEmpty)=true:=by
   have:eso≠#[]:=λz=>by rw [z] at he;cases he
   simpa using this
  rw [Z12 hne];have hto:eso.size<=sizeLine+1:=by lia
  exact Z00 (wpAny_updateDictKeysTo hod hdd (Z04 (hQ _ _ (epd+1) (Z1r _ hod (Obj.isFreed_of_dict (Obj.data_mapDictKeys hdd _))) (hcd.mapDictKeys _) (Obj.data_mapDictKeys hdd _) (Heap.SameBut.update ..))) hto)
theorem B0z {o:Addr} {oo:Obj} {eso:Array DictEntry} {epo:Nat} {xs:List (List Key×Addr×Value)} {Q:Value->Shared->Prop} (hoS:(o == sysModules)=false) (hoo:s.heap.get? o=some oo) (hco:oo.ExactDict) (hdo':oo.data= .dict eso epo)
  (he:eso.toList=xs.map (entryOfKey (tupleKind (A0t prog w)))) (hk:∀x∈xs,(tupleKind (A0t prog w)).is s.heap x.1 x.2.1) (hn:(xs.map λx=>A4x prog w x.1).Nodup) (hsz:xs.length<=sizeLine)
  (h:∀h' ob ep,h'.get? s.heap.objs.size=some ob->ob.ExactDict->ob.data= .dict eso ep->Heap.SameBut s.heap.objs.size (s.heap.push { cls:= .type "dict",data:= .dict #[] }) h'->Q (.ref s.heap.objs.size) { s with heap:=h' }) :
  wpAny (model prog w) A (call (.type "dict") [.ref o]) Q E s:=by
 refine callType_codes (Q₁:=λobj s₁=>obj= .ref s.heap.objs.size/\s₁={ s with heap:=s.heap.push { cls:= .type "dict",data:= .dict #[] } }) F.kt_called_dict (F.kt_typeCall_dict_1 _) F.entry_dict_init (kt_code_dict_new _ ⟨rfl,rfl⟩) ?_;rintro obj s₁ ⟨rfl,rfl⟩;have hnew:(s.heap.push { cls:= .type "dict",data:= .dict #[] }).get? s.heap.objs.size=some { cls:= .type "dict",data:= .dict #[] }:=Z0c _ rfl;have ho':(s.heap.push { cls:= .type "dict",data:= .dict #[] }).get? o=some oo:=Z01 _ hoo;have tn:({ s with heap:=s.heap.push { cls:= .type "dict",data:= .dict #[] } }:Shared).TypeIs (.ref s.heap.objs.size) "dict":=⟨_,hnew,rfl⟩;have to:({ s with heap:=s.heap.push { cls:= .type "dict",data:= .dict #[] } }:Shared).TypeIs (.ref o) "dict":=⟨_,ho',hco.1⟩;have hdo:s.heap.objs.size≠o:=λe=>absurd (Z0a hoo) (by rw [e];exact Nat.lt_irrefl _)
 refine ⟨tn,F.args_dict_init_2 _ _,?_⟩;unfold Builtin.«dict.__init__»;refine Z00 ?_;unfold Builtin.Dict.selfAndRest;refine Z00 (wpAny_notOrdered_dict tn ?_);show wpAny _ _ (pure (s.heap.objs.size,[Value.ref o])) _ _ _;refine Z04 ?_;show wpAny _ _ (Builtin.Dict.updateFrom "dict.__init__" s.heap.objs.size (.ref o) [] .none) _ _ _;unfold Builtin.Dict.updateFrom;refine Z00 (wpAny_typeOf to ?_);rw [Z0t (by decide)];refine Z00 ?_;unfold Builtin.Dict.merge;refine Z00 ?_;unfold Builtin.Dict.readDirectly;refine Z00 (wpAny_isInstance to isSubtype_dict_dict ?_);simp only [Bool.not_true,Bool.false_eq_true,if_false];refine Z00 (wpAny_specialOf to F.slot_dict_iter.lookup (Z04 ?_));simp only [beq_self_eq_true,if_true];refine Z00 (Z04 ?_)
 have kx:∀x∈xs,(tupleKind (A0t prog w)).is (s.heap.push { cls:= .type "dict",data:= .dict #[] }) x.1 x.2.1:=λx hx=>by
  obtain ⟨o',items,n,h1,h2⟩:=hk x hx;exact ⟨o',items,n,Z01 _ h1,h2⟩
 refine B2w hdo hoS hnew ⟨rfl,rfl,rfl⟩ rfl ho' hdo' he kx hn hsz λh' ob ep e1 e2 e3 hs'=> ?_;show wpAny _ _ (Builtin.Dict.addKeywords s.heap.objs.size [] >>= _) _ _ _;exact Z00 (Z04 (Z04 ⟨rfl,h h' ob ep e1 e2 e3 hs'⟩))
end
section
variable {X:Cx}
theorem A4c:B1k X (.type "dict") (λxs H Q=>∃a kvs,xs=[V.ref a]/\Rd H a (.dT kvs)/\(kvs.map λe=>A4x X.prog X.w e.1).Nodup/\∀p,H p=none->Q (.ref p) (upd H p (.dT kvs))):=by
 intro pins s σ H xs us Q I r h;obtain ⟨a,kvs,rfl,ha,hh,q⟩:=h;obtain ⟨u,rfl,ru⟩:=B7q r;cases ru;obtain ⟨hz,hs,ys,rel,o,es,ep,h1,h2,h3,h4,h5,h6⟩:=B1d I.hok ha;have el:ys.map (λx=>A4x X.prog X.w x.1)=kvs.map λe=>A4x X.prog X.w e.1:=B2f (λ_ _ z=>z.1) rel;have hl:ys.length<=sizeLine:=by rw [<-Paired.length rel];exact hz
 refine B0z (xs:=ys) hs h1 h2 h3 h4 h5 (by rw [el];exact hh) hl λh' ob ep' e1 e2 e3 sb=> ?_;have hn:=I.hok.fresh (Z09 s.heap.objs.size);have kp:∀b u,s.heap.get? b=some u->h'.get? b=some u:=λb u e=>(sb.2 b (Z0h (Z0a e))).trans (Z01 _ e)
 have hsy:(s.heap.objs.size == sysModules)=false:=by
  have:=I.big;have hne:s.heap.objs.size≠sysModules:=Z1q this
  simpa using hne
 exact ⟨.ref s.heap.objs.size,_,I.laid (t':=s.toks) (o:= .dT kvs) kp (Z09 _) ⟨hz,hsy,ys,Paired.mapP rel (λ_ _ z=>⟨z.1,by rw [A0g (A0i z.2.1 hn)];exact z.2.1,z.2.2⟩),ob,es,ep',e1,e2,e3,h4,h6⟩,rfl,q _ hn⟩
end
end L2
namespace My
open PySem L2
def Sm (z:Int):Prop:=z.natAbs<=10^32
def C6e (x:Str):Prop:=x.length<=20/\PyData.strOk x=true
theorem B5n {n:Nat} (h:n<10^33):(Str.ofString (Nat.repr n)).length<=33:=by
 rw [PyProof.Rows.ofString_len]
 simpa [Nat.repr] using PySem.toDigits_len_pow (b:=10) (k:=33) (by decide) (by decide) h
theorem B9u (a b:String):Str.ofString (a++b)=Str.ofString a++Str.ofString b:=by
 rw [Str.ofString_eq_toList,Str.ofString_eq_toList,Str.ofString_eq_toList];apply Str.ext';simp [Str.cps_append,String.toList_append]
theorem B0o {z:Int} (h:Sm z):(toString z:Str).length<=34:=by
 unfold Sm at h
 cases z with
 | ofNat m =>
  have hm:m<10^33:=Z2d (show m<=10^32 from h) (by decide);exact Nat.le_succ_of_le (B5n hm)
 | negSucc m =>
  have hm:m+1<10^33:=Z2d (show m+1<=10^32 from h) (by decide);have e:(toString (Int.negSucc m):Str)=Str.ofString "-"++Str.ofString (Nat.repr (m+1)):=B9u "-" (Nat.repr (m+1));rw [e,Str.length_append];have h1:=B5n hm;have h2:(Str.ofString "-").length=1:=by decide +kernel
  lia
theorem B5l {z:Int} (h:Sm z):z.natAbs.log2<1920:=by
 by_cases h0:z.natAbs=0
 ·rw [h0];decide
 ·exact (Nat.log2_lt h0).mpr (Z2d h (Z0q (show 10^32<2^110 by decide) (Nat.pow_le_pow_right (by decide) (by decide))))
section
variable {G:Hp} {v:V}
end
theorem B0e {H:Hp}:∀ns:List Int,C1e H (ns.map V.int) (ns.map PyData.int)
 | []=> .nil
 | n::r=> .cons (.int n) (B0e r)
theorem A9i:∀ns:List Int,PyData.canLayAll0 (ns.map PyData.int)=true/\PyData.depthAll (ns.map PyData.int)=0/\PyData.eqvAll (ns.map PyData.int) (ns.map PyData.int)=true
 | []=>⟨rfl,rfl,rfl⟩
 | n::r=>by
  obtain ⟨h1,h2,h3⟩:=A9i r;simp [PyData.canLayAll0,PyData.canLay0,PyData.depthAll,PyData.depth,PyData.eqvAll,PyData.eqv,h1,h2,h3]
def top (i:Nat):Stmt:=PySem.Challenge.pw_arrayloom_k73_the_machine_refuses.main.body.getD i (.Pass ⟨0,0,0,0⟩)
abbrev C5l:Stmt:=top 7
abbrev A2z:Stmt:=A4a (top 8) 0
abbrev A3p:Stmt:=A4a (top 8) 1
abbrev A1u:Stmt:=A4a (top 8) 2
abbrev A2g:Stmt:=A4a (top 8) 3
abbrev A2d:Stmt:=A4a (top 8) 4
abbrev A2h:Stmt:=A4a (top 8) 5
abbrev A1w:Stmt:=A4a (top 8) 6
abbrev A2i:Stmt:=A4a (top 8) 7
abbrev A7a:Stmt:=top 9
abbrev A7q:Stmt:=top 10
abbrev A7c:Stmt:=top 11
abbrev A5g:Stmt:=top 12
abbrev A5q:Stmt:=top 13
abbrev A7b:Stmt:=top 14
abbrev A5p:Stmt:=top 15
abbrev A4n:Stmt:=top 16
abbrev A7i:Stmt:=top 17
abbrev A6s:Stmt:=top 18
abbrev A9m:Stmt:=top 19
abbrev A7v:Stmt:=top 20
abbrev A9y:Stmt:=top 21
abbrev A7g:Stmt:=top 22
abbrev A7j:Stmt:=top 23
abbrev A4k:Stmt:=top 26
abbrev A8n:Stmt:=top 27
abbrev A4l:Stmt:=top 28
abbrev A5l:Stmt:=top 29
abbrev A8u:Stmt:=top 30
abbrev A3l:Stmt:=top 31
abbrev A8s:Stmt:=top 32
abbrev A3w:Stmt:=top 33
abbrev A8c:Stmt:=top 34
abbrev B1a:Stmt:=top 35
abbrev A6r:Stmt:=top 36
abbrev B6w:Stmt:=top 37
structure TyC (K:Frag) (C:Addr):Prop where
 ha:findIn K (.ref C) "__class__"=some (some (.builtin "object.__class__"))
 hn:specialIn K (.builtin "object.__class__") "__get__"=some (some (.builtin "getset_descriptor.__get__"))
 htk:takesIn K (.builtin "object.__class__")=some true
 hm:mroIn K C (.type "object")=some true
abbrev C3s:List Str:=["tape","wheel","homes","boxes","most"]
abbrev C4v:List Str:=["self","wheel","homes","boxes"]
abbrev B9y:List Str:=["self","array","indexes"]
abbrev C5e:List Str:=["self","counter","shift"]
abbrev C3w:List Str:=["self","box","number"]
abbrev A3b:List Str:=["machine","row"]
abbrev C4d:List Str:=["_law_script","_law_k"]
abbrev C1h:List Str:=["_law_tape","_law_wheel","_law_homes","_law_boxes","_law_most"]
abbrev C5i:List Str:=["_law_cells","_law_boxes"]
abbrev C5b:List Str:=["_law_cell","_law_size"]
abbrev C0i:List Str:=["_law_script","_law_rows","_law_homes","_law_boxes","_law_spot_here"]
abbrev C0d:List Str:=["_law_script","_law_rows","_law_homes","_law_boxes","_law_wheel","_law_spot_here"]
abbrev B9n:List Str:=["_law_script","_law_rows","_law_homes","_law_boxes","_law_wheel"]
abbrev C0p:List Str:=["machine","row","left","right"]
set_option genInjectivity false in
set_option genSizeOf false in
structure Adr where
 bz:Addr
 af:Addr
 ae:Addr
 ad:Addr
 ac:Addr
 fv:Addr
 iV:Addr
 iU:FuncData
 de:Addr
 fw:FuncData
 dw:Addr
 ge:FuncData
 bh:Addr
 dv:FuncData
 bv:Addr
 eu:FuncData
 br:Addr
 ei:FuncData
 bc:Addr
 c9:FuncData
 aw:Addr
 bg:FuncData
 c4:Addr
 fm:FuncData
 df:Addr
 ik:FuncData
 ed:Addr
 ig:FuncData
 dl:Addr
 iw:FuncData
 cf:Addr
 ie:FuncData
 ce:Addr
 i0:FuncData
 cb:Addr
 gk:FuncData
 bt:Addr
 fz:FuncData
 bd:Addr
 ft:FuncData
 dq:Addr
 ip:FuncData
 dj:Addr
 im:FuncData
 fo:Addr
 iq:FuncData
 ef:Addr
 ia:FuncData
 fc:Addr
 ir:FuncData
 cr:Addr
 hV:FuncData
 db:Addr
 hW:FuncData
 hG:Addr
 g_:FuncData
 gZ:Addr
 gz:FuncData
 hU:Addr
 hJ:FuncData
 h_:Addr
 i9:FuncData
 iG:Addr
 iz:FuncData
 gg:Addr
 gj:FuncData
 iE:Addr
 iD:FuncData
 gm:Addr
 gq:FuncData
 iF:Addr
 iB:FuncData
 iI:Addr
 iJ:FuncData
 iu:Addr
 ij:FuncData
 iS:Addr
 iT:FuncData
structure FQ (K:Frag) (mg:Str->Option Value) (x q:Str) (st:Stmt) (f:Addr) (fd:FuncData) (ps:List Str):Prop where
 F:Fun K x q st f fd
 m:mg x=some (.ref f)
 b:A3x K fd ps []
structure FM (K:Frag) (x q:Str) (st:Stmt) (f:Addr) (fd:FuncData) (ps:List Str):Prop where
 F:Fun K x q st f fd
 b:A3x K fd ps []
structure Txt (K:Frag) (mg:Str->Option Value) (t:Adr):Prop where
 ib:FQ K mg "go" "go" C5l t.iV t.iU C3s
 bu:FM K "__init__" "Machine.__init__" A2z t.de t.fw C4v
 aj:FM K "put" "Machine.put" A3p t.dw t.ge ["self","number"]
 ah:FM K "two_taken" "Machine.two_taken" A1u t.bh t.dv ["self"]
 am:FM K "home_of" "Machine.home_of" A2g t.bv t.eu B9y
 az:FM K "index_at" "Machine.index_at" A2d t.br t.ei C5e
 av:FM K "box_of" "Machine.box_of" A2h t.bc t.c9 B9y
 ax:FM K "number_in" "Machine.number_in" A1w t.aw t.bg ["self","box"]
 au:FM K "put_in" "Machine.put_in" A2i t.c4 t.fm C3w
 di:FQ K mg "do_push" "do_push" A7a t.df t.ik A3b
 iO:FQ K mg "do_count" "do_count" A7q t.ed t.ig A3b
 dn:FQ K mg "do_plus" "do_plus" A7c t.dl t.iw A3b
 cg:FQ K mg "do_minus" "do_minus" A5g t.cf t.ie A3b
 cm:FQ K mg "do_times" "do_times" A5q t.ce t.i0 A3b
 fe:FQ K mg "do_load" "do_load" A7b t.cb t.gk A3b
 dy:FQ K mg "do_store" "do_store" A5p t.bt t.fz A3b
 c_:FQ K mg "do_gather" "do_gather" A4n t.bd t.ft A3b
 dh:FQ K mg "do_skip" "do_skip" A7i t.dq t.ip A3b
 dk:FQ K mg "do_jump" "do_jump" A6s t.dj t.im A3b
 iQ:FQ K mg "do_zero" "do_zero" A9m t.fo t.iq A3b
 iN:FQ K mg "do_begin" "do_begin" A7v t.ef t.ia A3b
 iR:FQ K mg "do_step" "do_step" A9y t.fc t.ir A3b
 iK:FQ K mg "do_unless" "do_unless" A7g t.cr t.hV A3b
 iM:FQ K mg "do_within" "do_within" A7j t.db t.hW A3b
 ag:FQ K mg "_law_cell_at" "_law_cell_at" A4k t.hG t.g_ C4d
 ay:FQ K mg "_law_kind" "_law_kind" A8n t.gZ t.gz ["_law_e"]
 al:FQ K mg "_law_outcome" "_law_outcome" A4l t.hU t.hJ C1h
 bj:FQ K mg "_law_caught" "_law_caught" A5l t.h_ t.i9 C1h
 c6:FQ K mg "_law_spot" "_law_spot" A8u t.iG t.iz ["_law_number"]
 b_:FQ K mg "_law_good_rows" "_law_good_rows" A3l t.gg t.gj C5i
 gc:FQ K mg "_law_bare" "_law_bare" A8s t.iE t.iD ["_law_rows","_law_boxes"]
 cc:FQ K mg "_law_bad_home" "_law_bad_home" A3w t.gm t.gq C5b
 f_:FQ K mg "_law_case" "_law_case" A8c t.iF t.iB C0i
 gn:FQ K mg "_law_bad" "_law_bad" B1a t.iI t.iJ C0d
 fh:FQ K mg "_law_round" "_law_round" A6r t.iu t.ij B9n
 iL:FQ K mg "law" "law" B6w t.iS t.iT ["_law_script"]
 gf:∃u,mg "NO_COUNTER"=some u/\A1l (.int (-1)) u
 il:∃u,mg "DOINGS"=some u/\A1l (.ref t.fv) u
 iy:B8i K t.fv [("push",V.ref t.df),("count",V.ref t.ed),("plus",V.ref t.dl),("minus",V.ref t.cf),("times",V.ref t.ce),("load",V.ref t.cb),("store",V.ref t.bt),("gather",V.ref t.bd),("skip",V.ref t.dq),("jump",V.ref t.dj),("zero",V.ref t.fo),("begin",V.ref t.ef),("step",V.ref t.fc),("unless",V.ref t.cr),("within",V.ref t.db)]
 da:mg "LoomError"=some (.ref t.bz)
 e_:mg "NoEnd"=some (.ref t.af)
 c8:mg "Outside"=some (.ref t.ae)
 cu:mg "Unwritten"=some (.ref t.ad)
 du:mroIn K t.af (.type "ValueError")=some true
 cq:mroIn K t.ae (.type "ValueError")=some true
 c5:mroIn K t.ad (.type "ValueError")=some true
 iC:excIn K t.af C1g "ValueError.__new__"=true
 fx:excIn K t.ae C1g "ValueError.__new__"=true
 gv:excIn K t.ad C1g "ValueError.__new__"=true
 iA:PySem.W.XcIn K t.af
 fy:kitOne K (.ref t.af) (.ref t.af)=some true
 fg:kitOne K (.ref t.af) (.ref t.ae)=some false
 ee:kitOne K (.ref t.af) (.ref t.ad)=some false
 hX:PySem.W.XcIn K t.ae
 fq:kitOne K (.ref t.ae) (.ref t.af)=some false
 d_:kitOne K (.ref t.ae) (.ref t.ae)=some true
 cv:kitOne K (.ref t.ae) (.ref t.ad)=some false
 gp:PySem.W.XcIn K t.ad
 dz:kitOne K (.ref t.ad) (.ref t.af)=some false
 cy:kitOne K (.ref t.ad) (.ref t.ae)=some false
 cn:kitOne K (.ref t.ad) (.ref t.ad)=some true
 g0:exmOne K (.ref t.af) (.ref t.af)=some true
 eh:exmOne K (.ref t.af) (.ref t.bz)=some true
 fj:exmOne K (.ref t.ae) (.ref t.af)=some false
 eo:exmOne K (.ref t.ae) (.ref t.ae)=some true
 cw:exmOne K (.ref t.ae) (.ref t.bz)=some true
 eg:exmOne K (.ref t.ad) (.ref t.af)=some false
 cz:exmOne K (.ref t.ad) (.ref t.ae)=some false
 cj:exmOne K (.ref t.ad) (.ref t.ad)=some true
 cp:exmOne K (.ref t.ad) (.ref t.bz)=some true
 ii:mg "Machine"=some (.ref t.ac)
 aa:Cls K t.ac
 hZ:Mk K t.ac t.de
 bb:A3q K t.ac "wheel"
 c7:A3q K t.ac "homes"
 ak:A3q K t.ac "boxes"
 et:A3q K t.ac "counts"
 ai:A3q K t.ac "stack"
 aq:A3q K t.ac "trace"
 a_:B6i K t.ac "box_of" t.bc
 bn:B6i K t.ac "home_of" t.bv
 dr:B6i K t.ac "index_at" t.br
 be:B6i K t.ac "number_in" t.aw
 ao:B6i K t.ac "put" t.dw
 bw:B6i K t.ac "put_in" t.c4
 ap:B6i K t.ac "two_taken" t.bh
 iP:TyC K t.ac
 bf:mg "len"=none
 fi:mg "list"=none
 iH:mg "tuple"=none
 bi:mg "isinstance"=none
 gl:mg "ValueError"=none
 gy:mg "dict"=none
 gu:mg "range"=none
abbrev FO (P:Program) (w:World) (base:Heap) {K:Frag} {mg:Str->Option Value} {x q:Str} {st:Stmt} {f:Addr} {fd:FuncData} {ps:List Str} (_:FQ K mg x q st f fd ps) (n:Nat) (sp:Sp):Prop:=A4w P w K mg base CX0 n f fd ps sp
abbrev FP (P:Program) (w:World) (mg:Str->Option Value) (base:Heap) {K:Frag} {x q:Str} {st:Stmt} {f:Addr} {fd:FuncData} {ps:List Str} (_:FM K x q st f fd ps) (n:Nat) (sp:Sp):Prop:=A4w P w K mg base CX0 n f fd ps sp
theorem pcl {X:Cx} {k k2:Nat} {f:Addr} {fd:FuncData} {ps:List Str} {sp:Sp} {x q:Str} {st:Stmt} {e:Expr} {es:List Expr} {t:TA} {p pos:Pos} (F:A4w X.prog X.w X.K X.mg X.base CX0 k f fd ps sp) (hr:A3u k2 X.A) (Z:FQ X.K X.mg x q st f fd ps) (ha:PA X (e::es) t) (hk:k<=k2:=by lia) (hg:Gl X x:=by rfl) (hdb:(x == ("__debug__":Str))=false:=by decide) (he:starEach (e::es) X.env=(false,eval e X.env)::starEach es X.env:=by rfl) (hpl:(backTo pos (starEach es X.env)).any (·.1)=false:=by rfl):PE X (.Call (.Name x p) (e::es) [] pos) (C0b sp [] E0 t):=B9p F (hr.mono hk) hg Z.m Z.F.kp Z.b .nil A3t ha hdb he hpl
theorem pmk {X:Cx} {C:Addr} {k k2:Nat} {f:Addr} {fd:FuncData} {ps:List Str} {sp:Sp} {x:Str} {e:Expr} {es:List Expr} {t:TA} {p pos:Pos} (M:Mk X.K C f) (F:A4w X.prog X.w X.K X.mg X.base CX0 k f fd ps sp) (hr:A3u k2 X.A) (hm:X.mg x=some (.ref C)) (hb:A3x X.K fd ps []) (ha:PA X (e::es) t) (hk:k+1<=k2:=by lia) (hg:Gl X x:=by rfl) (hdb:(x == ("__debug__":Str))=false:=by decide) (he:starEach (e::es) X.env=(false,eval e X.env)::starEach es X.env:=by rfl) (hpl:(backTo pos (starEach es X.env)).any (·.1)=false:=by rfl):PE X (.Call (.Name x p) (e::es) [] pos) (C3r C sp [] E0 t):=B9j M F (hr.mono hk) hg hm hb .nil A3t ha hdb he hpl
theorem A0k {n:Nat} (h:Nat.ble n 1000000=true):n<=sizeLine:=A1c (Nat.le_of_ble_eq_true h)
theorem C4c:(0:Int)<2:=by decide
theorem B9b:(0:Int)<3:=by decide
theorem C5q:(0:Int)<4:=by decide
theorem C1u:(0:Int)<400:=by decide
theorem nH {H:Hp} {x:Addr} {o:HO} (h:H x=none):∃H',A0z H H'/\H' x=some o/\upd H x o=H':=⟨_,A0j h,A0d,rfl⟩
abbrev Sro (a:Addr):Option V:=some (.ref a)
abbrev Sio (a:Int):Option V:=some (.int a)
abbrev Sso (a:Str):Option V:=some (.str a)
abbrev Sbo (a:Bool):Option V:=some (.bl a)
local macro_rules | `(tactic| walk_at "ix") => `(tactic| first | exact Or.inl rfl | exact Or.inr rfl | (simp [relabel]; rfl) | (with_unfolding_all exact Or.inl rfl) | (with_unfolding_all exact Or.inr rfl) | (with_unfolding_all decide))
local macro_rules | `(tactic| walk_at "sc") => `(tactic| exact ⟨rfl, rfl, rfl, by decide +kernel, rfl, by decide +kernel, by decide +kernel⟩)
local macro_rules | `(tactic| walk_at "ln") => `(tactic| (intro _ _ _ _ h; first | (cases h; subst_vars; rfl) | ((repeat (obtain ⟨_, h⟩ := h)); subst_vars; rfl)))
theorem A9u:A0n ["tape","wheel","homes","boxes","most","machine","place","doings","row","to"] C3s (A0h C5l):=by walk_at "sc"
theorem A7d:A0n C4v ["self","wheel","homes","boxes"] (A0h A2z):=by walk_at "sc"
theorem A7o:A0n ["self","number"] ["self","number"] (A0h A3p):=by walk_at "sc"
theorem A1q:A0n ["self","right","left"] ["self"] (A0h A1u):=by walk_at "sc"
theorem A4z:A0n B9y ["self","array","indexes"] (A0h A2g):=by walk_at "sc"
theorem A4q:A0n C5e ["self","counter","shift"] (A0h A2d):=by walk_at "sc"
theorem A3c:A0n ["self","array","indexes","home"] B9y (A0h A2h):=by walk_at "sc"
theorem A2j:A0n C3w ["self","box"] (A0h A1w):=by walk_at "sc"
theorem A5f:A0n C3w ["self","box","number"] (A0h A2i):=by walk_at "sc"
theorem A5n:A0n ["machine","row","word","number"] A3b (A0h A7a):=by walk_at "sc"
theorem A5k:A0n C0p A3b (A0h A7c):=by walk_at "sc"
theorem A4r:A0n C0p A3b (A0h A5g):=by walk_at "sc"
theorem A4m:A0n C0p A3b (A0h A5q):=by walk_at "sc"
theorem A4f:A0n ["machine","row","word","array","indexes"] A3b (A0h A7b):=by walk_at "sc"
theorem A2p:A0n ["machine","row","word","array","indexes","box"] A3b (A0h A5p):=by walk_at "sc"
theorem A1y:A0n ["machine","row","word","array","indexes","box","gathered"] A3b (A0h A4n):=by walk_at "sc"
theorem A3f:A0n ["machine","row","word","array","indexes","to"] A3b (A0h A7i):=by walk_at "sc"
theorem A5i:A0n ["machine","row","word","to"] A3b (A0h A6s):=by walk_at "sc"
theorem A9s:A0n C4d ["_law_script","_law_k"] (A0h A4k):=by walk_at "sc"
theorem A9p:A0n ["_law_e","_law_kinds"] ["_law_e"] (A0h A8n):=by walk_at "sc"
theorem A1f:A0n ["_law_tape","_law_wheel","_law_homes","_law_boxes","_law_most","_law_kind_here","_law_e"] C1h (A0h A4l):=by walk_at "sc"
theorem B0y:A0n C1h ["_law_tape","_law_wheel","_law_homes","_law_boxes","_law_most"] (A0h A5l):=by walk_at "sc"
theorem B4k:A0n ["_law_number"] ["_law_number"] (A0h A8u):=by walk_at "sc"
theorem A0w:A0n ["_law_cells","_law_boxes","_law_rows","_law_deep","_law_full","_law_cell","_law_box"] C5i (A0h A3l):=by walk_at "sc"
theorem A4v:A0n ["_law_rows","_law_boxes","_law_bare_here","_law_row"] ["_law_rows","_law_boxes"] (A0h A8s):=by walk_at "sc"
theorem A8r:A0n C5b ["_law_cell","_law_size"] (A0h A3w):=by walk_at "sc"
theorem A3k:A0n ["_law_script","_law_rows","_law_homes","_law_boxes","_law_spot_here","_law_cell","_law_bare_here","_law_word","_law_changed","_law_home"] C0i (A0h A8c):=by walk_at "sc"
theorem A2c:A0n ["_law_script","_law_rows","_law_homes","_law_boxes","_law_wheel","_law_spot_here","_law_kind_here","_law_bad_here","_law_changed","_law_tape","_law_due","_law_passed","_law_mended","_law_filled"] C0d (A0h B1a):=by walk_at "sc"
theorem A3h:A0n ["_law_script","_law_rows","_law_homes","_law_boxes","_law_wheel","_law_cell","_law_pushes","_law_tape"] B9n (A0h A6r):=by walk_at "sc"
theorem A5t:A0n ["_law_script","_law_size","_law_wheel","_law_boxes","_law_homes","_law_k","_law_rows","_law_spot_here"] ["_law_script"] (A0h B6w):=by walk_at "sc"
theorem B0h:(["counter","shift","self"]:List Str).Nodup:=by decide +kernel
theorem B5a:(["_law_k","_law_boxes"]:List Str).Nodup:=by decide +kernel
theorem B4z:(["_law_k","_law_boxes"]:List Str).Nodup:=by decide +kernel
theorem B5y:(["_law_k","_law_row"]:List Str).Nodup:=by decide +kernel
theorem B6c:(["_law_row"]:List Str).Nodup:=by decide +kernel
local macro_rules | `(tactic| walk_at "lk") => `(tactic| first | with_reducible exact lk0 | (refine lk1 (by decide +kernel) ?_; walk_at "lk") | rfl)
theorem C3m {α β:Type} {F:α->β->Prop}:∀{l:List α} {m:List β},Paired F l m->∀{i:Nat} {x:α},l[i]? =some x->∃y,m[i]? =some y/\F x y
 | _,_,.nil,i,x,e=>by simp at e
 | _,_,.cons r t,0,x,e=>by simp at e;subst e;exact ⟨_,rfl,r⟩
 | _,_,.cons r t,i+1,x,e=>by
  obtain ⟨y,e1,e2⟩:=C3m t (i:=i) (by simpa using e);exact ⟨y,by simpa using e1,e2⟩
inductive Ro where
 | push (n:Int) | plus | minus | times
 | load (a:Str) (ix:List Int) | store (a:Str) (ix:List Int) | gather (a:Str) (ix:List Int)
 | skip (a:Str) (ix:List Int) (to:Nat) | jump (to:Nat)
abbrev Hm:=List (List Int×Int)
structure Mc where
 bx:List (Option Int)
 st:List Int
 tr:List (Str×Nat)
def enO:Option Int->V
 | none=> .non
 | some i=> .int i
def hmL (D:List (Str×Hm)) (a:Str):Option Hm:=(D.find? λe=>decide (e.1=a)).map (·.2)
def hmI (l:Hm) (ix:List Int):Option Int:=(l.find? λe=>decide (e.1=ix)).map (·.2)
def A3v (D:List (Str×Hm)) (a:Str) (ix:List Int):Option Int:=(hmL D a).bind λl=>hmI l ix
def A6c (D:List (Str×Hm)) (n:Nat) (a:Str) (ix:List Int):Option Nat:=(A3v D a ix).bind λh=>if 0<=h/\h<n then some h.toNat else none
inductive Ou where
 | nx (m:Mc) (to:Option Nat) | out | bare | stuck
def two (f:Int->Int->Int) (wh:Int) (m:Mc):Ou :=
 match m.st with
 | r::l::s=> .nx { m with st:=f l r%wh::s } none
 | _=> .stuck
def A1j (wh:Int) (D:List (Str×Hm)) (m:Mc):Ro->Ou
 | .push n=> .nx { m with st:=n%wh::m.st } none
 | .plus=>two (λl r=>l+r) wh m
 | .minus=>two (λl r=>l-r) wh m
 | .times=>two (λl r=>l*r) wh m
 | .load a ix=>match A6c D m.bx.length a ix with
  | none=> .out
  | some b=>match m.bx[b]? with
   | some (some v)=> .nx { m with st:=v%wh::m.st,tr:=m.tr++[(("read":Str),b)] } none
   | _=> .bare
 | .store a ix=>match A6c D m.bx.length a ix with
  | none=> .out
  | some b=>match m.st with
   | x::s=> .nx ⟨m.bx.set b (some (x%wh)),s,m.tr++[(("write":Str),b)]⟩ none
   | []=> .stuck
 | .gather a ix=>match A6c D m.bx.length a ix with
  | none=> .out
  | some b=>match m.bx[b]? with
   | some (some v)=>match m.st with
    | x::s=> .nx ⟨m.bx.set b (some ((v+x)%wh)),s,m.tr++[(("read":Str),b)]++[(("write":Str),b)]⟩ none
    | []=> .stuck
   | _=> .bare
 | .skip a ix to=>match A3v D a ix with
  | none=> .nx m (some to)
  | some _=> .nx m none
 | .jump to=> .nx m (some to)
def IxP (H:Hp) (v:V) (i:Int):Prop:=∃p,v= .ref p/\H p=some (.tup [.int (-1),.int i])
def IxT (H:Hp) (q:Addr) (ix:List Int):Prop:=∃vs,H q=some (.tup vs)/\Paired (IxP H) vs ix/\ix.length<=1000
def RoV (H:Hp):Ro->List V->Prop
 | .push n,vs=>vs=[.str "push",.int n]
 | .plus,vs=>vs=[.str "plus"]
 | .minus,vs=>vs=[.str "minus"]
 | .times,vs=>vs=[.str "times"]
 | .load a ix,vs=>∃q,vs=[.str "load",.str a,.ref q]/\IxT H q ix
 | .store a ix,vs=>∃q,vs=[.str "store",.str a,.ref q]/\IxT H q ix
 | .gather a ix,vs=>∃q,vs=[.str "gather",.str a,.ref q]/\IxT H q ix
 | .skip a ix to,vs=>∃q,vs=[.str "skip",.str a,.ref q,.int to]/\IxT H q ix
 | .jump to,vs=>vs=[.str "jump",.int to]
def A7m (H:Hp) (v:V) (r:Ro):Prop:=∃p vs,v= .ref p/\H p=some (.tup vs)/\RoV H r vs
def kvT (l:Hm):List (List Key×V):=l.map λe=>(e.1.map Sum.inl,.int e.2)
def HmP (H:Hp) (kv:Key×V) (e:Str×Hm):Prop:=kv.1= .inr e.1/\∃p,kv.2= .ref p/\H p=some (.dT (kvT e.2))
def C1y (H:Hp) (hm:Addr) (D:List (Str×Hm)):Prop:=∃kvs,H hm=some (.dK kvs)/\Paired (HmP H) kvs D
def TrP (H:Hp) (v:V) (e:Str×Nat):Prop:=∃p,v= .ref p/\H p=some (.tup [.str e.1,.int e.2])
structure Mh where
 x:Addr
 b:Addr
 s:Addr
 r:Addr
 hm:Addr
 wh:Int
structure MAt (A:Adr) (H:Hp) (g:Mh) (m:Mc):Prop where
 ins:∃dx c,H g.x=some (.ins A.ac dx [("wheel",.int g.wh),("homes",.ref g.hm),("boxes",.ref g.b),("counts",.ref c),("stack",.ref g.s),("trace",.ref g.r)])
 bx:H g.b=some (.lst (m.bx.map enO))
 st:H g.s=some (.lst (m.st.reverse.map V.int))
 tr:∃vs,H g.r=some (.lst vs)/\Paired (TrP H) vs m.tr
 n1:g.b≠g.s
 n2:g.b≠g.r
 n3:g.s≠g.r
 sm:∀x∈m.st,Sm x
 wp:0<g.wh/\g.wh<=10^30
def KG (g:Mh) (H H':Hp):Prop:=∀b o,b≠g.b->b≠g.s->b≠g.r->H b=some o->H' b=some o
theorem KG.refl {g:Mh} {H:Hp}:KG g H H:=λ_ _ _ _ _ e=>e
theorem KG.of {g:Mh} {H H':Hp} (s:A0z H H'):KG g H H':=λ_ _ _ _ _ e=>s _ _ e
theorem KG.trans {g:Mh} {H H' H2:Hp} (a:KG g H H') (b:KG g H' H2):KG g H H2:=λc o n m k e=>b c o n m k (a c o n m k e)
theorem KG.s {g:Mh} {H:Hp} {o:HO}:KG g H (upd H g.s o):=λb u _ n _ e=>by rw [A0g n];exact e
theorem KG.b {g:Mh} {H:Hp} {o:HO}:KG g H (upd H g.b o):=λb u n _ _ e=>by rw [A0g n];exact e
theorem KG.r {g:Mh} {H:Hp} {o:HO}:KG g H (upd H g.r o):=λb u _ _ n e=>by rw [A0g n];exact e
theorem Paired.tr {H H':Hp} (k:∀p xs,H p=some (.tup xs)->H' p=some (.tup xs)) {vs:List V} {es:List (Str×Nat)} (h:Paired (TrP H) vs es):Paired (TrP H') vs es :=
 Paired.mapP h λ_ _ ⟨p,e,hp⟩=>⟨p,e,k _ _ hp⟩
theorem A5e {H:Hp} {l:Addr} {o:HO} {xs:List V} (h:H l=some (.lst xs)):∀p ys,H p=some (.tup ys)->upd H l o p=some (.tup ys):=λp ys e=>by
 rw [A0g (B2z e h (by intro z;cases z))];exact e
theorem IxT.kt {H H':Hp} (k:∀p xs,H p=some (.tup xs)->H' p=some (.tup xs)) {q:Addr} {ix:List Int} (h:IxT H q ix):IxT H' q ix:=by
 obtain ⟨vs,e,pr,l⟩:=h;exact ⟨vs,k _ _ e,Paired.mapP pr λ_ _ ⟨p,e1,e2⟩=>⟨p,e1,k _ _ e2⟩,l⟩
theorem A7m.kt {H H':Hp} (k:∀p xs,H p=some (.tup xs)->H' p=some (.tup xs)) {v:V} {r:Ro} (h:A7m H v r):A7m H' v r:=by
 obtain ⟨p,vs,e,hp,rv⟩:=h;refine ⟨p,vs,e,k _ _ hp,?_⟩
 cases r with
 | push n=>exact rv
 | plus=>exact rv
 | minus=>exact rv
 | times=>exact rv
 | load a ix=>obtain ⟨q,e1,e2⟩:=rv;exact ⟨q,e1,e2.kt k⟩
 | store a ix=>obtain ⟨q,e1,e2⟩:=rv;exact ⟨q,e1,e2.kt k⟩
 | gather a ix=>obtain ⟨q,e1,e2⟩:=rv;exact ⟨q,e1,e2.kt k⟩
 | skip a ix to=>obtain ⟨q,e1,e2⟩:=rv;exact ⟨q,e1,e2.kt k⟩
 | jump to=>exact rv
section
variable {A:Adr} {H H':Hp} {g:Mh} {m:Mc}
theorem MAt.same (h:MAt A H g m) (s:A0z H H'):MAt A H' g m:=by
 obtain ⟨dx,c,e⟩:=h.ins;obtain ⟨vs,ht,pr⟩:=h.tr;exact ⟨⟨dx,c,s _ _ e⟩,s _ _ h.bx,s _ _ h.st,⟨vs,s _ _ ht,Paired.tr (λ_ _ z=>s _ _ z) pr⟩,h.n1,h.n2,h.n3,h.sm,h.wp⟩
theorem MAt.setS {st':List Int} (h:MAt A H g m) (hs:∀x∈st',Sm x):MAt A (upd H g.s (.lst (st'.reverse.map V.int))) g { m with st:=st' }:=by
 obtain ⟨dx,c,e⟩:=h.ins;obtain ⟨vs,ht,pr⟩:=h.tr;refine ⟨⟨dx,c,?_⟩,?_,A0d,⟨vs,?_,Paired.tr (A5e h.st) pr⟩,h.n1,h.n2,h.n3,hs,h.wp⟩
 ·rw [A0g (B2z e h.st (by intro z;cases z))];exact e
 ·rw [A0g h.n1];exact h.bx
 ·rw [A0g h.n3.symm];exact ht
theorem MAt.setB {bx':List (Option Int)} (h:MAt A H g m):MAt A (upd H g.b (.lst (bx'.map enO))) g { m with bx:=bx' }:=by
 obtain ⟨dx,c,e⟩:=h.ins;obtain ⟨vs,ht,pr⟩:=h.tr;refine ⟨⟨dx,c,?_⟩,A0d,?_,⟨vs,?_,Paired.tr (A5e h.bx) pr⟩,h.n1,h.n2,h.n3,h.sm,h.wp⟩
 ·rw [A0g (B2z e h.bx (by intro z;cases z))];exact e
 ·rw [A0g h.n1.symm];exact h.st
 ·rw [A0g h.n2.symm];exact ht
theorem MAt.addT {vs:List V} {p:Addr} {x:Str} {b:Nat} (h:MAt A H g m) (ht:H g.r=some (.lst vs)) (hp:H p=some (.tup [.str x,.int b])):MAt A (upd H g.r (.lst (vs++[.ref p]))) g { m with tr:=m.tr++[(x,b)] }:=by
 obtain ⟨dx,c,e⟩:=h.ins;obtain ⟨vs',ht',pr⟩:=h.tr;rw [ht] at ht';cases ht';refine ⟨⟨dx,c,?_⟩,?_,?_,⟨_,A0d,Paired.snoc ⟨p,rfl,A5e ht _ _ hp⟩ (Paired.tr (A5e ht) pr)⟩,h.n1,h.n2,h.n3,h.sm,h.wp⟩
 ·rw [A0g (B2z e ht (by intro z;cases z))];exact e
 ·rw [A0g h.n2];exact h.bx
 ·rw [A0g h.n3];exact h.st
theorem MAt.len (h:MAt A H g m) {vs:List V} (ht:H g.r=some (.lst vs)):vs.length=m.tr.length:=by
 obtain ⟨vs',ht',pr⟩:=h.tr;rw [ht] at ht';cases ht';exact Paired.length pr
end
theorem C2i {n wh:Int} (h:0<wh/\wh<=10^30):Sm (n%wh):=by
 have h1:=Z1v n (Int.ne_of_gt h.1);have h2:=Z1p n h.1;have h3:=h.2;unfold Sm
 lia
def Lim (m:Mc):Prop:=m.st.length<=2000000/\m.tr.length<=4000000/\m.bx.length<=1000000
theorem A8f {n:Nat} (h:n<=5000000):n<sizeLine:=by rw [sizeLine_eq];lia
theorem C3t {x:Int} {s:List Int}:(((x::s).reverse.map V.int))[((x::s).reverse.map V.int).length-1]? =some (.int x):=by simp
theorem B6u {x:Int} {s:List Int}:((x::s).reverse.map V.int).dropLast=s.reverse.map V.int:=by simp
def C1k (A:Adr):Sp:=λvs H Q _=>∃(g:Mh) (m:Mc) (n:Int),vs=[.ref g.x,.int n]/\MAt A H g m/\m.st.length<=2000000/\∀H',KG g H H'->MAt A H' g { m with st:=n%g.wh::m.st }->Q .non H'
def C1w (A:Adr):Sp:=λvs H Q _=>∃(g:Mh) (m:Mc) (l r:Int) (s:List Int),vs=[.ref g.x]/\MAt A H g m/\m.st=r::l::s/\∀p H',KG g H H'->MAt A H' g { m with st:=s }->H' p=some (.tup [.int l,.int r])->Q (.ref p) H'
def B0t (A:Adr):Sp:=λvs H Q _=>∃(v:V) (i:Int),vs=[v,.int (-1),.int i]/\Q (.int i) H
def B3f (A:Adr):Sp:=λvs H Q _=>∃(g:Mh) (m:Mc) (a:Str) (q:Addr) (ix:List Int) (D:List (Str×Hm)),vs=[.ref g.x,.str a,.ref q]/\MAt A H g m/\C1y H g.hm D/\(hmL D a).isSome=true/\IxT H q ix/\∀H',A0z H H'->Q (enO (A3v D a ix)) H'
def B6e (A:Adr):Sp:=λvs H Q E=>∃(g:Mh) (m:Mc) (a:Str) (q:Addr) (ix:List Int) (D:List (Str×Hm)),vs=[.ref g.x,.str a,.ref q]/\MAt A H g m/\C1y H g.hm D/\(hmL D a).isSome=true/\(∀h,A3v D a ix=some h->Sm h)/\C6e a/\m.bx.length<=1000000/\IxT H q ix/\
 (∀b,A6c D m.bx.length a ix=some b->∀H',A0z H H'->Q (.int b) H')/\(A6c D m.bx.length a ix=none->∀H',A0z H H'->E (.ref A.ae) none H')
def A9l (A:Adr):Sp:=λvs H Q E=>∃(g:Mh) (m:Mc) (b:Nat) (o:Option Int),vs=[.ref g.x,.int b]/\MAt A H g m/\Lim m/\m.bx[b]? =some o/\b<=1000000/\
 (∀v,o=some v->∀H',KG g H H'->MAt A H' g { m with tr:=m.tr++[(("read":Str),b)] }->Q (.int v) H')/\(o=none->E (.ref A.ad) none H)
def B5w (A:Adr):Sp:=λvs H Q _=>∃(g:Mh) (m:Mc) (b:Nat) (n:Int),vs=[.ref g.x,.int b,.int n]/\MAt A H g m/\m.tr.length<=4000001/\b<m.bx.length/\∀H',KG g H H'->MAt A H' g { m with bx:=m.bx.set b (some (n%g.wh)),tr:=m.tr++[(("write":Str),b)] }->Q .non H'
theorem C3k {H:Hp} {kvs:List (Key×V)} {D:List (Str×Hm)} {a:Str}:Paired (HmP H) kvs D->(hmL D a).isSome=true->∃p l,hmL D a=some l/\B0i kvs (Sum.inr a)=some (.ref p)/\H p=some (.dT (kvT l)):=by
 intro pr
 induction pr with
 | nil=>intro h;cases h
 | @cons kv e r1 r2 z _ ih =>
  intro h;obtain ⟨e1,p,e2,e3⟩:=z;by_cases ha:e.1=a
  ·refine ⟨p,e.2,?_,?_,e3⟩
   ·unfold hmL;rw [Z2h,Z20 ha];rfl
   ·unfold B0i;rw [Z2h,Z20 (by rw [e1,ha])];exact congrArg some e2
  ·have q:hmL (e::r2) a=hmL r2 a:=by unfold hmL;rw [Z2h,Z1j ha]
   rw [q] at h⊢;obtain ⟨p',l,h1,h2,h3⟩:=ih h;refine ⟨p',l,h1,?_,h3⟩;unfold B0i at h2⊢;rw [Z2h,Z1j (by rw [e1];intro z;injection z with z;exact ha z)];exact h2
theorem B6g {x y:List Int}:x.map (Sum.inl:Int->Key)=y.map Sum.inl↔x=y:=by
 constructor
 ·intro h;have:Function.Injective (Sum.inl:Int->Key):=λa b e=>by injection e
  exact (List.map_inj_right (λa b e=>this e)).mp h
 ·intro h;rw [h]
theorem B4q (l:Hm) (ix:List Int):B0i (kvT l) (ix.map Sum.inl)=(hmI l ix).map V.int:=by
 induction l with
 | nil=>rfl
 | cons e r ih =>
  unfold B0i hmI kvT at ih⊢;rw [Z0p,Z2h,Z2h];by_cases h:e.1=ix
  ·rw [Z20 h,Z20 (by simp only [h])];rfl
  ·rw [Z1j h,Z1j (λz=>h (B6g.mp z))];exact ih
variable {P:Program} {w:World} {K:Frag} {mg:Str->Option Value} {base:Heap} {t:Adr}
theorem A1s (T:Txt K mg t):FP P w mg base T.aj 1 (C1k t):=by
 refine T.aj.F.ok A7o (by walk_at "ln") λ_ A _ s H _ Q E hr h=> ?_
 ·obtain ⟨g,m,n,rfl,ma,lim,k⟩:=h;obtain ⟨dx,c,hi⟩:=ma.ins;refine ⟨_,(A0f (A1i (A6z Z0k Z0n Z0o A1e (A2r (pv 0) rfl) (A0a (A0m A1g (pv 1) (A2r (pv 0) rfl)) A0b)))),?_⟩;refine ⟨_,rfl,g.x,_,dx,_,.ref g.s,rfl,hi,T.aa,T.ai,(by walk_at "lk"),.inl ⟨rfl,_,SqL.of ma.st⟩,?_⟩;refine ⟨_,rfl,_,rfl,g.x,_,dx,_,_,rfl,hi,T.aa,T.bb,(by walk_at "lk"),_,_,rfl,rfl,ma.wp.1,?_⟩;refine ⟨g.s,_,_,rfl,rfl,ma.st,A8f (by simp;lia),?_⟩;refine k _ KG.s ?_;have:=ma.setS (st':=n%g.wh::m.st) (λx hx=>(Z0e.mp hx).elim (λe=>by rw [e];exact C2i ma.wp) (ma.sm x));rw [List.reverse_cons,Z0s] at this;exact this
theorem A1p (T:Txt K mg t):FP P w mg base T.ah 1 (C1w t):=by
 refine T.ah.F.ok A1q (by walk_at "ln") λ_ A _ s H _ Q E hr h=> ?_
 ·obtain ⟨g,m,l,r,st,rfl,ma,hst,k⟩:=h;obtain ⟨bx,_,tr⟩:=m;cases hst;obtain ⟨dx,c,hi⟩:=ma.ins
  refine ⟨_,(A0c (A0q (i:=1) A1q.nd rfl (.inl rfl) (B1n Z0k PySem.F.slot_list_pop PySem.F.type_list_pop B2k (A2r (pv 0) rfl)))
   (A0c (A0q (i:=2) A1q.nd rfl (.inl rfl) (B1n Z0k PySem.F.slot_list_pop PySem.F.type_list_pop B2k (A2r (pv 0) rfl)))
   (A0f (A0u (A1d (A0a (pv 2) (A0a (pv 1) A0b))))))),?_⟩
  refine ⟨_,rfl,g.x,_,dx,_,.ref g.s,rfl,hi,T.aa,T.ai,(by walk_at "lk"),.inl ⟨rfl,_,SqL.of ma.st⟩,g.s,_,_,rfl,rfl,ma.st,C3t,?_⟩;rw [B6u];have m1:=ma.setS (st':=l::st) λx hx=>ma.sm x (Z1f _ hx);have k1:KG g H (upd H g.s (.lst ((l::st).reverse.map V.int))):=KG.s;generalize upd H g.s (.lst ((l::st).reverse.map V.int))=H1 at m1 k1⊢;obtain ⟨dx1,c1,hi1⟩:=m1.ins;refine ⟨_,rfl,g.x,_,dx1,_,.ref g.s,rfl,hi1,T.aa,T.ai,(by walk_at "lk"),.inl ⟨rfl,_,SqL.of m1.st⟩,g.s,_,_,rfl,rfl,m1.st,C3t,?_⟩;rw [B6u];have m2:=m1.setS (st':=st) λx hx=>ma.sm x (Z1f _ (Z1f _ hx));have k2:KG g H1 (upd H1 g.s (.lst (st.reverse.map V.int))):=KG.s;generalize upd H1 g.s (.lst (st.reverse.map V.int))=H2 at m2 k2⊢;refine ⟨_,rfl,_,rfl,A0k rfl,λp hp=> ?_⟩;exact k p _ (k1.trans (k2.trans (KG.of (A0j hp)))) (m2.same (A0j hp)) A0d
theorem A4p (T:Txt K mg t):FP P w mg base T.az 1 (B0t t):=by
 refine T.az.F.ok A4q (by walk_at "ln") λ_ A _ s H _ Q E hr h=> ?_
 ·obtain ⟨v,i,rfl,k⟩:=h
  refine ⟨_,(A0c (A2e (A0r A4g (pv 1) (B2c T.gf rfl) (A0v _))
    (A0f (A0u (pv 2)))
    A0y)
   (A0f B7h)),?_⟩
  exact ⟨_,rfl,rfl,_,rfl,A6m rfl ⟨_,rfl,k⟩⟩
theorem A2v (T:Txt K mg t):FP P w mg base T.am 2 (B3f t):=by
 have Ga0:= @A4p P w K mg base t T;refine T.am.F.ok A4z (by walk_at "ln") λ_ A _ s H _ Q E hr h=> ?_
 ·obtain ⟨g,m,a,q,ix,D,rfl,ma,⟨kvs,hk,pr⟩,hs,⟨es,eq,px,lx⟩,k⟩:=h;have hu:=B6v hr;obtain ⟨dx,c,hi⟩:=ma.ins;obtain ⟨p,l,h1,h2,h3⟩:=C3k pr hs;have ll:=Paired.length px;refine ⟨_,(A0f (A0u (B7t hu (C1a hu (A2r (pv 0) rfl) (pv 1) (λ_ _=>rfl)) (A1o A8j (by rfl) T.iH PyProof.Rows.boot_tuple (A0a (C0x (N':=["counter","shift","self"]) (ix:=(List.replicate 2 none++[some 0])) (g:=C6a K 2 (B9d (B4h 0) (B9d (B4h 1) C5x))) rfl (A6d (x:="self") rfl rfl rfl (by decide +kernel) (by decide +kernel)) (A4y (N0:=["counter","shift"]) rfl (.inl rfl) (by walk_at "ix")) (C3o (pv 2)) (λ_ _ _ _=>(A3z (n:=2) rfl (A0o (A0p (i:=0) B0h rfl (.inl rfl)) (A0o (A0p (i:=1) B0h rfl (.inl rfl)) A2o)))) (λ_ _ _ _=>(A1v (pv 2) T.aa T.dr Ga0 (hr.mono (by lia)) T.az.b .nil A3t (A0a (pv 0) (A0a (pv 1) A0b))))) A0b)) ⟨rfl,rfl,rfl,rfl⟩))),?_⟩;refine ⟨_,rfl,g.x,_,dx,_,_,rfl,hi,T.aa,T.c7,(by walk_at "lk"),_,rfl,g.hm,_,rfl,.inl ⟨kvs,.inr a,.inl hk,rfl,h2.symm⟩,p,rfl,.inr ⟨_,.inl h3⟩,?_⟩;refine ⟨_,rfl,q,rfl,⟨_,SqT.of eq⟩,λD' hD=> ?_⟩;refine B4p (K:=K) (a:=q) (D:=D') (xs:=es) (λi ys H2=>A0z H H2/\H2 D'=some (.lst ys)/\ys=(ix.take i).map V.int) ⟨A0j hD,A0d,rfl⟩ (λi ys H2 ⟨s2,_⟩=>SqT.of (s2 _ _ eq)) ?_ ?_
  ·rintro i x ys H2 hx ⟨s2,hD2,rfl⟩;have hil:i<ix.length:=by have:=(Z03.mp hx).1;lia
   obtain ⟨j,hj,y,rfl,ey⟩:=C3m px hx;refine ⟨y,_,rfl,SqT.of (s2 _ _ ey),rfl,_,_,rfl,_,_,rfl,rfl,⟨rfl,True.intro⟩,_,rfl,g.x,dx,_,rfl,s2 _ _ hi,(by walk_at "lk"),_,rfl,_,rfl,_,j,rfl,?_⟩;refine ⟨hD2,A1n (by simp;lia),A1b s2 hD,A0d,?_⟩;rw [List.take_add_one,hj,Option.toList_some,Z0s];rfl
  ·rintro ys H2 ⟨s2,hD2,rfl⟩;rw [ll,Z18] at hD2;refine ⟨D',_,rfl,.inl ⟨SqL.of hD2,λz hz=> ?_⟩⟩;have s3:=s2.trans (A0j (o:= .tup (ix.map V.int)) hz);refine ⟨_,.inr ⟨kvT l,ix.map Sum.inl,z,.inl (s3 _ _ h3),rfl,?_,rfl⟩,?_⟩
   ·rw [List.map_map];exact A0d
   ·rw [B4q];have e:A3v D a ix=hmI l ix:=by unfold A3v;rw [h1];rfl
    rw [e] at k;have:=k _ s3
    cases hh:hmI l ix with
    | none=>rw [hh] at this;exact this
    | some v=>rw [hh] at this;exact this
def B5g (D:List (Str×Hm)) (a:Str) (ix:List Int):Prop:=(hmL D a).isSome=true/\C6e a/\∀h,A3v D a ix=some h->Sm h
def B3u (D:List (Str×Hm)):Ro->Prop
 | .load a ix=>B5g D a ix
 | .store a ix=>B5g D a ix
 | .gather a ix=>B5g D a ix
 | .skip a ix _=>B5g D a ix
 | _=>True
def toV:Option Nat->V
 | none=> .non
 | some n=> .int n
def B0b (A:Adr) (g:Mh) (H:Hp) (Q:VK) (E:XK):Ou->Prop
 | .nx m to=>∀H',KG g H H'->MAt A H' g m->Q (toV to) H'
 | .out=>∀H',KG g H H'->E (.ref A.ae) none H'
 | .bare=>∀H',KG g H H'->E (.ref A.ad) none H'
 | .stuck=>False
def A3e (A:Adr) (ok:Ro->Prop):Sp:=λvs H Q E=>∃(g:Mh) (m:Mc) (D:List (Str×Hm)) (r:Ro) (v:V),vs=[.ref g.x,v]/\ok r/\A7m H v r/\MAt A H g m/\Lim m/\C1y H g.hm D/\B3u D r/\B0b A g H Q E (A1j g.wh D m r)
theorem B1o {D:List (Str×Hm)} {n b:Nat} {a:Str} {ix:List Int} (h:A6c D n a ix=some b):b<n:=by
 unfold A6c at h
 cases e:A3v D a ix with
 | none=>rw [e] at h;cases h
 | some z =>
  rw [e] at h;have h:(if 0<=z/\z<(n:Int) then some z.toNat else none)=some b:=h;by_cases c:0<=z/\z<(n:Int)
  ·rw [Z12 c] at h;cases h
   lia
  ·rw [Z0t c] at h;cases h
def B9o (A:Adr):Sp:=λvs H Q _=>∃(x dx hm bl:Addr) (wh:Int) (xs:List V),vs=[.ref x,.int wh,.ref hm,.ref bl]/\H x=some (.ins A.ac dx [])/\H bl=some (.lst xs)/\
 ∀(b c s r:Addr) (H':Hp),(∀a o,a≠x->H a=some o->H' a=some o)->H b=none->H s=none->H r=none->b≠s->b≠r->s≠r->H' x=some (.ins A.ac dx [("wheel",.int wh),("homes",.ref hm),("boxes",.ref b),("counts",.ref c),("stack",.ref s),("trace",.ref r)])->
  H' b=some (.lst xs)->H' s=some (.lst [])->H' r=some (.lst [])->Q .non H'
theorem A6w (T:Txt K mg t):FP P w mg base T.bu 1 (B9o t):=by
 refine T.bu.F.ok A7d (by walk_at "ln") λ_ A _ s H _ Q E hr h=> ?_
 ·obtain ⟨x,dx,hm,bl,wh,xs,rfl,hx,hb,k⟩:=h;have f1:∀v:V,A6b "homes" v [("wheel",.int wh)]=([("wheel",.int wh),("homes",v)]:List (Str×V)):=λv=>by rw [A1t (by decide +kernel),A4d]
  have f2:∀u v:V,A6b "boxes" v [("wheel",.int wh),("homes",u)]=([("wheel",.int wh),("homes",u),("boxes",v)]:List (Str×V)):=λu v=>by rw [A1t (by decide +kernel),A1t (by decide +kernel),A4d]
  have f3:∀u1 u v:V,A6b "counts" v [("wheel",.int wh),("homes",u1),("boxes",u)]=([("wheel",.int wh),("homes",u1),("boxes",u),("counts",v)]:List (Str×V)):=λu1 u v=>by rw [A1t (by decide +kernel),A1t (by decide +kernel),A1t (by decide +kernel),A4d]
  have f4:∀u1 u2 u v:V,A6b "stack" v [("wheel",.int wh),("homes",u1),("boxes",u2),("counts",u)]=([("wheel",.int wh),("homes",u1),("boxes",u2),("counts",u),("stack",v)]:List (Str×V)):=λu1 u2 u v=>by rw [A1t (by decide +kernel),A1t (by decide +kernel),A1t (by decide +kernel),A1t (by decide +kernel),A4d]
  have f5:∀u1 u2 u3 u v:V,A6b "trace" v [("wheel",.int wh),("homes",u1),("boxes",u2),("counts",u3),("stack",u)]=([("wheel",.int wh),("homes",u1),("boxes",u2),("counts",u3),("stack",u),("trace",v)]:List (Str×V)):=λu1 u2 u3 u v=>by rw [A1t (by decide +kernel),A1t (by decide +kernel),A1t (by decide +kernel),A1t (by decide +kernel),A1t (by decide +kernel),A4d]
  have nx:bl≠x:=B2z hb hx (by intro z;cases z)
  refine ⟨_,(A0c (A7t (pv 0) (pv 1) rfl)
   (A0c (A7t (pv 0) (pv 2) rfl)
   (A0c (A7t (pv 0) (A1o A1z (by rfl) T.fi Z1o (A0a (pv 3) A0b)) rfl)
   (A0c (A7t (pv 0) B7w rfl)
   (A0c (A7t (pv 0) (A2t A0b) rfl)
   (A0f (A7t (pv 0) (A2t A0b) rfl))))))),_,rfl,_,rfl,x,_,dx,[],rfl,hx,T.aa,T.bb,(by decide),?_⟩
  rw [A4d];refine ⟨_,rfl,_,rfl,x,_,dx,_,rfl,A0d,T.aa,T.c7,(by show 1<1000;decide),?_⟩;rw [C0o,f1];have k1:∀a o,a≠x->H a=some o->upd H x (.ins t.ac dx [("wheel",.int wh),("homes",.ref hm)]) a=some o:=λa o n e=>by rw [A0g n];exact e
  have x1:upd H x (.ins t.ac dx [("wheel",.int wh),("homes",.ref hm)]) x=some (.ins t.ac dx [("wheel",.int wh),("homes",.ref hm)]):=A0d;generalize upd H x (.ins t.ac dx [("wheel",.int wh),("homes",.ref hm)])=G1 at k1 x1⊢
  have fr:∀(G:Hp) (o:HO),(∀a u,a≠x->H a=some u->G a=some u)->G x=some o->∀b,G b=none->H b=none/\b≠x:=λG o kk xx b e=>by
   have n:b≠x:=λz=>by rw [z,xx] at e;cases e
   refine ⟨?_,n⟩
   cases eb:H b with
   | none=>rfl
   | some u=>rw [kk b u n eb] at e;cases e
  refine ⟨_,rfl,bl,xs,rfl,.inl (SqL.of (k1 _ _ nx hb)),λb hbn=> ?_⟩;obtain ⟨b0,bx⟩:=fr G1 _ k1 x1 b hbn;refine ⟨_,rfl,x,_,dx,_,rfl,(by rw [A0g bx.symm];exact x1),T.aa,T.ak,(by show 2<1000;decide),?_⟩;rw [f2];have k2:∀a o,a≠x->H a=some o->upd (upd G1 b (.lst xs)) x (.ins t.ac dx [("wheel",.int wh),("homes",.ref hm),("boxes",.ref b)]) a=some o:=λa o n e=>by rw [A0g n,A0g (A0i e b0)];exact k1 _ _ n e
  have x2:upd (upd G1 b (.lst xs)) x (.ins t.ac dx [("wheel",.int wh),("homes",.ref hm),("boxes",.ref b)]) x=some (.ins t.ac dx [("wheel",.int wh),("homes",.ref hm),("boxes",.ref b)]):=A0d;have e2:upd (upd G1 b (.lst xs)) x (.ins t.ac dx [("wheel",.int wh),("homes",.ref hm),("boxes",.ref b)]) b=some (.lst xs):=by rw [A0g bx];exact A0d
  generalize upd (upd G1 b (.lst xs)) x (.ins t.ac dx [("wheel",.int wh),("homes",.ref hm),("boxes",.ref b)])=G2 at k2 x2 e2⊢;intro c hc;obtain ⟨c0,cx⟩:=fr G2 _ k2 x2 c hc;refine ⟨_,rfl,x,_,dx,_,rfl,(by rw [A0g cx.symm];exact x2),T.aa,T.et,(by show 3<1000;decide),?_⟩;rw [f3];have k3:∀a o,a≠x->H a=some o->upd (upd G2 c (.dK [])) x (.ins t.ac dx [("wheel",.int wh),("homes",.ref hm),("boxes",.ref b),("counts",.ref c)]) a=some o:=λa o n e=>by rw [A0g n,A0g (A0i e c0)];exact k2 _ _ n e
  have x3:upd (upd G2 c (.dK [])) x (.ins t.ac dx [("wheel",.int wh),("homes",.ref hm),("boxes",.ref b),("counts",.ref c)]) x=some (.ins t.ac dx [("wheel",.int wh),("homes",.ref hm),("boxes",.ref b),("counts",.ref c)]):=A0d;have e3:upd (upd G2 c (.dK [])) x (.ins t.ac dx [("wheel",.int wh),("homes",.ref hm),("boxes",.ref b),("counts",.ref c)]) b=some (.lst xs):=by rw [A0g bx,A0g (A0i e2 hc)];exact e2
  generalize upd (upd G2 c (.dK [])) x (.ins t.ac dx [("wheel",.int wh),("homes",.ref hm),("boxes",.ref b),("counts",.ref c)])=G3 at k3 x3 e3⊢;refine ⟨A0k rfl,λs hs=> ?_⟩;obtain ⟨s0,sx⟩:=fr G3 _ k3 x3 s hs;have sb:b≠s:=A0i e3 hs;refine ⟨_,rfl,x,_,dx,_,rfl,(by rw [A0g sx.symm];exact x3),T.aa,T.ai,(by show 4<1000;decide),?_⟩;rw [f4];have k4:∀a o,a≠x->H a=some o->upd (upd G3 s (.lst [])) x (.ins t.ac dx [("wheel",.int wh),("homes",.ref hm),("boxes",.ref b),("counts",.ref c),("stack",.ref s)]) a=some o:=λa o n e=>by rw [A0g n,A0g (A0i e s0)];exact k3 _ _ n e
  have x4:upd (upd G3 s (.lst [])) x (.ins t.ac dx [("wheel",.int wh),("homes",.ref hm),("boxes",.ref b),("counts",.ref c),("stack",.ref s)]) x=some (.ins t.ac dx [("wheel",.int wh),("homes",.ref hm),("boxes",.ref b),("counts",.ref c),("stack",.ref s)]):=A0d;have e4:upd (upd G3 s (.lst [])) x (.ins t.ac dx [("wheel",.int wh),("homes",.ref hm),("boxes",.ref b),("counts",.ref c),("stack",.ref s)]) b=some (.lst xs):=by rw [A0g bx,A0g sb];exact e3
  have g4:upd (upd G3 s (.lst [])) x (.ins t.ac dx [("wheel",.int wh),("homes",.ref hm),("boxes",.ref b),("counts",.ref c),("stack",.ref s)]) s=some (.lst []):=by rw [A0g sx];exact A0d
  generalize upd (upd G3 s (.lst [])) x (.ins t.ac dx [("wheel",.int wh),("homes",.ref hm),("boxes",.ref b),("counts",.ref c),("stack",.ref s)])=G4 at k4 x4 e4 g4⊢;refine ⟨A0k rfl,λr hr'=> ?_⟩;obtain ⟨r0,rx⟩:=fr G4 _ k4 x4 r hr';have rb:b≠r:=A0i e4 hr';have rs:s≠r:=A0i g4 hr';refine ⟨_,rfl,x,_,dx,_,rfl,(by rw [A0g rx.symm];exact x4),T.aa,T.aq,(by show 5<1000;decide),?_⟩;rw [f5];refine k b c s r _ (λa o n e=>by rw [A0g n,A0g (A0i e r0)];exact k4 _ _ n e) b0 s0 r0 sb rb rs A0d ?_ ?_ ?_
  ·rw [A0g bx,A0g rb];exact e4
  ·rw [A0g sx,A0g rs];exact g4
  ·rw [A0g rx];exact A0d
theorem A2f (T:Txt K mg t):A4w P w K mg base (CXD P w) 3 t.bc t.c9 B9y (B6e t):=by
 have Ga1:= @A2v P w K mg base t T;refine T.av.F.okD A3c (by walk_at "ln") λ_ A _ s H _ Q E hr h=> ?_
 ·obtain ⟨g,m,a,q,ix,D,rfl,ma,hm,hs,hsm,nm,lb,hix,kq,ke⟩:=h;obtain ⟨dx,c,hi⟩:=ma.ins
  refine ⟨_,(A0c (A0q (i:=3) A3c.nd rfl (.inl rfl) (A1v (pv 0) T.aa T.bn Ga1 (hr.mono (by lia)) T.am.b .nil A3t (A0a (pv 1) (A0a (pv 2) A0b))))
   (A0c (A2e (A0r A9r (pv 3) A4j (A0v _))
    (A0f (A6g B2e T.fx rfl T.c8 rfl (A0a (A8e (A6k (C0j (pv 1) (A6k B1w)))) A0b)))
    A0y)
   (A0c (A2e (B8y (B8f C5f C2f A0e (pv 3) (A0x A0l (by rfl) T.bf Z0r (A0a (A2r (pv 0) rfl) A0b))))
    (A0f (A6g B2e T.fx rfl T.c8 rfl (A0a (A8e (A6k (B6a (pv 3) B1w))) A0b)))
    A0y)
   (A0f (A0u (pv 3)))))),?_⟩
  refine ⟨_,rfl,g.x,dx,_,rfl,hi,(by walk_at "lk"),_,rfl,_,rfl,g,m,a,q,ix,D,rfl,ma,hm,hs,hix,λH1 s1=> ?_⟩
  cases hh:A3v D a ix with
  | none =>
   have hb:A6c D m.bx.length a ix=none:=by unfold A6c;rw [hh];rfl
   refine ⟨_,rfl,rfl,_,rfl,A6m rfl ?_⟩;have e0:(Str.empty++("a cell of ":Str)).length<=20:=by decide +kernel
   have e9:(" has no home":Str).length<=20:=by decide +kernel
   have ln:=nm.1;refine ⟨A1c (by lia),_,rfl,a,rfl,nm.2,A1c (by lia),λz hz=> ?_⟩;have e1:(Str.empty++("a cell of ":Str)++z).length<=300:=by rw [Str.length_append];lia
   have e2:(Str.empty++("a cell of ":Str)++z++(" has no home":Str)).length<=400:=by rw [Str.length_append];lia
   exact ⟨A1c (by lia),A1c (by lia),A0k rfl,ke hb _ s1⟩
  | some z =>
   have hz:=hsm z hh;refine ⟨_,rfl,rfl,_,rfl,A8h (by intro y;cases y) ?_⟩;obtain ⟨dx1,c1,hi1⟩:=(ma.same s1).ins
   have fin:∀b:Bool,(b=true->0<=z/\z<(m.bx.length:Int))->(b=false->¬(0<=z/\z<(m.bx.length:Int)))->A6c D m.bx.length a ix=if b=true then some z.toNat else none:=λb h1 h2=>by
    unfold A6c;rw [hh];show (if 0<=z/\z<(m.bx.length:Int) then some z.toNat else none)=_
    cases b with
    | true=>rw [Z12 (h1 rfl),Z12 rfl]
    | false=>rw [Z0t (h2 rfl),Z0t Z0v]
   have bad:¬(0<=z/\z<(m.bx.length:Int))->(Str.empty++("the row has no box ":Str)).length<=sizeLine/\∃v,([some (V.ref g.x),some (.str a),some (.ref q),some (.int z)]:St)[3]? =some (some v)/\∃y,C6g v y/\(Str.empty++("the row has no box ":Str)++y).length<=sizeLine/\(Str.empty++("the row has no box ":Str)++y).length<=sizeLine/\[V.str (Str.empty++("the row has no box ":Str)++y)].length<=sizeLine/\E (.ref t.ae) none H1:=λhc=>by
    have e0:(Str.empty++("the row has no box ":Str)).length<=30:=by decide +kernel
    have l1:=B0o hz;have e1:(Str.empty++("the row has no box ":Str)++(toString z:Str)).length<=100:=by rw [Str.length_append];lia
    exact ⟨A1c (by lia),_,rfl,_,.inr ⟨_,rfl,B5l hz,rfl⟩,A1c (by lia),A1c (by lia),A0k rfl,ke (by rw [fin false (λh=>by cases h) (λ_=>hc)];rfl) _ s1⟩
   refine ⟨_,rfl,_,_,rfl,rfl,_,rfl,A9e (λh0=> ?_) (λh0=> ?_)⟩
   ·have h0:0<=z:=h0;refine ⟨_,rfl,g.x,_,dx1,_,.ref g.b,rfl,hi1,T.aa,T.ak,(by walk_at "lk"),g.b,_,rfl,.inl (SqL.of (s1 _ _ ma.bx)),_,_,rfl,rfl,_,rfl,?_⟩;rw [Z08];refine A5s (λh1=>bad λc=>h1 c.2) (λh1=>⟨_,rfl,?_⟩);have:=kq z.toNat (by rw [fin true (λ_=>⟨h0,h1⟩) (λh=>by cases h)];rfl) _ s1;rw [Int.toNat_of_nonneg h0] at this;exact this
   ·have h0:¬0<=z:=h0;refine ⟨_,rfl,?_⟩;show if (!false)=true then _ else _
    exact C3x (bad λc=>h0 c.1)
theorem A2k (T:Txt K mg t):A4w P w K mg base (CXD P w) 1 t.aw t.bg ["self","box"] (A9l t):=by
 refine T.ax.F.okD A2j (by walk_at "ln") λ_ A _ s H _ Q E hr h=> ?_
 ·obtain ⟨g,m,b,o,rfl,ma,lim,hb,lb,kq,ke⟩:=h;obtain ⟨dx,c,hi⟩:=ma.ins
  refine ⟨_,(A0c (A0q (i:=2) A2j.nd rfl (.inl rfl) (A3g A2y (A2r (pv 0) rfl) (pv 1) (λ_ _=>rfl)))
   (A0c (A2e (A0r A9r (pv 2) A4j (A0v _))
    (A0f (A6g B2e T.gv rfl T.cu rfl (A0a (A8e (A6k (B6a (pv 1) (A6k B1w)))) A0b)))
    A0y)
   (A0c (A1i (A6z Z0k Z0n Z0o A1e (A2r (pv 0) rfl) (A0a (A1d (A0a A0s (A0a (pv 1) A0b))) A0b)))
   (A0f (A0u (pv 2)))))),?_⟩
  refine ⟨_,rfl,g.x,_,dx,_,.ref g.b,rfl,hi,T.aa,T.ak,(by walk_at "lk"),_,rfl,g.b,_,_,enO o,rfl,rfl,SqL.of ma.bx,A2q (by rw [Z1z,hb];rfl),?_⟩
  cases o with
  | none =>
   refine ⟨_,rfl,rfl,_,rfl,A6m rfl ?_⟩;have e0:(Str.empty++("nothing was put in the box ":Str)).length<=40:=by decide +kernel
   have e9:(" yet":Str).length<=20:=by decide +kernel
   have sb:Sm (b:Int):=by unfold Sm;lia
   have l1:=B0o sb;have e1:(Str.empty++("nothing was put in the box ":Str)++(toString (b:Int):Str)).length<=100:=by rw [Str.length_append];lia
   have e2:(Str.empty++("nothing was put in the box ":Str)++(toString (b:Int):Str)++(" yet":Str)).length<=200:=by rw [Str.length_append];lia
   exact ⟨A1c (by lia),_,rfl,_,.inr ⟨_,rfl,B5l sb,rfl⟩,A1c (by lia),A1c (by lia),A1c (by lia),A0k rfl,ke rfl⟩
  | some v =>
   refine ⟨_,rfl,rfl,_,rfl,A8h (by intro y;cases y) ?_⟩;obtain ⟨vs,ht,pr⟩:=ma.tr;refine ⟨_,rfl,g.x,_,dx,_,.ref g.r,rfl,hi,T.aa,T.aq,(by walk_at "lk"),.inl ⟨rfl,_,SqL.of ht⟩,?_⟩;refine ⟨_,rfl,A0k rfl,λp hp=> ?_⟩;have s1:A0z H (upd H p (.tup [.str "read",.int b])):=A0j hp;have m1:=ma.same s1;have hp1:upd H p (.tup [.str "read",.int b]) p=some (.tup [.str "read",.int b]):=A0d;generalize upd H p (.tup [.str "read",.int b])=H1 at s1 m1 hp1⊢;have ht1:=s1 _ _ ht;refine ⟨g.r,_,_,rfl,rfl,ht1,A8f (by rw [m1.len ht1];have:=lim.2.1;lia),_,rfl,?_⟩;exact kq v rfl _ ((KG.of s1).trans KG.r) (m1.addT ht1 hp1)
theorem A3j (T:Txt K mg t):FP P w mg base T.au 1 (B5w t):=by
 refine T.au.F.ok A5f (by walk_at "ln") λ_ A _ s H _ Q E hr h=> ?_
 ·obtain ⟨g,m,b,n,rfl,ma,lim,hb,k⟩:=h;obtain ⟨dx,c,hi⟩:=ma.ins
  refine ⟨_,(A0c (A3s (A0m A1g (pv 2) (A2r (pv 0) rfl)) (B8h (A2r (pv 0) rfl) (pv 1) B2j))
   (A0f (A1i (A6z Z0k Z0n Z0o A1e (A2r (pv 0) rfl) (A0a (A1d (A0a A0s (A0a (pv 1) A0b))) A0b))))),?_⟩
  refine ⟨_,rfl,_,rfl,g.x,_,dx,_,.int g.wh,rfl,hi,T.aa,T.bb,(by walk_at "lk"),_,_,rfl,rfl,ma.wp.1,_,rfl,g.x,_,dx,_,.ref g.b,rfl,hi,T.aa,T.ak,(by walk_at "lk"),_,rfl,g.b,_,_,b,rfl,rfl,ma.bx,?_,?_⟩
  ·rw [Z08];unfold ixN;rw [Z12 (by lia)];simp [hb]
  have eq:(m.bx.map enO).set b (.int (n%g.wh))=(m.bx.set b (some (n%g.wh))).map enO:=by rw [List.map_set];rfl
  rw [eq];have m1:=ma.setB (bx':=m.bx.set b (some (n%g.wh)));have k1:KG g H (upd H g.b (.lst ((m.bx.set b (some (n%g.wh))).map enO))):=KG.b;generalize upd H g.b (.lst ((m.bx.set b (some (n%g.wh))).map enO))=H1 at m1 k1⊢;obtain ⟨dx1,c1,hi1⟩:=m1.ins;obtain ⟨vs,ht,pr⟩:=m1.tr;refine ⟨_,rfl,g.x,_,dx1,_,.ref g.r,rfl,hi1,T.aa,T.aq,(by walk_at "lk"),.inl ⟨rfl,_,SqL.of ht⟩,?_⟩;refine ⟨_,rfl,A0k rfl,λp hp=> ?_⟩;have s1:A0z H1 (upd H1 p (.tup [.str "write",.int b])):=A0j hp;have m2:=m1.same s1;have hp1:upd H1 p (.tup [.str "write",.int b]) p=some (.tup [.str "write",.int b]):=A0d;generalize upd H1 p (.tup [.str "write",.int b])=H2 at s1 m2 hp1⊢;have ht1:=s1 _ _ ht;refine ⟨g.r,_,_,rfl,rfl,ht1,A8f (by rw [m2.len ht1];show m.tr.length<=_;lia),?_⟩;exact k _ (k1.trans ((KG.of s1).trans KG.r)) (m2.addT ht1 hp1)
theorem B3o (T:Txt K mg t):FO P w base T.di 2 (A3e t λr=>∃n,r= .push n):=by
 have Ga2:= @A1s P w K mg base t T;refine T.di.F.ok A5n (by walk_at "ln") λ_ A _ s H _ Q E hr h=> ?_
 ·obtain ⟨g,m,D,r,v,rfl,⟨n,rfl⟩,⟨p,vs,rfl,hp,rv⟩,ma,lim,hm,ok,k⟩:=h;cases (show vs=_ from rv);obtain ⟨dx,c,hi⟩:=ma.ins
  refine ⟨_,(A0c (A3s (pv 1) (A3z (n:=2) rfl (A0o (A0p (i:=2) A5n.nd rfl (.inl rfl)) (A0o (A0p (i:=3) A5n.nd rfl (.inl rfl)) A2o))))
   (A0f (A1i (A1v (pv 0) T.aa T.ao Ga2 (hr.mono (by lia)) T.aj.b .nil A3t (A0a (pv 3) A0b))))),?_⟩
  exact ⟨_,rfl,p,_,rfl,SqT.of hp,rfl,_,_,rfl,_,_,rfl,rfl,_,rfl,g.x,dx,_,rfl,hi,(by walk_at "lk"),_,rfl,g,m,n,rfl,ma,lim.1,k⟩
theorem B3e (T:Txt K mg t):FO P w base T.dk 1 (A3e t λr=>∃n,r= .jump n):=by
 refine T.dk.F.ok A5i (by walk_at "ln") λ_ A _ s H _ Q E hr h=> ?_
 ·obtain ⟨g,m,D,r,v,rfl,⟨n,rfl⟩,⟨p,vs,rfl,hp,rv⟩,ma,lim,hm,ok,k⟩:=h;cases (show vs=_ from rv)
  refine ⟨_,(A0c (A3s (pv 1) (A3z (n:=2) rfl (A0o (A0p (i:=2) A5i.nd rfl (.inl rfl)) (A0o (A0p (i:=3) A5i.nd rfl (.inl rfl)) A2o))))
   (A0f (A0u (pv 3)))),?_⟩
  exact ⟨_,rfl,p,_,rfl,SqT.of hp,rfl,_,_,rfl,_,_,rfl,rfl,_,rfl,k H KG.refl ma⟩
theorem B3m (T:Txt K mg t):FO P w base T.dn 2 (A3e t λr=>r= .plus):=by
 have Ga2:= @A1s P w K mg base t T;have Ga3:= @A1p P w K mg base t T;refine T.dn.F.ok A5k (by walk_at "ln") λ_ A _ s H _ Q E hr h=> ?_
 ·obtain ⟨g,⟨bx,st,tr⟩,D,r,v,rfl,rfl,⟨p,vs,rfl,hp,rv⟩,ma,lim,hm,ok,k⟩:=h;obtain ⟨dx,c,hi⟩:=ma.ins
  obtain ⟨r,l,st',rfl⟩:∃r l s,st=r::l::s:=by
   cases st with
   | nil=>exact k.elim
   | cons r s=>cases s with
    | nil=>exact k.elim
    | cons l s=>exact ⟨r,l,s,rfl⟩
  refine ⟨_,(A0c (A3s (A8y (pv 0) T.aa T.ap Ga3 (hr.mono (by lia)) T.ah.b .nil A3t) (A3z (n:=2) rfl (A0o (A0p (i:=2) A5k.nd rfl (.inl rfl)) (A0o (A0p (i:=3) A5k.nd rfl (.inl rfl)) A2o))))
   (A0f (A1i (A1v (pv 0) T.aa T.ao Ga2 (hr.mono (by lia)) T.aj.b .nil A3t (A0a (A0m A2s (pv 2) (pv 3)) A0b))))),?_⟩
  refine ⟨_,rfl,g.x,dx,_,rfl,hi,(by walk_at "lk"),g,_,l,r,st',rfl,ma,rfl,λp1 H1 k1 m1 hp1=> ?_⟩;obtain ⟨dx1,c1,hi1⟩:=m1.ins;exact ⟨p1,_,rfl,SqT.of hp1,rfl,_,_,rfl,_,_,rfl,rfl,_,rfl,g.x,dx1,_,rfl,hi1,(by walk_at "lk"),_,rfl,_,rfl,_,_,rfl,rfl,g,_,_,rfl,m1,(by have:=lim.1;simp only [Z0y] at this;show st'.length<=_;lia),λH2 k2 m2=>k H2 (k1.trans k2) m2⟩
theorem B0q (T:Txt K mg t):FO P w base T.cg 2 (A3e t λr=>r= .minus):=by
 have Ga2:= @A1s P w K mg base t T;have Ga3:= @A1p P w K mg base t T;refine T.cg.F.ok A4r (by walk_at "ln") λ_ A _ s H _ Q E hr h=> ?_
 ·obtain ⟨g,⟨bx,st,tr⟩,D,r,v,rfl,rfl,⟨p,vs,rfl,hp,rv⟩,ma,lim,hm,ok,k⟩:=h;obtain ⟨dx,c,hi⟩:=ma.ins
  obtain ⟨r,l,st',rfl⟩:∃r l s,st=r::l::s:=by
   cases st with
   | nil=>exact k.elim
   | cons r s=>cases s with
    | nil=>exact k.elim
    | cons l s=>exact ⟨r,l,s,rfl⟩
  refine ⟨_,(A0c (A3s (A8y (pv 0) T.aa T.ap Ga3 (hr.mono (by lia)) T.ah.b .nil A3t) (A3z (n:=2) rfl (A0o (A0p (i:=2) A4r.nd rfl (.inl rfl)) (A0o (A0p (i:=3) A4r.nd rfl (.inl rfl)) A2o))))
   (A0f (A1i (A1v (pv 0) T.aa T.ao Ga2 (hr.mono (by lia)) T.aj.b .nil A3t (A0a (A0m A7s (pv 2) (pv 3)) A0b))))),?_⟩
  refine ⟨_,rfl,g.x,dx,_,rfl,hi,(by walk_at "lk"),g,_,l,r,st',rfl,ma,rfl,λp1 H1 k1 m1 hp1=> ?_⟩;obtain ⟨dx1,c1,hi1⟩:=m1.ins;exact ⟨p1,_,rfl,SqT.of hp1,rfl,_,_,rfl,_,_,rfl,rfl,_,rfl,g.x,dx1,_,rfl,hi1,(by walk_at "lk"),_,rfl,_,rfl,_,_,rfl,rfl,g,_,_,rfl,m1,(by have:=lim.1;simp only [Z0y] at this;show st'.length<=_;lia),λH2 k2 m2=>k H2 (k1.trans k2) m2⟩
theorem B8j {z:Int} (h:Sm z):z.natAbs<2^4000:=Z2d h (Z0q (show 10^32<2^110 by decide) (Nat.pow_le_pow_right (by decide) (by decide)))
theorem B0l (T:Txt K mg t):FO P w base T.cm 2 (A3e t λr=>r= .times):=by
 have Ga2:= @A1s P w K mg base t T;have Ga3:= @A1p P w K mg base t T;refine T.cm.F.ok A4m (by walk_at "ln") λ_ A _ s H _ Q E hr h=> ?_
 ·obtain ⟨g,⟨bx,st,tr⟩,D,r,v,rfl,rfl,⟨p,vs,rfl,hp,rv⟩,ma,lim,hm,ok,k⟩:=h;obtain ⟨dx,c,hi⟩:=ma.ins
  obtain ⟨r,l,st',rfl⟩:∃r l s,st=r::l::s:=by
   cases st with
   | nil=>exact k.elim
   | cons r s=>cases s with
    | nil=>exact k.elim
    | cons l s=>exact ⟨r,l,s,rfl⟩
  have b1:Sm r:=ma.sm r Z27;have b2:Sm l:=ma.sm l (Z1f _ Z27)
  refine ⟨_,(A0c (A3s (A8y (pv 0) T.aa T.ap Ga3 (hr.mono (by lia)) T.ah.b .nil A3t) (A3z (n:=2) rfl (A0o (A0p (i:=2) A4m.nd rfl (.inl rfl)) (A0o (A0p (i:=3) A4m.nd rfl (.inl rfl)) A2o))))
   (A0f (A1i (A1v (pv 0) T.aa T.ao Ga2 (hr.mono (by lia)) T.aj.b .nil A3t (A0a (A0m C0v (pv 2) (pv 3)) A0b))))),?_⟩
  refine ⟨_,rfl,g.x,dx,_,rfl,hi,(by walk_at "lk"),g,_,l,r,st',rfl,ma,rfl,λp1 H1 k1 m1 hp1=> ?_⟩;obtain ⟨dx1,c1,hi1⟩:=m1.ins;exact ⟨p1,_,rfl,SqT.of hp1,rfl,_,_,rfl,_,_,rfl,rfl,_,rfl,g.x,dx1,_,rfl,hi1,(by walk_at "lk"),_,rfl,_,rfl,_,_,rfl,rfl,⟨B8j b2,B8j b1⟩,g,_,_,rfl,m1,(by have:=lim.1;simp only [Z0y] at this;show st'.length<=_;lia),λH2 k2 m2=>k H2 (k1.trans k2) m2⟩
theorem B3n (T:Txt K mg t):FO P w base T.dh 3 (A3e t λr=>∃a ix n,r= .skip a ix n):=by
 have Ga1:= @A2v P w K mg base t T;refine T.dh.F.ok A3f (by walk_at "ln") λ_ A _ s H _ Q E hr h=> ?_
 ·obtain ⟨g,m,D,r,v,rfl,⟨a,ix,n,rfl⟩,⟨p,vs,rfl,hp,q,rv,hix⟩,ma,lim,hm,ok,k⟩:=h;cases (show vs=_ from rv);obtain ⟨dx,c,hi⟩:=ma.ins
  refine ⟨_,(A0c (A3s (pv 1) (A3z (n:=4) rfl (A0o (A0p (i:=2) A3f.nd rfl (.inl rfl)) (A0o (A0p (i:=3) A3f.nd rfl (.inl rfl)) (A0o (A0p (i:=4) A3f.nd rfl (.inl rfl)) (A0o (A0p (i:=5) A3f.nd rfl (.inl rfl)) A2o))))))
   (A0c (A2e (A0r A9r (A1v (pv 0) T.aa T.bn Ga1 (hr.mono (by lia)) T.am.b .nil A3t (A0a (pv 3) (A0a (pv 4) A0b))) A4j (A0v _))
    (A0f (A0u (pv 5)))
    A0y)
   (A0f (A0u A4j)))),?_⟩
  refine ⟨_,rfl,p,_,rfl,SqT.of hp,rfl,_,_,rfl,_,_,rfl,_,_,rfl,_,_,rfl,rfl,_,rfl,g.x,dx,_,rfl,hi,(by walk_at "lk"),_,rfl,_,rfl,g,m,a,q,ix,D,rfl,ma,hm,ok.1,hix,λH1 s1=> ?_⟩;simp only [A1j] at k
  cases hh:A3v D a ix with
  | none =>
   rw [hh] at k;exact ⟨rfl,_,rfl,A6m rfl ⟨_,rfl,k H1 (KG.of s1) (ma.same s1)⟩⟩
  | some z =>
   rw [hh] at k;exact ⟨rfl,_,rfl,A8h (by intro y;cases y) (k H1 (KG.of s1) (ma.same s1))⟩
theorem B3c (T:Txt K mg t):A4w P w K mg base (CXD P w) 4 t.cb t.gk A3b (A3e t λr=>∃a ix,r= .load a ix):=by
 have Ga2:= @A1s P w K mg base t T;have Ga4:= @A2f P w K mg base t T;have Ga5:= @A2k P w K mg base t T;refine T.fe.F.okD A4f (by walk_at "ln") λ_ A _ s H _ Q E hr h=> ?_
 ·obtain ⟨g,m,D,r,v,rfl,⟨a,ix,rfl⟩,⟨p,vs,rfl,hp,q,rv,hix⟩,ma,lim,hm,ok,k⟩:=h;cases (show vs=_ from rv);obtain ⟨dx,c,hi⟩:=ma.ins;simp only [A1j] at k
  refine ⟨_,(A0c (A3s (pv 1) (A3z (n:=3) rfl (A0o (A0p (i:=2) A4f.nd rfl (.inl rfl)) (A0o (A0p (i:=3) A4f.nd rfl (.inl rfl)) (A0o (A0p (i:=4) A4f.nd rfl (.inl rfl)) A2o)))))
   (A0f (A1i (A1v (pv 0) T.aa T.ao Ga2 (hr.mono (by lia)) T.aj.b .nil A3t (A0a (A1v (pv 0) T.aa T.be Ga5 (hr.mono (by lia)) T.ax.b .nil B3g (A0a (A1v (pv 0) T.aa T.a_ Ga4 (hr.mono (by lia)) T.av.b .nil B3g (A0a (pv 3) (A0a (pv 4) A0b))) A0b)) A0b))))),?_⟩
  refine ⟨_,rfl,p,_,rfl,SqT.of hp,rfl,_,_,rfl,_,_,rfl,_,_,rfl,rfl,_,rfl,g.x,dx,_,rfl,hi,(by walk_at "lk"),_,rfl,g.x,dx,_,rfl,hi,(by walk_at "lk"),_,rfl,g.x,dx,_,rfl,hi,(by walk_at "lk"),_,rfl,_,rfl,g,m,a,q,ix,D,rfl,ma,hm,ok.1,ok.2.2,ok.2.1,lim.2.2,hix,λb hb H1 s1=> ?_,λhb H1 s1=> ?_⟩
  ·have lb:=B1o hb;have l2:=lim.2.2;simp only [hb] at k;refine ⟨g,m,b,m.bx[b],rfl,ma.same s1,lim,Z0b lb,by lia,λv e H2 k2 m2=> ?_,λe=> ?_⟩
   ·rw [Z0b lb,e] at k;exact ⟨g,_,v,rfl,m2,lim.1,λH3 k3 m3=>k H3 ((KG.of s1).trans (k2.trans k3)) m3⟩
   ·rw [Z0b lb,e] at k;exact k H1 (KG.of s1)
  ·simp only [hb] at k;exact k H1 (KG.of s1)
open PyProof.Rows.KTD (datumAt)
theorem dt0 {k:Str} {d:V} {D:List (Str×V)}:datumAt k ((k,d)::D)=some d:=by unfold datumAt;rw [Z12 (Z20 rfl)]
theorem dt1 {k x:Str} {d:V} {D:List (Str×V)} {o:Option V} (h:decide (k=x)=false) (e:datumAt k D=o):datumAt k ((x,d)::D)=o:=by unfold datumAt;rw [Z0t (by rw [h];exact Z0v)];exact e
local macro_rules | `(tactic| walk_at "dt") => `(tactic| first | with_reducible exact dt0 | (refine dt1 (by decide +kernel) ?_; walk_at "dt"))
inductive Rs where
 | good (m:Mc) | noend | out | bare | stuck
def A2m (wh:Int) (D:List (Str×Hm)) (tp:List Ro):Nat->Nat->Mc->Rs
 | 0,pl,m=>if pl=tp.length then .good m else .noend
 | n+1,pl,m=>if pl=tp.length then .good m else
  match tp[pl]? with
  | none=> .stuck
  | some r=>match A1j wh D m r with
   | .nx m' to=>A2m wh D tp n (to.getD (pl+1)) m'
   | .out=> .out
   | .bare=> .bare
   | .stuck=> .stuck
def B2n (A:Adr) (H:Hp) (Q:VK) (E:XK):Rs->Prop
 | .good m=>∀(p b r:Addr) (vs:List V) (H':Hp),A0z H H'->H b=none->H r=none->b≠r->H' p=some (.tup [.ref b,.ref r])->H' b=some (.lst (m.bx.map enO))->H' r=some (.lst vs)->Paired (TrP H') vs m.tr->Q (.ref p) H'
 | .noend=>∀H',A0z H H'->E (.ref A.af) none H'
 | .out=>∀H',A0z H H'->E (.ref A.ae) none H'
 | .bare=>∀H',A0z H H'->E (.ref A.ad) none H'
 | .stuck=>False
def C5j (A:Adr):Sp:=λvs H Q E=>∃(tp hm bl:Addr) (wh:Int) (most:Nat) (xs:List V) (rows:List Ro) (bx:List (Option Int)) (D:List (Str×Hm)),vs=[.ref tp,.int wh,.ref hm,.ref bl,.int most]/\H tp=some (.lst xs)/\Paired (A7m H) xs rows/\(∀r∈rows,B3u D r)/\C1y H hm D/\H bl=some (.lst (bx.map enO))/\
 (0<wh/\wh<=10^30)/\most<=1000000/\bx.length<=1000000/\B2n A H Q E (A2m wh D rows most 0 ⟨bx,[],[]⟩)
def C2a (A:Adr) (f:Addr) (sp:Sp):Prop:=(f=A.df/\sp=A3e A λr=>∃n,r= .push n)\/(f=A.dl/\sp=A3e A λr=>r= .plus)\/(f=A.cf/\sp=A3e A λr=>r= .minus)\/(f=A.ce/\sp=A3e A λr=>r= .times)\/
 (f=A.cb/\sp=A3e A λr=>∃a ix,r= .load a ix)\/(f=A.bt/\sp=A3e A λr=>∃a ix,r= .store a ix)\/(f=A.bd/\sp=A3e A λr=>∃a ix,r= .gather a ix)\/(f=A.dq/\sp=A3e A λr=>∃a ix n,r= .skip a ix n)\/(f=A.dj/\sp=A3e A λr=>∃n,r= .jump n)
theorem B0b.mono {A:Adr} {g:Mh} {H:Hp} {Q Q':VK} {E:XK} {o:Ou} (h:B0b A g H Q E o) (f:∀v H',Q v H'->Q' v H'):B0b A g H Q' E o:=by
 cases o with
 | nx m to=>exact λH' k a=>f _ _ (h H' k a)
 | out=>exact h
 | bare=>exact h
 | stuck=>exact h
def doT (A:Adr):List (Str×V):=[("push",V.ref A.df),("count",V.ref A.ed),("plus",V.ref A.dl),("minus",V.ref A.cf),("times",V.ref A.ce),("load",V.ref A.cb),("store",V.ref A.bt),("gather",V.ref A.bd),("skip",V.ref A.dq),("jump",V.ref A.dj),("zero",V.ref A.fo),("begin",V.ref A.ef),("step",V.ref A.fc),("unless",V.ref A.cr),("within",V.ref A.db)]
theorem C2o (A:Adr) {H:Hp} {v:V} {r:Ro} (h:A7m H v r):∃(f:Addr) (x0:Str) (p:Addr) (vs:List V) (ok:Ro->Prop),v= .ref p/\H p=some (.tup (.str x0::vs))/\C2a A f (A3e A ok)/\ok r/\datumAt x0 (doT A)=some (.ref f):=by
 obtain ⟨p,vs,rfl,hp,rv⟩:=h
 cases r with
 | push n=>cases (show vs=_ from rv);exact ⟨_,_,p,_,_,rfl,hp,.inl ⟨rfl,rfl⟩,⟨_,rfl⟩,by unfold doT;walk_at "dt"⟩
 | plus=>cases (show vs=_ from rv);exact ⟨_,_,p,_,_,rfl,hp,.inr (.inl ⟨rfl,rfl⟩),rfl,by unfold doT;walk_at "dt"⟩
 | minus=>cases (show vs=_ from rv);exact ⟨_,_,p,_,_,rfl,hp,.inr (.inr (.inl ⟨rfl,rfl⟩)),rfl,by unfold doT;walk_at "dt"⟩
 | times=>cases (show vs=_ from rv);exact ⟨_,_,p,_,_,rfl,hp,.inr (.inr (.inr (.inl ⟨rfl,rfl⟩))),rfl,by unfold doT;walk_at "dt"⟩
 | load a ix=>obtain ⟨q,rv,_⟩:=rv;cases (show vs=_ from rv);exact ⟨_,_,p,_,_,rfl,hp,.inr (.inr (.inr (.inr (.inl ⟨rfl,rfl⟩)))),⟨_,_,rfl⟩,by unfold doT;walk_at "dt"⟩
 | store a ix=>obtain ⟨q,rv,_⟩:=rv;cases (show vs=_ from rv);exact ⟨_,_,p,_,_,rfl,hp,.inr (.inr (.inr (.inr (.inr (.inl ⟨rfl,rfl⟩))))),⟨_,_,rfl⟩,by unfold doT;walk_at "dt"⟩
 | gather a ix=>obtain ⟨q,rv,_⟩:=rv;cases (show vs=_ from rv);exact ⟨_,_,p,_,_,rfl,hp,.inr (.inr (.inr (.inr (.inr (.inr (.inl ⟨rfl,rfl⟩)))))),⟨_,_,rfl⟩,by unfold doT;walk_at "dt"⟩
 | skip a ix n=>obtain ⟨q,rv,_⟩:=rv;cases (show vs=_ from rv);exact ⟨_,_,p,_,_,rfl,hp,.inr (.inr (.inr (.inr (.inr (.inr (.inr (.inl ⟨rfl,rfl⟩))))))),⟨_,_,_,rfl⟩,by unfold doT;walk_at "dt"⟩
 | jump n=>cases (show vs=_ from rv);exact ⟨_,_,p,_,_,rfl,hp,.inr (.inr (.inr (.inr (.inr (.inr (.inr (.inr ⟨rfl,rfl⟩))))))),⟨_,rfl⟩,by unfold doT;walk_at "dt"⟩
theorem KG.same0 {g:Mh} {H0 H H':Hp} (s:A0z H0 H) (k:KG g H H') (hb:H0 g.b=none) (hs:H0 g.s=none) (hr:H0 g.r=none):A0z H0 H':=λb o e=>k b o (A0i e hb) (A0i e hs) (A0i e hr) (s _ _ e)
theorem B6z {wh:Int} {D:List (Str×Hm)} {m m':Mc} {r:Ro} {to:Option Nat} (h:A1j wh D m r= .nx m' to):m'.st.length<=m.st.length+1/\m'.tr.length<=m.tr.length+2/\m'.bx.length=m.bx.length:=by
 obtain ⟨bx,st,tr⟩:=m
 cases r with
 | push n=>cases h;exact ⟨by simp,by simp,rfl⟩
 | jump n=>cases h;exact ⟨by simp,by simp,rfl⟩
 | plus=>cases st with
  | nil=>cases h
  | cons a s=>cases s with
   | nil=>cases h
   | cons b s=>cases h;exact ⟨by simp,by simp,rfl⟩
 | minus=>cases st with
  | nil=>cases h
  | cons a s=>cases s with
   | nil=>cases h
   | cons b s=>cases h;exact ⟨by simp,by simp,rfl⟩
 | times=>cases st with
  | nil=>cases h
  | cons a s=>cases s with
   | nil=>cases h
   | cons b s=>cases h;exact ⟨by simp,by simp,rfl⟩
 | skip a ix n =>
  simp only [A1j] at h
  cases hh:A3v D a ix with
  | none=>rw [hh] at h;cases h;exact ⟨by simp,by simp,rfl⟩
  | some z=>rw [hh] at h;cases h;exact ⟨by simp,by simp,rfl⟩
 | load a ix =>
  simp only [A1j] at h
  cases hb:A6c D bx.length a ix with
  | none=>simp only [hb] at h;cases h
  | some b =>
   simp only [hb] at h
   cases hv:bx[b]? with
   | none=>simp only [hv] at h;cases h
   | some o=>cases o with
    | none=>simp only [hv] at h;cases h
    | some v=>simp only [hv] at h;cases h;exact ⟨by simp,by simp,rfl⟩
 | store a ix =>
  simp only [A1j] at h
  cases hb:A6c D bx.length a ix with
  | none=>simp only [hb] at h;cases h
  | some b =>
   simp only [hb] at h
   cases st with
   | nil=>cases h
   | cons x s=>cases h;exact ⟨by simp;lia,by simp,by simp⟩
 | gather a ix =>
  simp only [A1j] at h
  cases hb:A6c D bx.length a ix with
  | none=>simp only [hb] at h;cases h
  | some b =>
   simp only [hb] at h
   cases hv:bx[b]? with
   | none=>simp only [hv] at h;cases h
   | some o=>cases o with
    | none=>simp only [hv] at h;cases h
    | some v =>
     simp only [hv] at h
     cases st with
     | nil=>cases h
     | cons x s=>cases h;exact ⟨by simp;lia,by simp,by simp⟩
theorem B0u (T:Txt K mg t):A4w P w K mg base (CXD P w) 4 t.bt t.fz A3b (A3e t λr=>∃a ix,r= .store a ix):=by
 have Ga6:= @A3j P w K mg base t T;have Ga4:= @A2f P w K mg base t T;refine T.dy.F.okD A2p (by walk_at "ln") λ_ A _ s H _ Q E hr h=> ?_
 ·obtain ⟨g,⟨bx,st,tr⟩,D,r,v,rfl,⟨a,ix,rfl⟩,⟨p,vs,rfl,hp,q,rv,hix⟩,ma,lim,hm,ok,k⟩:=h;cases (show vs=_ from rv);obtain ⟨dx,c,hi⟩:=ma.ins;simp only [A1j] at k
  refine ⟨_,(A0c (A3s (pv 1) (A3z (n:=3) rfl (A0o (A0p (i:=2) A2p.nd rfl (.inl rfl)) (A0o (A0p (i:=3) A2p.nd rfl (.inl rfl)) (A0o (A0p (i:=4) A2p.nd rfl (.inl rfl)) A2o)))))
   (A0c (A0q (i:=5) A2p.nd rfl (.inl rfl) (A1v (pv 0) T.aa T.a_ Ga4 (hr.mono (by lia)) T.av.b .nil B3g (A0a (pv 3) (A0a (pv 4) A0b))))
   (A0f (A1i (A1v (pv 0) T.aa T.bw Ga6 (hr.mono (by lia)) T.au.b .nil A3t (A0a (pv 5) (A0a (B1n Z0k PySem.F.slot_list_pop PySem.F.type_list_pop B2k (A2r (pv 0) rfl)) A0b))))))),?_⟩
  refine ⟨_,rfl,p,_,rfl,SqT.of hp,rfl,_,_,rfl,_,_,rfl,_,_,rfl,rfl,_,rfl,g.x,dx,_,rfl,hi,(by walk_at "lk"),_,rfl,_,rfl,g,_,a,q,ix,D,rfl,ma,hm,ok.1,ok.2.2,ok.2.1,lim.2.2,hix,λb hb H1 s1=> ?_,λhb H1 s1=> ?_⟩
  ·have lb:=B1o hb;simp only [hb] at k
   cases st with
   | nil=>exact k.elim
   | cons x st' =>
    have m1:=ma.same s1;obtain ⟨dx1,c1,hi1⟩:=m1.ins;refine ⟨_,rfl,g.x,dx1,_,rfl,hi1,(by walk_at "lk"),_,rfl,_,rfl,g.x,_,dx1,_,.ref g.s,rfl,hi1,T.aa,T.ai,(by walk_at "lk"),.inl ⟨rfl,_,SqL.of m1.st⟩,g.s,_,_,rfl,rfl,m1.st,C3t,?_⟩;rw [B6u];have m2:=m1.setS (st':=st') λy hy=>ma.sm y (Z1f _ hy);have k2:KG g H1 (upd H1 g.s (.lst (st'.reverse.map V.int))):=KG.s;generalize upd H1 g.s (.lst (st'.reverse.map V.int))=H2 at m2 k2⊢;exact ⟨g,_,b,x,rfl,m2,Nat.le_succ_of_le lim.2.1,lb,λH3 k3 m3=>k H3 ((KG.of s1).trans (k2.trans k3)) m3⟩
  ·simp only [hb] at k;exact k H1 (KG.of s1)
theorem A9f (T:Txt K mg t):A4w P w K mg base (CXD P w) 4 t.bd t.ft A3b (A3e t λr=>∃a ix,r= .gather a ix):=by
 have Ga6:= @A3j P w K mg base t T;have Ga4:= @A2f P w K mg base t T;have Ga5:= @A2k P w K mg base t T;refine T.c_.F.okD A1y (by walk_at "ln") λ_ A _ s H _ Q E hr h=> ?_
 ·obtain ⟨g,⟨bx,st,tr⟩,D,r,v,rfl,⟨a,ix,rfl⟩,⟨p,vs,rfl,hp,q,rv,hix⟩,ma,lim,hm,ok,k⟩:=h;cases (show vs=_ from rv);obtain ⟨dx,c,hi⟩:=ma.ins;simp only [A1j] at k
  refine ⟨_,(A0c (A3s (pv 1) (A3z (n:=3) rfl (A0o (A0p (i:=2) A1y.nd rfl (.inl rfl)) (A0o (A0p (i:=3) A1y.nd rfl (.inl rfl)) (A0o (A0p (i:=4) A1y.nd rfl (.inl rfl)) A2o)))))
   (A0c (A0q (i:=5) A1y.nd rfl (.inl rfl) (A1v (pv 0) T.aa T.a_ Ga4 (hr.mono (by lia)) T.av.b .nil B3g (A0a (pv 3) (A0a (pv 4) A0b))))
   (A0c (A0q (i:=6) A1y.nd rfl (.inl rfl) (A1v (pv 0) T.aa T.be Ga5 (hr.mono (by lia)) T.ax.b .nil B3g (A0a (pv 5) A0b)))
   (A0f (A1i (A1v (pv 0) T.aa T.bw Ga6 (hr.mono (by lia)) T.au.b .nil A3t (A0a (pv 5) (A0a (A0m A2s (pv 6) (B1n Z0k PySem.F.slot_list_pop PySem.F.type_list_pop B2k (A2r (pv 0) rfl))) A0b)))))))),?_⟩
  refine ⟨_,rfl,p,_,rfl,SqT.of hp,rfl,_,_,rfl,_,_,rfl,_,_,rfl,rfl,_,rfl,g.x,dx,_,rfl,hi,(by walk_at "lk"),_,rfl,_,rfl,g,_,a,q,ix,D,rfl,ma,hm,ok.1,ok.2.2,ok.2.1,lim.2.2,hix,λb hb H1 s1=> ?_,λhb H1 s1=> ?_⟩
  ·have lb:=B1o hb;have l2:=lim.2.2;simp only [hb] at k;have lb':b<bx.length:=lb;have m1:=ma.same s1;obtain ⟨dx1,c1,hi1⟩:=m1.ins;refine ⟨_,rfl,g.x,dx1,_,rfl,hi1,(by walk_at "lk"),_,rfl,g,_,b,bx[b],rfl,m1,lim,Z0b lb,Nat.le_of_lt (Z0q lb l2),λv e H2 k2 m2=> ?_,λe=> ?_⟩
   ·rw [Z0b lb',e] at k
    cases st with
    | nil=>exact k.elim
    | cons x st' =>
     obtain ⟨dx2,c2,hi2⟩:=m2.ins;refine ⟨_,rfl,g.x,dx2,_,rfl,hi2,(by walk_at "lk"),_,rfl,_,rfl,_,rfl,g.x,_,dx2,_,.ref g.s,rfl,hi2,T.aa,T.ai,(by walk_at "lk"),.inl ⟨rfl,_,SqL.of m2.st⟩,g.s,_,_,rfl,rfl,m2.st,C3t,_,_,rfl,rfl,?_⟩;rw [B6u];have m3:=m2.setS (st':=st') λy hy=>ma.sm y (Z1f _ hy);have k3:KG g H2 (upd H2 g.s (.lst (st'.reverse.map V.int))):=KG.s;generalize upd H2 g.s (.lst (st'.reverse.map V.int))=H3 at m3 k3⊢;exact ⟨g,_,b,v+x,rfl,m3,(by have:=lim.2.1;show (tr++_).length<=_;rw [Z06];exact Nat.succ_le_succ this),lb,λH4 k4 m4=>k H4 ((KG.of s1).trans (k2.trans (k3.trans k4))) m4⟩
   ·rw [Z0b lb',e] at k;exact k H1 (KG.of s1)
  ·simp only [hb] at k;exact k H1 (KG.of s1)
theorem C2p (T:Txt K mg t) {A':Around} (hr:A3u 5 A'):∀f sp,C2a t f sp->∃fd ps k,A4w P w K mg base (CXD P w) k f fd ps sp/\A3u k A'/\keepIn K (.ref f)=true/\A3x K fd ps []:=by
 rintro f sp (⟨rfl,rfl⟩ | ⟨rfl,rfl⟩ | ⟨rfl,rfl⟩ | ⟨rfl,rfl⟩ | ⟨rfl,rfl⟩ | ⟨rfl,rfl⟩ | ⟨rfl,rfl⟩ | ⟨rfl,rfl⟩ | ⟨rfl,rfl⟩)
 ·exact ⟨_,_,_,(B3o T).up,hr.mono (by lia),T.di.F.kp,T.di.b⟩
 ·exact ⟨_,_,_,(B3m T).up,hr.mono (by lia),T.dn.F.kp,T.dn.b⟩
 ·exact ⟨_,_,_,(B0q T).up,hr.mono (by lia),T.cg.F.kp,T.cg.b⟩
 ·exact ⟨_,_,_,(B0l T).up,hr.mono (by lia),T.cm.F.kp,T.cm.b⟩
 ·exact ⟨_,_,_,B3c T,hr.mono (by lia),T.fe.F.kp,T.fe.b⟩
 ·exact ⟨_,_,_,B0u T,hr.mono (by lia),T.dy.F.kp,T.dy.b⟩
 ·exact ⟨_,_,_,A9f T,hr.mono (by lia),T.c_.F.kp,T.c_.b⟩
 ·exact ⟨_,_,_,(B3n T).up,hr.mono (by lia),T.dh.F.kp,T.dh.b⟩
 ·exact ⟨_,_,_,(B3e T).up,hr.mono (by lia),T.dk.F.kp,T.dk.b⟩
theorem C3f (T:Txt K mg t):A4w P w K mg base (CXD P w) 6 t.iV t.iU C3s (C5j t):=by
 have Ga7:= @A6w P w K mg base t T;refine T.ib.F.okD A9u (by walk_at "ln") λ_ A _ s H _ Q E hr h=> ?_
 ·obtain ⟨tp,hm,bl,wh,most,xs,rows,bx,D,rfl,htp,pr,rok,hhm,hbl,wp,lm,lb,k⟩:=h;have lx:=Paired.length pr
  refine ⟨_,(A0c (A0q (i:=5) A9u.nd rfl (.inl rfl) (pmk T.hZ Ga7 hr T.ii T.bu.b (A0a (pv 1) (A0a (pv 2) (A0a (pv 3) A0b)))))
   (A0c (A0q (i:=6) A9u.nd rfl (.inl rfl) A0e)
   (A0c (A0q (i:=7) A9u.nd rfl (.inl rfl) A0e)
   (A0c (B8a PassesOwn.leaving (A0r A8i (pv 6) (A0x A0l (by rfl) T.bf Z0r (A0a (pv 0) A0b)) (A0v _))
    (A0c (A2e (A0r C4n (pv 7) (pv 4) (A0v _))
     (A0f (A6g B2e T.iC rfl T.e_ rfl (A0a (A8e (A6k (B6a (pv 4) (A6k B1w)))) A0b)))
     A0y)
    (A0c (A0q (i:=8) A9u.nd rfl (.inl rfl) (A3g A2y (pv 0) (pv 6) (λ_ _=>rfl)))
    (A0c (A0q (i:=9) A9u.nd rfl (.inl rfl) (B3t (C2p T hr) B3g (B9r (B2c T.il rfl) (A3g A7y (pv 8) A0e (λ_ _=>rfl)) (λ_ _=>rfl)) (A0a (pv 5) (A0a (pv 8) A0b))))
    (A0c (A0q (i:=6) A9u.nd rfl (.inl rfl) (B2q (A0r A9r (pv 9) A4j (A0v _)) (A0m A2s (pv 6) A0e) (pv 9)))
    (A0f (A0q (i:=7) A9u.nd rfl (.inl rfl) (A0m A2s (pv 7) A0e))))))))
   (A0f (A0u (A1d (A0a (A2r (pv 5) rfl) (A0a (A2r (pv 5) rfl) A0b))))))))),?_⟩
  refine ⟨_,rfl,_,rfl,_,rfl,λx dx hx hdx nd=>⟨x,dx,hm,bl,wh,_,rfl,A0d,(by rw [A0g (A0i hbl hx),A0g (A0i hbl hdx)];exact hbl),λb c s0 r H1 k1 hb hs hr' nbs nbr nsr ex eb es er=>⟨rfl,?_⟩⟩⟩
  have f0:∀a,upd (upd H dx (.own x)) x (.ins t.ac dx []) a=none->H a=none:=λa e=>by
   have n1:a≠x:=λz=>by rw [z,A0d] at e;cases e
   rw [A0g n1] at e;have n2:a≠dx:=λz=>by rw [z,A0d] at e;cases e
   rw [A0g n2] at e;exact e
  have s1:A0z H H1:=λa o e=>k1 a o (A0i e hx) (by rw [A0g (A0i e hx),A0g (A0i e hdx)];exact e);obtain ⟨g,hg⟩:∃g:Mh,g=⟨x,b,s0,r,hm,wh⟩:=⟨_,rfl⟩;have m1:MAt t H1 g ⟨bx,[],[]⟩:=by rw [hg];exact ⟨⟨dx,c,ex⟩,eb,es,⟨[],er,.nil⟩,nbs,nbr,nsr,(λy hy=>nomatch hy),wp⟩
  have gb:H g.b=none:=by rw [hg];exact f0 _ hb
  have gs:H g.s=none:=by rw [hg];exact f0 _ hs
  have gr:H g.r=none:=by rw [hg];exact f0 _ hr'
  have gx:g.x=x:=by rw [hg]
  have gw:g.wh=wh:=by rw [hg]
  have gh:g.hm=hm:=by rw [hg]
  have gbr:g.b≠g.r:=by rw [hg];exact nbr
  clear hg
  refine ⟨λn σ G=>∃(pl kd:Nat) (m:Mc) (o8 o9:Option V),n=most-kd/\kd<=most/\σ=[Sro tp,Sio wh,Sro hm,Sro bl,Sio most,Sro x,Sio pl,Sio kd,o8,o9]/\A0z H G/\MAt t G g m/\m.st.length<=kd/\m.tr.length<=2*kd/\m.bx.length<=1000000/\B2n t H Q E (A2m wh D rows (most-kd) pl m),
   ⟨_,0,0,_,none,none,rfl,Z1e _,rfl,s1,m1,Z09 _,Z09 _,lb,k⟩,?_⟩
  rintro n σ G ⟨pl,kd,m,o8,o9,rfl,hkd,rfl,sG,mG,l1,l2,l3,kG⟩;refine ⟨_,rfl,_,rfl,tp,_,rfl,.inl (SqL.of (sG _ _ htp)),rfl,_,rfl,?_⟩;rw [lx];by_cases he:pl=rows.length
  ·rw [Z20 (by rw [he])];show if (!true)=true then _ else _
   refine B6r ?_
   have hr0:A2m wh D rows (most-kd) pl m= .good m:=by
    cases most-kd with
    | zero=>unfold A2m;rw [Z12 he]
    | succ j=>unfold A2m;rw [Z12 he]
   rw [hr0] at kG;obtain ⟨dx1,c1,hi⟩:=mG.ins;obtain ⟨vs,ht,pt⟩:=mG.tr;rw [gx] at hi;refine ⟨_,rfl,x,_,dx1,_,.ref g.b,rfl,hi,T.aa,T.ak,(by walk_at "lk"),_,rfl,x,_,dx1,_,.ref g.r,rfl,hi,T.aa,T.aq,(by walk_at "lk"),A0k rfl,λp hp=> ?_⟩;have s2:=A0j (o:= .tup [.ref g.b,.ref g.r]) hp;exact kG p g.b g.r vs _ (sG.trans s2) gb gr gbr A0d (s2 _ _ mG.bx) (s2 _ _ ht) (Paired.tr (λ_ _ z=>s2 _ _ z) pt)
  ·rw [Z1j (λz=>he (by injection z with z;lia))];show if (!false)=true then _ else _
   refine C3x ⟨λσ' H'=>∃m',m'<most-kd/\∃(pl kd:Nat) (m:Mc) (o8 o9:Option V),m'=most-kd/\kd<=most/\σ'=[some (.ref tp),some (.int wh),some (.ref hm),some (.ref bl),some (.int most),some (.ref x),some (.int pl),some (.int kd),o8,o9]/\A0z H H'/\MAt t H' g m/\m.st.length<=kd/\m.tr.length<=2*kd/\m.bx.length<=1000000/\B2n t H Q E (A2m wh D rows (most-kd) pl m),λσ' H' z=>z,?_⟩;refine ⟨_,rfl,_,rfl,_,_,rfl,rfl,_,rfl,A9e (λhc=> ?_) (λhc=> ?_)⟩
   ·have hc:(most:Int)<=kd:=hc;have e0:most-kd=0:=by lia
    rw [e0] at kG;have hr0:A2m wh D rows 0 pl m= .noend:=by unfold A2m;rw [Z0t he]
    rw [hr0] at kG;have sm:Sm (most:Int):=by unfold Sm;lia
    have q0:(Str.empty++("no end within ":Str)).length<=40:=by decide +kernel
    have q9:(" doings":Str).length<=20:=by decide +kernel
    have q1:=B0o sm;have q2:(Str.empty++("no end within ":Str)++(toString (most:Int):Str)).length<=100:=by rw [Str.length_append];lia
    have q3:(Str.empty++("no end within ":Str)++(toString (most:Int):Str)++(" doings":Str)).length<=200:=by rw [Str.length_append];lia
    exact ⟨A1c (by lia),_,rfl,_,.inr ⟨_,rfl,B5l sm,rfl⟩,A1c (by lia),A1c (by lia),A1c (by lia),A0k rfl,kG _ sG⟩
   ·have hc:¬(most:Int)<=kd:=hc;obtain ⟨j,ej⟩:∃j,most-kd=j+1:=⟨most-kd-1,by lia⟩;have ej2:most-(kd+1)=j:=by lia
    rw [ej] at kG;unfold A2m at kG;rw [Z0t he] at kG
    cases hrow:rows[pl]? with
    | none=>rw [hrow] at kG;exact kG.elim
    | some ro =>
     rw [hrow] at kG;have hpl:pl<rows.length:=(Z03.mp hrow).1;have hxp:xs[pl]? =some xs[pl]:=Z0b (by lia);obtain ⟨ro',hro',ra⟩:=C3m pr hxp;rw [hrow] at hro';cases hro';have ra:=ra.kt λ_ _ z=>sG _ _ z;generalize xs[pl]=v at hxp ra;have rk:=rok ro (Z13 hrow)
     have hmG:C1y G g.hm D:=by
      rw [gh];obtain ⟨kvs,e,pr⟩:=hhm;exact ⟨kvs,sG _ _ e,Paired.mapP pr λ_ _ z=>⟨z.1,z.2.choose,z.2.choose_spec.1,sG _ _ z.2.choose_spec.2⟩⟩
     have lim:Lim m:=⟨by lia,by lia,l3⟩
     have aft:B0b t g G (λv H'=>∃(pl':Nat) (m':Mc),(v= .non/\pl'=pl+1\/v= .int pl')/\A0z H H'/\MAt t H' g m'/\m'.st.length<=kd+1/\m'.tr.length<=2*(kd+1)/\m'.bx.length<=1000000/\B2n t H Q E (A2m wh D rows j pl' m')) E (A1j g.wh D m ro):=by
      rw [gw]
      cases hst:A1j wh D m ro with
      | nx m' to =>
       simp only [hst] at kG;obtain ⟨q1,q2,q3⟩:=B6z hst;intro H' kk mm;refine ⟨to.getD (pl+1),m',?_,KG.same0 sG kk gb gs gr,mm,by lia,by lia,by lia,kG⟩
       cases to with
       | none=>exact .inl ⟨rfl,rfl⟩
       | some n=>exact .inr rfl
      | out =>
       simp only [hst] at kG;exact λH' kk=>kG H' (KG.same0 sG kk gb gs gr)
      | bare =>
       simp only [hst] at kG;exact λH' kk=>kG H' (KG.same0 sG kk gb gs gr)
      | stuck=>simp only [hst] at kG;exact kG.elim
     obtain ⟨f,x0,p,vs,ok,rfl,hp,dt,hok,dat⟩:=C2o t ra;refine ⟨_,rfl,_,rfl,tp,_,_,.ref p,rfl,rfl,SqL.of (sG _ _ htp),A2q hxp,?_⟩;refine ⟨_,rfl,p,_,_,_,rfl,rfl,SqT.of hp,at0,t.fv,_,x0,.ref f,rfl,rfl,T.iy,dat,f,A3e t ok,rfl,dt,_,rfl,_,rfl,g,m,D,ro,_,(by rw [gx]),hok,ra,mG,lim,hmG,rk,aft.mono ?_⟩;rintro v H' ⟨pl',m',hv,q1,q2,q3,q4,q5,q6⟩;rcases hv with ⟨rfl,rfl⟩ | rfl
     ·exact ⟨_,rfl,rfl,_,rfl,A6m rfl ⟨_,rfl,_,_,rfl,rfl,_,rfl,_,_,rfl,rfl,most-(kd+1),by lia,pl+1,kd+1,m',_,_,rfl,by lia,rfl,q1,q2,q3,q4,q5,by rw [ej2];exact q6⟩⟩
     ·exact ⟨_,rfl,rfl,_,rfl,A8h (by intro z;cases z) ⟨_,rfl,_,rfl,_,_,rfl,rfl,most-(kd+1),by lia,pl',kd+1,m',_,_,rfl,by lia,rfl,q1,q2,q3,q4,q5,by rw [ej2];exact q6⟩⟩
theorem B1g {K:Frag} {C D:Addr} {b:Bool} (h:kitOne K (.ref C) (.ref D)=some b):∀u,A1l (.ref D) u->kitOne K (.ref C) u=some b:=by
 intro u z;obtain rfl:u=Value.ref D:=z;exact h
structure K3k (K:Frag) (t:Adr) (C:Addr) (j:Nat):Prop where
 xc:PySem.W.XcIn K C
 xm:mroIn K C (.type "ValueError")=some true
 lt:j<3
 k0:kitOne K (.ref C) (.ref t.af)=some (decide (j=0))
 k1:kitOne K (.ref C) (.ref t.ae)=some (decide (j=1))
 k2:kitOne K (.ref C) (.ref t.ad)=some (decide (j=2))
def knd (j:Nat):Str:=if j=0 then "end" else if j=1 then "out" else "bare"
def kl (i j:Nat):List V:=(if j<i then [.str (knd j)] else [])
def B5j (K:Frag) (t:Adr) (ea:Addr):Sp:=λvs H Q _=>∃(C:Addr) (od:Option Addr) (j:Nat),vs=[.ref ea]/\H ea=some (.ext (xcG ea C od))/\K3k K t C j/\∀(H':Hp),A0z H H'->Q (.str (knd j)) H'
def A5y:Rs->Str
 | .good _=>"good"
 | .noend=>"end"
 | .out=>"out"
 | .bare=>"bare"
 | .stuck=>"other"
structure C3y (P:Program) (w:World) (H:Hp) (tp hm bl:Addr) (xs:List V) (rows:List Ro) (l:Hm) (bx:List (Option Int)) (wh:Int) (most:Nat):Prop where
 tp:H tp=some (.lst xs)
 pr:Paired (A7m H) xs rows
 ok:∀r∈rows,B3u [("far",l)] r
 hm:H hm=some (.dT (kvT l))
 nd:((kvT l).map λe=>A4x P w e.1).Nodup
 bl:H bl=some (.lst (bx.map enO))
 wp:0<wh/\wh<=10^30
 lm:most<=1000000
 lb:bx.length<=1000000
def B8m (P:Program) (w:World):Sp:=λvs H Q _=>∃(tp hm bl:Addr) (wh:Int) (most:Nat) (xs:List V) (rows:List Ro) (l:Hm) (bx:List (Option Int)),vs=[.ref tp,.int wh,.ref hm,.ref bl,.int most]/\C3y P w H tp hm bl xs rows l bx wh most/\
 A2m wh [("far",l)] rows most 0 ⟨bx,[],[]⟩≠.stuck/\∀H',A0z H H'->Q (.str (A5y (A2m wh [("far",l)] rows most 0 ⟨bx,[],[]⟩))) H'
theorem B7m {K:Frag} {mg:Str->Option Value} {t:Adr} (T:Txt K mg t):K3k K t t.af 0:=⟨T.iA,T.du,by decide,T.fy,T.fg,T.ee⟩
theorem B3j {K:Frag} {mg:Str->Option Value} {t:Adr} (T:Txt K mg t):K3k K t t.ae 1:=⟨T.hX,T.cq,by decide,T.fq,T.d_,T.cv⟩
theorem A9v {K:Frag} {mg:Str->Option Value} {t:Adr} (T:Txt K mg t):K3k K t t.ad 2:=⟨T.gp,T.c5,by decide,T.dz,T.cy,T.cn⟩
theorem A8x {i j:Nat}:kl (i+1) j=if j=i then kl i j++[.str (knd i)] else kl i j:=by
 unfold kl;by_cases h:j=i
 ·subst h;rw [Z12 rfl,Z12 (Nat.lt_succ_self _),Z0t (Nat.lt_irrefl _)];rfl
 ·rw [Z0t h];by_cases h2:j<i
  ·rw [Z12 h2,Z12 (by lia)]
  ·rw [Z0t h2,Z0t (by lia)]
theorem B4u (T:Txt K mg t) (ea:Addr):C0l ea P w K mg base CX0 1 t.gZ t.gz ["_law_e"] (B5j K t ea):=by
 refine T.ay.F.okE A9p (by walk_at "ln") (λcdv A outer s H vs Q E hr hh h=> ?_)
 ·obtain ⟨C,od,j,rfl,he,k3,k⟩:=h
  refine ⟨_,(A0c (A2e (B8y (B2p (A0x (A5b (K:=K) rfl) (by rfl) T.bi Z0d (A0a (pv 0) (A0a (C1d (v:=V.ty "ValueError") rfl T.gl PyProof.Rows.Boot.«ValueError» rfl) A0b)))))
    (A0f (A0u A0s))
    A0y)
   (A0c (A0q (i:=1) A9p.nd rfl (.inl rfl) (A2t A0b))
   (A2b (A2e (B2p (A0x (A5b (K:=K) rfl) (by rfl) T.bi Z0d (A0a (pv 0) (A0a (B1j (v:=V.ref t.af) rfl T.e_ rfl) A0b))))
    (A0f (A1i (A6z Z0k Z0n Z0o A1e (pv 1) (A0a A0s A0b))))
    A0y)
   (A2b (A2e (B2p (A0x (A5b (K:=K) rfl) (by rfl) T.bi Z0d (A0a (pv 0) (A0a (B1j (v:=V.ref t.ae) rfl T.c8 rfl) A0b))))
    (A0f (A1i (A6z Z0k Z0n Z0o A1e (pv 1) (A0a A0s A0b))))
    A0y)
   (A2b (A2e (B2p (A0x (A5b (K:=K) rfl) (by rfl) T.bi Z0d (A0a (pv 0) (A0a (B1j (v:=V.ref t.ad) rfl T.cu rfl) A0b))))
    (A0f (A1i (A6z Z0k Z0n Z0o A1e (pv 1) (A0a A0s A0b))))
    A0y)
   (A0c (A2e (A0r A8i (A0x A0l (by rfl) T.bf Z0r (A0a (pv 1) A0b)) A0e (A0v _))
    (A0f (A0u A0s))
    A0y)
   (A0f (A0u (A3g A2y (pv 1) A0e (λ_ _=>rfl)))))))))),?_⟩
  refine ⟨_,rfl,ea,C,od,_,true,rfl,he,k3.xc,C3b k3.xm (by decide +kernel),true,rfl,B6r ?_⟩;refine ⟨A0k rfl,λL hL=> ?_⟩;have s0:A0z H (upd H L (.lst [])):=A0j hL;have h0:upd H L (.lst []) L=some (.lst (kl 0 j)):=by unfold kl;rw [Z0t (Nat.not_lt_zero _)];exact A0d
  generalize upd H L (.lst [])=G0 at s0 h0⊢
  have add:∀{G:Hp} {i:Nat},A0z H G->G L=some (.lst (kl i j))->j=i->A0z H (upd G L (.lst (kl i j++[.str (knd i)])))/\upd G L (.lst (kl i j++[.str (knd i)])) L=some (.lst (kl (i+1) j)):=λ{G i} s e hj=>by
   refine ⟨λb o z=>by rw [A0g (A0i z hL)];exact s _ _ z,?_⟩;rw [A8x,Z12 hj];exact A0d
  have len:∀i,(kl i j).length<sizeLine:=λi=>A1n (by unfold kl;by_cases h:j<i <;> simp [h]);refine ⟨λσ G=>σ=[Sro ea,Sro L]/\A0z H G/\G L=some (.lst (kl 1 j)),?_,?_⟩
  ·refine ⟨_,rfl,ea,C,od,_,_,rfl,s0 _ _ he,k3.xc,B1g k3.k0,_,rfl,A9e (λe=> ?_) (λe=> ?_)⟩
   ·obtain ⟨a1,a2⟩:=add s0 h0 e;exact ⟨_,rfl,.inl ⟨rfl,_,SqL.of h0⟩,L,_,_,rfl,rfl,h0,len 0,rfl,a1,a2⟩
   ·exact ⟨rfl,s0,by rw [A8x,Z0t e];exact h0⟩
  rintro σ G1 ⟨rfl,s1,h1⟩;refine ⟨λσ G=>σ=[Sro ea,Sro L]/\A0z H G/\G L=some (.lst (kl 2 j)),?_,?_⟩
  ·refine ⟨_,rfl,ea,C,od,_,_,rfl,s1 _ _ he,k3.xc,B1g k3.k1,_,rfl,A9e (λe=> ?_) (λe=> ?_)⟩
   ·obtain ⟨a1,a2⟩:=add s1 h1 e;exact ⟨_,rfl,.inl ⟨rfl,_,SqL.of h1⟩,L,_,_,rfl,rfl,h1,len 1,rfl,a1,a2⟩
   ·exact ⟨rfl,s1,by rw [A8x,Z0t e];exact h1⟩
  rintro σ G2 ⟨rfl,s2,h2⟩;refine ⟨λσ G=>σ=[Sro ea,Sro L]/\A0z H G/\G L=some (.lst (kl 3 j)),?_,?_⟩
  ·refine ⟨_,rfl,ea,C,od,_,_,rfl,s2 _ _ he,k3.xc,B1g k3.k2,_,rfl,A9e (λe=> ?_) (λe=> ?_)⟩
   ·obtain ⟨a1,a2⟩:=add s2 h2 e;exact ⟨_,rfl,.inl ⟨rfl,_,SqL.of h2⟩,L,_,_,rfl,rfl,h2,len 2,rfl,a1,a2⟩
   ·exact ⟨rfl,s2,by rw [A8x,Z0t e];exact h2⟩
  rintro σ G3 ⟨rfl,s3,h3⟩;rw [show kl 3 j=[.str (knd j)] from by unfold kl;rw [Z12 k3.lt]] at h3;refine ⟨_,rfl,L,_,rfl,.inl (SqL.of h3),rfl,_,rfl,?_⟩;refine A5s (λe=>absurd rfl e) (λ_=>⟨_,rfl,L,_,_,_,rfl,rfl,SqL.of h3,at0,k G3 s3⟩)
theorem A5x (T:Txt K mg t):FO P w base T.al 7 (B8m P w):=by
 have Ga8:= @C3f P w K mg base t T;have GE_l_kind:= @B4u P w K mg base t T;refine T.al.F.ok A1f (by walk_at "ln") λ_ A _ s H _ Q E hr h=> ?_
 ·obtain ⟨tp,hm,bl,wh,most,xs,rows,l,bx,rfl,gi,ns,k⟩:=h
  refine ⟨_,(A0c (A0q (i:=5) A1f.nd rfl (.inl rfl) A0s)
   (A0c (B1u ⟨rfl,rfl⟩ (B2g Ga8 (hr.mono (by lia)) rfl T.ib.m T.ib.F.kp T.ib.b (A0a (A1o A1z (by rfl) T.fi Z1o (A0a (pv 0) A0b)) (A0a (pv 1) (A0a (B3x (B1y A0s (A1o (A4c) (by rfl) T.gy Z2q (A0a (pv 2) A0b)) B5b) rfl rfl (by simp) (by decide)) (A0a (A1o A1z (by rfl) T.fi Z1o (A0a (pv 3) A0b)) (A0a (pv 4) A0b)))))))
   (A0f (A0u (pv 5))))),?_⟩
  refine ⟨_,rfl,tp,_,rfl,.inl (SqL.of gi.tp),λl1 hl1=> ?_⟩;obtain ⟨H1,u1,e1,eNH⟩:=nH (o:= .lst xs) hl1;rw [eNH];refine ⟨_,rfl,λp hp=> ?_⟩;obtain ⟨H2,u2,e2,eNH⟩:=nH (o:= .dK []) hp;rw [eNH];refine ⟨_,rfl,hm,_,rfl,.inl ((u1.trans u2) _ _ gi.hm),gi.nd,λp2 hp2=> ?_⟩;have n2:p2≠p:=λz=>by rw [z,e2] at hp2;cases hp2
  refine ⟨by rw [A0g n2.symm];exact e2,[(.inr "far",.ref p2)],rfl,(by show 1<=15;decide),?_⟩;have nHx:∀b o,H1 b=some o->b≠p/\b≠p2:=λb o z=>⟨A0i z hp,λy=>by subst y;rw [u2 _ _ z] at hp2;cases hp2⟩;have u3:A0z H1 (upd (upd H2 p2 (.dT (kvT l))) p (.dK [(.inr "far",.ref p2)])):=λb o z=>by rw [A0g (nHx b o z).1,A0g (nHx b o z).2];exact u2 _ _ z
  have e3:upd (upd H2 p2 (.dT (kvT l))) p (.dK [(.inr "far",.ref p2)]) p=some (.dK [(.inr "far",.ref p2)]):=A0d;have e4:upd (upd H2 p2 (.dT (kvT l))) p (.dK [(.inr "far",.ref p2)]) p2=some (.dT (kvT l)):=by rw [A0g n2];exact A0d
  rw [show A6i [] [((.inr "far":Key),V.ref p2)]=[(.inr "far",.ref p2)] from rfl];generalize upd (upd H2 p2 (.dT (kvT l))) p (.dK [(.inr "far",.ref p2)])=H3 at u3 e3 e4⊢;refine ⟨_,rfl,bl,_,rfl,.inl (SqL.of ((u1.trans u3) _ _ gi.bl)),λl2 hl2=> ?_⟩;obtain ⟨H4,u4,e5,eNH⟩:=nH (o:= .lst (bx.map enO)) hl2;rw [eNH];have s4:=u1.trans (u3.trans u4);refine ⟨_,rfl,l1,p,l2,wh,most,xs,rows,bx,[("far",l)],rfl,(u3.trans u4) _ _ e1,Paired.mapP gi.pr (λ_ _ z=>z.kt λ_ _ y=>s4 _ _ y),gi.ok,⟨_,u4 _ _ e3,.cons ⟨rfl,p2,rfl,u4 _ _ e4⟩ .nil⟩,e5,gi.wp,gi.lm,gi.lb,?_⟩;generalize A2m wh [("far",l)] rows most 0 ⟨bx,[],[]⟩=res at ns k⊢
  cases res with
  | stuck=>exact absurd rfl ns
  | good m=>exact λp b r vs H5 s5 _ _ _ _ _ _ _=>⟨_,rfl,k H5 (s4.trans s5)⟩
  | noend =>
   refine λH5 s5=>⟨t.af,_,rfl,(A8z (i:=6) rfl T.da T.eh A1f.nd rfl rfl (λ_=>(A0f (A0q (i:=5) A1f.nd rfl (.inl rfl) (A8m (GE_l_kind _) ((hr.mono (by lia)).held _) rfl rfl T.ay.m T.ay.F.kp T.ay.b .nil A3t (A0a (pv 6) A0b)))))),λea hea=> ?_⟩;have s6:A0z H5 (upd H5 ea (.ext (xcG ea t.af none))):=A0j hea;refine ⟨_,rfl,t.af,none,0,rfl,A0d,B7m T,λH6 s7=>⟨_,rfl,k H6 (s4.trans (s5.trans (s6.trans s7)))⟩⟩
  | out =>
   refine λH5 s5=>⟨t.ae,_,rfl,(A8z (i:=6) rfl T.da T.cw A1f.nd rfl rfl (λ_=>(A0f (A0q (i:=5) A1f.nd rfl (.inl rfl) (A8m (GE_l_kind _) ((hr.mono (by lia)).held _) rfl rfl T.ay.m T.ay.F.kp T.ay.b .nil A3t (A0a (pv 6) A0b)))))),λea hea=> ?_⟩;have s6:A0z H5 (upd H5 ea (.ext (xcG ea t.ae none))):=A0j hea;refine ⟨_,rfl,t.ae,none,1,rfl,A0d,B3j T,λH6 s7=>⟨_,rfl,k H6 (s4.trans (s5.trans (s6.trans s7)))⟩⟩
  | bare =>
   refine λH5 s5=>⟨t.ad,_,rfl,(A8z (i:=6) rfl T.da T.cp A1f.nd rfl rfl (λ_=>(A0f (A0q (i:=5) A1f.nd rfl (.inl rfl) (A8m (GE_l_kind _) ((hr.mono (by lia)).held _) rfl rfl T.ay.m T.ay.F.kp T.ay.b .nil A3t (A0a (pv 6) A0b)))))),λea hea=> ?_⟩;have s6:A0z H5 (upd H5 ea (.ext (xcG ea t.ad none))):=A0j hea;refine ⟨_,rfl,t.ad,none,2,rfl,A0d,A9v T,λH6 s7=>⟨_,rfl,k H6 (s4.trans (s5.trans (s6.trans s7)))⟩⟩
theorem A6y (T:Txt K mg t):FO P w base T.bj 7 (B8m P w):=by
 have Ga8:= @C3f P w K mg base t T;refine T.bj.F.ok B0y (by walk_at "ln") λ_ A _ s H _ Q E hr h=> ?_
 ·obtain ⟨tp,hm,bl,wh,most,xs,rows,l,bx,rfl,gi,ns,k⟩:=h
  refine ⟨_,(A0c (B1u ⟨rfl,rfl⟩ (B2g Ga8 (hr.mono (by lia)) rfl T.ib.m T.ib.F.kp T.ib.b (A0a (A1o A1z (by rfl) T.fi Z1o (A0a (pv 0) A0b)) (A0a (pv 1) (A0a (B3x (B1y A0s (A1o (A4c) (by rfl) T.gy Z2q (A0a (pv 2) A0b)) B5b) rfl rfl (by simp) (by decide)) (A0a (A1o A1z (by rfl) T.fi Z1o (A0a (pv 3) A0b)) (A0a (pv 4) A0b)))))))
   (A0f (A0u A0s))),?_⟩
  refine ⟨_,rfl,tp,_,rfl,.inl (SqL.of gi.tp),λl1 hl1=> ?_⟩;obtain ⟨H1,u1,e1,eNH⟩:=nH (o:= .lst xs) hl1;rw [eNH];refine ⟨_,rfl,λp hp=> ?_⟩;obtain ⟨H2,u2,e2,eNH⟩:=nH (o:= .dK []) hp;rw [eNH];refine ⟨_,rfl,hm,_,rfl,.inl ((u1.trans u2) _ _ gi.hm),gi.nd,λp2 hp2=> ?_⟩;have n2:p2≠p:=λz=>by rw [z,e2] at hp2;cases hp2
  refine ⟨by rw [A0g n2.symm];exact e2,[(.inr "far",.ref p2)],rfl,(by show 1<=15;decide),?_⟩;have nHx:∀b o,H1 b=some o->b≠p/\b≠p2:=λb o z=>⟨A0i z hp,λy=>by subst y;rw [u2 _ _ z] at hp2;cases hp2⟩;have u3:A0z H1 (upd (upd H2 p2 (.dT (kvT l))) p (.dK [(.inr "far",.ref p2)])):=λb o z=>by rw [A0g (nHx b o z).1,A0g (nHx b o z).2];exact u2 _ _ z
  have e3:upd (upd H2 p2 (.dT (kvT l))) p (.dK [(.inr "far",.ref p2)]) p=some (.dK [(.inr "far",.ref p2)]):=A0d;have e4:upd (upd H2 p2 (.dT (kvT l))) p (.dK [(.inr "far",.ref p2)]) p2=some (.dT (kvT l)):=by rw [A0g n2];exact A0d
  rw [show A6i [] [((.inr "far":Key),V.ref p2)]=[(.inr "far",.ref p2)] from rfl];generalize upd (upd H2 p2 (.dT (kvT l))) p (.dK [(.inr "far",.ref p2)])=H3 at u3 e3 e4⊢;refine ⟨_,rfl,bl,_,rfl,.inl (SqL.of ((u1.trans u3) _ _ gi.bl)),λl2 hl2=> ?_⟩;obtain ⟨H4,u4,e5,eNH⟩:=nH (o:= .lst (bx.map enO)) hl2;rw [eNH];have s4:=u1.trans (u3.trans u4);refine ⟨_,rfl,l1,p,l2,wh,most,xs,rows,bx,[("far",l)],rfl,(u3.trans u4) _ _ e1,Paired.mapP gi.pr (λ_ _ z=>z.kt λ_ _ y=>s4 _ _ y),gi.ok,⟨_,u4 _ _ e3,.cons ⟨rfl,p2,rfl,u4 _ _ e4⟩ .nil⟩,e5,gi.wp,gi.lm,gi.lb,?_⟩;generalize A2m wh [("far",l)] rows most 0 ⟨bx,[],[]⟩=res at ns k⊢
  cases res with
  | stuck=>exact absurd rfl ns
  | good m=>exact λp b r vs H5 s5 _ _ _ _ _ _ _=>k H5 (s4.trans s5)
  | noend=>exact λH5 s5=>⟨t.af,_,rfl,(A8l rfl T.e_ T.g0 (λ_=>(A0f (A0u A0s)))),λea hea=>k H5 (s4.trans s5)⟩
  | out=>exact λH5 s5=>⟨t.ae,_,rfl,(A8d rfl T.e_ T.fj (A8l rfl T.c8 T.eo (λ_=>(A0f (A0u A0s))))),λea hea=>k H5 (s4.trans s5)⟩
  | bare=>exact λH5 s5=>⟨t.ad,_,rfl,(A8d rfl T.e_ T.eg (A8d rfl T.c8 T.cz (A8l rfl T.cu T.cj (λ_=>(A0f (A0u A0s)))))),λea hea=>k H5 (s4.trans s5)⟩
inductive R3 where
 | push (n:Int) | st (k:Nat) | ld (k:Nat)
def adr (k:Int):List Int:=[k,0-k]
def R3.ro:R3->Ro
 | .push n=> .push n
 | .st k=> .store "far" (adr k)
 | .ld k=> .load "far" (adr k)
def nxt (s:Nat×List Nat):R3->Nat×List Nat
 | .push _=>(s.1+1,s.2)
 | .st k=>(s.1-1,s.2++[k])
 | .ld _=>(s.1+1,s.2)
def okR (n:Nat) (s:Nat×List Nat):R3->Prop
 | .push _=>True
 | .st k=>0<s.1/\k<n
 | .ld k=>k∈s.2/\k<n
def A5u (n:Nat) (s:Nat×List Nat) (rs:List R3):Prop:=∀i r,rs[i]? =some r->okR n ((rs.take i).foldl nxt s) r
theorem A5u.snoc {n:Nat} {s:Nat×List Nat} {rs:List R3} {r:R3} (h:A5u n s rs) (hr:okR n (rs.foldl nxt s) r):A5u n s (rs++[r]):=λi x hx=>by
 by_cases hi:i<rs.length
 ·rw [Z26 hi] at hx;rw [List.take_append_of_le_length (Nat.le_of_lt hi)];exact h i x hx
 ·have e:i=rs.length:=by
   have:=(Z03.mp hx).1;simp at this;lia
  subst e;rw [Z1l (Z09 _),Nat.sub_self] at hx;cases hx;rw [List.take_append_of_le_length (Z09 _),Z18];exact hr
theorem A5u.tail {n:Nat} {s:Nat×List Nat} {r:R3} {rs:List R3} (h:A5u n s (r::rs)):A5u n (nxt s r) rs:=λi x hx=>h (i+1) x (by simpa using hx)
theorem A5u.take {n:Nat} {s:Nat×List Nat} {rs:List R3} (h:A5u n s rs) (j:Nat):A5u n s (rs.take j):=λi x hx=>by
 have hi:=(Z03.mp hx).1;rw [Z0x] at hi;rw [List.getElem?_take_of_lt (by lia)] at hx;rw [List.take_take,Nat.min_eq_left (by lia)];exact h i x hx
theorem A5u.drop {n:Nat} {s:Nat×List Nat} {rs:List R3} (h:A5u n s rs) (j:Nat):A5u n ((rs.take j).foldl nxt s) (rs.drop j):=λi x hx=>by
 rw [List.getElem?_drop] at hx;have:=h _ x hx;rw [<-List.foldl_append]
 rwa [List.take_add] at this
structure Fit (n:Nat) (s:Nat×List Nat) (m:Mc):Prop where
 st:s.1<=m.st.length
 bx:n<=m.bx.length
 fu:∀k∈s.2,k<n->∃v,m.bx[k]? =some (some v)
def Hom (n:Nat) (D:List (Str×Hm)):Prop:=∀k:Nat,k<n->A3v D "far" (adr k)=some (k:Int)
theorem Hom.box {n:Nat} {D:List (Str×Hm)} (h:Hom n D) {k N:Nat} (hk:k<n) (hN:n<=N):A6c D N "far" (adr k)=some k:=by
 unfold A6c;rw [h k hk];show (if 0<=(k:Int)/\(k:Int)<N then some (k:Int).toNat else none)=_;rw [Z12 ⟨by lia,by lia⟩];rfl
theorem B8b {wh:Int} {n:Nat} {D:List (Str×Hm)} (hD:Hom n D) {s:Nat×List Nat} {m:Mc} {r:R3} (ok:okR n s r) (f:Fit n s m) :
  ∃m',A1j wh D m r.ro= .nx m' none/\Fit n (nxt s r) m'/\(∀k,r≠.st k->m'.bx[k]? =m.bx[k]?)/\m'.bx.length=m.bx.length:=by
 obtain ⟨bx,st,tr⟩:=m
 cases r with
 | push z=>exact ⟨_,rfl,⟨Nat.succ_le_succ f.st,f.bx,f.fu⟩,λ_ _=>rfl,rfl⟩
 | ld k =>
  obtain ⟨v,hv⟩:=f.fu k ok.1 ok.2;have hb:=hD.box ok.2 f.bx;have hv:bx[k]? =some (some v):=hv;have hb:A6c D bx.length "far" (adr k)=some k:=hb;refine ⟨⟨bx,v%wh::st,tr++[(("read":Str),k)]⟩,?_,⟨Nat.succ_le_succ f.st,f.bx,f.fu⟩,λ_ _=>rfl,rfl⟩;simp only [R3.ro,A1j,hb,hv]
 | st k =>
  have hb:=hD.box ok.2 f.bx;have hb:A6c D bx.length "far" (adr k)=some k:=hb;have hn:n<=bx.length:=f.bx
  cases st with
  | nil=>have:=f.st;exact absurd ok.1 (by have h2:s.1<=0:=this;lia)
  | cons x st' =>
   refine ⟨⟨bx.set k (some (x%wh)),st',tr++[(("write":Str),k)]⟩,by simp only [R3.ro,A1j,hb],⟨?_,?_,?_⟩,?_,by simp⟩
   ·have:=f.st;have h2:s.1<=st'.length+1:=this;show s.1-1<=st'.length;lia
   ·show n<=(bx.set k _).length;rw [List.length_set];exact hn
   ·intro j hj hjn;show∃v,(bx.set k (some (x%wh)))[j]? =some (some v);by_cases e:k=j
    ·subst e;exact ⟨x%wh,by rw [Z23 (by lia)]⟩
    ·rw [Z2a e];rcases Z07.mp hj with z | z
     ·exact f.fu j z hjn
     ·exact absurd (Z0w.mp z).symm e
   ·intro j hj;show (bx.set k (some (x%wh)))[j]? =bx[j]?;rw [Z2a (λe=>hj (by rw [e]))]
section
variable {wh:Int} {D:List (Str×Hm)} {tp:List Ro} {n:Nat}
theorem A3o {pl f:Nat} {m m':Mc} {r:Ro} {to:Option Nat} (h:tp[pl]? =some r) (e:A1j wh D m r= .nx m' to):A2m wh D tp (f+1) pl m=A2m wh D tp f (to.getD (pl+1)) m':=by
 have:=(Z03.mp h).1;show (if pl=tp.length then _ else _)=_;rw [Z0t (by lia)];simp only [h,e]
theorem B4n {pl f:Nat} {m:Mc} {r:Ro} (h:tp[pl]? =some r) (e:A1j wh D m r= .out):A2m wh D tp (f+1) pl m= .out:=by
 have:=(Z03.mp h).1;show (if pl=tp.length then _ else _)=_;rw [Z0t (by lia)];simp only [h,e]
theorem B1p {pl f:Nat} {m:Mc} {r:Ro} (h:tp[pl]? =some r) (e:A1j wh D m r= .bare):A2m wh D tp (f+1) pl m= .bare:=by
 have:=(Z03.mp h).1;show (if pl=tp.length then _ else _)=_;rw [Z0t (by lia)];simp only [h,e]
theorem A8t {pl:Nat} {m:Mc} (h:pl≠tp.length):A2m wh D tp 0 pl m= .noend:=by
 show (if pl=tp.length then _ else _)=_;rw [Z0t h]
theorem B1s {pl f:Nat} {m:Mc} (h:pl=tp.length):A2m wh D tp f pl m= .good m:=by
 cases f with
 | zero=>show (if pl=tp.length then _ else _)=_;rw [Z12 h]
 | succ f=>show (if pl=tp.length then _ else _)=_;rw [Z12 h]
theorem A7h (hD:Hom n D):∀(rs:List R3) (s:Nat×List Nat) (m:Mc) (pl:Nat),A5u n s rs->Fit n s m->(∀i r,rs[i]? =some r->tp[pl+i]? =some r.ro)->
  ∃m',(∀f,A2m wh D tp (f+rs.length) pl m=A2m wh D tp f (pl+rs.length) m')/\Fit n (rs.foldl nxt s) m'/\(∀k,(∀r∈rs,r≠.st k)->m'.bx[k]? =m.bx[k]?)/\m'.bx.length=m.bx.length
 | [],s,m,pl,_,f,_=>⟨m,λ_=>rfl,f,λ_ _=>rfl,rfl⟩
 | r::rs,s,m,pl,ok,f,at_=>by
  obtain ⟨m1,e1,f1,k1,l1⟩:=B8b (wh:=wh) hD (ok 0 r rfl) f;obtain ⟨m2,e2,f2,k2,l2⟩:=A7h hD rs (nxt s r) m1 (pl+1) ok.tail f1 (λi x hx=>by have:=at_ (i+1) x (by simpa using hx);rwa [show pl+(i+1)=pl+1+i by lia] at this);refine ⟨m2,λfu=> ?_,f2,λk hk=> ?_,l2.trans l1⟩
  ·rw [Z0y,<-Nat.add_assoc,A3o (pl:=pl) (at_ 0 r rfl) e1,show pl+(rs.length+1)=pl+1+rs.length by lia];exact e2 fu
  ·rw [k2 k λx hx=>hk x (Z1f _ hx),k1 k (hk r Z27)]
end
theorem B8q {α:Type} {a b:List α} {i:Nat} {x:α} (h:b[i]? =some x):(a++b)[a.length+i]? =some x:=by
 rw [Z1l (Nat.le_add_right _ _),Nat.add_sub_cancel_left];exact h
theorem B8t {rs:List R3} {a b:List Ro}:∀i r,rs[i]? =some r->(a++(rs.map R3.ro++b))[a.length+i]? =some r.ro:=λi r h=>by
 refine B8q ?_;rw [Z26 (by rw [Z08];exact (Z03.mp h).1),Z1z,h];rfl
def tpB (rs:List R3) (s:Nat) (mid:List Ro):List Ro:=(rs.take s).map R3.ro++(mid++(rs.drop s).map R3.ro)
theorem B4o {rs:List R3} {s:Nat} {mid:List Ro} (h:s<=rs.length):(tpB rs s mid).length=rs.length+mid.length:=by
 unfold tpB;rw [Z06,Z06,Z08,Z08,Z0x,Z19]
 lia
section
variable {wh:Int} {D:List (Str×Hm)} {rs:List R3} {s n:Nat} {F:List Nat} {bx:List (Option Int)}
theorem C1o (hD:Hom n D) (ok:A5u n (0,F) rs) (hs:s<=rs.length) (hb:n<=bx.length) (hF:∀k∈F,k<n->∃v,bx[k]? =some (some v)) (mid:List Ro) :
  ∃m,(∀f,A2m wh D (tpB rs s mid) (f+s) 0 ⟨bx,[],[]⟩=A2m wh D (tpB rs s mid) f s m)/\Fit n ((rs.take s).foldl nxt (0,F)) m/\(∀k,(∀r∈rs.take s,r≠.st k)->m.bx[k]? =bx[k]?)/\m.bx.length=bx.length:=by
 obtain ⟨m,e,f,k,l⟩:=A7h (wh:=wh) (tp:=tpB rs s mid) hD (rs.take s) (0,F) ⟨bx,[],[]⟩ 0 (ok.take s) ⟨Z1e _,hb,hF⟩ (λi r h=>by
  have:=B8t (a:=[]) (b:=mid++(rs.drop s).map R3.ro) i r h
  simpa [tpB] using this)
 have hl:(rs.take s).length=s:=by rw [Z0x];lia
 refine ⟨m,λfu=> ?_,f,k,l⟩;have:=e fu;rw [hl,Nat.zero_add] at this;exact this
theorem A4h {mid:List Ro} {i:Nat} {r:Ro} (hs:s<=rs.length) (h:mid[i]? =some r):(tpB rs s mid)[s+i]? =some r:=by
 have:=B8q (a:=(rs.take s).map R3.ro) (b:=mid++(rs.drop s).map R3.ro) (i:=i) (x:=r) (by rw [Z26 (Z03.mp h).1];exact h);rw [Z08,Z0x,Nat.min_eq_left hs] at this;exact this
theorem B6n (hD:Hom n D) (ok:A5u n (0,F) rs) (hs:s<=rs.length) {mid:List Ro} {m:Mc} (f:Fit n ((rs.take s).foldl nxt (0,F)) m) {fu:Nat} (hfu:rs.length-s<=fu):∃m',A2m wh D (tpB rs s mid) fu (s+mid.length) m= .good m':=by
 obtain ⟨m',e,_⟩:=A7h (wh:=wh) (tp:=tpB rs s mid) hD (rs.drop s) _ m (s+mid.length) (ok.drop s) f (λi r h=>by
  have:=B8t (a:=(rs.take s).map R3.ro++mid) (b:=[]) i r h;rw [Z0u,List.append_assoc,Z06,Z08,Z0x,Nat.min_eq_left hs] at this
  exact this)
 have hl:(rs.drop s).length=rs.length-s:=Z19;refine ⟨m',?_⟩;have:=e (fu-(rs.length-s));rw [hl,Nat.sub_add_cancel hfu] at this;rw [this];exact B1s (by rw [B4o hs];lia)
theorem B2h {q:Nat×List Nat} {m:Mc} (f:Fit n q m) (z:Int):Fit n q { m with st:=z::m.st }:=⟨Nat.le_succ_of_le f.st,f.bx,f.fu⟩
end
theorem A6n {wh:Int} {D:List (Str×Hm)} {tp:List Ro} (h:∀i r,tp[i]? =some r->(∃z,r= .push z)/\i+1<tp.length\/∃j,r= .jump j/\j<tp.length):∀(f pl:Nat) (m:Mc),pl<tp.length->A2m wh D tp f pl m= .noend
 | 0,pl,m,hp=>A8t (by lia)
 | f+1,pl,m,hp=>by
  have hx:tp[pl]? =some tp[pl]:=Z0b hp;rcases h pl _ hx with ⟨⟨z,e⟩,l⟩ | ⟨j,e,l⟩
  ·rw [A3o hx (m':={ m with st:=z%wh::m.st }) (to:=none) (by rw [e];rfl)];exact A6n h f _ _ l
  ·rw [A3o hx (m':=m) (to:=some j) (by rw [e];rfl)];exact A6n h f _ _ l
def nV (k:Nat):V:= .int (k:Int)
theorem C2q (ks:List Nat):ks.map nV=(ks.map λ(k:Nat)=>(k:Int)).map V.int:=by rw [List.map_map];rfl
def dI (ks:List Nat):PyData:= .list ((ks.map λ(k:Nat)=>(k:Int)).map PyData.int)
theorem B1t {H:Hp} {a:Addr} {ks:List Nat} (h:H a=some (.lst (ks.map nV))):Rep H (.ref a) (dI ks):=by
 rw [C2q] at h;exact .lst h (B0e _)
theorem B7r (ks:List Nat):SeqAt.shaped (dI ks)=true:=by
 obtain ⟨h1,h2,_⟩:=A9i (ks.map λ(k:Nat)=>(k:Int));have c:PyData.canLay0 (dI ks)=true:=by unfold dI;simp only [PyData.canLay0];exact h1
 unfold SeqAt.shaped;rw [c,Bool.true_and];refine Z20 ?_;unfold dI;simp only [PyData.depth]
 lia
theorem B8l (ks:List Nat):PyData.eqv (dI ks) (dI [])=decide (ks=[]):=by
 cases ks <;> simp [dI,PyData.eqv,PyData.eqvAll]
def A9q (K:Frag):Sp:=λvs H Q _=>∃(a:Addr) (ns:List Int) (k:Int),vs=[.ref a,.int k]/\SqL K H a (ns.map V.int)/\0<=k/\∀z:Int,Q (.int z) H
def C0a:Sp:=λvs H Q _=>∃n:Int,vs=[.int n]/\∀(q s:Addr) (H':Hp),A0z H H'->H' q=some (.tup [.str "far",.ref s])->IxT H' s (adr n)->Q (.ref q) H'
structure C1f (H:Hp) (R:Addr) (xs:List V) (rs:List R3):Prop where
 at_:H R=some (.lst xs)
 pr:Paired (A7m H) xs (rs.map R3.ro)
def C4m (bx:List (Option Int)) (F:List Nat):Prop:=∀k∈F,∃v,bx[k]? =some (some v)
def A9x:Sp:=λvs H Q _=>∃(cl bl:Addr) (cs:List Int) (bx:List (Option Int)),vs=[.ref cl,.ref bl]/\H cl=some (.lst (cs.map V.int))/\cs.length<=63/\H bl=some (.lst (bx.map enO))/\0<bx.length/\bx.length<=60/\
 ∀(R:Addr) (xs:List V) (rs:List R3) (F:List Nat) (H':Hp),A0z H H'->H R=none->C1f H' R xs rs->rs.length<=63->C4m bx F->A5u bx.length (0,F) rs->Q (.ref R) H'
def C0h:Sp:=λvs H Q _=>∃(R bl:Addr) (xs:List V) (rs:List R3) (bx:List (Option Int)),vs=[.ref R,.ref bl]/\C1f H R xs rs/\H bl=some (.lst (bx.map enO))/\bx.length<=60/\
 ∀(B:Addr) (ks:List Nat) (H':Hp),A0z H H'->H' B=some (.lst (ks.map nV))->ks.length<=60->(∀k∈ks,bx[k]? =some none/\∀r∈rs,r≠.st k)->Q (.ref B) H'
def C5w (n:Nat) (o:Option Int):Prop:=∀h,o=some h->Sm h/\¬(0<=h/\h<(n:Int))
def B1h:Sp:=λvs H Q _=>∃(c:Int) (n:Nat),vs=[.int c,.int n]/\n<=60/\∀o,C5w n o->Q (enO o) H
theorem B7n {s:Nat×List Nat}:∀rs:List R3,(rs.foldl nxt s).2.length<=s.2.length+rs.length:=λrs=>by
 induction rs generalizing s with
 | nil=>exact Z09 _
 | cons r rs ih =>
  rw [List.foldl_cons,Z0y];have:=ih (s:=nxt s r);cases r <;> simp only [nxt,Z06,Z0j] at this⊢<;> lia
theorem A1r {s:Nat×List Nat} {rs:List R3} {r:R3}:(rs++[r]).foldl nxt s=nxt (rs.foldl nxt s) r:=by rw [List.foldl_append];rfl
theorem B5f {n:Nat}:∀(rs:List R3) (s:Nat×List Nat),A5u n s rs->(∀x∈s.2,x<n)->∀x∈(rs.foldl nxt s).2,x<n
 | [],s,_,h=>h
 | r::rs,s,ok,h=>B5f rs (nxt s r) ok.tail (by
   cases r with
   | push z=>exact h
   | ld z=>exact h
   | st z=>exact λx hx=>(Z07.mp hx).elim (h x) (λq=>by rw [Z0w.mp q];exact (ok 0 (.st z) rfl).2))
theorem B9s (c:Int) {n:Nat} (h:0<n):∃k:Nat,c%(n:Int)=(k:Int)/\k<n:=by
 have h1:=Z1v c (show (n:Int)≠0 by lia);have h2:=Z1p c (show (0:Int)<n by lia);exact ⟨(c%n).toNat,by lia,by lia⟩
theorem A3y (T:Txt K mg t):FO P w base T.ag 1 (A9q K):=by
 refine T.ag.F.ok A9s (by walk_at "ln") λ_ A _ s H _ Q E hr h=> ?_
 ·obtain ⟨a,ns,k,rfl,hS,k0,q⟩:=h
  refine ⟨_,(A0c (A2e (A0r C2f (pv 1) (A0x A0l (by rfl) T.bf Z0r (A0a (pv 0) A0b)) (A0v _))
    (A0f (A0u (A3g A2y (pv 0) (pv 1) (λ_ _=>rfl))))
    A0y)
   (A0f (A0u A0e))),?_⟩
  refine ⟨_,rfl,_,rfl,a,_,rfl,.inl hS,_,_,rfl,rfl,_,rfl,?_⟩;refine A9e (λhk=> ?_) (λ_=>q 0);obtain ⟨z,_,e⟩:=C0f (f:=V.int) (xs:=ns) k0 (by simpa using hk);exact ⟨_,rfl,_,rfl,a,_,_,_,rfl,rfl,hS,e,q _⟩
theorem A9k (T:Txt K mg t):FO P w base T.c6 1 C0a:=by
 refine T.c6.F.ok B4k (by walk_at "ln") λ_ A _ s H _ Q E hr h=> ?_
 ·obtain ⟨n,rfl,k⟩:=h;refine ⟨_,(A0f (A0u (A1d (A0a A0s (A0a (A1d (A0a (A1d (A0a (B1e A6u A0e) (A0a (pv 0) A0b))) (A0a (A1d (A0a (B1e A6u A0e) (A0a (A0m A7s A0e (pv 0)) A0b))) A0b))) A0b))))),?_⟩;refine ⟨_,rfl,_,rfl,A0k rfl,λp1 h1=> ?_⟩;obtain ⟨H1,s1,e1,eNH⟩:=nH (o:= .tup [.int (-1),.int n]) h1;rw [eNH];refine ⟨_,rfl,_,rfl,_,_,rfl,rfl,A0k rfl,λp2 h2=> ?_⟩;obtain ⟨H2,s2,e2,eNH⟩:=nH (o:= .tup [.int (-1),.int (0-n)]) h2;rw [eNH];refine ⟨A0k rfl,λp3 h3=> ?_⟩;obtain ⟨H3,s3,e3,eNH⟩:=nH (o:= .tup [.ref p1,.ref p2]) h3;rw [eNH];refine ⟨A0k rfl,λp4 h4=> ?_⟩;have s4:A0z H3 (upd H3 p4 (.tup [.str "far",.ref p3])):=A0j h4;exact k p4 p3 _ (s1.trans (s2.trans (s3.trans s4))) A0d ⟨_,s4 _ _ e3,.cons ⟨p1,rfl,(s2.trans (s3.trans s4)) _ _ e1⟩ (.cons ⟨p2,rfl,(s3.trans s4) _ _ e2⟩ .nil),by simp [adr]⟩
theorem A8v (T:Txt K mg t):FO P w base T.cc 1 B1h:=by
 refine T.cc.F.ok A8r (by walk_at "ln") λ_ A _ s H _ Q E hr h=> ?_
 ·obtain ⟨c,n,rfl,hn,k⟩:=h
  refine ⟨_,(A0c (A2e (A0r A4g (A0m A1g (pv 0) A0e) A0e (A0v _))
    (A0f (A0u A4j))
    A0y)
   (A0c (A2e (A0r A4g (A0m A1g (pv 0) A0e) A0e (A0v _))
    (A0f (A0u (A0m A2s (pv 1) (A0m A1g (A0m A2n (pv 0) A0e) (A0m A7r A0e A0e)))))
    A0y)
   (A0f (A0u (A0m A7s (B1e A6u A0e) (A0m A1g (A0m A2n (pv 0) A0e) (A0m A7r A0e A0e))))))),?_⟩
  have q1:=Z1v (c/3) (show (10:Int)^(30:Int).toNat≠0 by decide);have q2:=Z1p (c/3) (show (0:Int)<10^(30:Int).toNat by decide);rw [show (10:Int)^(30:Int).toNat=1000000000000000000000000000000 by decide] at q1 q2;refine ⟨_,rfl,_,_,rfl,rfl,B9b,rfl,_,rfl,A9e (λ_=>k none (λh z=>by cases z)) (λ_=> ?_)⟩;refine ⟨_,rfl,_,_,rfl,rfl,B9b,rfl,_,rfl,A9e (λ_=> ?_) (λ_=> ?_)⟩
  ·refine ⟨_,rfl,_,rfl,_,_,rfl,rfl,⟨by decide,by decide⟩,_,_,rfl,rfl,⟨by decide,by decide,by decide⟩,_,_,rfl,rfl,(by show (0:Int)<10^(30:Int).toNat;decide),_,_,rfl,rfl,?_⟩;refine k (some _) λh z=> ?_;injection z with z;rw [<-z];rw [show (10:Int)^(30:Int).toNat=1000000000000000000000000000000 by decide];unfold Sm
   lia
  ·refine ⟨_,rfl,_,rfl,_,_,rfl,rfl,⟨by decide,by decide⟩,_,_,rfl,rfl,⟨by decide,by decide,by decide⟩,_,_,rfl,rfl,(by show (0:Int)<10^(30:Int).toNat;decide),_,_,rfl,rfl,?_⟩;refine k (some _) λh z=> ?_;injection z with z;rw [<-z];rw [show (10:Int)^(30:Int).toNat=1000000000000000000000000000000 by decide];unfold Sm
   lia
theorem A7p (T:Txt K mg t):FO P w base T.b_ 2 A9x:=by
 have Ga9:= @A9k P w K mg base t T;refine T.b_.F.ok A0w (by walk_at "ln") λ_ A _ s H _ Q E hr h=> ?_
 ·obtain ⟨cl,bl,cs,bx,rfl,hcl,lc,hbl,b0,b60,k⟩:=h
  refine ⟨_,(A0c (A0q (i:=2) A0w.nd rfl (.inl rfl) (A2t A0b))
   (A0c (A0q (i:=3) A0w.nd rfl (.inl rfl) A0e)
   (A0c (A5d (i₀:=4) (N':=["_law_k","_law_boxes"]) (ix:=(List.replicate 1 none++[some 1])) A0w.nd rfl (.inl rfl) rfl (A6d (x:="_law_boxes") rfl rfl rfl (by decide +kernel) (by decide +kernel)) (A4y (N0:=["_law_k"]) rfl (.inl rfl) (by walk_at "ix")) (A6o rfl T.gu (A0a (A0x A0l (by rfl) T.bf Z0r (A0a (pv 1) A0b)) A0b)) (λ_ _ _ _=>(A0p (i:=0) B5a rfl (.inl rfl))) (λ_ _ _ _=>(A0r B4s (A3g (B1r (K:=K) rfl) (pv 1) (pv 0) (λ_ _=>rfl)) A4j (A0v _))) (λ_ _ _ _=>(pv 0)))
   (A0c (B6f PassesOwn.never rfl (A8k (pv 0)) (A0p (i:=5) A0w.nd rfl (.inl rfl))
    (A0c (A0q (i:=6) A0w.nd rfl (.inl rfl) (A0m A1g (A0m A2n (pv 5) A0e) (A0x A0l (by rfl) T.bf Z0r (A0a (pv 1) A0b))))
    (A0f (A2e (PW.pt (B1m (A0r A4g (A0m A1g (pv 5) A0e) A0e (A0v _)) (A8g (A0r C4k (pv 3) A0e (A0v _)))))
     (A0c (A1i (A6z Z0k Z0n Z0o A1e (pv 2) (A0a (A0m A4e (A1d (A0a A0s A0b)) (pcl Ga9 hr T.c6 (A0a (pv 6) A0b))) A0b)))
     (A0c (A0q (i:=3) A0w.nd rfl (.inl rfl) (A0m A7s (pv 3) A0e))
     (A0f (A1i (A6z Z0k Z0n Z0o A1e (pv 4) (A0a (pv 6) A0b))))))
     (A0f (A2e (PW.pt (B1m (A0r A4g (A0m A1g (pv 5) A0e) A0e (A0v _)) (A8g (A0r (B8n hr.units) (pv 4) (A2t A0b) (A0v _)))))
      (A0c (A1i (A6z Z0k Z0n Z0o A1e (pv 2) (A0a (A0m A4e (A1d (A0a A0s A0b)) (pcl Ga9 hr T.c6 (A0a (A3g A2y (pv 4) (A0m A1g (A0m A2n (pv 5) A0e) (A0x A0l (by rfl) T.bf Z0r (A0a (pv 4) A0b))) (λ_ _=>rfl)) A0b))) A0b)))
      (A0f (A0q (i:=3) A0w.nd rfl (.inl rfl) (A0m A2s (pv 3) A0e))))
      (A0c (A1i (A6z Z0k Z0n Z0o A1e (pv 2) (A0a (A1d (A0a A0s (A0a (A0m A1g (pv 5) (A0m A7r A0e A0e)) A0b))) A0b)))
      (A0f (A0q (i:=3) A0w.nd rfl (.inl rfl) (A0m A2s (pv 3) A0e))))))))))
   (A0f (A0u (pv 2))))))),?_⟩
  refine ⟨A0k rfl,λR hR=> ?_⟩;obtain ⟨H1,s1,e1,eNH⟩:=nH (o:= .lst []) hR;rw [eNH];refine ⟨_,rfl,bl,_,rfl,.inl (SqL.of (s1 _ _ hbl)),_,rfl,(by rw [Z08];lia),(by rw [Z08];lia),λFL hFL=> ?_⟩;have nFR:R≠FL:=A0i e1 hFL;have nHx:H FL=none:=s1.free hFL;refine A6l (J:=Itr 0 _) (D:=FL) bx.length (λi ys G=>A0z H1 G/\G FL=some (.lst ys)/\∃F:List Nat,ys=F.map nV/\C4m bx F/\F.length<=i) ⟨A0j hFL,A0d,[],rfl,(λk hk=>nomatch hk),Z09 _⟩ (by rintro i ys G hi _;show i<_;simpa using hi) (by rintro ys G _;show _<=bx.length;simp) ?_ ?_
  ·rintro i ys G hi ⟨sG,eF,F,rfl,fu,lf⟩ x H3 ⟨rfl,rfl⟩;refine ⟨⟨rfl,True.intro⟩,_,rfl,_,rfl,bl,_,_,enO bx[i],rfl,rfl,SqL.of ((s1.trans sG) _ _ hbl),?_,rfl,_,rfl,?_⟩
   ·rw [Int.zero_add];exact A2q (by rw [Z1z,Z0b hi];rfl)
   ·refine A5s (λe=>⟨_,rfl,eF,A1n (by simp;lia),A1b sG hFL,A0d,F++[i],?_,?_,?_⟩) (λe=>⟨sG,eF,F,rfl,fu,by lia⟩)
    ·rw [Z0s,Int.zero_add];rfl
    ·intro j hj;rcases Z07.mp hj with z | z
     ·exact fu j z
     ·rw [Z0w.mp z,Z0b hi]
      cases hb:bx[i] with
      | none=>rw [hb] at e;exact absurd rfl e
      | some v=>exact ⟨v,rfl⟩
    ·simp;lia
  rintro ys G2 ⟨sG2,eF2,F,rfl,fu,lf⟩;refine ⟨_,rfl,cl,rfl,⟨_,SqL.of ((s1.trans sG2) _ _ hcl)⟩,?_⟩
  refine B2d (K:=K) (a:=cl) (xs:=cs.map V.int) (λi σ G=>∃(o5 o6:Option V) (xs:List V) (rs:List R3),σ=[Sro cl,Sro bl,Sro R,Sio ((rs.foldl nxt (0,F)).1:Nat),Sro FL,o5,o6]/\A0z H G/\C1f G R xs rs/\G FL=some (.lst ((rs.foldl nxt (0,F)).2.map nV))/\A5u bx.length (0,F) rs/\rs.length=i)
   ⟨none,none,[],[],rfl,s1.trans sG2,⟨sG2 _ _ e1,.nil⟩,eF2,(λi r h=>by simp at h),rfl⟩ (by rintro i σ G _ ⟨_,_,_,_,_,sG,_⟩;exact SqL.of (sG _ _ hcl)) ?_ ?_
  ·rintro i y σ G hy ⟨o5,o6,xs,rs,rfl,sG,rA,eF,ok,hl⟩;obtain ⟨c,hc,rfl⟩:=B2a hy;have hi:i<63:=by have:=(Z03.mp hc).1;lia
   obtain ⟨b,hb,hbn⟩:=B9s (c/3) b0;have lx:xs.length=rs.length:=by have:=Paired.length rA.pr;rw [Z08] at this;exact this
   have lF:=B7n (s:=(0,F)) rs;have lF:(rs.foldl nxt (0,F)).2.length<=F.length+rs.length:=lF
   have add:∀(G':Hp) (y:Addr) (r:R3),A0z G G'->A7m G' (.ref y) r.ro->A0z H (upd G' R (.lst (xs++[.ref y])))/\C1f (upd G' R (.lst (xs++[.ref y]))) R (xs++[.ref y]) (rs++[r])/\upd G' R (.lst (xs++[.ref y])) FL=some (.lst ((rs.foldl nxt (0,F)).2.map nV)):=λG' y r s' ra=>by
    have kt:=A5e (o:= .lst (xs++[.ref y])) (s' _ _ rA.at_);refine ⟨A1b (sG.trans s') hR,⟨A0d,?_⟩,by rw [A0g nFR.symm];exact s' _ _ eF⟩;rw [Z0s];exact Paired.snoc (ra.kt kt) (Paired.mapP rA.pr λ_ _ z=>z.kt λ_ _ q=>kt _ _ (s' _ _ q))
   refine ⟨_,rfl,_,_,rfl,rfl,⟨by decide,by decide⟩,_,rfl,bl,_,rfl,.inl (SqL.of (sG _ _ hbl)),_,_,rfl,rfl,by simp;lia,?_⟩;dsimp only;rw [Z08,hb];refine ⟨_,rfl,_,_,rfl,rfl,B9b,rfl,_,rfl,?_⟩;have stO:okR bx.length (rs.foldl nxt (0,F)) (.st b)↔0<(rs.foldl nxt (0,F)).1:=⟨λh=>h.1,λh=>⟨h,hbn⟩⟩;refine A9e (λh1=> ?_) (λh1=>B6r ?_)
   ·refine ⟨_,rfl,_,_,rfl,rfl,_,rfl,A9e (λh2=> ?_) (λh2=> ?_)⟩
    ·have h2:(0:Int)<((rs.foldl nxt (0,F)).1:Nat):=h2;refine ⟨_,rfl,.inl ⟨rfl,_,SqL.of rA.at_⟩,A0k rfl,λz hz=> ?_⟩;obtain ⟨G1,u1,f1,eNH⟩:=nH (o:= .tup [.str "store"]) hz;rw [eNH];refine ⟨_,rfl,(b:Int),rfl,λq s0 H3 s3 hq hix=>⟨z,q,_,_,rfl,rfl,s3 _ _ f1,hq,A0k rfl,λy H4 s4 hy=> ?_⟩⟩;obtain ⟨a1,a2,a3⟩:=add H4 y (.st b) (u1.trans (s3.trans s4)) ⟨y,_,rfl,hy,s0,rfl,hix.kt λ_ _ q=>s4 _ _ q⟩;refine ⟨R,xs,_,rfl,rfl,(u1.trans (s3.trans s4)) _ _ rA.at_,A1n (by lia),?_⟩;generalize upd H4 R (.lst (xs++[.ref y]))=H5 at a1 a2 a3⊢;refine ⟨_,rfl,_,_,rfl,rfl,_,rfl,.inl ⟨rfl,_,SqL.of a3⟩,_,rfl,FL,_,_,rfl,rfl,a3,A1n (by simp;lia),?_⟩;refine ⟨some (.int c),some (.int (b:Int)),xs++[.ref y],rs++[.st b],?_,A1b a1 nHx,⟨by rw [A0g nFR];exact a2.at_,?_⟩,?_,ok.snoc (stO.mpr (by lia)),by simp [hl]⟩
     ·rw [A1r];show [_,_,_,some (V.int (((rs.foldl nxt (0,F)).1:Nat)-1)),_,_,_]=[_,_,_,some (V.int (((rs.foldl nxt (0,F)).1-1:Nat):Int)),_,_,_];rw [show (((rs.foldl nxt (0,F)).1-1:Nat):Int)=((rs.foldl nxt (0,F)).1:Nat)-1 by lia]
     ·exact Paired.mapP a2.pr λ_ _ z=>z.kt (A5e a3)
     ·rw [A1r];show upd H5 FL _ FL=some (.lst (((rs.foldl nxt (0,F)).2++[b]).map nV));rw [Z0s];exact A0d
    ·refine ⟨_,rfl,_,_,rfl,rfl,B9b,rfl,_,rfl,A8h (by rw [h1];intro z;cases z) ?_⟩;refine B6r ?_;refine ⟨_,rfl,.inl ⟨rfl,_,SqL.of rA.at_⟩,_,rfl,_,_,rfl,rfl,⟨by decide,by decide,by decide⟩,_,_,rfl,rfl,(by show (0:Int)<10^(30:Int).toNat;decide),A0k rfl,λy hy=> ?_⟩;obtain ⟨a1,a2,a3⟩:=add _ y (.push _) (A0j hy) ⟨y,_,rfl,A0d,rfl⟩;refine ⟨R,xs,_,rfl,rfl,(A0j hy) _ _ rA.at_,A1n (by lia),?_⟩;exact ⟨_,rfl,_,_,rfl,rfl,some (.int c),some (.int (b:Int)),_,_,(by rw [A1r];rfl),a1,a2,(by rw [A1r];exact a3),ok.snoc trivial,by simp [hl]⟩
   ·refine ⟨_,rfl,_,_,rfl,rfl,B9b,rfl,_,rfl,A9e (λh2=> ?_) (λh2=>B6r ?_)⟩
    ·refine ⟨_,rfl,A0k rfl,λz hz=> ?_⟩;have u1:A0z G (upd G z (.lst [])):=A0j hz;have f1:upd G z (.lst []) z=some (.lst (([]:List Nat).map nV)):=A0d;generalize upd G z (.lst [])=G1 at u1 f1⊢;refine ⟨dI (rs.foldl nxt (0,F)).2,dI [],B1t (u1 _ _ eF),B1t f1,B7r _,B7r _,_,rfl,?_⟩;show if (!PyData.eqv (dI (rs.foldl nxt (0,F)).2) (dI []))=true then _ else _
     rw [B8l];refine A5s (λh3=> ?_) (λh3=> ?_)
     ·have h3:0<(rs.foldl nxt (0,F)).2.length:=List.length_pos_iff.mpr h3;obtain ⟨j,hj,hjn⟩:=B9s (c/3) h3;obtain ⟨kk,hkk⟩:∃kk,(rs.foldl nxt (0,F)).2[j]? =some kk:=⟨_,Z0b hjn⟩
      have kin:kk<bx.length:=by
       exact B5f rs (0,F) ok (λx hx=>(fu x hx).elim λv hv=>(Z03.mp hv).1) kk (Z13 hkk)
      have rA1:=u1 _ _ rA.at_;refine ⟨_,rfl,.inl ⟨rfl,_,SqL.of rA1⟩,A0k rfl,λz2 hz2=> ?_⟩;obtain ⟨G2,u2,f2,eNH⟩:=nH (o:= .tup [.str "load"]) hz2;rw [eNH];have eF2:=(u1.trans u2) _ _ eF;refine ⟨_,rfl,_,rfl,_,_,rfl,rfl,⟨by decide,by decide⟩,_,rfl,FL,_,rfl,.inl (SqL.of eF2),_,_,rfl,rfl,(by simp;lia),FL,_,_,nV kk,rfl,rfl,SqL.of eF2,?_,?_⟩
      ·rw [Z08,hj];exact A2q (by rw [Z1z,hkk];rfl)
      refine ⟨(kk:Int),rfl,λq s0 H3 s3 hq hix=>⟨z2,q,_,_,rfl,rfl,s3 _ _ f2,hq,A0k rfl,λy H4 s4 hy=> ?_⟩⟩;have u4:=u1.trans (u2.trans (s3.trans s4));obtain ⟨a1,a2,a3⟩:=add H4 y (.ld kk) u4 ⟨y,_,rfl,hy,s0,rfl,hix.kt λ_ _ q=>s4 _ _ q⟩;refine ⟨R,xs,_,rfl,rfl,u4 _ _ rA.at_,A1n (by lia),?_⟩;exact ⟨_,rfl,_,_,rfl,rfl,some (.int c),some (.int (b:Int)),_,_,(by rw [A1r];rfl),a1,a2,(by rw [A1r];exact a3),ok.snoc ⟨Z13 hkk,kin⟩,by simp [hl]⟩
     ·have rA1:=u1 _ _ rA.at_;refine ⟨_,rfl,.inl ⟨rfl,_,SqL.of rA1⟩,_,rfl,_,_,rfl,rfl,⟨by decide,by decide,by decide⟩,_,_,rfl,rfl,(by show (0:Int)<10^(30:Int).toNat;decide),A0k rfl,λy hy=> ?_⟩;obtain ⟨a1,a2,a3⟩:=add _ y (.push _) (u1.trans (A0j hy)) ⟨y,_,rfl,A0d,rfl⟩;refine ⟨R,xs,_,rfl,rfl,(A0j hy) _ _ rA1,A1n (by lia),?_⟩;exact ⟨_,rfl,_,_,rfl,rfl,some (.int c),some (.int (b:Int)),_,_,(by rw [A1r];rfl),a1,a2,(by rw [A1r];exact a3),ok.snoc trivial,by simp [hl]⟩
    ·refine ⟨_,rfl,.inl ⟨rfl,_,SqL.of rA.at_⟩,_,rfl,_,_,rfl,rfl,⟨by decide,by decide,by decide⟩,_,_,rfl,rfl,(by show (0:Int)<10^(30:Int).toNat;decide),A0k rfl,λy hy=> ?_⟩;obtain ⟨a1,a2,a3⟩:=add _ y (.push _) (A0j hy) ⟨y,_,rfl,A0d,rfl⟩;refine ⟨R,xs,_,rfl,rfl,(A0j hy) _ _ rA.at_,A1n (by lia),?_⟩;exact ⟨_,rfl,_,_,rfl,rfl,some (.int c),some (.int (b:Int)),_,_,(by rw [A1r];rfl),a1,a2,(by rw [A1r];exact a3),ok.snoc trivial,by simp [hl]⟩
  ·rintro σ G ⟨o5,o6,xs,rs,rfl,sG,rA,eF,ok,hl⟩;rw [Z08] at hl;exact ⟨_,rfl,k R xs rs F G sG hR rA (by lia) fu ok⟩
def A5j (n:Nat):Hm:=(List.range n).map λ(k:Nat)=>(adr (k:Int),(k:Int))
def A2u (n:Nat) (o:Option Int):Hm:=A5j n++(match o with | none=>[] | some h=>[(adr (-1),h)])
def A4t (j:Nat) (a:List Int):Ro:=if j=0 then .load "far" a else if j=1 then .store "far" a else .gather "far" a
def bwd (j:Nat):Str:=if j=0 then "load" else if j=1 then "store" else "gather"
def C0m (H:Hp) (v:V) (j:Nat) (a:List Int):Prop:=∃p q,v= .ref p/\H p=some (.tup [.str (bwd j),.str "far",.ref q])/\IxT H q a
theorem C0m.ro {H:Hp} {v:V} {j:Nat} {a:List Int} (h:C0m H v j a):A7m H v (A4t j a):=by
 obtain ⟨p,q,rfl,hp,hq⟩:=h;unfold A4t;unfold bwd at hp;by_cases h0:j=0
 ·rw [Z12 h0] at hp⊢;exact ⟨p,_,rfl,hp,q,rfl,hq⟩
 ·rw [Z0t h0] at hp⊢;by_cases h1:j=1
  ·rw [Z12 h1] at hp⊢;exact ⟨p,_,rfl,hp,q,rfl,hq⟩
  ·rw [Z0t h1] at hp⊢;exact ⟨p,_,rfl,hp,q,rfl,hq⟩
def A7w (n:Nat) (bx:List (Option Int)) (rs:List R3) (s:Nat) (kd:Str) (j:Nat) (a:List Int) (o:Option Int):Prop :=
 (kd="bare"/\o=none/\∃k:Nat,a=adr (k:Int)/\bx[k]? =some none/\(∀r∈rs.take s,r≠.st k)/\(j=0\/j=2))\/(kd="out"/\a=adr (-1)/\C5w n o/\j<3)
structure C3z (P:Program) (w:World) (K:Frag) (H:Hp) (sc R hm bl:Addr) (ns:List Int) (xs:List V) (rs:List R3) (bx:List (Option Int)):Prop where
 sc:SqL K H sc (ns.map V.int)
 ra:C1f H R xs rs
 lr:rs.length<=63
 hm:H hm=some (.dT (kvT (A5j bx.length)))
 bl:H bl=some (.lst (bx.map enO))
 b0:0<bx.length
 b6:bx.length<=60
def C0w (P:Program) (w:World) (K:Frag):Sp:=λvs H Q _=>∃(sc R hm bl:Addr) (ns:List Int) (xs:List V) (rs:List R3) (bx:List (Option Int)) (s:Nat),vs=[.ref sc,.ref R,.ref hm,.ref bl,.int s]/\C3z P w K H sc R hm bl ns xs rs bx/\s<=rs.length/\
 ∀(p h':Addr) (v:V) (kd:Str) (j:Nat) (a:List Int) (o:Option Int) (H':Hp),A0z H H'->H' p=some (.tup [.str kd,v,.ref h'])->C0m H' v j a->H' h'=some (.dT (kvT (A2u bx.length o)))->A7w bx.length bx rs s kd j a o->Q (.ref p) H'
@[irreducible] def hk (k:Int):Int:=reduceHash (Builtin.Tuple.tupleHashOf [hashInt k,hashInt (0-k)])
theorem B5p (P:Program) (w:World) (k:Int):A4x P w ((adr k).map Sum.inl)=hk k:=by unfold hk;rfl
def hkl:List Int:=[-8458139203682520985,-6779188579744246035,3070960072220142017,-1475381147637733973,-5178902540410201171,-8393025945444622587,5507376908407053039,1803855515634585841,-7140843087207658277,7602379593729426141,8786613571679372853,5083092178906905655,-3861606423935338463,2992767141281480338,7667492851967324539,3121151632109448549,-582369760663018649,-5128710980520894639,-7500014558469907263,6400388295381768363,1854047075523892373,-1849474317248574825,-5063597722282996241,-8767119115055463439,734926355811844059,-2968595036960623139,-1784361059010676427,7717684411856631071,4014163019084163873,-532178200773712117,1494875604261643387,-7449822998580600731,6450579855271074895,2747058462498607697,-6197640140343636421,-4170586335308280917,-8716927555166156907,6026295125770927511,-2918403477071316607,-1734169499121369895,-5437690891893837093,4064354578973470405,360833186201003207,1545067164150949919,-2158454228621517279,7343591242245790219,2797250022387914229,425946444438901605,-4120394775418974385,-7823916168191441583,6076486685660234043,2862363280625812627,-841158112146654571,-5387499332004530561,-9091020724776997759,6141599943898132441,2438078551125665243,-6506620051716578875,7393782802135096751,3690261409362629553,9083154820904886697]
theorem C2d:hkl.Nodup:=by decide +kernel
theorem C4g:(List.range 60).map (λ(k:Nat)=>hk (k:Int))++[hk (-1)]=hkl:=by decide +kernel
theorem B6o:((List.range 60).map (λ(k:Nat)=>hk (k:Int))++[hk (-1)]).Nodup:=by rw [C4g];exact C2d
theorem B3k {n m:Nat} (h:n<=m):List.range n=(List.range m).take n:=by rw [List.take_range,Nat.min_eq_left h]
theorem kv1 (P:Program) (w:World) (k h:Int):(([(adr k,h)]:Hm).map λe=>((e.1.map Sum.inl:List Key),V.int e.2)).map (λe=>A4x P w e.1)=[hk k]:=congrArg (λx=>[x]) (B5p P w k)
theorem C0g {A:List Int} {x:Int} (h:(A++[x]).Nodup) (n:Nat):(A.take n).Nodup/\(A.take n++[x]).Nodup:=by
 have h2:(A.take n++[x]).Nodup:=List.Sublist.nodup ((List.take_sublist n A).append (List.Sublist.refl [x])) h;exact ⟨List.Sublist.nodup (List.sublist_append_left _ _) h2,h2⟩
theorem C6c (P:Program) (w:World):∀l:List Nat,((kvT (l.map λ(k:Nat)=>(adr (k:Int),(k:Int)))).map λe=>A4x P w e.1)=l.map λ(k:Nat)=>hk (k:Int)
 | []=>rfl
 | k::r=>by
  have h:=C6c P w r;unfold kvT at h⊢;rw [Z0p,Z0p,Z0p,Z0p,h];show A4x P w ((adr (k:Int)).map Sum.inl)::_=_;rw [B5p]
theorem kvs (P:Program) (w:World) (n:Nat):((kvT (A5j n)).map λe=>A4x P w e.1)=(List.range n).map λ(k:Nat)=>hk (k:Int):=C6c P w _
theorem kvs2 (P:Program) (w:World) (n:Nat) (h:Int):((kvT (A2u n (some h))).map λe=>A4x P w e.1)=((List.range n).map λ(k:Nat)=>hk (k:Int))++[hk (-1)]:=by
 rw [<-kvs P w n,<-kv1 P w (-1) h,<-Z0s];unfold kvT A2u;rw [Z0s]
theorem A3m (P:Program) (w:World) {n:Nat} (hn:n<=60) (o:Option Int):((kvT (A2u n o)).map λe=>A4x P w e.1).Nodup:=by
 obtain ⟨h1,h2⟩:=C0g B6o n;rw [<-List.map_take,<-B3k hn] at h1 h2
 cases o with
 | none =>
  have e:A2u n none=A5j n:=Z0u _;rw [e,kvs];exact h1
 | some h=>rw [kvs2];exact h2
theorem A3i (n:Nat):A2u n none=A5j n:=Z0u _
theorem B0n {n:Nat} {o:Option Int}:(kvT (A2u n o)).length<=n+1:=by
 cases o with
 | none=>simp [kvT,A2u,A5j]
 | some h=>simp [kvT,A2u,A5j]
theorem A9c {j k:Int} (h:adr j=adr k):j=k:=by unfold adr at h;injection h
theorem B5c {n:Nat}:((kvT (A5j n)).any λkv=>decide (kv.1=(adr (-1)).map Sum.inl))=false:=by
 rw [List.any_eq_false];intro x hx;obtain ⟨e,he,rfl⟩:=Z2c.mp hx;obtain ⟨k,hk,rfl⟩:=Z2c.mp he;intro z;have z:=of_decide_eq_true z;have:=A9c (B6g.mp z)
 lia
theorem B5v {n:Nat} {o:Option Int} {h:Int}:A7x (kvT (A2u n o)) ((adr (-1)).map Sum.inl) (.int h)=kvT (A2u n (some h)):=by
 unfold A7x
 cases o with
 | none =>
  rw [A3i,B5c,Z0t Z0v];unfold A2u kvT;rw [Z0s];rfl
 | some y =>
  rw [show kvT (A2u n (some y))=kvT (A5j n)++[((adr (-1)).map Sum.inl,.int y)] by unfold A2u kvT;rw [Z0s];rfl];rw [List.any_append,B5c,Bool.false_or,Z12 (by simp),Z0s]
  have:∀l:List (List Key×V),(l.any λkv=>decide (kv.1=(adr (-1)).map Sum.inl))=false->l.map (λkv=>if kv.1=(adr (-1)).map Sum.inl then (kv.1,V.int h) else kv)=l:=λl hl=>by
   rw [List.any_eq_false] at hl;refine (List.map_congr_left λx hx=> ?_).trans (List.map_id l);rw [Z0t (λz=>hl x hx (Z20 z))];rfl
  rw [this _ B5c];unfold A2u kvT;rw [Z0s];simp
theorem C4z {xs:List V} {i:Nat}:B1b xs none (some (i:Int))=xs.take i:=by
 have:=C0c (f:=id) (ys:=xs) (i:=i)
 simpa using this
theorem B6t {x y:Str} (h:(x == y)=false):¬(V.str x=V.str y):=λz=>by
 injection z with z;rw [z] at h;simp at h
theorem B4b (T:Txt K mg t):FO P w base T.gc 1 C0h:=by
 refine T.gc.F.ok A4v (by walk_at "ln") λ_ A _ s H _ Q E hr h=> ?_
 ·obtain ⟨R,bl,xs,rs,bx,rfl,rA,hbl,b60,k⟩:=h;have lx:xs.length=rs.length:=by have:=Paired.length rA.pr;rw [Z08] at this;exact this
  refine ⟨_,(A0c (A5d (i₀:=2) (N':=["_law_k","_law_boxes"]) (ix:=(List.replicate 1 none++[some 1])) A4v.nd rfl (.inl rfl) rfl (A6d (x:="_law_boxes") rfl rfl rfl (by decide +kernel) (by decide +kernel)) (A4y (N0:=["_law_k"]) rfl (.inl rfl) (by walk_at "ix")) (A6o rfl T.gu (A0a (A0x A0l (by rfl) T.bf Z0r (A0a (pv 1) A0b)) A0b)) (λ_ _ _ _=>(A0p (i:=0) B4z rfl (.inl rfl))) (λ_ _ _ _=>(A0r A9r (A3g (B1r (K:=K) rfl) (pv 1) (pv 0) (λ_ _=>rfl)) A4j (A0v _))) (λ_ _ _ _=>(pv 0)))
   (A0c (B6f PassesOwn.never rfl (A8k (pv 0)) (A0p (i:=3) A4v.nd rfl (.inr rfl))
    (A0f (A2e (A0r A4g (A3g A7y (pv 3) A0e (λ_ _=>rfl)) A0s (A0v _))
     (A0f (A5d (i₀:=2) (N':=["_law_k","_law_row"]) (ix:=(List.replicate 1 none++[some 3])) A4v.nd rfl (.inl rfl) rfl (A6d (x:="_law_row") rfl rfl rfl (by decide +kernel) (by decide +kernel)) (A4y (N0:=["_law_k"]) rfl (.inl rfl) (by walk_at "ix")) (A8k (pv 2)) (λ_ _ _ _=>(A0p (i:=0) B5y rfl (.inl rfl))) (λ_ _ _ _=>(A0r A8i (pv 0) (A3g (A9a (K:=K) rfl) (A3g (A9a (K:=K) rfl) (A3g (A9a (K:=K) rfl) (pv 1) A0e (λ_ _=>rfl)) A0e (λ_ _=>rfl)) A0e (λ_ _=>rfl)) (A0v _))) (λ_ _ _ _=>(pv 0))))
     A0y)))
   (A0f (A0u (pv 2))))),?_⟩
  refine ⟨_,rfl,bl,_,rfl,.inl (SqL.of hbl),_,rfl,(by rw [Z08];lia),(by rw [Z08];lia),λB0 hB0=> ?_⟩;refine A6l (J:=Itr 0 _) (D:=B0) bx.length (λi ys G=>A0z H G/\G B0=some (.lst ys)/\∃ks:List Nat,ys=ks.map nV/\(∀k∈ks,bx[k]? =some none)/\ks.length<=i) ⟨A0j hB0,A0d,[],rfl,(λk hk=>nomatch hk),Z09 _⟩ (by rintro i ys G hi _;show i<_;simpa using hi) (by rintro ys G _;show _<=bx.length;simp) ?_ ?_
  ·rintro i ys G hi ⟨sG,eF,ks,rfl,fu,lf⟩ x H3 ⟨rfl,rfl⟩;refine ⟨⟨rfl,True.intro⟩,_,rfl,_,rfl,bl,_,_,enO bx[i],rfl,rfl,SqL.of (sG _ _ hbl),?_,rfl,_,rfl,?_⟩
   ·rw [Int.zero_add];exact A2q (by rw [Z1z,Z0b hi];rfl)
   ·refine A9e (λe=>⟨_,rfl,eF,A1n (by simp;lia),A1b sG hB0,A0d,ks++[i],?_,?_,?_⟩) (λe=>⟨sG,eF,ks,rfl,fu,by lia⟩)
    ·rw [Z0s,Int.zero_add];rfl
    ·intro j hj;rcases Z07.mp hj with z | z
     ·exact fu j z
     ·rw [Z0w.mp z,Z0b hi]
      cases hb:bx[i] with
      | none=>rfl
      | some v=>rw [hb] at e;cases e
    ·simp;lia
  rintro ys G2 ⟨sG2,eF2,ks0,rfl,fu0,lf0⟩;refine ⟨_,rfl,R,rfl,⟨_,SqL.of (sG2 _ _ rA.at_)⟩,?_⟩
  refine B2d (K:=K) (a:=R) (xs:=xs) (λi σ G=>∃(o3:Option V) (B:Addr) (ks:List Nat),σ=[Sro R,Sro bl,Sro B,o3]/\A0z H G/\G B=some (.lst (ks.map nV))/\ks.length<=60/\∀k∈ks,bx[k]? =some none/\∀r∈rs.take i,r≠.st k)
   ⟨none,B0,ks0,rfl,sG2,eF2,by lia,λk hk=>⟨fu0 k hk,λr hr=>by simp at hr⟩⟩ (by rintro i σ G _ ⟨_,_,_,_,sG,_⟩;exact SqL.of (sG _ _ rA.at_)) ?_ ?_
  ·rintro i y σ G hy ⟨o3,B,ks,rfl,sG,hB,lk,fk⟩;obtain ⟨ro,hro,ra⟩:=C3m rA.pr hy;rw [Z1z] at hro
   cases hr3:rs[i]? with
   | none=>rw [hr3] at hro;cases hro
   | some r =>
    rw [hr3] at hro;cases hro;have tk:rs.take (i+1)=rs.take i++[r]:=by rw [List.take_add_one,hr3];rfl
    obtain ⟨p,vs,rfl,hp,rv⟩:=ra.kt λ_ _ z=>sG _ _ z
    cases r with
    | push z =>
     cases (show vs=_ from rv)
     refine ⟨_,rfl,p,_,_,_,rfl,rfl,SqT.of hp,at0,rfl,_,rfl,A8h (B6t (by decide +kernel)) ⟨_,B,ks,rfl,sG,hB,lk,λk hk=>⟨(fk k hk).1,?_⟩⟩⟩;rw [tk];intro r hr;rcases Z07.mp hr with q | q
     ·exact (fk k hk).2 r q
     ·rw [Z0w.mp q];intro z;cases z
    | ld z =>
     obtain ⟨q,rv,_⟩:=rv;cases (show vs=_ from rv);refine ⟨_,rfl,p,_,_,_,rfl,rfl,SqT.of hp,at0,rfl,_,rfl,A8h (B6t (by decide +kernel)) ⟨_,B,ks,rfl,sG,hB,lk,λk hk=>⟨(fk k hk).1,?_⟩⟩⟩;rw [tk];intro r hr;rcases Z07.mp hr with q | q
     ·exact (fk k hk).2 r q
     ·rw [Z0w.mp q];intro z;cases z
    | st z =>
     obtain ⟨q,rv,vs2,hq,pq,_⟩:=rv;cases (show vs=_ from rv)
     cases pq with
     | cons h1 pq2 =>
      cases pq2 with
      | cons h2 pq3 =>
       cases pq3
       obtain ⟨p1,rfl,hp1⟩:=h1;refine ⟨_,rfl,p,_,_,_,rfl,rfl,SqT.of hp,at0,rfl,_,rfl,A6m rfl ?_⟩;refine ⟨_,rfl,B,rfl,⟨_,SqL.of hB⟩,λB1 hB1=> ?_⟩;refine A7e (K:=K) (a:=B) (D:=B1) (xs:=ks.map nV) (λj ys G3=>A0z G G3/\G3 B1=some (.lst ys)/\∃ks1:List Nat,ys=ks1.map nV/\(∀k∈ks1,k∈ks/\k≠z)/\ks1.length<=j) ⟨A0j hB1,A0d,[],rfl,(λk hk=>nomatch hk),Z09 _⟩ (λj ys G3 h=>SqL.of (h.1 _ _ hB)) ?_ ?_
       ·rintro j x ys G3 hx ⟨s3,e3,ks1,rfl,f3,l3⟩;obtain ⟨kk,hkk,rfl⟩:=B2a hx;have lj:j<ks.length:=(Z03.mp hkk).1;refine ⟨⟨rfl,True.intro⟩,_,rfl,_,rfl,p,_,_,_,rfl,rfl,SqT.of (s3 _ _ hp),A2q (j:=2) rfl,q,_,_,_,rfl,rfl,SqT.of (s3 _ _ hq),at0,p1,_,_,_,rfl,rfl,SqT.of (s3 _ _ hp1),A2q (j:=1) rfl,rfl,_,rfl,?_⟩;refine A5s (λe=>⟨_,rfl,e3,A1n (by simp;lia),A1b s3 hB1,A0d,ks1++[kk],?_,?_,?_⟩) (λe=>⟨s3,e3,ks1,rfl,f3,by lia⟩)
        ·rw [Z0s];rfl
        ·intro x hx;rcases Z07.mp hx with y | y
         ·exact f3 x y
         ·rw [Z0w.mp y];exact ⟨Z13 hkk,λe'=>e (by rw [e'];rfl)⟩
        ·simp;lia
       ·rintro ys G3 ⟨s3,e3,ks1,rfl,f3,l3⟩;rw [Z08] at l3;refine ⟨some (.ref p),B1,ks1,rfl,sG.trans s3,e3,by lia,λk hk=>⟨(fk k (f3 k hk).1).1,?_⟩⟩;rw [tk];intro r hr;rcases Z07.mp hr with y | y
        ·exact (fk k (f3 k hk).1).2 r y
        ·rw [Z0w.mp y];intro e;injection e with e;exact (f3 k hk).2 e.symm
  ·rintro σ G ⟨o3,B,ks,rfl,sG,hB,lk,fk⟩;rw [lx,Z18] at fk;exact ⟨_,rfl,k B ks G sG hB lk fk⟩
theorem at3 {a b c:V} {i:Int} (h0:0<=i) (h3:i<3):atI [a,b,c] i=some (if i=0 then a else if i=1 then b else c):=by
 have:i=0\/i=1\/i=2:=by lia
 rcases this with rfl | rfl | rfl <;> rfl
theorem at2 {a b:V} {i:Int} (h0:0<=i) (h2:i<2):atI [a,b] i=some (if i=0 then a else b):=by
 have:i=0\/i=1:=by lia
 rcases this with rfl | rfl <;> rfl
theorem B4x (T:Txt K mg t):FO P w base T.f_ 2 (C0w P w K):=by
 have Gb0:= @A8v P w K mg base t T;have Gb1:= @B4b P w K mg base t T;have Gb2:= @A3y P w K mg base t T;have Ga9:= @A9k P w K mg base t T;refine T.f_.F.ok A3k (by walk_at "ln") λ_ A _ s H _ Q E hr h=> ?_
 ·obtain ⟨sc,R,hm,bl,ns,xs,rs,bx,sp,rfl,ci,hs,k⟩:=h;have hu:=B6v hr;have lx:xs.length=rs.length:=by have:=Paired.length ci.ra.pr;rw [Z08] at this;exact this
  have b6:=ci.b6
  refine ⟨_,(A0c (A0q (i:=5) A3k.nd rfl (.inl rfl) (pcl Gb2 hr T.ag (A0a (pv 0) (A0a A0e A0b))))
   (A0c (A0q (i:=6) A3k.nd rfl (.inl rfl) (pcl Gb1 hr T.gc (A0a (A3n A5m (pv 1) A5h (A4b (pv 4))) (A0a (pv 3) A0b))))
   (A2b (A2e (PW.pt (B1m (A0r A4g (A0m A1g (pcl Gb2 hr T.ag (A0a (pv 0) (A0a A0e A0b))) A0e) A0e (A0v _)) (A8g (A0r (B8n hr.units) (pv 6) (A2t A0b) (A0v _)))))
    (A0c (A0q (i:=7) A3k.nd rfl (.inl rfl) (A3g A2y (A2t (A0a A0s (A0a A0s A0b))) (A0m A1g (pv 5) A0e) (λ_ _=>rfl)))
    (A0f (A0u (A1d (A0a A0s (A0a (A0m A4e (A1d (A0a (pv 7) A0b)) (pcl Ga9 hr T.c6 (A0a (A3g A2y (pv 6) (A0m A1g (A0m A2n (pv 5) A0e) (A0x A0l (by rfl) T.bf Z0r (A0a (pv 6) A0b))) (λ_ _=>rfl)) A0b))) (A0a (pv 2) A0b)))))))
    A0y)
   (A0c (A0q (i:=8) A3k.nd rfl (.inl rfl) (A1o (A4c) (by rfl) T.gy Z2q (A0a (pv 2) A0b)))
   (A0c (A0q (i:=9) A3k.nd rfl (.inl rfl) (pcl Gb0 hr T.cc (A0a (A0m A2n (pv 5) A0e) (A0a (A0x A0l (by rfl) T.bf Z0r (A0a (pv 3) A0b)) A0b))))
   (A2b (A2e (A0r B4s (pv 9) A4j (A0v _))
    (A0f (B0x hu (pv 8) (A1d (A0a (B1e A6u A0e) (A0a A0e A0b))) (pv 9) rfl))
    A0y)
   (A0f (A0u (A1d (A0a A0s (A0a (A0m A4e (A1d (A0a (A3g A2y (A2t (A0a A0s (A0a A0s (A0a A0s A0b)))) (A0m A1g (pv 5) A0e) (λ_ _=>rfl)) A0b)) (pcl Ga9 hr T.c6 (A0a (B1e A6u A0e) A0b))) (A0a (pv 8) A0b)))))))))))),?_⟩
  refine ⟨_,rfl,sc,ns,4,rfl,ci.sc,(by decide),λc=> ?_⟩;refine ⟨_,rfl,_,rfl,_,rfl,R,_,rfl,SqL.of ci.ra.at_,λR1 hR1=> ?_⟩;rw [C4z];obtain ⟨H1,s1,e1,eNH⟩:=nH (o:= .lst (xs.take sp)) hR1;rw [eNH]
  have ra1:C1f H1 R1 (xs.take sp) (rs.take sp):=⟨e1,by
   rw [List.map_take]
   have:∀{a:List V} {b:List Ro} (n:Nat),Paired (A7m H1) a b->Paired (A7m H1) (a.take n) (b.take n):=λn h=>by
    induction h generalizing n with
    | nil=>simp;exact .nil
    | cons z _ ih=>cases n with
     | zero=>exact .nil
     | succ n=>exact .cons z (ih n)
   exact this sp (Paired.mapP ci.ra.pr λ_ _ z=>z.kt λ_ _ y=>s1 _ _ y)⟩
  refine ⟨_,rfl,R1,bl,xs.take sp,rs.take sp,bx,rfl,ra1,s1 _ _ ci.bl,b6,λB ks H2 s2 hB lk fk=> ?_⟩;have s12:=s1.trans s2;have sc2:SqL K H2 sc (ns.map V.int):=s12.seq ci.sc;have ltup:∀{G G':Hp},A0z G G'->∀p ys,G p=some (.tup ys)->G' p=some (.tup ys):=λs _ _ z=>s _ _ z;refine ⟨λσ G=>σ=[Sro sc,Sro R,Sro hm,Sro bl,Sio sp,Sio c,Sro B,none,none,none]/\A0z H2 G,?_,?_⟩
  ·refine ⟨_,rfl,sc,ns,3,rfl,sc2,(by decide),λc3=> ?_⟩;refine ⟨_,_,rfl,rfl,B9b,rfl,_,rfl,A9e (λ_=> ?_) (λ_=>B6r ⟨rfl,A0z.refl _⟩)⟩;refine ⟨_,rfl,A0k rfl,λz hz=> ?_⟩;have u1:A0z H2 (upd H2 z (.lst [])):=A0j hz;have f1:upd H2 z (.lst []) z=some (.lst (([]:List Nat).map nV)):=A0d;generalize upd H2 z (.lst [])=G1 at u1 f1⊢;refine ⟨dI ks,dI [],B1t (u1 _ _ hB),B1t f1,B7r _,B7r _,_,rfl,?_⟩;show if (!PyData.eqv (dI ks) (dI []))=true then _ else _
   rw [B8l];refine A5s (λh3=> ?_) (λh3=>⟨rfl,u1⟩);have h3:0<ks.length:=List.length_pos_iff.mpr h3
   obtain ⟨jj,hj2,hjat⟩:∃jj:Nat,(jj=0\/jj=2)/\atI [V.str "load",V.str "gather"] (c%2)=some (.str (bwd jj)):=by
    rw [at2 (by lia) (by lia)];by_cases h:c%2=0
    ·exact ⟨0,.inl rfl,by rw [Z12 h];rfl⟩
    ·exact ⟨2,.inr rfl,by rw [Z0t h];rfl⟩
   obtain ⟨i,hi,hin⟩:=B9s (c/2) h3;obtain ⟨kk,hkk⟩:∃kk,ks[i]? =some kk:=⟨_,Z0b hin⟩;obtain ⟨fk1,fk2⟩:=fk kk (Z13 hkk);refine ⟨A0k rfl,λz2 hz2=> ?_⟩;obtain ⟨G2,u2,f2,eNH⟩:=nH (o:= .lst [.str "load",.str "gather"]) hz2;rw [eNH];refine ⟨_,rfl,_,_,rfl,rfl,C4c,z2,_,_,.str (bwd jj),rfl,rfl,SqL.of f2,hjat,?_⟩;refine ⟨_,rfl,A0k rfl,λz3 hz3=> ?_⟩;obtain ⟨G3,u3,f3,eNH⟩:=nH (o:= .tup [.str (bwd jj)]) hz3;rw [eNH];have u13:=u1.trans (u2.trans u3);have hB3:=u13 _ _ hB;refine ⟨_,rfl,_,rfl,_,_,rfl,rfl,⟨by decide,by decide⟩,_,rfl,B,_,rfl,.inl (SqL.of hB3),_,_,rfl,rfl,(by simp;lia),B,_,_,nV kk,rfl,rfl,SqL.of hB3,?_,?_⟩
   ·rw [Z08,hi];exact A2q (by rw [Z1z,hkk];rfl)
   refine ⟨(kk:Int),rfl,λq s0 H3 s3 hq hix=>⟨z3,q,_,_,rfl,rfl,s3 _ _ f3,hq,A0k rfl,λb H4 s4 hb=>⟨_,rfl,A0k rfl,λp hp=> ?_⟩⟩⟩;have s5:A0z H4 (upd H4 p (.tup [.str "bare",.ref b,.ref hm])):=A0j hp;have sA:=s12.trans (u13.trans (s3.trans (s4.trans s5)));refine k p hm (.ref b) "bare" jj (adr (kk:Int)) none _ sA A0d ⟨b,s0,rfl,s5 _ _ hb,hix.kt (ltup (s4.trans s5))⟩ ?_ (.inl ⟨rfl,rfl,kk,rfl,fk1,fk2,hj2⟩);rw [A3i];exact sA _ _ ci.hm
  rintro σ G0 ⟨rfl,s0⟩;have sG0:=s12.trans s0;refine ⟨_,rfl,hm,_,rfl,.inl (sG0 _ _ ci.hm),?_,λd hd=> ?_⟩
  ·have:=A3m P w b6 none;rw [A3i] at this;exact this
  have u1:A0z G0 (upd G0 d (.dT (kvT (A5j bx.length)))):=A0j hd;have f1:upd G0 d (.dT (kvT (A5j bx.length))) d=some (.dT (kvT (A2u bx.length none))):=by rw [A3i];exact A0d
  generalize upd G0 d (.dT (kvT (A5j bx.length)))=G1 at u1 f1⊢;have hdH:H d=none:=sG0.free hd;refine ⟨_,rfl,_,_,rfl,rfl,⟨by decide,by decide⟩,_,rfl,bl,_,rfl,.inl (SqL.of ((sG0.trans u1) _ _ ci.bl)),c/3,bx.length,by rw [Z08];rfl,b6,λo bo=> ?_⟩;refine ⟨λσ G=>σ=[Sro sc,Sro R,Sro hm,Sro bl,Sio sp,Sio c,Sro B,none,Sro d,some (enO o)]/\A0z H G/\G d=some (.dT (kvT (A2u bx.length o))),?_,?_⟩
  ·refine ⟨_,rfl,rfl,_,rfl,A5s (λe=> ?_) (λe=> ?_)⟩
   ·cases o with
    | none=>exact absurd rfl e
    | some y =>
     refine ⟨_,rfl,_,rfl,_,rfl,A0k rfl,λz hz=> ?_⟩;have u2:A0z G1 (upd G1 z (.tup [.int (-1),.int 1])):=A0j hz;have f2:upd G1 z (.tup [.int (-1),.int 1]) z=some (.tup (((adr (-1)).map Sum.inl).map kV)):=A0d;generalize upd G1 z (.tup [.int (-1),.int 1])=G2 at u2 f2⊢;refine ⟨d,_,rfl,B8o.t (u2 _ _ f1) f2 (A1n (by have:=B0n (n:=bx.length) (o:=none);lia)),rfl,?_,?_⟩
     ·exact A1b (sG0.trans (u1.trans u2)) hdH
     ·show upd G2 d (.dT (A7x (kvT (A2u bx.length none)) ((adr (-1)).map Sum.inl) (.int y))) d=_;rw [B5v];exact A0d
   ·cases o with
    | none=>exact ⟨rfl,sG0.trans u1,f1⟩
    | some y=>cases e
  rintro σ G2 ⟨rfl,s2',f2⟩;have q1:0<=c%3:=by lia
  have q2:c%3<3:=by lia
  obtain ⟨jj,hj3,hjat⟩:∃jj:Nat,jj<3/\atI [V.str "load",V.str "store",V.str "gather"] (c%3)=some (.str (bwd jj)):=by
   rw [at3 q1 q2];by_cases h:c%3=0
   ·exact ⟨0,by decide,by rw [Z12 h];rfl⟩
   ·by_cases h1:c%3=1
    ·exact ⟨1,by decide,by rw [Z0t h,Z12 h1];rfl⟩
    ·exact ⟨2,by decide,by rw [Z0t h,Z0t h1];rfl⟩
  refine ⟨A0k rfl,λz hz=> ?_⟩;obtain ⟨G3,u3,f3,eNH⟩:=nH (o:= .lst [.str "load",.str "store",.str "gather"]) hz;rw [eNH];refine ⟨_,rfl,_,_,rfl,rfl,B9b,z,_,_,.str (bwd jj),rfl,rfl,SqL.of f3,hjat,A0k rfl,λz3 hz3=> ?_⟩;obtain ⟨G4,u4,f4,eNH⟩:=nH (o:= .tup [.str (bwd jj)]) hz3;rw [eNH];refine ⟨_,rfl,-1,rfl,λq s0' H3 s3 hq hix=>⟨z3,q,_,_,rfl,rfl,s3 _ _ f4,hq,A0k rfl,λb H4 s4 hb=>⟨_,rfl,A0k rfl,λp hp=> ?_⟩⟩⟩;have s5:A0z H4 (upd H4 p (.tup [.str "out",.ref b,.ref d])):=A0j hp;have sA:=u3.trans (u4.trans (s3.trans (s4.trans s5)));exact k p d (.ref b) "out" jj (adr (-1)) o _ (s2'.trans sA) A0d ⟨b,s0',rfl,s5 _ _ hb,hix.kt (ltup (s4.trans s5))⟩ (sA _ _ f2) (.inr ⟨rfl,rfl,bo,hj3⟩)
def Dx (n:Nat) (o:Option Int):List (Str×Hm):=[("far",A2u n o)]
theorem A9o (n:Nat):A5j (n+1)=A5j n++[(adr (n:Int),(n:Int))]:=by
 unfold A5j;rw [List.range_succ,Z0s];rfl
theorem A6j (k:Int):∀n:Nat,(A5j n).find? (λe=>decide (e.1=adr k))=if 0<=k/\k<(n:Int) then some (adr k,k) else none
 | 0=>by rw [Z0t (by lia)];rfl
 | n+1=>by
  rw [A9o,List.find?_append,A6j k n];by_cases h:0<=k/\k<(n:Int)
  ·rw [Z12 h,Z12 ⟨h.1,by lia⟩];rfl
  ·rw [Z0t h,Option.none_or,Z2h];by_cases e:k=(n:Int)
   ·subst e;rw [Z12 ⟨by lia,by lia⟩];simp
   ·rw [Z0t (by lia),Z1j (λz=>e (A9c z).symm)];rfl
theorem B5z (n:Nat) (o:Option Int) (a:List Int):A3v (Dx n o) "far" a=hmI (A2u n o) a:=by
 have:hmL (Dx n o) "far"=some (A2u n o):=by unfold hmL Dx;simp
 unfold A3v;rw [this];rfl
theorem B3w {n:Nat} {o:Option Int} {k:Nat} (h:k<n):A3v (Dx n o) "far" (adr k)=some (k:Int):=by
 rw [B5z];unfold hmI A2u;rw [List.find?_append,A6j,Z12 ⟨by lia,by lia⟩];rfl
theorem A6q {n:Nat} {o:Option Int}:A3v (Dx n o) "far" (adr (-1))=o:=by
 rw [B5z];unfold hmI A2u;rw [List.find?_append,A6j,Z0t (by lia),Option.none_or]
 cases o with
 | none=>rfl
 | some h=>simp
theorem A7l (n:Nat) (o:Option Int):Hom n (Dx n o):=λk h=>B3w h
theorem C5h {n:Nat} {o:Option Int} {a:List Int} (h:∀z,A3v (Dx n o) "far" a=some z->Sm z):B5g (Dx n o) "far" a:=⟨by unfold hmL Dx;simp,⟨by decide +kernel,by decide +kernel⟩,h⟩
theorem C4i {n:Nat} {o:Option Int} {k:Nat} (h:k<n) (h6:n<=60):B5g (Dx n o) "far" (adr k):=C5h λz e=>by
 rw [B3w h] at e;cases e;unfold Sm
 lia
theorem ro_k {n:Nat} {o:Option Int} {s:Nat×List Nat} {r:R3} (ok:okR n s r) (h6:n<=60):B3u (Dx n o) r.ro:=by
 cases r with
 | push z=>trivial
 | st k=>exact C4i ok.2 h6
 | ld k=>exact C4i ok.2 h6
theorem B0p {n:Nat} {o:Option Int} {F:List Nat} {rs:List R3} (ok:A5u n (0,F) rs) (h6:n<=60):∀r∈rs.map R3.ro,B3u (Dx n o) r:=λr hr=>by
 obtain ⟨x,hx,rfl⟩:=Z2c.mp hr;obtain ⟨i,hi⟩:=List.getElem?_of_mem hx;exact ro_k (ok i x hi) h6
theorem C6f {D:List (Str×Hm)} {j:Nat} {a:List Int} (h:B5g D "far" a):B3u D (A4t j a):=by
 unfold A4t;by_cases h0:j=0
 ·rw [Z12 h0];exact h
 ·rw [Z0t h0];by_cases h1:j=1
  ·rw [Z12 h1];exact h
  ·rw [Z0t h1];exact h
section
variable {wh:Int} {D:List (Str×Hm)} {m:Mc} {j:Nat} {a:List Int}
theorem C2k (h:A6c D m.bx.length "far" a=none):A1j wh D m (A4t j a)= .out:=by
 unfold A4t;by_cases h0:j=0
 ·rw [Z12 h0];simp only [A1j,h]
 ·rw [Z0t h0];by_cases h1:j=1
  ·rw [Z12 h1];simp only [A1j,h]
  ·rw [Z0t h1];simp only [A1j,h]
theorem B9k {b:Nat} (h:A6c D m.bx.length "far" a=some b) (hv:m.bx[b]? =some none) (hj:j=0\/j=2):A1j wh D m (A4t j a)= .bare:=by
 rcases hj with rfl | rfl
 ·show A1j wh D m (.load "far" a)=_;simp only [A1j,h,hv]
 ·show A1j wh D m (.gather "far" a)=_;simp only [A1j,h,hv]
theorem C5p {b:Nat} {v x:Int} {st':List Int} (h:A6c D m.bx.length "far" a=some b) (hv:m.bx[b]? =some (some v)) (hs:m.st=x::st') :
  ∃m',A1j wh D m (A4t j a)= .nx m' none/\st'.length<=m'.st.length/\m'.bx.length=m.bx.length/\(∀i,i≠b->m'.bx[i]? =m.bx[i]?)/\∃v',m'.bx[b]? =some (some v'):=by
 have hb:=B1o h;unfold A4t;by_cases h0:j=0
 ·rw [Z12 h0];refine ⟨{ m with st:=v%wh::m.st,tr:=m.tr++[(("read":Str),b)] },by simp only [A1j,h,hv],by rw [hs];simp;lia,rfl,λ_ _=>rfl,v,hv⟩
 ·rw [Z0t h0];by_cases h1:j=1
  ·rw [Z12 h1];refine ⟨⟨m.bx.set b (some (x%wh)),st',m.tr++[(("write":Str),b)]⟩,by simp only [A1j,h,hs],Z09 _,by simp,λi hi=> ?_,x%wh,?_⟩
   ·show (m.bx.set b _)[i]? =_;rw [Z2a (λe=>hi e.symm)]
   ·show (m.bx.set b _)[b]? =_;rw [Z23 hb]
  ·rw [Z0t h1];refine ⟨⟨m.bx.set b (some ((v+x)%wh)),st',m.tr++[(("read":Str),b)]++[(("write":Str),b)]⟩,by simp only [A1j,h,hv,hs],Z09 _,by simp,λi hi=> ?_,(v+x)%wh,?_⟩
   ·show (m.bx.set b _)[i]? =_;rw [Z2a (λe=>hi e.symm)]
   ·show (m.bx.set b _)[b]? =_;rw [Z23 hb]
end
section
variable {wh:Int} {D:List (Str×Hm)} {rs:List R3} {s n:Nat} {F:List Nat} {bx:List (Option Int)}
theorem A6f (hD:Hom n D) (ok:A5u n (0,F) rs) (hs:s<=rs.length) (hb:n<=bx.length) (hF:∀k∈F,k<n->∃v,bx[k]? =some (some v)) (mid:List Ro) :
  ∃(m:Mc) (st':List Int),m.st=5%wh::st'/\(∀f,A2m wh D (tpB rs s (.push 5::mid)) (f+1+s) 0 ⟨bx,[],[]⟩=A2m wh D (tpB rs s (.push 5::mid)) f (s+1) m)/\
   ((rs.take s).foldl nxt (0,F)).1<=st'.length/\Fit n ((rs.take s).foldl nxt (0,F)) m/\(∀k,(∀r∈rs.take s,r≠.st k)->m.bx[k]? =bx[k]?)/\m.bx.length=bx.length:=by
 obtain ⟨m,e,f,k,l⟩:=C1o (wh:=wh) hD ok hs hb hF (.push 5::mid);refine ⟨{ m with st:=5%wh::m.st },m.st,rfl,λfu=> ?_,f.st,B2h f _,k,l⟩
 rw [e];exact A3o (r:= .push 5) (m':={ m with st:=5%wh::m.st }) (to:=none) (A4h (i:=0) hs rfl) rfl
theorem B7p (hD:Hom n D) (ok:A5u n (0,F) rs) (hs:s<=rs.length) (hb:n<=bx.length) (hF:∀k∈F,k<n->∃v,bx[k]? =some (some v)) {r1:Ro} {mid:List Ro}:A2m wh D (tpB rs s (.push 5::r1::mid)) (s+1) 0 ⟨bx,[],[]⟩= .noend:=by
 obtain ⟨m,st',_,e,_⟩:=A6f (wh:=wh) hD ok hs hb hF (r1::mid);have:=e 0;rw [Nat.zero_add,Nat.add_comm] at this;rw [this];exact A8t (by rw [B4o hs];simp;lia)
theorem B5e (hD:Hom n D) (ok:A5u n (0,F) rs) (hs:s<=rs.length) {mid:List Ro} {m:Mc} (f:Fit n ((rs.take s).foldl nxt (0,F)) m) {fu i:Nat} (hi:mid.length=i+1) (h6:mid[i]? =some (.push 6)) (hfu:rs.length-s+1<=fu):∃m',A2m wh D (tpB rs s mid) fu (s+i) m= .good m':=by
 obtain ⟨g,rfl⟩:∃g,fu=g+1:=⟨fu-1,by lia⟩;rw [A3o (A4h hs h6) (m':={ m with st:=6%wh::m.st }) (to:=none) rfl];have:=B6n (wh:=wh) (mid:=mid) hD ok hs (B2h f (6%wh)) (fu:=g) (by lia);rw [hi] at this;exact this
end
section
variable {wh:Int} {rs:List R3} {s n j:Nat} {F:List Nat} {bx:List (Option Int)} {kd:Str} {a:List Int} {o:Option Int}
structure A9h (n:Nat) (bx:List (Option Int)) (F:List Nat) (rs:List R3) (s:Nat):Prop where
 ok:A5u n (0,F) rs
 fu:C4m bx F
 hs:s<=rs.length
 ln:bx.length=n
theorem A9h.hF (h:A9h n bx F rs s):∀k∈F,k<n->∃v,bx[k]? =some (some v):=λk hk _=>h.fu k hk
theorem B2m (h:A9h n bx F rs s) (c:A7w n bx rs s kd j a o) {m:Mc} (hl:m.bx.length=bx.length) (hk:∀k,(∀r∈rs.take s,r≠.st k)->m.bx[k]? =bx[k]?) :
  (kd="out"/\A1j wh (Dx n o) m (A4t j a)= .out)\/(kd="bare"/\A1j wh (Dx n o) m (A4t j a)= .bare):=by
 rcases c with ⟨e,rfl,k,rfl,hb,hr,hj⟩ | ⟨e,rfl,ho,_⟩
 ·refine .inr ⟨e,?_⟩;have kn:k<n:=by rw [<-h.ln];exact (Z03.mp hb).1
  exact B9k ((A7l n none).box kn (by rw [hl,h.ln];exact Z09 _)) (by rw [hk k hr];exact hb) hj
 ·refine .inl ⟨e,C2k ?_⟩;unfold A6c;rw [A6q]
  cases o with
  | none=>rfl
  | some z =>
   show (if 0<=z/\z<(m.bx.length:Int) then some z.toNat else none)=none;rw [Z0t (by rw [hl,h.ln];exact (ho z rfl).2)]
theorem B2i (h:A9h n bx F rs s) (c:A7w n bx rs s kd j a o) {mid:List Ro} (fu:Nat) (hfu:s+2<=fu):∃r,A2m wh (Dx n o) (tpB rs s (.push 5::A4t j a::mid)) fu 0 ⟨bx,[],[]⟩=r/\r≠.stuck/\A5y r=kd:=by
 obtain ⟨m,st',hst,e,_,_,hk,hl⟩:=A6f (wh:=wh) (A7l n o) h.ok h.hs (Nat.le_of_eq h.ln.symm) h.hF (A4t j a::mid);obtain ⟨g,rfl⟩:∃g,fu=g+1+1+s:=⟨fu-2-s,by lia⟩;rcases B2m (wh:=wh) h c hl hk with ⟨ek,es⟩ | ⟨ek,es⟩
 ·exact ⟨.out,by rw [e];exact B4n (A4h (i:=1) h.hs rfl) es,(λz=>by cases z),ek.symm⟩
 ·exact ⟨.bare,by rw [e];exact B1p (A4h (i:=1) h.hs rfl) es,(λz=>by cases z),ek.symm⟩
theorem B7g (h:A9h n bx F rs s) (c:A7w n bx rs s kd j a o) (fu:Nat) (hfu:rs.length+4<=fu) :
  ∃r,A2m wh (Dx n o) (tpB rs s [.push 5,.skip "far" a (s+3),A4t j a,.push 6]) fu 0 ⟨bx,[],[]⟩=r/\r≠.stuck/\A5y r=if kd="out"/\o=none then ("good":Str) else kd:=by
 have hs:=h.hs;obtain ⟨m,st',hst,e,_,f,hk,hl⟩:=A6f (wh:=wh) (A7l n o) h.ok h.hs (Nat.le_of_eq h.ln.symm) h.hF [.skip "far" a (s+3),A4t j a,.push 6];obtain ⟨g,rfl⟩:∃g,fu=g+1+1+1+s:=⟨fu-3-s,by lia⟩
 cases hh:A3v (Dx n o) "far" a with
 | none =>
  have hko:kd="out"/\o=none:=by
   rcases c with ⟨ek,rfl,k,rfl,hb,hr,hj⟩ | ⟨ek,rfl,ho,_⟩
   ·have kn:k<n:=by rw [<-h.ln];exact (Z03.mp hb).1
    rw [B3w kn] at hh;cases hh
   ·rw [A6q] at hh;exact ⟨ek,hh⟩
  obtain ⟨m',e'⟩:=B5e (wh:=wh) (A7l n o) h.ok h.hs (mid:=[.push 5,.skip "far" a (s+3),A4t j a,.push 6]) f (fu:=g+1) (i:=3) rfl rfl (by lia);refine ⟨.good m',?_,(λz=>by cases z),by rw [Z12 hko];rfl⟩;rw [e,A3o (A4h (i:=1) h.hs rfl) (m':=m) (to:=some (s+3)) (by simp only [A1j,hh])];exact e'
 | some z =>
  have hko:¬(kd="out"/\o=none):=by
   rintro ⟨ek,rfl⟩;rcases c with ⟨ek',_⟩ | ⟨_,rfl,_⟩
   ·rw [ek] at ek';exact absurd ek' (by decide +kernel)
   ·rw [A6q] at hh;cases hh
  rcases B2m (wh:=wh) h c hl hk with ⟨ek,es⟩ | ⟨ek,es⟩
  ·refine ⟨.out,?_,(λz=>by cases z),by rw [Z0t hko];exact ek.symm⟩;rw [e,A3o (A4h (i:=1) h.hs rfl) (m':=m) (to:=none) (by simp only [A1j,hh])];exact B4n (A4h (i:=2) h.hs rfl) es
  ·refine ⟨.bare,?_,(λz=>by cases z),by rw [Z0t hko];exact ek.symm⟩;rw [e,A3o (A4h (i:=1) h.hs rfl) (m':=m) (to:=none) (by simp only [A1j,hh])];exact B1p (A4h (i:=2) h.hs rfl) es
theorem B7z (h:A9h n bx F rs s) (c:A7w n bx rs s kd j a o) :
  (kd="out"->∃m,A2m wh (Dx n (some (n:Int))) (tpB rs s [.push 5,A4t j a,.push 6]) (rs.length+3) 0 ⟨bx++[some 1],[],[]⟩= .good m)/\
  (kd="bare"->∀k:Nat,a=adr (k:Int)->∃m,A2m wh (Dx n o) (tpB rs s [.push 5,A4t j a,.push 6]) (rs.length+3) 0 ⟨bx.set k (some 0),[],[]⟩= .good m):=by
 have hs:=h.hs
 have go:∀(D:List (Str×Hm)) (by':List (Option Int)) (b:Nat),Hom n D->n<=by'.length->(∀k∈F,k<n->∃v,by'[k]? =some (some v))->A6c D by'.length "far" a=some b->(∃v,by'[b]? =some (some v))->(∀r∈rs.take s,r≠.st b)->
   ∃m,A2m wh D (tpB rs s [.push 5,A4t j a,.push 6]) (rs.length+3) 0 ⟨by',[],[]⟩= .good m:=λD by' b hD hn hF hb hv hr=>by
  obtain ⟨m,st',hst,e,l1,f,hk,hl⟩:=A6f (wh:=wh) hD h.ok h.hs hn hF [A4t j a,.push 6];obtain ⟨v,hv⟩:=hv;obtain ⟨m',es,l2,l3,k2,v',hv'⟩:=C5p (wh:=wh) (j:=j) (m:=m) (by rw [hl];exact hb) (by rw [hk b hr];exact hv) hst
  have f':Fit n ((rs.take s).foldl nxt (0,F)) m':=⟨by lia,by rw [l3];exact f.bx,λk hk' hkn=>by
   by_cases ek:k=b
   ·rw [ek];exact ⟨v',hv'⟩
   ·rw [k2 k ek];exact f.fu k hk' hkn⟩
  obtain ⟨m6,e6⟩:=B5e (wh:=wh) hD h.ok h.hs (mid:=[.push 5,A4t j a,.push 6]) f' (fu:=rs.length-s+1) (i:=2) rfl rfl (Z09 _);refine ⟨m6,?_⟩;rw [show rs.length+3=(rs.length-s+1)+1+1+s by lia,e,A3o (A4h (i:=1) h.hs rfl) (to:=none) es];exact e6
 have hlt:∀k∈F,k<bx.length:=λk hk=>(h.fu k hk).elim λv hv=>(Z03.mp hv).1;constructor
 ·intro hkd;rcases c with ⟨ek,_⟩ | ⟨ek,rfl,ho,_⟩
  ·rw [hkd] at ek;exact absurd ek (by decide +kernel)
  ·refine go (Dx n (some (n:Int))) (bx++[some 1]) n (A7l n _) (by rw [Z06,h.ln];lia) (λk hk hkn=> ?_) ?_ ⟨1,by rw [Z1l (Nat.le_of_eq h.ln),h.ln,Nat.sub_self];rfl⟩ ?_
   ·rw [Z26 (hlt k hk)];exact h.fu k hk
   ·unfold A6c;rw [A6q];show (if 0<=(n:Int)/\(n:Int)<((bx++[some 1]).length:Int) then some (n:Int).toNat else none)=some n;rw [Z12 ⟨by lia,by rw [Z06,h.ln];simp;lia⟩];rfl
   ·intro r hr e;obtain ⟨i,hi⟩:=List.getElem?_of_mem hr;have:=(h.ok.take s) i r hi;rw [e] at this;exact absurd this.2 (Nat.lt_irrefl n)
 ·intro hkd k hak;rcases c with ⟨_,rfl,k',hak',hb,hr,_⟩ | ⟨ek,_⟩
  ·have ekk:k=k':=by have:=A9c (hak.symm.trans hak');lia
   subst ekk;have kb:k<bx.length:=(Z03.mp hb).1;refine go (Dx n none) (bx.set k (some 0)) k (A7l n _) (by rw [List.length_set,h.ln];exact Z09 _) (λi hi hin=> ?_) ?_ ⟨0,by rw [Z23 kb]⟩ hr
   ·by_cases e:k=i
    ·subst e;exact ⟨0,by rw [Z23 kb]⟩
    ·rw [Z2a e];exact h.fu i hi
   ·rw [hak];exact (A7l n none).box (by rw [<-h.ln];exact kb) (by rw [List.length_set,h.ln];exact Z09 _)
  ·rw [hkd] at ek;exact absurd ek (by decide +kernel)
end
section
variable {α β:Type} {F:α->β->Prop}
theorem C1x:∀{a c:List α} {b d:List β},Paired F a b->Paired F c d->Paired F (a++c) (b++d)
 | _,_,_,_,.nil,s=>s
 | _,_,_,_,.cons r t,s=> .cons r (C1x t s)
theorem C1l:∀{a:List α} {b:List β} (n:Nat),Paired F a b->Paired F (a.take n) (b.take n)
 | _,_,0,_=> .nil
 | _,_,_+1,.nil=> .nil
 | _,_,n+1,.cons r t=> .cons r (C1l n t)
theorem C2l:∀{a:List α} {b:List β} (n:Nat),Paired F a b->Paired F (a.drop n) (b.drop n)
 | _,_,0,h=>h
 | _,_,_+1,.nil=> .nil
 | _,_,n+1,.cons _ t=>C2l n t
end
theorem C6d {xs:List V} {i:Nat}:B1b xs (some (i:Int)) none=xs.drop i:=by
 unfold B1b;have e1:HT.sIx xs.length 0 (some (i:Int))=min i xs.length:=HT.sIx_nat _ _ _;have e2:HT.sIx xs.length xs.length none=xs.length:=rfl;rw [e1,e2];rcases Nat.le_total i xs.length with h | h
 ·rw [Nat.min_eq_left h,Z2l (by rw [Z19];exact Z09 _)]
 ·rw [Nat.min_eq_right h,List.drop_length,List.drop_of_length_le h,List.take_nil]
theorem B4i {H:Hp} {xs ms:List V} {rs:List R3} {s:Nat} {mid:List Ro} (h:Paired (A7m H) xs (rs.map R3.ro)) (hm:Paired (A7m H) ms mid):Paired (A7m H) (xs.take s++ms++xs.drop s) (tpB rs s mid):=by
 unfold tpB;rw [List.append_assoc,List.map_take,List.map_drop];exact C1x (C1l s h) (C1x hm (C2l s h))
theorem B9m {D:List (Str×Hm)} {rs:List R3} {s:Nat} {mid:List Ro} (h:∀r∈rs.map R3.ro,B3u D r) (hm:∀r∈mid,B3u D r):∀r∈tpB rs s mid,B3u D r:=λr hr=>by
 unfold tpB at hr;rcases Z07.mp hr with z | z
 ·rw [List.map_take] at z;exact h r (List.mem_of_mem_take z)
 ·rcases Z07.mp z with y | y
  ·exact hm r y
  ·rw [List.map_drop] at y;exact h r (List.mem_of_mem_drop y)
theorem B9v {n s j:Nat} {bx:List (Option Int)} {rs:List R3} {kd:Str} {a:List Int} {o:Option Int} (c:A7w n bx rs s kd j a o) (hn:bx.length=n) (h6:n<=60):B5g (Dx n o) "far" a:=by
 rcases c with ⟨_,rfl,k,rfl,hb,_⟩ | ⟨_,rfl,ho,_⟩
 ·exact C4i (by rw [<-hn];exact (Z03.mp hb).1) h6
 ·exact C5h λz e=>by rw [A6q] at e;exact (ho z e).1
theorem B3v {D:List (Str×Hm)} {j:Nat} {a:List Int} (h:B5g D "far" a):∀r∈[Ro.push 5,A4t j a,.push 6],B3u D r:=λr hr=>by
 rcases Z0e.mp hr with rfl | hr
 ·trivial
 ·rcases Z0e.mp hr with rfl | hr
  ·exact C6f h
  ·rw [Z0w.mp hr];trivial
theorem B9z {D:List (Str×Hm)} {j q:Nat} {a:List Int} (h:B5g D "far" a):∀r∈[Ro.push 5,.skip "far" a q,A4t j a,.push 6],B3u D r:=λr hr=>by
 rcases Z0e.mp hr with rfl | hr
 ·trivial
 ·rcases Z0e.mp hr with rfl | hr
  ·exact h
  ·rcases Z0e.mp hr with rfl | hr
   ·exact C6f h
   ·rw [Z0w.mp hr];trivial
theorem B0d {H:Hp} {p:Addr} {z:Int} (h:H p=some (.tup [.str "push",.int z])):A7m H (.ref p) (.push z):=⟨p,_,rfl,h,rfl⟩
theorem C1b {n:Nat} {o:Option Int}:B0i (kvT (A2u n o)) ((adr (-1)).map Sum.inl)=o.map V.int:=by
 rw [B4q,<-B5z,A6q]
def C2g (P:Program) (w:World) (K:Frag):Sp:=λvs H Q _=>∃(sc R hm bl:Addr) (ns:List Int) (xs:List V) (rs:List R3) (bx:List (Option Int)) (F:List Nat) (wh:Int) (s:Nat),vs=[.ref sc,.ref R,.ref hm,.ref bl,.int wh,.int s]/\C3z P w K H sc R hm bl ns xs rs bx/\A9h bx.length bx F rs s/\(0<wh/\wh<=10^30)/\∀H',A0z H H'->Q (.bl true) H'
theorem B6m (T:Txt K mg t):FO P w base T.gn 8 (C2g P w K):=by
 have Gb3:= @B4x P w K mg base t T;have Gb4:= @A6y P w K mg base t T;have Gb5:= @A5x P w K mg base t T;refine T.gn.F.ok A2c (by walk_at "ln") λ_ A _ s H _ Q E hr h=> ?_
 ·obtain ⟨sc,R,hm,bl,ns,xs,rs,bx,F,wh,sp,rfl,ci,ri,wp,k⟩:=h;have hu:=B6v hr;have lx:xs.length=rs.length:=by have:=Paired.length ci.ra.pr;rw [Z08] at this;exact this
  have b6:=ci.b6;have lr:=ci.lr;have hs:=ri.hs;have ltup:∀{G G':Hp},A0z G G'->∀p ys,G p=some (.tup ys)->G' p=some (.tup ys):=λs _ _ z=>s _ _ z
  refine ⟨_,(A0c (A3s (pcl Gb3 hr T.f_ (A0a (pv 0) (A0a (pv 1) (A0a (pv 2) (A0a (pv 3) (A0a (pv 5) A0b)))))) (A3z (n:=3) rfl (A0o (A0p (i:=6) A2c.nd rfl (.inl rfl)) (A0o (A0p (i:=7) A2c.nd rfl (.inl rfl)) (A0o (A0p (i:=8) A2c.nd rfl (.inl rfl)) A2o)))))
   (A0c (A0q (i:=9) A2c.nd rfl (.inl rfl) (A0m A6t (A0m A6t (A3n A5m (pv 1) A5h (A4b (pv 5))) (A2t (A0a (A1d (A0a A0s (A0a A0e A0b))) (A0a (pv 7) (A0a (A1d (A0a A0s (A0a A0e A0b))) A0b))))) (A3n A5m (pv 1) (A4b (pv 5)) A5h)))
   (A2b (A2e (A0r A8i (pcl Gb5 hr T.al (A0a (pv 9) (A0a (pv 4) (A0a (pv 8) (A0a (pv 3) (A0a (A0m A2s (pv 5) A0e) A0b)))))) (pv 6) (A0v _))
    (A0f (A0u B2v))
    A0y)
   (A2b (A2e (A0r A8i (pcl Gb4 hr T.bj (A0a (pv 9) (A0a (pv 4) (A0a (pv 8) (A0a (pv 3) (A0a (A0m A7r A0e A0e) A0b)))))) (pv 6) (A0v _))
    (A0f (A0u B2v))
    A0y)
   (A2b (A2e (A0r A8i (pcl Gb4 hr T.bj (A0a (pv 9) (A0a (pv 4) (A0a (pv 8) (A0a (pv 3) (A0a (A0m A2s (pv 5) A0e) A0b)))))) A0s (A0v _))
    (A0f (A0u B2v))
    A0y)
   (A0c (A0q (i:=10) A2c.nd rfl (.inl rfl) (pv 6))
   (A2b (A2e (PW.pt (B1m (A0r A4g (pv 6) A0s (A0v _)) (A8g (C3q (B5x hu (A1d (A0a (B1e A6u A0e) (A0a A0e A0b))) (pv 8)) (by with_unfolding_all rfl)))))
    (A0f (A0q (i:=10) A2c.nd rfl (.inl rfl) A0s))
    A0y)
   (A0c (A0q (i:=11) A2c.nd rfl (.inl rfl) (A0m A6t (A0m A6t (A3n A5m (pv 1) A5h (A4b (pv 5))) (A2t (A0a (A1d (A0a A0s (A0a A0e A0b))) (A0a (A0m A4e (A0m A4e (A1d (A0a A0s A0b)) (A3n C1c (pv 7) (A4b A0e) A5h)) (A1d (A0a (A0m A2s (pv 5) A0e) A0b))) (A0a (pv 7) (A0a (A1d (A0a A0s (A0a A0e A0b))) A0b)))))) (A3n A5m (pv 1) (A4b (pv 5)) A5h)))
   (A2b (A2e (A0r A8i (pcl Gb5 hr T.al (A0a (pv 11) (A0a (pv 4) (A0a (pv 8) (A0a (pv 3) (A0a (A0m A7r A0e A0e) A0b)))))) (pv 10) (A0v _))
    (A0f (A0u B2v))
    A0y)
   (A0c (A0q (i:=12) A2c.nd rfl (.inl rfl) (A1o (A4c) (by rfl) T.gy Z2q (A0a (pv 8) A0b)))
   (A0c (A0q (i:=13) A2c.nd rfl (.inl rfl) (A1o A1z (by rfl) T.fi Z1o (A0a (pv 3) A0b)))
   (A2b (A2e (A0r A4g (pv 6) A0s (A0v _))
    (A0c (B0x hu (pv 12) (A1d (A0a (B1e A6u A0e) (A0a A0e A0b))) (A0x A0l (by rfl) T.bf Z0r (A0a (pv 3) A0b)) rfl)
    (A0f (A0q (i:=13) A2c.nd rfl (.inl rfl) (A0m A6t (pv 13) (A2t (A0a A0e A0b))))))
    (A0f (A3s A0e (B8h (pv 13) (A3g A7y (A3g A7y (A3g A7y (pv 7) A0e (λ_ _=>rfl)) A0e (λ_ _=>rfl)) A0e (λ_ _=>rfl)) B2j))))
   (A0f (A0u (B0m A4g (pcl Gb5 hr T.al (A0a (pv 9) (A0a (pv 4) (A0a (pv 12) (A0a (pv 13) (A0a (A0x A0l (by rfl) T.bf Z0r (A0a (pv 9) A0b)) A0b)))))) A0s (A0v _)))))))))))))))),?_⟩
  refine ⟨_,rfl,_,rfl,_,rfl,_,rfl,_,rfl,sc,R,hm,bl,ns,xs,rs,bx,sp,rfl,ci,hs,λp h' v kd j a o H1 s1 hp ba hh co=> ?_⟩;refine ⟨p,_,rfl,SqT.of hp,rfl,_,_,rfl,_,_,rfl,_,_,rfl,rfl,?_⟩;obtain ⟨bp,bq,rfl,hbp,hbq⟩:=id ba;have arx:=B9v co rfl b6;have rok:∀r∈rs.map R3.ro,B3u (Dx bx.length o) r:=B0p ri.ok b6;refine ⟨_,rfl,_,rfl,_,rfl,R,_,rfl,SqL.of (s1 _ _ ci.ra.at_),λl1 hl1=> ?_⟩;rw [C4z];obtain ⟨G1,u1,f1,eNH⟩:=nH (o:= .lst (xs.take sp)) hl1;rw [eNH];refine ⟨A0k rfl,λp1 hp1=> ?_⟩;obtain ⟨G2,u2,f2,eNH⟩:=nH (o:= .tup [.str "push",.int 5]) hp1;rw [eNH];refine ⟨_,rfl,A0k rfl,λp2 hp2=> ?_⟩;obtain ⟨G3,u3,f3,eNH⟩:=nH (o:= .tup [.str "push",.int 6]) hp2;rw [eNH];refine ⟨A0k rfl,λl2 hl2=> ?_⟩;obtain ⟨G4,u4,f4,eNH⟩:=nH (o:= .lst [.ref p1,.ref bp,.ref p2]) hl2;rw [eNH];refine ⟨l1,l2,_,_,rfl,rfl,(u2.trans (u3.trans u4)) _ _ f1,f4,A1c (by simp;lia),λl3 hl3=> ?_⟩;obtain ⟨G5,u5,f5,eNH⟩:=nH (o:= .lst (xs.take sp++[.ref p1,.ref bp,.ref p2])) hl3;rw [eNH];have u15:=u1.trans (u2.trans (u3.trans (u4.trans u5)));refine ⟨_,rfl,_,rfl,_,rfl,R,_,rfl,SqL.of ((s1.trans u15) _ _ ci.ra.at_),λl4 hl4=> ?_⟩;rw [C6d];obtain ⟨G6,u6,f6,eNH⟩:=nH (o:= .lst (xs.drop sp)) hl4;rw [eNH];refine ⟨l3,l4,_,_,rfl,rfl,u6 _ _ f5,f6,A1c (by simp;lia),λtp htp=> ?_⟩;obtain ⟨G7,u7,f7,eNH⟩:=nH (o:= .lst (xs.take sp++[.ref p1,.ref bp,.ref p2]++xs.drop sp)) htp;rw [eNH];have u17:=u15.trans (u6.trans u7);have s7:=s1.trans u17;have lt:(xs.take sp++[V.ref p1,V.ref bp,V.ref p2]++xs.drop sp).length=rs.length+3:=by simp;lia
  have pr7:Paired (A7m G7) (xs.take sp++[.ref p1,.ref bp,.ref p2]++xs.drop sp) (tpB rs sp [.push 5,A4t j a,.push 6]) :=
   B4i (Paired.mapP ci.ra.pr λ_ _ z=>z.kt (ltup s7)) (.cons ((B0d f2).kt (ltup (u3.trans (u4.trans (u5.trans (u6.trans u7)))))) (.cons (ba.ro.kt (ltup u17)) (.cons ((B0d f3).kt (ltup (u4.trans (u5.trans (u6.trans u7))))) .nil)))
  have hh7:=u17 _ _ hh;have hbl7:=s7 _ _ ci.bl;generalize xs.take sp++[.ref p1,.ref bp,.ref p2]++xs.drop sp=ts at lt pr7 f7
  have gi:∀(G:Hp) (most:Nat),A0z G7 G->most<=1000000->C3y P w G tp h' bl ts (tpB rs sp [.push 5,A4t j a,.push 6]) (A2u bx.length o) bx wh most:=λG most sg hm =>
   ⟨sg _ _ f7,Paired.mapP pr7 (λ_ _ z=>z.kt (ltup sg)),B9m rok (B3v arx),sg _ _ hh7,A3m P w b6 o,sg _ _ hbl7,wp,hm,by lia⟩
  refine ⟨λσ G=>σ=[Sro sc,Sro R,Sro hm,Sro bl,Sio wh,Sio sp,Sso kd,Sro bp,Sro h',Sro tp,none,none,none,none]/\A0z G7 G,?_,?_⟩
  ·obtain ⟨r,e1,e2,e3⟩:=B2i (wh:=wh) ri co (mid:=[.push 6]) (sp+2) (Z09 _);refine ⟨_,rfl,_,rfl,_,rfl,_,rfl,_,rfl,_,_,rfl,rfl,tp,h',bl,wh,sp+2,ts,_,_,bx,rfl,gi G7 _ (A0z.refl _) (by lia),by rw [<-e1] at e2;exact e2,λH' s'=> ?_⟩;refine ⟨_,rfl,rfl,_,rfl,A5s (λe=>absurd ?_ e) (λ_=>⟨rfl,s'⟩)⟩;exact congrArg V.str (by rw [<-e1] at e3;exact e3)
  rintro σ Ga ⟨rfl,sa⟩;refine ⟨λσ G=>σ=[Sro sc,Sro R,Sro hm,Sro bl,Sio wh,Sio sp,Sso kd,Sro bp,Sro h',Sro tp,none,none,none,none]/\A0z G7 G,?_,?_⟩
  ·obtain ⟨r,e1,e2,e3⟩:=B2i (wh:=wh) ri co (mid:=[.push 6]) 1000000 (by lia);refine ⟨_,rfl,_,rfl,_,rfl,_,rfl,_,_,rfl,rfl,⟨by decide,by decide,by decide⟩,tp,h',bl,wh,1000000,ts,_,_,bx,(by show [V.ref _,_,_,_,V.int (10^(6:Int).toNat)]=_;rw [show (10:Int)^(6:Int).toNat=((1000000:Nat):Int) by decide]),gi Ga _ sa (by lia),by rw [<-e1] at e2;exact e2,λH' s'=> ?_⟩;refine ⟨_,rfl,rfl,_,rfl,A5s (λe=>absurd ?_ e) (λ_=>⟨rfl,sa.trans s'⟩)⟩;exact congrArg V.str (by rw [<-e1] at e3;exact e3)
  rintro σ Gb ⟨rfl,sb⟩;refine ⟨λσ G=>σ=[Sro sc,Sro R,Sro hm,Sro bl,Sio wh,Sio sp,Sso kd,Sro bp,Sro h',Sro tp,none,none,none,none]/\A0z G7 G,?_,?_⟩
  ·have e1:=B7p (wh:=wh) (A7l bx.length o) ri.ok ri.hs (Z09 _) ri.hF (r1:=A4t j a) (mid:=[.push 6]);refine ⟨_,rfl,_,rfl,_,rfl,_,rfl,_,rfl,_,_,rfl,rfl,tp,h',bl,wh,sp+1,ts,_,_,bx,rfl,gi Gb _ sb (by lia),(λz=>by rw [show A2m wh [(("far":Str),A2u bx.length o)] _ _ _ _=_ from e1] at z;cases z),λH' s'=> ?_⟩;refine ⟨rfl,_,rfl,A5s (λe=>absurd ?_ e) (λ_=>⟨rfl,sb.trans s'⟩)⟩;exact congrArg (λr=>V.str (A5y r)) e1
  rintro σ Gc ⟨rfl,sc'⟩;refine ⟨_,rfl,?_⟩;refine ⟨λσ G=>σ=[Sro sc,Sro R,Sro hm,Sro bl,Sio wh,Sio sp,Sso kd,Sro bp,Sro h',Sro tp,Sso (if kd="out"/\o=none then ("good":Str) else kd),none,none,none]/\A0z G7 G,?_,?_⟩
  ·refine ⟨_,rfl,rfl,_,rfl,A9e (λe=> ?_) (λe=>B6r ⟨?_,sc'⟩)⟩
   ·have e:kd="out":=by injection e
    refine ⟨_,rfl,A0k rfl,λz hz=> ?_⟩;have v1:A0z Gc (upd Gc z (.tup [.int (-1),.int 1])):=A0j hz;have v2:upd Gc z (.tup [.int (-1),.int 1]) z=some (.tup (((adr (-1)).map Sum.inl).map kV)):=A0d;generalize upd Gc z (.tup [.int (-1),.int 1])=Gz at v1 v2⊢;have dg:=B6l.t (v1 _ _ (sc' _ _ hh7)) v2;rw [C1b] at dg;refine ⟨_,rfl,h',_,rfl,dg,_,rfl,?_⟩
    cases o with
    | none =>
     show if (!false)=true then _ else _
     refine C3x ⟨?_,sc'.trans v1⟩;rw [Z12 ⟨e,rfl⟩];rfl
    | some y =>
     show if (!true)=true then _ else _
     refine B6r ⟨?_,sc'.trans v1⟩;rw [Z0t (by rintro ⟨_,z⟩;cases z)];rfl
   ·rw [Z0t (λz=>e (by rw [z.1]))];rfl
  rintro σ Gd ⟨rfl,sd⟩;generalize hdue:(if kd="out"/\o=none then ("good":Str) else kd)=due;have s7d:=s7.trans sd;refine ⟨_,rfl,_,rfl,_,rfl,R,_,rfl,SqL.of (s7d _ _ ci.ra.at_),λm1 hm1=> ?_⟩;rw [C4z];obtain ⟨K1,w1,g1,eNH⟩:=nH (o:= .lst (xs.take sp)) hm1;rw [eNH];refine ⟨A0k rfl,λq1 hq1=> ?_⟩;have w2:A0z K1 (upd K1 q1 (.tup [.str "push",.int 5])):=A0j hq1;have g2:upd K1 q1 (.tup [.str "push",.int 5]) q1=some (.tup [.str "push",.int 5]):=A0d;generalize upd K1 q1 (.tup [.str "push",.int 5])=K2' at w2 g2⊢;refine ⟨A0k rfl,λq2 hq2=> ?_⟩;have w3:A0z K2' (upd K2' q2 (.tup [.str "skip"])):=A0j hq2;have g3:upd K2' q2 (.tup [.str "skip"]) q2=some (.tup [.str "skip"]):=A0d;generalize upd K2' q2 (.tup [.str "skip"])=K3' at w3 g3⊢;have w13:=w1.trans (w2.trans w3);have hbp3:=(u17.trans (sd.trans w13)) _ _ hbp;refine ⟨_,rfl,_,rfl,bp,_,rfl,hbp3,λq3 K4 w4 g4=> ?_⟩;have g4:K4 q3=some (.tup [.str "far",.ref bq]):=g4;refine ⟨q2,q3,_,_,rfl,rfl,w4 _ _ g3,g4,A0k rfl,λq4 K5 w5 g5=> ?_⟩;refine ⟨_,rfl,_,_,rfl,rfl,A0k rfl,λq5 hq5=> ?_⟩;have w6:A0z K5 (upd K5 q5 (.tup [.int ((sp:Int)+3)])):=A0j hq5;have g6:upd K5 q5 (.tup [.int ((sp:Int)+3)]) q5=some (.tup [.int ((sp:Int)+3)]):=A0d;dsimp only;generalize upd K5 q5 (.tup [.int ((sp:Int)+3)])=K6 at w6 g6⊢;refine ⟨q4,q5,_,_,rfl,rfl,w6 _ _ g5,g6,A0k rfl,λq6 K7 w7 g7=> ?_⟩;refine ⟨_,rfl,A0k rfl,λq7 hq7=> ?_⟩;obtain ⟨K8,w8,g8,eNH⟩:=nH (o:= .tup [.str "push",.int 6]) hq7;rw [eNH];refine ⟨A0k rfl,λm2 hm2=> ?_⟩;obtain ⟨K9,w9,g9,eNH⟩:=nH (o:= .lst [.ref q1,.ref q6,.ref bp,.ref q7]) hm2;rw [eNH];have w39:=w3.trans (w4.trans (w5.trans (w6.trans (w7.trans (w8.trans w9)))));have w79:=w8.trans w9;refine ⟨m1,m2,_,_,rfl,rfl,(w2.trans w39) _ _ g1,g9,A1c (by simp;lia),λm3 hm3=> ?_⟩;obtain ⟨K10,x1,y1,eNH⟩:=nH (o:= .lst (xs.take sp++[.ref q1,.ref q6,.ref bp,.ref q7])) hm3;rw [eNH];have wA:=(w1.trans w2).trans (w39.trans x1);refine ⟨_,rfl,_,rfl,_,rfl,R,_,rfl,SqL.of ((s7d.trans wA) _ _ ci.ra.at_),λm4 hm4=> ?_⟩;rw [C6d];obtain ⟨K11,x2,y2,eNH⟩:=nH (o:= .lst (xs.drop sp)) hm4;rw [eNH];refine ⟨m3,m4,_,_,rfl,rfl,x2 _ _ y1,y2,A1c (by simp;lia),λm5 hm5=> ?_⟩;obtain ⟨K12,x3,y3,eNH⟩:=nH (o:= .lst (xs.take sp++[.ref q1,.ref q6,.ref bp,.ref q7]++xs.drop sp)) hm5;rw [eNH];have x13:=x1.trans (x2.trans x3);have wB:=wA.trans (x2.trans x3);have sB:=s7d.trans wB
  have pr12:Paired (A7m K12) (xs.take sp++[.ref q1,.ref q6,.ref bp,.ref q7]++xs.drop sp) (tpB rs sp [.push 5,.skip "far" a (sp+3),A4t j a,.push 6]) :=
   B4i (Paired.mapP ci.ra.pr λ_ _ z=>z.kt (ltup sB)) (.cons ((B0d g2).kt (ltup (w39.trans x13))) (.cons ⟨q6,_,rfl,(w79.trans x13) _ _ g7,bq,rfl,hbq.kt (ltup (u17.trans (sd.trans wB)))⟩ (.cons (ba.ro.kt (ltup (u17.trans (sd.trans wB)))) (.cons ((B0d g8).kt (ltup (w9.trans x13))) .nil))))
  generalize xs.take sp++[.ref q1,.ref q6,.ref bp,.ref q7]++xs.drop sp=ts2 at pr12 y3;refine ⟨λσ G=>σ=[Sro sc,Sro R,Sro hm,Sro bl,Sio wh,Sio sp,Sso kd,Sro bp,Sro h',Sro tp,Sso due,Sro m5,none,none]/\A0z G7 G,?_,?_⟩
  ·obtain ⟨r,e1,e2,e3⟩:=B7g (wh:=wh) ri co 1000000 (by lia);rw [hdue] at e3;refine ⟨_,rfl,_,rfl,_,rfl,_,rfl,_,_,rfl,rfl,⟨by decide,by decide,by decide⟩,m5,h',bl,wh,1000000,ts2,_,A2u bx.length o,bx,(by show [V.ref _,_,_,_,V.int (10^(6:Int).toNat)]=_;rw [show (10:Int)^(6:Int).toNat=((1000000:Nat):Int) by decide]),⟨y3,pr12,B9m rok (B9z arx),(sd.trans wB) _ _ hh7,A3m P w b6 o,(sd.trans wB) _ _ hbl7,wp,by lia,by lia⟩,by rw [<-e1] at e2;exact e2,λH' s'=> ?_⟩;refine ⟨_,rfl,rfl,_,rfl,A5s (λe=>absurd ?_ e) (λ_=>⟨rfl,(sd.trans wB).trans s'⟩)⟩;exact congrArg V.str (by rw [<-e1] at e3;exact e3)
  rintro σ Ge ⟨rfl,se⟩;refine ⟨_,rfl,h',_,rfl,.inl (se _ _ hh7),A3m P w b6 o,λd hd=> ?_⟩;obtain ⟨J1,v1,v2,eNH⟩:=nH (o:= .dT (kvT (A2u bx.length o))) hd;have hdH:G7 d=none:=se.free hd;rw [eNH];refine ⟨_,rfl,bl,_,rfl,.inl (SqL.of ((se.trans v1) _ _ hbl7)),λfl hfl=> ?_⟩;obtain ⟨J2,v3,v4,eNH⟩:=nH (o:= .lst (bx.map enO)) hfl;have hflH:G7 fl=none:=(se.trans v1).free hfl;have nfd:fl≠d:=λz=>by rw [z,v2] at hfl;cases hfl
  rw [eNH];have sJ:=se.trans (v1.trans v3);obtain ⟨rm1,rm2⟩:=B7z (wh:=wh) ri co;refine ⟨λσ G=>∃(fa:Addr) (o':Option Int) (bx':List (Option Int)) (m:Mc),σ=[Sro sc,Sro R,Sro hm,Sro bl,Sio wh,Sio sp,Sso kd,Sro bp,Sro h',Sro tp,Sso due,Sro m5,Sro d,Sro fa]/\A0z G7 G/\G d=some (.dT (kvT (A2u bx.length o')))/\G fa=some (.lst (bx'.map enO))/\bx'.length<=61/\B5g (Dx bx.length o') "far" a/\A2m wh (Dx bx.length o') (tpB rs sp [.push 5,A4t j a,.push 6]) (rs.length+3) 0 ⟨bx',[],[]⟩= .good m,?_,?_⟩
  ·refine ⟨_,rfl,rfl,_,rfl,A9e (λe=> ?_) (λe=> ?_)⟩
   ·have e:kd="out":=by injection e
    obtain ⟨m,em⟩:=rm1 e;refine ⟨_,rfl,bl,_,rfl,.inl (SqL.of (sJ _ _ hbl7)),_,rfl,_,rfl,A0k rfl,λz hz=> ?_⟩;have t1:A0z J2 (upd J2 z (.tup [.int (-1),.int 1])):=A0j hz;have t2:upd J2 z (.tup [.int (-1),.int 1]) z=some (.tup (((adr (-1)).map Sum.inl).map kV)):=A0d;generalize upd J2 z (.tup [.int (-1),.int 1])=J3 at t1 t2⊢;refine ⟨d,_,rfl,B8o.t ((v3.trans t1) _ _ v2) t2 (A1n (by have:=B0n (n:=bx.length) (o:=o);lia)),?_⟩;rw [Z08,B5v];have t3:A0z G7 (upd J3 d (.dT (kvT (A2u bx.length (some (bx.length:Int)))))):=A1b (sJ.trans t1) hdH;have t4:upd J3 d (.dT (kvT (A2u bx.length (some (bx.length:Int))))) d=some (.dT (kvT (A2u bx.length (some (bx.length:Int))))):=A0d;have t5:upd J3 d (.dT (kvT (A2u bx.length (some (bx.length:Int))))) fl=some (.lst (bx.map enO)):=by rw [A0g nfd];exact t1 _ _ v4
    generalize upd J3 d (.dT (kvT (A2u bx.length (some (bx.length:Int)))))=J4 at t3 t4 t5⊢;refine ⟨_,rfl,A0k rfl,λy hy=> ?_⟩;obtain ⟨J5,t6,t7,eNH⟩:=nH (o:= .lst [.int 1]) hy;rw [eNH];refine ⟨fl,y,_,_,rfl,rfl,t6 _ _ t5,t7,A1c (by simp;lia),λfa hfa=> ?_⟩;have t8:A0z J5 (upd J5 fa (.lst (bx.map enO++[.int 1]))):=A0j hfa;refine ⟨fa,some (bx.length:Int),bx++[some 1],m,rfl,t3.trans (t6.trans t8),(t6.trans t8) _ _ t4,by rw [Z0s];exact A0d,by simp;lia,?_,em⟩;rcases co with ⟨ek,_⟩ | ⟨_,rfl,_⟩
    ·rw [e] at ek;exact absurd ek (by decide +kernel)
    ·exact C5h λz ez=>by rw [A6q] at ez;cases ez;unfold Sm;lia
   ·rcases id co with ⟨ek,rfl,kk,rfl,hb,hr',hj⟩ | ⟨ek,_⟩
    ·obtain ⟨m,em⟩:=rm2 ek kk rfl;have kb:kk<bx.length:=(Z03.mp hb).1;obtain ⟨vs2,hq2',pq,_⟩:=hbq
     cases pq with
     | cons h1 pq2 =>
      cases pq2 with
      | cons h2 pq3 =>
       cases pq3
       obtain ⟨pp1,rfl,hpp1⟩:=h1;have sJ1:=u17.trans sJ;refine ⟨_,rfl,_,rfl,bp,_,_,_,rfl,rfl,SqT.of (sJ1 _ _ hbp),A2q (j:=2) rfl,bq,_,_,_,rfl,rfl,SqT.of (sJ1 _ _ hq2'),at0,pp1,_,_,_,rfl,rfl,SqT.of (sJ1 _ _ hpp1),A2q (j:=1) rfl,fl,_,_,kk,rfl,rfl,v4,?_,?_⟩
       ·rw [Z08];unfold ixN;rw [Z12 (by lia)];simp [kb]
       ·refine ⟨fl,none,bx.set kk (some 0),m,rfl,A1b sJ hflH,?_,?_,by rw [List.length_set];lia,arx,em⟩
        ·rw [A0g nfd.symm];exact v3 _ _ v2
        ·have:(bx.map enO).set kk (.int 0)=(bx.set kk (some 0)).map enO:=by rw [List.map_set];rfl
         rw [this];exact A0d
    ·exact absurd (by rw [ek]) e
  rintro σ G ⟨fa,o',bx',m,rfl,sG,hd',hfa,lb,ar',er⟩;refine ⟨_,rfl,_,rfl,_,rfl,_,rfl,_,rfl,tp,_,rfl,.inl (SqL.of (sG _ _ f7)),tp,d,fa,wh,rs.length+3,ts,_,A2u bx.length o',bx',(by rw [lt];rfl),⟨sG _ _ f7,Paired.mapP pr7 (λ_ _ z=>z.kt (ltup sG)),B9m (B0p ri.ok b6) (B3v ar'),hd',A3m P w b6 o',hfa,wp,by lia,by lia⟩,(λz=>by rw [show A2m wh [(("far":Str),A2u bx.length o')] _ _ _ _=_ from er] at z;cases z),λH' s'=>⟨rfl,?_⟩⟩;have:A5y (A2m wh [(("far":Str),A2u bx.length o')] (tpB rs sp [.push 5,A4t j a,.push 6]) (rs.length+3) 0 ⟨bx',[],[]⟩)="good":=congrArg A5y er;rw [this];exact k H' (s7.trans (sG.trans s'))
section
variable {wh:Int} {D:List (Str×Hm)} {rs:List R3} {n:Nat} {F:List Nat} {bx:List (Option Int)}
theorem B9f (hD:Hom n D) (ok:A5u n (0,F) rs) (hb:n<=bx.length) (hF:∀k∈F,k<n->∃v,bx[k]? =some (some v)):∃m,A2m wh D (rs.map R3.ro) rs.length 0 ⟨bx,[],[]⟩= .good m:=by
 obtain ⟨m,e,_⟩:=A7h (wh:=wh) (tp:=rs.map R3.ro) hD rs (0,F) ⟨bx,[],[]⟩ 0 ok ⟨Z1e _,hb,hF⟩ (λi r h=>by rw [Nat.zero_add,Z1z,h];rfl);have:=e 0;rw [Nat.zero_add] at this;exact ⟨m,by rw [this];exact B1s (by rw [Z08])⟩
theorem B7i (hD:Hom n D) (ok:A5u n (0,F) rs) (hb:n<=bx.length) (hF:∀k∈F,k<n->∃v,bx[k]? =some (some v)) {q:Nat} (hq:q<rs.length):A2m wh D (rs.map R3.ro) q 0 ⟨bx,[],[]⟩= .noend:=by
 obtain ⟨m,e,_⟩:=A7h (wh:=wh) (tp:=rs.map R3.ro) hD (rs.take q) (0,F) ⟨bx,[],[]⟩ 0 (ok.take q) ⟨Z1e _,hb,hF⟩ (λi r h=>by
  have hi:=(Z03.mp h).1;rw [Z0x] at hi;rw [List.getElem?_take_of_lt (by lia)] at h
  rw [Nat.zero_add,Z1z,h];rfl)
 have:=e 0;rw [Nat.zero_add,Z0x,Nat.min_eq_left (Nat.le_of_lt hq)] at this;rw [this];exact A8t (by rw [Z08];lia)
end
theorem B8d {wh:Int} {D:List (Str×Hm)} {zs:List Int} {q:Nat} (hq:q<zs.length+1) (f:Nat) (m:Mc):A2m wh D (zs.map Ro.push++[.jump q]) f 0 m= .noend:=by
 refine A6n (λi r h=> ?_) f 0 m (by simp);by_cases hi:i<zs.length
 ·rw [Z26 (by rw [Z08];exact hi),Z1z] at h
  cases hz:zs[i]? with
  | none=>rw [hz] at h;cases h
  | some z=>rw [hz] at h;cases h;exact .inl ⟨⟨z,rfl⟩,by simp;lia⟩
 ·have e:i=zs.length:=by have:=(Z03.mp h).1;simp at this;lia
  subst e;rw [Z1l (by rw [Z08];exact Z09 _),Z08,Nat.sub_self] at h;cases h;exact .inr ⟨q,rfl,by simp;lia⟩
theorem cutI (ns:List Int) (lo hi:Option Int):∃cs:List Int,B1b (ns.map V.int) lo hi=cs.map V.int/\cs.length<=ns.length:=by
 refine ⟨(ns.drop (HT.sIx ns.length 0 lo)).take (HT.sIx ns.length ns.length hi-HT.sIx ns.length 0 lo),?_,?_⟩
 ·unfold B1b;rw [Z08,List.map_take,List.map_drop]
 ·rw [Z0x,Z19];lia
theorem B9t (n:Nat):A7x (kvT (A5j n)) ((adr (n:Int)).map Sum.inl) (.int (n:Int))=kvT (A5j (n+1)):=by
 have:((kvT (A5j n)).any λkv=>decide (kv.1=(adr (n:Int)).map Sum.inl))=false:=by
  rw [List.any_eq_false];intro x hx;obtain ⟨e,he,rfl⟩:=Z2c.mp hx;obtain ⟨k,hk,rfl⟩:=Z2c.mp he;intro z;have z:=of_decide_eq_true z;have:=A9c (B6g.mp z);have:=List.mem_range.mp hk
  lia
 unfold A7x;rw [this,Z0t Z0v,A9o];unfold kvT;rw [Z0s];rfl
def B7j (P:Program) (w:World) (K:Frag):Sp:=λvs H Q _=>∃(sc R hm bl:Addr) (ns:List Int) (xs:List V) (rs:List R3) (bx:List (Option Int)) (F:List Nat) (wh:Int),vs=[.ref sc,.ref R,.ref hm,.ref bl,.int wh]/\C3z P w K H sc R hm bl ns xs rs bx/\A9h bx.length bx F rs 0/\(0<wh/\wh<=10^30)/\∀H',A0z H H'->Q (.bl true) H'
def B7y (K:Frag):Sp:=λvs H Q _=>∃(a:Addr) (ns:List Int),vs=[.ref a]/\SqL K H a (ns.map V.int)/\ns.length<=63/\∀H',Q (.bl true) H'
theorem B3s (T:Txt K mg t):FO P w base T.fh 8 (B7j P w K):=by
 have Gb4:= @A6y P w K mg base t T;have Gb2:= @A3y P w K mg base t T;have Gb5:= @A5x P w K mg base t T;refine T.fh.F.ok A3h (by walk_at "ln") λ_ A _ s H _ Q E hr h=> ?_
 ·obtain ⟨sc,R,hm,bl,ns,xs,rs,bx,F,wh,rfl,ci,ri,wp,k⟩:=h;have lx:xs.length=rs.length:=by have:=Paired.length ci.ra.pr;rw [Z08] at this;exact this
  have b6:=ci.b6;have lr:=ci.lr;have ltup:∀{G G':Hp},A0z G G'->∀p ys,G p=some (.tup ys)->G' p=some (.tup ys):=λs _ _ z=>s _ _ z;have hm0:H hm=some (.dT (kvT (A2u bx.length none))):=by rw [A3i];exact ci.hm
  refine ⟨_,(A0c (A0q (i:=5) A3h.nd rfl (.inl rfl) (pcl Gb2 hr T.ag (A0a (pv 0) (A0a A0e A0b))))
   (A0c (A5d (i₀:=6) (N':=["_law_row"]) (ix:=(List.replicate 1 none)) A3h.nd rfl (.inl rfl) rfl (B3y rfl (by decide +kernel) (by decide +kernel)) (B4r rfl) (A8k (pv 1)) (λ_ _ _ _=>(A0p (i:=0) B6c rfl (.inl rfl))) (λ_ _ _ _=>(A0r A4g (A3g (A9a (K:=K) rfl) (pv 0) A0e (λ_ _=>rfl)) A0s (A0v _))) (λ_ _ _ _=>(pv 0)))
   (A0c (A0q (i:=7) A3h.nd rfl (.inl rfl) (A0m A6t (pv 6) (A2t (A0a (A1d (A0a A0s (A0a (A0m A1g (A0m A2n (pv 5) A0e) (A0m A2s (A0x A0l (by rfl) T.bf Z0r (A0a (pv 6) A0b)) A0e)) A0b))) A0b))))
   (A2b (A2e (A0r A4g (A0m A1g (pv 5) A0e) A0e (A0v _))
    (A0c (A0q (i:=7) A3h.nd rfl (.inl rfl) (A0m A6t (pv 1) (A2t (A0a (A1d (A0a A0s (A0a A0e A0b))) A0b))))
    (A2b (A2e (A0r A8i (pcl Gb5 hr T.al (A0a (pv 7) (A0a (pv 4) (A0a (pv 2) (A0a (pv 3) (A0a (A0x A0l (by rfl) T.bf Z0r (A0a (pv 7) A0b)) A0b)))))) A0s (A0v _))
     (A0f (A0u B2v))
     A0y)
    (A0f (A0u (B0m A4g (pcl Gb5 hr T.al (A0a (pv 7) (A0a (pv 4) (A0a (pv 2) (A0a (pv 3) (A0a (A0m A1g (A0m A2n (pv 5) A0e) (A0x A0l (by rfl) T.bf Z0r (A0a (pv 7) A0b))) A0b)))))) A0s (A0v _))))))
    A0y)
   (A2b (A2e (A0r A8i (pcl Gb5 hr T.al (A0a (pv 7) (A0a (pv 4) (A0a (pv 2) (A0a (pv 3) (A0a (A0m C3l A0e (A0x A0l (by rfl) T.bf Z0r (A0a (pv 7) A0b))) A0b)))))) A0s (A0v _))
    (A0f (A0u B2v))
    A0y)
   (A0f (A0u (B0m A4g (pcl Gb4 hr T.bj (A0a (pv 7) (A0a (pv 4) (A0a (pv 2) (A0a (pv 3) (A0a (A0m A1g (A0m A2n (pv 5) A0e) A0e) A0b)))))) A0s (A0v _))))))))),?_⟩
  refine ⟨_,rfl,sc,ns,4,rfl,ci.sc,(by decide),λc=> ?_⟩;refine ⟨_,rfl,R,rfl,⟨_,SqL.of ci.ra.at_⟩,λB hB=> ?_⟩;refine A7e (K:=K) (a:=R) (D:=B) (xs:=xs) (λi ys G=>A0z H G/\G B=some (.lst ys)/\∃zs:List Int,Paired (A7m H) ys (zs.map Ro.push)/\zs.length<=i) ⟨A0j hB,A0d,[],.nil,Z09 _⟩ (λi ys G h=>SqL.of (h.1 _ _ ci.ra.at_)) ?_ ?_
  ·rintro i x ys G hx ⟨sG,eB,zs,pz,lz⟩;have hi:i<xs.length:=(Z03.mp hx).1;obtain ⟨ro,hro,ra⟩:=C3m ci.ra.pr hx;have lz':ys.length=zs.length:=by have:=Paired.length pz;rw [Z08] at this;exact this
   obtain ⟨p,vs,rfl,hp,rv⟩:=id ra
   cases hr3:rs[i]? with
   | none=>rw [Z1z,hr3] at hro;cases hro
   | some r =>
    rw [Z1z,hr3] at hro;cases hro
    cases r with
    | push z =>
     cases (show vs=_ from rv)
     refine ⟨True.intro,_,rfl,p,_,_,_,rfl,rfl,SqT.of (sG _ _ hp),at0,rfl,_,rfl,A6m rfl ⟨_,rfl,eB,A1n (by lia),A1b sG hB,A0d,zs++[z],?_,by simp;lia⟩⟩;rw [Z0s];exact Paired.snoc ra pz
    | ld z =>
     obtain ⟨q,rv,_⟩:=rv;cases (show vs=_ from rv);exact ⟨True.intro,_,rfl,p,_,_,_,rfl,rfl,SqT.of (sG _ _ hp),at0,rfl,_,rfl,A8h (B6t (by decide +kernel)) ⟨sG,eB,zs,pz,by lia⟩⟩
    | st z =>
     obtain ⟨q,rv,_⟩:=rv;cases (show vs=_ from rv);exact ⟨True.intro,_,rfl,p,_,_,_,rfl,rfl,SqT.of (sG _ _ hp),at0,rfl,_,rfl,A8h (B6t (by decide +kernel)) ⟨sG,eB,zs,pz,by lia⟩⟩
  rintro ys G1 ⟨s1,e1,zs,pz,lz⟩;have lz':ys.length=zs.length:=by have:=Paired.length pz;rw [Z08] at this;exact this
  obtain ⟨q,hq,hqn⟩:=B9s (c/2) (n:=zs.length+1) (by lia);refine ⟨_,rfl,_,rfl,_,_,rfl,rfl,⟨by decide,by decide⟩,_,rfl,B,_,rfl,.inl (SqL.of e1),_,_,rfl,rfl,_,_,rfl,rfl,(by show (0:Int)<(ys.length:Int)+1;lia),A0k rfl,λp1 hp1=> ?_⟩;dsimp only;rw [show c/2%((ys.length:Int)+1)=(q:Int) by rw [lz'];exact hq];obtain ⟨G2,u1,f1,eNH⟩:=nH (o:= .tup [.str "jump",.int q]) hp1;rw [eNH];refine ⟨A0k rfl,λl1 hl1=> ?_⟩;obtain ⟨G3,u2,f2,eNH⟩:=nH (o:= .lst [.ref p1]) hl1;rw [eNH];refine ⟨B,l1,_,_,rfl,rfl,(u1.trans u2) _ _ e1,f2,A1c (by simp;lia),λtp htp=> ?_⟩;obtain ⟨G4,u3,f3,eNH⟩:=nH (o:= .lst (ys++[.ref p1])) htp;rw [eNH];have u13:=u1.trans (u2.trans u3);have s4:=s1.trans u13;have pr4:Paired (A7m G4) (ys++[.ref p1]) (zs.map Ro.push++[.jump q]):=C1x (Paired.mapP pz λ_ _ z=>z.kt (ltup s4)) (.cons ⟨p1,_,rfl,(u2.trans u3) _ _ f1,rfl⟩ .nil);have lt4:(ys++[V.ref p1]).length=zs.length+1:=by simp;lia
  generalize ys++[.ref p1]=ts at pr4 f3 lt4;refine ⟨λσ G=>σ=[Sro sc,Sro R,Sro hm,Sro bl,Sio wh,Sio c,Sro B,Sro tp]/\A0z G4 G,?_,?_⟩
  ·refine ⟨_,rfl,_,_,rfl,rfl,C4c,rfl,_,rfl,A9e (λ_=> ?_) (λ_=>⟨rfl,A0z.refl _⟩)⟩;refine ⟨_,rfl,A0k rfl,λp2 hp2=> ?_⟩;obtain ⟨G5,v1,g1,eNH⟩:=nH (o:= .tup [.str "push",.int 1]) hp2;rw [eNH];refine ⟨A0k rfl,λl2 hl2=> ?_⟩;obtain ⟨G6,v2,g2,eNH⟩:=nH (o:= .lst [.ref p2]) hl2;rw [eNH];refine ⟨R,l2,_,_,rfl,rfl,(s4.trans (v1.trans v2)) _ _ ci.ra.at_,g2,A1c (by simp;lia),λtq htq=> ?_⟩;obtain ⟨G7,v3,g3,eNH⟩:=nH (o:= .lst (xs++[.ref p2])) htq;rw [eNH];have s7:=s4.trans (v1.trans (v2.trans v3));have ok1:A5u bx.length (0,F) (rs++[.push 1]):=ri.ok.snoc trivial
   have pr7:Paired (A7m G7) (xs++[.ref p2]) ((rs++[R3.push 1]).map R3.ro):=by
    rw [Z0s];exact C1x (Paired.mapP ci.ra.pr λ_ _ z=>z.kt (ltup s7)) (.cons (B0d ((v2.trans v3) _ _ g1)) .nil)
   have lt7:(xs++[V.ref p2]).length=(rs++[R3.push 1]).length:=by simp [lx]
   have lq7:(rs++[R3.push 1]).length<=64:=by simp;lia
   have lp7:0<(rs++[R3.push 1]).length:=by simp
   generalize xs++[.ref p2]=ts7 at pr7 g3 lt7;generalize rs++[R3.push 1]=rs7 at ok1 pr7 lt7 lq7 lp7
   have gi:∀(G:Hp) (most:Nat),A0z G7 G->most<=1000000->C3y P w G tq hm bl ts7 (rs7.map R3.ro) (A2u bx.length none) bx wh most:=λG most sg hmo =>
    ⟨sg _ _ g3,Paired.mapP pr7 (λ_ _ z=>z.kt (ltup sg)),B0p (o:=none) ok1 b6,sg _ _ (s7 _ _ hm0),A3m P w b6 none,sg _ _ (s7 _ _ ci.bl),wp,hmo,by lia⟩
   refine ⟨λσ G=>σ=[Sro sc,Sro R,Sro hm,Sro bl,Sio wh,Sio c,Sro B,Sro tq]/\A0z G7 G,?_,?_⟩
   ·obtain ⟨m,em⟩:=B9f (wh:=wh) (A7l bx.length none) ok1 (Z09 _) ri.hF;refine ⟨_,rfl,_,rfl,_,rfl,_,rfl,_,rfl,tq,_,rfl,.inl (SqL.of g3),tq,hm,bl,wh,rs7.length,ts7,_,_,bx,(by rw [lt7];rfl),gi G7 _ (A0z.refl _) (by lia),(λz=>by rw [show A2m wh [(("far":Str),A2u bx.length none)] _ _ _ _=_ from em] at z;cases z),λH' s'=> ?_⟩;refine ⟨rfl,_,rfl,A5s (λe=>absurd ?_ e) (λ_=>⟨rfl,s'⟩)⟩;exact congrArg (λr=>V.str (A5y r)) em
   rintro σ G8 ⟨rfl,s8⟩;obtain ⟨q2,hq2,hq2n⟩:=B9s (c/2) lp7;have em:=B7i (wh:=wh) (A7l bx.length none) ok1 (Z09 _) ri.hF hq2n;refine ⟨_,rfl,_,rfl,_,rfl,_,rfl,_,rfl,_,_,rfl,rfl,⟨by decide,by decide⟩,_,rfl,tq,_,rfl,.inl (SqL.of (s8 _ _ g3)),_,_,rfl,rfl,(by rw [lt7];lia),tq,hm,bl,wh,q2,ts7,_,_,bx,(by rw [lt7];show [V.ref _,_,_,_,V.int (c/2%(rs7.length:Int))]=_;rw [hq2]),gi G8 _ s8 (by lia),(λz=>by rw [show A2m wh [(("far":Str),A2u bx.length none)] _ _ _ _=_ from em] at z;cases z),λH' s'=>⟨rfl,?_⟩⟩;have:A5y (A2m wh [(("far":Str),A2u bx.length none)] (rs7.map R3.ro) q2 0 ⟨bx,[],[]⟩)="end":=congrArg A5y em;rw [this];exact k H' (s7.trans (s8.trans s'))
  rintro σ G5 ⟨rfl,s5⟩
  have gi:∀(G:Hp) (most:Nat),A0z G4 G->most<=1000000->C3y P w G tp hm bl ts (zs.map Ro.push++[.jump q]) (A2u bx.length none) bx wh most:=λG most sg hmo =>
   ⟨sg _ _ f3,Paired.mapP pr4 (λ_ _ z=>z.kt (ltup sg)),(λr hr=>by
    rcases Z07.mp hr with z | z
    ·obtain ⟨x,_,rfl⟩:=Z2c.mp z;trivial
    ·rw [Z0w.mp z];trivial),sg _ _ (s4 _ _ hm0),A3m P w b6 none,sg _ _ (s4 _ _ ci.bl),wp,hmo,by lia⟩
  have ej:∀f,A2m wh [(("far":Str),A2u bx.length none)] (zs.map Ro.push++[.jump q]) f 0 ⟨bx,[],[]⟩= .noend:=λf=>B8d hqn f _;refine ⟨λσ G=>σ=[Sro sc,Sro R,Sro hm,Sro bl,Sio wh,Sio c,Sro B,Sro tp]/\A0z G4 G,?_,?_⟩
  ·refine ⟨_,rfl,_,rfl,_,rfl,_,rfl,_,rfl,tp,_,rfl,.inl (SqL.of (s5 _ _ f3)),_,_,rfl,rfl,.inl ⟨by decide,by decide⟩,tp,hm,bl,wh,2*(zs.length+1),ts,_,_,bx,(by rw [lt4];rfl),gi G5 _ s5 (by lia),(λz=>by rw [ej] at z;cases z),λH' s'=> ?_⟩;refine ⟨rfl,_,rfl,A5s (λe=>absurd ?_ e) (λ_=>⟨rfl,s5.trans s'⟩)⟩;exact congrArg (λr=>V.str (A5y r)) (ej _)
  rintro σ G6 ⟨rfl,s6⟩;obtain ⟨q4,hq4,hq4n⟩:=B9s (c/2) (n:=400) (by decide);refine ⟨_,rfl,_,rfl,_,rfl,_,rfl,_,rfl,_,_,rfl,rfl,⟨by decide,by decide⟩,_,_,rfl,rfl,C1u,tp,hm,bl,wh,q4,ts,_,_,bx,(by show [V.ref _,_,_,_,V.int (c/2%400)]=_;rw [show (400:Int)=((400:Nat):Int) from rfl,hq4]),gi G6 _ s6 (by lia),(λz=>by rw [ej] at z;cases z),λH' s'=>⟨rfl,?_⟩⟩;have:A5y (A2m wh [(("far":Str),A2u bx.length none)] (zs.map Ro.push++[.jump q]) q4 0 ⟨bx,[],[]⟩)="end":=congrArg A5y (ej _);rw [this];exact k H' (s4.trans (s6.trans s'))
theorem at4 {i:Int} (h0:0<=i) (h4:i<4):∃v:Int,atI [V.int 6,V.int 6,V.int 6,V.int 60] i=some (.int v)/\0<v/\v<=60:=by
 have:i=0\/i=1\/i=2\/i=3:=by lia
 rcases this with rfl | rfl | rfl | rfl
 ·exact ⟨6,rfl,by decide,by decide⟩
 ·exact ⟨6,rfl,by decide,by decide⟩
 ·exact ⟨6,rfl,by decide,by decide⟩
 ·exact ⟨60,rfl,by decide,by decide⟩
theorem C1v (T:Txt K mg t):FO P w base T.iL 9 (B7y K):=by
 have Gb6:= @B6m P w K mg base t T;have Gb2:= @A3y P w K mg base t T;have Gb7:= @A7p P w K mg base t T;have Gb8:= @B3s P w K mg base t T;refine T.iL.F.ok A5t (by walk_at "ln") λ_ A _ s H _ Q E hr h=> ?_
 ·obtain ⟨sc,ns,rfl,hS,ln,k⟩:=h;have hu:=B6v hr
  refine ⟨_,(A0c (A0q (i:=1) A5t.nd rfl (.inl rfl) (A0m A2s A0e (A0m A1g (A0m A2n (pcl Gb2 hr T.ag (A0a (pv 0) (A0a A0e A0b))) A0e) (A3g A2y (A2t (A0a A0e (A0a A0e (A0a A0e (A0a A0e A0b))))) (A0m A1g (pcl Gb2 hr T.ag (A0a (pv 0) (A0a A0e A0b))) A0e) (λ_ _=>rfl)))))
   (A0c (A0q (i:=2) A5t.nd rfl (.inl rfl) (A0m A2s A0e (A0m A1g (pcl Gb2 hr T.ag (A0a (pv 0) (A0a A0e A0b))) (A0m A7s (A0m A7r A0e A0e) A0e))))
   (A0c (A0q (i:=3) A5t.nd rfl (.inl rfl) (A2t A0b))
   (A0c (A0q (i:=4) A5t.nd rfl (.inl rfl) B7f)
   (A0c (B6f PassesOwn.never rfl (A6o rfl T.gu (A0a (pv 1) A0b)) (A0p (i:=5) A5t.nd rfl (.inl rfl))
    (A0c (A1i (A6z Z0k Z0n Z0o A1e (pv 3) (A0a (B2q (A0r A4g (A0m A1g (A0m A2s (pcl Gb2 hr T.ag (A0a (pv 0) (A0a A0e A0b))) (pv 5)) A0e) A0e (A0v _)) A4j (A0m A1g (pv 5) (pv 2))) A0b)))
    (A0f (B0x hu (pv 4) (A1d (A0a (pv 5) (A0a (A0m A7s A0e (pv 5)) A0b))) (pv 5) rfl))))
   (A0c (A0q (i:=6) A5t.nd rfl (.inl rfl) (pcl Gb7 hr T.b_ (A0a (A3n A5m (pv 0) (A4b A0e) (A4b A0e)) (A0a (pv 3) A0b))))
   (A0c (A2e (A0r A4g (A0m A1g (pcl Gb2 hr T.ag (A0a (pv 0) (A0a A0e A0b))) A0e) A0e (A0v _))
    (A0f (A0u (pcl Gb8 hr T.fh (A0a (pv 0) (A0a (pv 6) (A0a (pv 4) (A0a (pv 3) (A0a (pv 2) A0b))))))))
    A0y)
   (A0c (A0q (i:=7) A5t.nd rfl (.inl rfl) (A0m A1g (A0m A2n (pcl Gb2 hr T.ag (A0a (pv 0) (A0a A0e A0b))) A0e) (A0m A2s (A0x A0l (by rfl) T.bf Z0r (A0a (pv 6) A0b)) A0e)))
   (A0f (A0u (pcl Gb6 hr T.gn (A0a (pv 0) (A0a (pv 6) (A0a (pv 4) (A0a (pv 3) (A0a (pv 2) (A0a (pv 7) A0b))))))))))))))))),?_⟩
  refine ⟨_,rfl,sc,ns,0,rfl,hS,(by decide),λc0=> ?_⟩;refine ⟨_,_,rfl,rfl,⟨by decide,by decide⟩,A0k rfl,λz1 hz1=> ?_⟩;obtain ⟨H1,u1,f1,eNH⟩:=nH (o:= .lst [.int 6,.int 6,.int 6,.int 60]) hz1;rw [eNH];refine ⟨_,rfl,sc,ns,0,rfl,u1.seq hS,(by decide),λc0'=> ?_⟩;obtain ⟨v,hv,v0,v60⟩:=at4 (i:=c0'%4) (by lia) (by lia);refine ⟨_,_,rfl,rfl,C5q,z1,_,_,.int v,rfl,rfl,SqL.of f1,hv,_,_,rfl,rfl,v0,_,_,rfl,rfl,?_⟩
  obtain ⟨N,hN,N1,N60⟩:∃N:Nat,1+c0/4%v=(N:Int)/\0<N/\N<=60:=by
   have h1:=Z1v (c0/4) (show v≠0 by lia);have h2:=Z1p (c0/4) v0;exact ⟨(1+c0/4%v).toNat,by lia,by lia,by lia⟩
  dsimp only;rw [hN];refine ⟨_,rfl,sc,ns,1,rfl,u1.seq hS,(by decide),λc1=> ?_⟩;refine ⟨_,_,rfl,rfl,⟨by decide,by decide,by decide⟩,_,_,rfl,rfl,_,_,rfl,rfl,(by show (0:Int)<10^(30:Int).toNat-2;decide),_,_,rfl,rfl,?_⟩;dsimp only
  obtain ⟨wh,hwh,wp⟩:∃wh:Int,2+c1%(10^(30:Int).toNat-2)=wh/\(0<wh/\wh<=10^30):=by
   have e:(10:Int)^(30:Int).toNat-2=999999999999999999999999999998:=by decide
   rw [e];have h1:=Z1v c1 (show (999999999999999999999999999998:Int)≠0 by decide);have h2:=Z1p c1 (show (0:Int)<999999999999999999999999999998 by decide);exact ⟨_,rfl,by lia,by lia⟩
  rw [hwh];refine ⟨A0k rfl,λbl hbl=> ?_⟩;obtain ⟨H2,u2,f2,eNH⟩:=nH (o:= .lst []) hbl;rw [eNH];intro hm hhm;have u3:A0z H2 (upd H2 hm (.dT [])):=A0j hhm;have f3:upd H2 hm (.dT []) hm=some (.dT (kvT (A5j 0))):=A0d;have f2':=u3 _ _ f2;have nbh:bl≠hm:=A0i f2 hhm;generalize upd H2 hm (.dT [])=H3 at u3 f3 f2'⊢;have bH:H bl=none:=u1.free hbl;have hH:H hm=none:=(u1.trans u2).free hhm;refine ⟨_,rfl,_,rfl,by lia,by lia,?_⟩;refine B5m (n:=(N:Int).toNat) (λi σ G=>∃(o5:Option V) (bx:List (Option Int)),σ=[Sro sc,Sio N,Sio wh,Sro bl,Sro hm,o5,none,none]/\A0z H G/\G bl=some (.lst (bx.map enO))/\bx.length=i/\G hm=some (.dT (kvT (A5j i)))) ⟨none,[],rfl,u1.trans (u2.trans u3),f2',rfl,f3⟩ ?_ ?_
  ·rintro i σ G hi ⟨o5,bx,rfl,sG,hb,lb,hg⟩;have hi:i<N:=by simpa using hi
   refine ⟨_,rfl,.inl ⟨rfl,_,SqL.of hb⟩,_,rfl,sc,ns,2,rfl,sG.seq hS,(by decide),λc2=> ?_⟩;have fin:∀o:Option Int,∃G',G'=upd G bl (.lst (bx.map enO++[enO o]))/\A0z H G'/\G' bl=some (.lst ((bx++[o]).map enO))/\G' hm=some (.dT (kvT (A5j i))):=λo=>⟨_,rfl,A1b sG bH,by rw [Z0s];exact A0d,by rw [A0g nbh.symm];exact hg⟩
   have put:∀(o:Option Int) (G':Hp),A0z H G'->G' bl=some (.lst ((bx++[o]).map enO))->G' hm=some (.dT (kvT (A5j i)))->∀z,G' z=none->A0z H (upd (upd G' z (.tup [.int i,.int (0-(i:Int))])) hm (.dT (kvT (A5j (i+1)))))/\upd (upd G' z (.tup [.int i,.int (0-(i:Int))])) hm (.dT (kvT (A5j (i+1)))) bl=some (.lst ((bx++[o]).map enO)):=λo G' s' b' h' z hz=>by
    have sz:=A0j (o:= .tup [.int i,.int (0-(i:Int))]) hz;exact ⟨A1b (s'.trans sz) hH,by rw [A0g nbh];exact sz _ _ b'⟩
   have rest:∀(o:Option Int) (G':Hp),A0z H G'->G' bl=some (.lst ((bx++[o]).map enO))->G' hm=some (.dT (kvT (A5j i)))->∀z,G' z=none->B8o (upd G' z (.tup [.int i,.int (0-(i:Int))])) hm (.ref z) (.int i) (upd (upd G' z (.tup [.int i,.int (0-(i:Int))])) hm (.dT (kvT (A5j (i+1))))):=λo G' s' b' h' z hz=>by
    have sz:=A0j (o:= .tup [.int i,.int (0-(i:Int))]) hz;have hd:upd G' z (.tup [.int i,.int (0-(i:Int))]) z=some (.tup (((adr (i:Int)).map Sum.inl).map kV)):=A0d;have:=B8o.t (v:= .int i) (sz _ _ h') hd (A1n (by have:=B0n (n:=i) (o:=none);rw [A3i] at this;lia));rw [B9t] at this;exact this
   refine ⟨_,rfl,_,_,rfl,rfl,_,_,rfl,rfl,C4c,rfl,_,rfl,A9e (λ_=> ?_) (λ_=> ?_)⟩
   ·obtain ⟨G',e',s',b',h'⟩:=fin none;refine ⟨bl,_,_,rfl,rfl,hb,A1n (by simp;lia),?_⟩;rw [show upd G bl (.lst (bx.map enO++[V.non]))=G' from e'.symm];refine ⟨_,rfl,_,rfl,_,rfl,_,rfl,_,_,rfl,rfl,A0k rfl,λz hz=> ?_⟩;rw [Int.zero_add];dsimp only;obtain ⟨p1,p2⟩:=put none G' s' b' h' z hz;exact ⟨hm,_,rfl,rest none G' s' b' h' z hz,some (.int i),bx++[none],rfl,p1,p2,by simp [lb],A0d⟩
   ·obtain ⟨G',e',s',b',h'⟩:=fin (some ((0+(i:Int))%wh));refine ⟨_,rfl,_,rfl,_,_,rfl,rfl,wp.1,bl,_,_,rfl,rfl,hb,A1n (by simp;lia),?_⟩;rw [show upd G bl (.lst (bx.map enO++[V.int ((0+(i:Int))%wh)]))=G' from e'.symm];refine ⟨_,rfl,_,rfl,_,rfl,_,rfl,_,_,rfl,rfl,A0k rfl,λz hz=> ?_⟩;rw [Int.zero_add];dsimp only;obtain ⟨p1,p2⟩:=put _ G' s' b' h' z hz;exact ⟨hm,_,rfl,rest _ G' s' b' h' z hz,some (.int i),bx++[some ((0+(i:Int))%wh)],rfl,p1,p2,by simp [lb],A0d⟩
  ·rintro σ G ⟨o5,bx,rfl,sG,hb,lb,hg⟩;rw [Int.toNat_natCast] at lb hg;obtain ⟨cs,ecs,lcs⟩:=cutI ns (some 5) (some 63);refine ⟨_,rfl,_,rfl,_,rfl,sc,_,rfl,sG.seq hS,λcl hcl=> ?_⟩;rw [ecs];obtain ⟨G1,v1,g1,eNH⟩:=nH (o:= .lst (cs.map V.int)) hcl;rw [eNH];refine ⟨_,rfl,cl,bl,cs,bx,rfl,g1,by lia,v1 _ _ hb,by lia,by lia,λR xs rs F G2 s2 hR ra lr fu ok=> ?_⟩;have sG2:=sG.trans (v1.trans s2);have ci:C3z P w K G2 sc R hm bl ns xs rs bx:=⟨sG2.seq hS,ra,lr,by rw [lb];exact (v1.trans s2) _ _ hg,(v1.trans s2) _ _ hb,by lia,by lia⟩;refine ⟨_,rfl,sc,ns,3,rfl,sG2.seq hS,(by decide),λc3=> ?_⟩;refine ⟨_,_,rfl,rfl,C5q,rfl,_,rfl,A9e (λ_=> ?_) (λ_=> ?_)⟩
   ·exact ⟨_,rfl,_,rfl,_,rfl,_,rfl,_,rfl,sc,R,hm,bl,ns,xs,rs,bx,F,wh,rfl,ci,⟨ok,fu,Z1e _,rfl⟩,wp,λH' _=>k H'⟩
   ·refine ⟨_,rfl,sc,ns,3,rfl,sG2.seq hS,(by decide),λc3'=> ?_⟩;have lx:xs.length=rs.length:=by have:=Paired.length ra.pr;rw [Z08] at this;exact this
    obtain ⟨q,hq,hqn⟩:=B9s (c3'/12) (n:=rs.length+1) (by lia);refine ⟨_,_,rfl,rfl,⟨by decide,by decide⟩,_,rfl,R,_,rfl,.inl (SqL.of ra.at_),_,_,rfl,rfl,_,_,rfl,rfl,(by show (0:Int)<(xs.length:Int)+1;lia),?_⟩;dsimp only;rw [show c3'/12%((xs.length:Int)+1)=(q:Int) by rw [lx];exact hq];exact ⟨_,rfl,_,rfl,_,rfl,_,rfl,_,rfl,_,rfl,sc,R,hm,bl,ns,xs,rs,bx,F,wh,q,rfl,ci,⟨ok,fu,by lia,rfl⟩,wp,λH' _=>k H'⟩
end My
namespace PySem.W.Fast
def tw6996946938561565229:=()
def tw16732711018409423422:=()
def tw8350511402134098175:=()
def tw17433902774075312323:=()
def tw6107979139390736323:=()
def tw2590422671277247271:=()
def tw8498810871215108320:=()
def tw15101102508887288071:=()
def tw12651770526323324770:=()
def tw9945851104301002221:=()
def tw13846968550950351786:=()
def tw8426662064741838394:=()
def tw13159159297834558104:=()
def tw16958189670266189136:=()
def tw8143210944009714122:=()
def tw16248145081442360429:=()
def tw14018820228876800499:=()
def tw13772213551180541600:=()
def tw541548001020771540:=()
def tw8818967819005568439:=()
def tw4837238450895615683:=()
def tw18074172598807368638:=()
def tw11914143064865363073:=()
def tw4526168958430972183:=()
def tw239243782398401636:=()
def tw15748730209815014583:=()
def tw9747386847723633236:=()
def tw18120573892952473518:=()
def tw16376560388890675690:=()
def tw725204056694621356:=()
def tw2235122712115795210:=()
def tw12240150339780491721:=()
def tw2566396487407169485:=()
def tw13665575807765419973:=()
def tw17290080891729440864:=()
def tw4148873017580811705:=()
def tw6949385657273765541:=()
def tw11358075174263009383:=()
def tw5565930526844596019:=()
def tw2719791998157736065:=()
def tw16830668575613124085:=()
def tw7128013726107063761:=()
def tw100348689938578402:=()
def tw18180701705432312789:=()
def tw11203054458024475265:=()
def tw6025395102288060930:=()
def tw11804129951925673211:=()
def tw17427538198576732705:=()
def tw460395949529623232:=()
def tw9536807142177433395:=()
def tw9560799621174464433:=()
def tw11848471324762922559:=()
def tw17709464630836358271:=()
def tw17337908337005441992:=()
def tw11194646363009029612:=()
def tw1921803266294629454:=()
def tw7317367711521295981:=()
def tw13634616446197509581:=()
def tw13624147373393510656:=()
def tw7405450488078352681:=()
def tw11700927208465237080:=()
def tw12057098386167212133:=()
def tw9533254626527371870:=()
def tw15478395860139229957:=()
def tw15360172173895202002:=()
def tw4131878421945884473:=()
def tw8435385713004244709:=()
def tw7337637052712961679:=()
def tw14362379690090973907:=()
def tw11078901515992534802:=()
def tw5117689698139162703:=()
def tw9328977219419120935:=()
def tw2845999575455034658:=()
def tw18001095090484068794:=()
def tw7930971383392276398:=()
def tw214911104665061085:=()
def tw7341735877488261004:=()
def tw15760549886522376283:=()
def tw14189060683327727051:=()
def tw13387328788455334153:=()
def tw14707220697878774245:=()
def tw7967499945328472384:=()
def tw2945031048914524716:=()
def tw18243402281810856228:=()
def tw56059384815367848:=()
def tw2774259137313382497:=()
def tw1812261819587084529:=()
def tw6973712407646888414:=()
def tw1818052800756487494:=()
def tw9667316314510470361:=()
def tw6458280371473331566:=()
def tw10041026531820905752:=()
def tw1153260756132836915:=()
def tw9281463870327927889:=()
def tw9500159049488215327:=()
def tw11102161998227265280:=()
def tw13190293143975748800:=()
def tw1901230862877789562:=()
def tw6718561930875345129:=()
def tw6001463563794670304:=()
def tw9542102702130778692:=()
def tw15878504604281320667:=()
def tw15934523385960962163:=()
def tw9455698381097091515:=()
def tw5539743383685343313:=()
def tw4723743569959783406:=()
def tw3346118643648060010:=()
def tw2774914257287889446:=()
def tw1262270092168642680:=()
def tw8814010280633736029:=()
def tw7290087450075119923:=()
def tw7577518010746731877:=()
def tw17797040592541123602:=()
def tw10036803909195442725:=()
def tw8362925268315701413:=()
def tw5594733794304295728:=()
def tw9084201338496494503:=()
def tw3335051196562061326:=()
def tw11323291171461642962:=()
def tw2056655545217354551:=()
def tw6125357843530335523:=()
def tw16265377511737409487:=()
def tw457802819969793557:=()
def tw1085334452935169823:=()
def tw7211071008399439802:=()
def tw4936805772561492594:=()
def tw2548515863618116609:=()
def tw7309701768944729434:=()
def tw1499985776455441921:=()
def tw7895382668690757036:=()
def tw3436466515281435444:=()
def tw5978523422875950928:=()
def tw1419497481983931519:=()
def tw8387952044489822899:=()
def tw12388928903232354737:=()
def tw12270389151923027051:=()
def tw16967627468433212846:=()
def tw1838059858267297664:=()
def tw953807828875453302:=()
end PySem.W.Fast
namespace My
open PySem L2
abbrev LkF (K:Frag) (x q:Str) (st:Stmt) (f:Addr):Prop:=∃(oc:Value) (od:Option Addr) (kV dc pm:Value) (an:Option Addr) (cd ct:Value) (sl:Array (Option Value)),K.lookup f=some ⟨oc,od,.func (fnOf x q (A4o st) (A3a st) (A0h st) .none kV dc pm an cd ct),sl⟩/\codeIn K cd q=true/\keepIn K (.ref f)=true
theorem C3n {K:Frag} {x q:Str} {st:Stmt} {f:Addr} {oc:Value} {od:Option Addr} {kV dc pm:Value} {an:Option Addr} {cd ct:Value} {sl:Array (Option Value)} (l:K.lookup f=some ⟨oc,od,.func (fnOf x q (A4o st) (A3a st) (A0h st) .none kV dc pm an cd ct),sl⟩) (c:codeIn K cd q=true) (k:keepIn K (.ref f)=true):LkF K x q st f:=⟨_,_,_,_,_,_,_,_,_,l,c,k⟩
theorem A1m {K:Frag} {x q:Str} {st:Stmt} {f:Addr} {ps:List Str} (l:LkF K x q st f) (h:∀(kV doc pm:Value) (an:Option Addr) (cdv ct:Value) (us:List Value),us.length=ps.length->bindArgs (fnOf x q (A4o st) (A3a st) (A0h st) .none kV doc pm an cdv ct) ⟨us,[]⟩=pure (ps.zip us)):∃d,Fun K x q st f d/\A3x K d ps []/\keepIn K (.ref f)=true:=by
 obtain ⟨_,_,_,_,_,_,_,_,_,l,c,k⟩:=l;have F:=B8z (st:=st) l c k;exact ⟨_,F,F.binds h,k⟩
theorem len0 {p:List Value->Prop} (h:p []):∀us:List Value,us.length=0->p us:=λus e=>by rw [List.length_eq_zero_iff.mp e];exact h
theorem lenS {n:Nat} {p:List Value->Prop} (h:∀(a:Value) (us:List Value),us.length=n->p (a::us)):∀us:List Value,us.length=n+1->p us
 | a::r,e=>h a r (Nat.succ.inj e)
local macro_rules | `(tactic| walk_at "le") => `(tactic| (intro _ _ _ _ _ _; (repeat (refine lenS fun _ => ?_)); exact len0 rfl))
theorem C3p {l:PySem.W.OpenLaw} {w:World} {K:Frag} {h:Heap} {mg:Str->Option Value} {fa:Addr} (X:K.In h) (G:h.Ns mainGlobals mg) (hfa:mg "law"=some (.ref fa))
  {aH aD aC aB aA:Addr}
  (bX:nsIn K mainGlobals "LoomError"=some (some (.ref aH)))
  (dH:nsIn K mainGlobals "NoEnd"=some (some (.ref aD)))
  (cM:nsIn K mainGlobals "Outside"=some (some (.ref aC)))
  (bY:nsIn K mainGlobals "Unwritten"=some (some (.ref aB)))
  (cN:nsIn K mainGlobals "Machine"=some (some (.ref aA)))
  {f0:Addr}
  (a0:nsIn K mainGlobals "go"=some (some (.ref f0)))
  (l0:LkF K "go" "go" C5l f0)
  {f1:Addr}
  (a1:findIn K (.ref aA) "__init__"=some (some (.ref f1)))
  (l1:LkF K "__init__" "Machine.__init__" A2z f1)
  (i1:isFn K (.ref f1)=true)
  {f2:Addr}
  (a2:findIn K (.ref aA) "put"=some (some (.ref f2)))
  (l2:LkF K "put" "Machine.put" A3p f2)
  (i2:isFn K (.ref f2)=true)
  {f3:Addr}
  (a3:findIn K (.ref aA) "two_taken"=some (some (.ref f3)))
  (l3:LkF K "two_taken" "Machine.two_taken" A1u f3)
  (i3:isFn K (.ref f3)=true)
  {f4:Addr}
  (a4:findIn K (.ref aA) "home_of"=some (some (.ref f4)))
  (l4:LkF K "home_of" "Machine.home_of" A2g f4)
  (i4:isFn K (.ref f4)=true)
  {f5:Addr}
  (a5:findIn K (.ref aA) "index_at"=some (some (.ref f5)))
  (l5:LkF K "index_at" "Machine.index_at" A2d f5)
  (i5:isFn K (.ref f5)=true)
  {f6:Addr}
  (a6:findIn K (.ref aA) "box_of"=some (some (.ref f6)))
  (l6:LkF K "box_of" "Machine.box_of" A2h f6)
  (i6:isFn K (.ref f6)=true)
  {f7:Addr}
  (a7:findIn K (.ref aA) "number_in"=some (some (.ref f7)))
  (l7:LkF K "number_in" "Machine.number_in" A1w f7)
  (i7:isFn K (.ref f7)=true)
  {f8:Addr}
  (a8:findIn K (.ref aA) "put_in"=some (some (.ref f8)))
  (l8:LkF K "put_in" "Machine.put_in" A2i f8)
  (i8:isFn K (.ref f8)=true)
  {f9:Addr}
  (a9:nsIn K mainGlobals "do_push"=some (some (.ref f9)))
  (l9:LkF K "do_push" "do_push" A7a f9)
  {eB:Addr}
  (eP:nsIn K mainGlobals "do_count"=some (some (.ref eB)))
  (eQ:LkF K "do_count" "do_count" A7q eB)
  {eC:Addr}
  (eR:nsIn K mainGlobals "do_plus"=some (some (.ref eC)))
  (eS:LkF K "do_plus" "do_plus" A7c eC)
  {eD:Addr}
  (eT:nsIn K mainGlobals "do_minus"=some (some (.ref eD)))
  (eU:LkF K "do_minus" "do_minus" A5g eD)
  {eE:Addr}
  (eV:nsIn K mainGlobals "do_times"=some (some (.ref eE)))
  (eW:LkF K "do_times" "do_times" A5q eE)
  {eF:Addr}
  (eX:nsIn K mainGlobals "do_load"=some (some (.ref eF)))
  (eY:LkF K "do_load" "do_load" A7b eF)
  {eG:Addr}
  (eZ:nsIn K mainGlobals "do_store"=some (some (.ref eG)))
  (fA:LkF K "do_store" "do_store" A5p eG)
  {eH:Addr}
  (fB:nsIn K mainGlobals "do_gather"=some (some (.ref eH)))
  (fC:LkF K "do_gather" "do_gather" A4n eH)
  {eI:Addr}
  (fD:nsIn K mainGlobals "do_skip"=some (some (.ref eI)))
  (fE:LkF K "do_skip" "do_skip" A7i eI)
  {eJ:Addr}
  (fF:nsIn K mainGlobals "do_jump"=some (some (.ref eJ)))
  (fG:LkF K "do_jump" "do_jump" A6s eJ)
  {eK:Addr}
  (fH:nsIn K mainGlobals "do_zero"=some (some (.ref eK)))
  (fI:LkF K "do_zero" "do_zero" A9m eK)
  {eL:Addr}
  (fJ:nsIn K mainGlobals "do_begin"=some (some (.ref eL)))
  (fK:LkF K "do_begin" "do_begin" A7v eL)
  {eM:Addr}
  (fL:nsIn K mainGlobals "do_step"=some (some (.ref eM)))
  (fM:LkF K "do_step" "do_step" A9y eM)
  {eN:Addr}
  (fN:nsIn K mainGlobals "do_unless"=some (some (.ref eN)))
  (fO:LkF K "do_unless" "do_unless" A7g eN)
  {eO:Addr}
  (fP:nsIn K mainGlobals "do_within"=some (some (.ref eO)))
  (fQ:LkF K "do_within" "do_within" A7j eO)
  {gN:Addr}
  (fR:nsIn K mainGlobals "_law_cell_at"=some (some (.ref gN)))
  (fS:LkF K "_law_cell_at" "_law_cell_at" A4k gN)
  {gO:Addr}
  (fT:nsIn K mainGlobals "_law_kind"=some (some (.ref gO)))
  (fU:LkF K "_law_kind" "_law_kind" A8n gO)
  {gP:Addr}
  (fV:nsIn K mainGlobals "_law_outcome"=some (some (.ref gP)))
  (fW:LkF K "_law_outcome" "_law_outcome" A4l gP)
  {gQ:Addr}
  (fX:nsIn K mainGlobals "_law_caught"=some (some (.ref gQ)))
  (fY:LkF K "_law_caught" "_law_caught" A5l gQ)
  {gR:Addr}
  (fZ:nsIn K mainGlobals "_law_spot"=some (some (.ref gR)))
  (gA:LkF K "_law_spot" "_law_spot" A8u gR)
  {gS:Addr}
  (gB:nsIn K mainGlobals "_law_good_rows"=some (some (.ref gS)))
  (gC:LkF K "_law_good_rows" "_law_good_rows" A3l gS)
  {gT:Addr}
  (gD:nsIn K mainGlobals "_law_bare"=some (some (.ref gT)))
  (gE:LkF K "_law_bare" "_law_bare" A8s gT)
  {gU:Addr}
  (gF:nsIn K mainGlobals "_law_bad_home"=some (some (.ref gU)))
  (gG:LkF K "_law_bad_home" "_law_bad_home" A3w gU)
  {gV:Addr}
  (gH:nsIn K mainGlobals "_law_case"=some (some (.ref gV)))
  (gI:LkF K "_law_case" "_law_case" A8c gV)
  {gW:Addr}
  (gJ:nsIn K mainGlobals "_law_bad"=some (some (.ref gW)))
  (gK:LkF K "_law_bad" "_law_bad" B1a gW)
  {gX:Addr}
  (gL:nsIn K mainGlobals "_law_round"=some (some (.ref gX)))
  (gM:LkF K "_law_round" "_law_round" A6r gX)
  {gY:Addr}
  (eA:nsIn K mainGlobals "law"=some (some (.ref gY)))
  (dZ:LkF K "law" "law" B6w gY)
  {dR:Tok}
  (bW:nsIn K mainGlobals "NO_COUNTER"=some (some (.int (-1) dR)))
  {dQ:Addr}
  (dF:nsIn K mainGlobals "DOINGS"=some (some (.ref dQ)))
  (dG:B8i K dQ [("push",V.ref f9),("count",V.ref eB),("plus",V.ref eC),("minus",V.ref eD),("times",V.ref eE),("load",V.ref eF),("store",V.ref eG),("gather",V.ref eH),("skip",V.ref eI),("jump",V.ref eJ),("zero",V.ref eK),("begin",V.ref eL),("step",V.ref eM),("unless",V.ref eN),("within",V.ref eO)])
  (aV:mroIn K aD (.type "ValueError")=some true)
  (aL:mroIn K aC (.type "ValueError")=some true)
  (aG:mroIn K aB (.type "ValueError")=some true)
  (dI:excIn K aD [.type "ValueError",.type "Exception",.type "BaseException",.type "object"] "ValueError.__new__"=true)
  (cO:excIn K aC [.type "ValueError",.type "Exception",.type "BaseException",.type "object"] "ValueError.__new__"=true)
  (bZ:excIn K aB [.type "ValueError",.type "Exception",.type "BaseException",.type "object"] "ValueError.__new__"=true)
  (dJ:findIn K (.ref aD) "__getattribute__"=some (some (.builtin "BaseException.__getattribute__")))
  (dK:findIn K (.ref aD) "__getattr__"=some none)
  (dL:mroIn K aD (.type "BaseException")=some true)
  (dM:mroIn K aD (.type "object")=some true)
  (dN:findIn K (.ref aD) "__class__"=some (some (.builtin "object.__class__")))
  (dO:specialIn K (.builtin "object.__class__") "__get__"=some (some (.builtin "getset_descriptor.__get__")))
  (dP:takesIn K (.builtin "object.__class__")=some true)
  (bT:isClsIn K aD=true)
  (bU:typeIn K (.ref aD)=some (.type "type"))
  (bE:mroIn K aD (.ref aD)=some true)
  (aX:isClsIn K aC=true)
  (aY:typeIn K (.ref aC)=some (.type "type"))
  (bL:mroIn K aD (.ref aC)=some false)
  (bM:(Value.ref aD == Value.ref aC)=false)
  (aS:isClsIn K aB=true)
  (aT:typeIn K (.ref aB)=some (.type "type"))
  (aZ:mroIn K aD (.ref aB)=some false)
  (bA:(Value.ref aD == Value.ref aB)=false)
  (cP:findIn K (.ref aC) "__getattribute__"=some (some (.builtin "BaseException.__getattribute__")))
  (cQ:findIn K (.ref aC) "__getattr__"=some none)
  (cR:mroIn K aC (.type "BaseException")=some true)
  (cS:mroIn K aC (.type "object")=some true)
  (cT:findIn K (.ref aC) "__class__"=some (some (.builtin "object.__class__")))
  (cU:specialIn K (.builtin "object.__class__") "__get__"=some (some (.builtin "getset_descriptor.__get__")))
  (cV:takesIn K (.builtin "object.__class__")=some true)
  (aU:mroIn K aC (.ref aD)=some false)
  (bN:(Value.ref aC == Value.ref aD)=false)
  (aI:mroIn K aC (.ref aC)=some true)
  (aM:mroIn K aC (.ref aB)=some false)
  (aN:(Value.ref aC == Value.ref aB)=false)
  (cA:findIn K (.ref aB) "__getattribute__"=some (some (.builtin "BaseException.__getattribute__")))
  (cB:findIn K (.ref aB) "__getattr__"=some none)
  (cC:mroIn K aB (.type "BaseException")=some true)
  (cD:mroIn K aB (.type "object")=some true)
  (cE:findIn K (.ref aB) "__class__"=some (some (.builtin "object.__class__")))
  (cF:specialIn K (.builtin "object.__class__") "__get__"=some (some (.builtin "getset_descriptor.__get__")))
  (cG:takesIn K (.builtin "object.__class__")=some true)
  (aJ:mroIn K aB (.ref aD)=some false)
  (bB:(Value.ref aB == Value.ref aD)=false)
  (aF:mroIn K aB (.ref aC)=some false)
  (aO:(Value.ref aB == Value.ref aC)=false)
  (aE:mroIn K aB (.ref aB)=some true)
  (cL:mroIn K aD (.type "BaseException")=some true)
  (bF:isClsIn K aH=true)
  (bG:typeIn K (.ref aH)=some (.type "type"))
  (bC:mroIn K aD (.ref aH)=some true)
  (bH:mroIn K aH (.type "BaseException")=some true)
  (cH:mroIn K aC (.type "BaseException")=some true)
  (aP:mroIn K aC (.ref aH)=some true)
  (cI:mroIn K aB (.type "BaseException")=some true)
  (aK:mroIn K aB (.ref aH)=some true)
  (cW:plainGet K aA Str.empty=true)
  (cX:hasDictIn K aA=true)
  (cY:plainOver K aA=true)
  (cZ:findIn K (.ref aA) "__setattr__"=some (some (.builtin "object.__setattr__")))
  (dA:makesIn K aA=true)
  (dB:keepIn K (.ref aA)=true)
  (dC:findIn K (.ref aA) "__init__"=some (some (.ref f1)))
  (bO:findIn K (.ref aA) "wheel"=some none)
  (bP:findIn K (.ref aA) "homes"=some none)
  (bQ:findIn K (.ref aA) "boxes"=some none)
  (bI:findIn K (.ref aA) "counts"=some none)
  (bR:findIn K (.ref aA) "stack"=some none)
  (bS:findIn K (.ref aA) "trace"=some none)
  (bJ:findIn K (.ref aA) "box_of"=some (some (.ref f6)))
  (bD:findIn K (.ref aA) "home_of"=some (some (.ref f4)))
  (aW:findIn K (.ref aA) "index_at"=some (some (.ref f5)))
  (aQ:findIn K (.ref aA) "number_in"=some (some (.ref f7)))
  (bV:findIn K (.ref aA) "put"=some (some (.ref f2)))
  (bK:findIn K (.ref aA) "put_in"=some (some (.ref f8)))
  (aR:findIn K (.ref aA) "two_taken"=some (some (.ref f3)))
  (dD:findIn K (.ref aA) "__class__"=some (some (.builtin "object.__class__")))
  (dX:specialIn K (.builtin "object.__class__") "__get__"=some (some (.builtin "getset_descriptor.__get__")))
  (dY:takesIn K (.builtin "object.__class__")=some true)
  (dE:mroIn K aA (.type "object")=some true)
  (dW:nsIn K mainGlobals "len"=some none)
  (dU:nsIn K mainGlobals "list"=some none)
  (dS:nsIn K mainGlobals "tuple"=some none)
  (cJ:nsIn K mainGlobals "isinstance"=some none)
  (cK:nsIn K mainGlobals "ValueError"=some none)
  (dV:nsIn K mainGlobals "dict"=some none)
  (dT:nsIn K mainGlobals "range"=some none)
  :∃fd:FuncData,(∀(s:Shared) (v:Value),BindsTo s fd ⟨[v],[]⟩ [("_law_script",v)])/\∀base:Heap,K.In base->base.Ns mainGlobals mg->A4w l.prog w K mg base CX0 9 fa fd ["_law_script"] (B7y K):=by
 have e:=hfa.symm.trans (Z0f X G eA);cases e;obtain ⟨d0,F0,b0,k0⟩:=A1m (ps:=C3s) l0 (by walk_at "le");obtain ⟨d1,F1,b1,k1⟩:=A1m (ps:=C4v) l1 (by walk_at "le");obtain ⟨d2,F2,b2,k2⟩:=A1m (ps:=["self","number"]) l2 (by walk_at "le");obtain ⟨d3,F3,b3,k3⟩:=A1m (ps:=["self"]) l3 (by walk_at "le");obtain ⟨d4,F4,b4,k4⟩:=A1m (ps:=B9y) l4 (by walk_at "le");obtain ⟨d5,F5,b5,k5⟩:=A1m (ps:=C5e) l5 (by walk_at "le");obtain ⟨d6,F6,b6,k6⟩:=A1m (ps:=B9y) l6 (by walk_at "le");obtain ⟨d7,F7,b7,k7⟩:=A1m (ps:=["self","box"]) l7 (by walk_at "le");obtain ⟨d8,F8,b8,k8⟩:=A1m (ps:=C3w) l8 (by walk_at "le");obtain ⟨d9,F9,b9,k9⟩:=A1m (ps:=A3b) l9 (by walk_at "le");obtain ⟨d10,F10,b10,k10⟩:=A1m (ps:=A3b) eQ (by walk_at "le");obtain ⟨d11,F11,b11,k11⟩:=A1m (ps:=A3b) eS (by walk_at "le");obtain ⟨d12,F12,b12,k12⟩:=A1m (ps:=A3b) eU (by walk_at "le");obtain ⟨d13,F13,b13,k13⟩:=A1m (ps:=A3b) eW (by walk_at "le");obtain ⟨d14,F14,b14,k14⟩:=A1m (ps:=A3b) eY (by walk_at "le");obtain ⟨d15,F15,b15,k15⟩:=A1m (ps:=A3b) fA (by walk_at "le");obtain ⟨d16,F16,b16,k16⟩:=A1m (ps:=A3b) fC (by walk_at "le");obtain ⟨d17,F17,b17,k17⟩:=A1m (ps:=A3b) fE (by walk_at "le");obtain ⟨d18,F18,b18,k18⟩:=A1m (ps:=A3b) fG (by walk_at "le");obtain ⟨d19,F19,b19,k19⟩:=A1m (ps:=A3b) fI (by walk_at "le");obtain ⟨d20,F20,b20,k20⟩:=A1m (ps:=A3b) fK (by walk_at "le");obtain ⟨d21,F21,b21,k21⟩:=A1m (ps:=A3b) fM (by walk_at "le");obtain ⟨d22,F22,b22,k22⟩:=A1m (ps:=A3b) fO (by walk_at "le");obtain ⟨d23,F23,b23,k23⟩:=A1m (ps:=A3b) fQ (by walk_at "le");obtain ⟨d24,F24,b24,k24⟩:=A1m (ps:=C4d) fS (by walk_at "le");obtain ⟨d25,F25,b25,k25⟩:=A1m (ps:=["_law_e"]) fU (by walk_at "le");obtain ⟨d26,F26,b26,k26⟩:=A1m (ps:=C1h) fW (by walk_at "le");obtain ⟨d27,F27,b27,k27⟩:=A1m (ps:=C1h) fY (by walk_at "le");obtain ⟨d28,F28,b28,k28⟩:=A1m (ps:=["_law_number"]) gA (by walk_at "le");obtain ⟨d29,F29,b29,k29⟩:=A1m (ps:=C5i) gC (by walk_at "le");obtain ⟨d30,F30,b30,k30⟩:=A1m (ps:=["_law_rows","_law_boxes"]) gE (by walk_at "le");obtain ⟨d31,F31,b31,k31⟩:=A1m (ps:=C5b) gG (by walk_at "le");obtain ⟨d32,F32,b32,k32⟩:=A1m (ps:=C0i) gI (by walk_at "le");obtain ⟨d33,F33,b33,k33⟩:=A1m (ps:=C0d) gK (by walk_at "le");obtain ⟨d34,F34,b34,k34⟩:=A1m (ps:=B9n) gM (by walk_at "le");obtain ⟨_,_,_,_,_,_,_,_,_,dZ,c,k35⟩:=dZ;have F35:=B8z (st:=B6w) dZ c k35;have b35:=F35.binds (ps:=["_law_script"]) (by walk_at "le");exact ⟨_,λs v=> .of_eq rfl,λbase _ _=>C1v (t:=⟨aH,aD,aC,aB,aA,dQ,f0,_,f1,_,f2,_,f3,_,f4,_,f5,_,f6,_,f7,_,f8,_,f9,_,eB,_,eC,_,eD,_,eE,_,eF,_,eG,_,eH,_,eI,_,eJ,_,eK,_,eL,_,eM,_,eN,_,eO,_,gN,_,gO,_,gP,_,gQ,_,gR,_,gS,_,gT,_,gU,_,gV,_,gW,_,gX,_,fa,_⟩) ⟨⟨F0,Z0f X G a0,b0⟩,⟨F1,b1⟩,⟨F2,b2⟩,⟨F3,b3⟩,⟨F4,b4⟩,⟨F5,b5⟩,⟨F6,b6⟩,⟨F7,b7⟩,⟨F8,b8⟩,⟨F9,Z0f X G a9,b9⟩,⟨F10,Z0f X G eP,b10⟩,⟨F11,Z0f X G eR,b11⟩,⟨F12,Z0f X G eT,b12⟩,⟨F13,Z0f X G eV,b13⟩,⟨F14,Z0f X G eX,b14⟩,⟨F15,Z0f X G eZ,b15⟩,⟨F16,Z0f X G fB,b16⟩,⟨F17,Z0f X G fD,b17⟩,⟨F18,Z0f X G fF,b18⟩,⟨F19,Z0f X G fH,b19⟩,⟨F20,Z0f X G fJ,b20⟩,⟨F21,Z0f X G fL,b21⟩,⟨F22,Z0f X G fN,b22⟩,⟨F23,Z0f X G fP,b23⟩,⟨F24,Z0f X G fR,b24⟩,⟨F25,Z0f X G fT,b25⟩,⟨F26,Z0f X G fV,b26⟩,⟨F27,Z0f X G fX,b27⟩,⟨F28,Z0f X G fZ,b28⟩,⟨F29,Z0f X G gB,b29⟩,⟨F30,Z0f X G gD,b30⟩,⟨F31,Z0f X G gF,b31⟩,⟨F32,Z0f X G gH,b32⟩,⟨F33,Z0f X G gJ,b33⟩,⟨F34,Z0f X G gL,b34⟩,⟨F35,Z0f X G eA,b35⟩,⟨_,Z0f X G bW,⟨_,rfl⟩⟩,⟨_,Z0f X G dF,rfl⟩,dG,Z0f X G bX,Z0f X G dH,Z0f X G cM,Z0f X G bY,aV,aL,aG,dI,cO,bZ,⟨dJ,dK,dL,dM,dN,dO,dP⟩,A8p bT bU bE,A3d bM aX aY bL,A3d bA aS aT aZ,⟨cP,cQ,cR,cS,cT,cU,cV⟩,A3d bN bT bU aU,A8p aX aY aI,A3d aN aS aT aM,⟨cA,cB,cC,cD,cE,cF,cG⟩,A3d bB bT bU aJ,A3d aO aX aY aF,A8p aS aT aE,A5c cL bT bU bE,A5c bH bF bG bC,A5c cL bT bU aU,A5c cH aX aY aI,A5c bH bF bG aP,A5c cL bT bU aJ,A5c cH aX aY aF,A5c cI aS aT aE,A5c bH bF bG aK,Z0f X G cN,⟨cW,cX,cY,cZ⟩,⟨dA,dC,i1,dB⟩,bO,bP,bQ,bI,bR,bS,⟨bJ,i6,k6⟩,⟨bD,i4,k4⟩,⟨aW,i5,k5⟩,⟨aQ,i7,k7⟩,⟨bV,i2,k2⟩,⟨bK,i8,k8⟩,⟨aR,i3,k3⟩,⟨dD,dX,dY,dE⟩,Z1c X G dW,Z1c X G dU,Z1c X G dS,Z1c X G cJ,Z1c X G cK,Z1c X G dV,Z1c X G dT⟩⟩
theorem walk {l:PySem.W.OpenLaw} {q:Program} {loose:List Str} {XP:(Str->Option Value)->Heap->Prop} {YP:World->Heap->Prop} {d:DefRec} {K:Params->Frag} (hn:l.most=some 63) (hdf:d.params.defaults=[])
  (hY:∀(w:World) (h:Heap),YP w h->(K w.params).In h)
  (F:∀(w:World) (mg:Str->Option Value) (fa:Addr) (h:Heap),(K w.params).In h->h.Ns mainGlobals mg->mg d.name=some (.ref fa)->
   ∃fd:FuncData,(∀(s:Shared) (u:Value),BindsTo s fd ⟨[u],[]⟩ [("_law_script",u)])/\∀base:Heap,(K w.params).In base->base.Ns mainGlobals mg->A4w l.prog w (K w.params) mg base CX0 9 fa fd ["_law_script"] (B7y (K w.params))) :
  PySem.W.WalkO q loose XP YP l.row.toRowW d [] (λf vs=>PySem.call f vs) :=
 L2.B9i (n:=63) (k:=9) (x:="_law_script") (CX:=λ_=>CX0) (sp:=λw=>B7y (K w.params)) hn (by decide) hdf ⟨rfl,by decide,by decide,rfl⟩ hY F (λ_ _ a ns hl _ hS=>⟨a,ns,rfl,hS,hl,λ_=>rfl⟩) λ_ _ _ _ _ z=>z
end My
local macro_rules | `(tactic| walk_at "kf") => `(tactic| (refine' My.C3n ?l ?c ?k; (case l => k_is); (case c => k_is); (case k => k_is)))
open PySem PySem.W PyProof.Rows
set_option maxRecDepth 100000 in
set_option maxHeartbeats 0 in
theorem PySem.Challenge.cw_arrayloom_k73_the_machine_refuses_holds : PySem.Challenge.rw_arrayloom_k73_the_machine_refuses.Holds := by
 w_on;o_law;k_head;(case hw=>w_witness2)
 k_fill
 refine My.walk (l:=PySem.Challenge.rw_arrayloom_k73_the_machine_refuses) rfl rfl (λw h Y=>PySem.W.kIn_of Y) ?F
 case F =>
  intro w mg fa h KX G hmg;refine' My.C3p KX G hmg ?bX ?dH ?cM ?bY ?cN ?a0 ?l0 ?a1 ?l1 ?i1 ?a2 ?l2 ?i2 ?a3 ?l3 ?i3 ?a4 ?l4 ?i4 ?a5 ?l5 ?i5 ?a6 ?l6 ?i6 ?a7 ?l7 ?i7 ?a8 ?l8 ?i8 ?a9 ?l9 ?eP ?eQ ?eR ?eS ?eT ?eU ?eV ?eW ?eX ?eY ?eZ ?fA ?fB ?fC ?fD ?fE ?fF ?fG ?fH ?fI ?fJ ?fK ?fL ?fM ?fN ?fO ?fP ?fQ ?fR ?fS ?fT ?fU ?fV ?fW ?fX ?fY ?fZ ?gA ?gB ?gC ?gD ?gE ?gF ?gG ?gH ?gI ?gJ ?gK ?gL ?gM ?eA ?dZ ?bW ?dF ?dG ?aV ?aL ?aG ?dI ?cO ?bZ ?dJ ?dK ?dL ?dM ?dN ?dO ?dP ?bT ?bU ?bE ?aX ?aY ?bL ?bM ?aS ?aT ?aZ ?bA ?cP ?cQ ?cR ?cS ?cT ?cU ?cV ?aU ?bN ?aI ?aM ?aN ?cA ?cB ?cC ?cD ?cE ?cF ?cG ?aJ ?bB ?aF ?aO ?aE ?cL ?bF ?bG ?bC ?bH ?cH ?aP ?cI ?aK ?cW ?cX ?cY ?cZ ?dA ?dB ?dC ?bO ?bP ?bQ ?bI ?bR ?bS ?bJ ?bD ?aW ?aQ ?bV ?bK ?aR ?dD ?dX ?dY ?dE ?dW ?dU ?dS ?cJ ?cK ?dV ?dT
  (case bX | dH | cM | bY | cN=>k_is)
  (case a0=>k_is);(case l0=>walk_at "kf")
  (case a1=>k_is);(case l1=>walk_at "kf")
  (case i1=>k_is)
  (case a2=>k_is);(case l2=>walk_at "kf")
  (case i2=>k_is)
  (case a3=>k_is);(case l3=>walk_at "kf")
  (case i3=>k_is)
  (case a4=>k_is);(case l4=>walk_at "kf")
  (case i4=>k_is)
  (case a5=>k_is);(case l5=>walk_at "kf")
  (case i5=>k_is)
  (case a6=>k_is);(case l6=>walk_at "kf")
  (case i6=>k_is)
  (case a7=>k_is);(case l7=>walk_at "kf")
  (case i7=>k_is)
  (case a8=>k_is);(case l8=>walk_at "kf")
  (case i8=>k_is)
  (case a9=>k_is);(case l9=>walk_at "kf")
  (case eP=>k_is);(case eQ=>walk_at "kf")
  (case eR=>k_is);(case eS=>walk_at "kf")
  (case eT=>k_is);(case eU=>walk_at "kf")
  (case eV=>k_is);(case eW=>walk_at "kf")
  (case eX=>k_is);(case eY=>walk_at "kf")
  (case eZ=>k_is);(case fA=>walk_at "kf")
  (case fB=>k_is);(case fC=>walk_at "kf")
  (case fD=>k_is);(case fE=>walk_at "kf")
  (case fF=>k_is);(case fG=>walk_at "kf")
  (case fH=>k_is);(case fI=>walk_at "kf")
  (case fJ=>k_is);(case fK=>walk_at "kf")
  (case fL=>k_is);(case fM=>walk_at "kf")
  (case fN=>k_is);(case fO=>walk_at "kf")
  (case fP=>k_is);(case fQ=>walk_at "kf")
  (case fR=>k_is);(case fS=>walk_at "kf")
  (case fT=>k_is);(case fU=>walk_at "kf")
  (case fV=>k_is);(case fW=>walk_at "kf")
  (case fX=>k_is);(case fY=>walk_at "kf")
  (case fZ=>k_is);(case gA=>walk_at "kf")
  (case gB=>k_is);(case gC=>walk_at "kf")
  (case gD=>k_is);(case gE=>walk_at "kf")
  (case gF=>k_is);(case gG=>walk_at "kf")
  (case gH=>k_is);(case gI=>walk_at "kf")
  (case gJ=>k_is);(case gK=>walk_at "kf")
  (case gL=>k_is);(case gM=>walk_at "kf")
  (case eA=>k_is);(case dZ=>walk_at "kf")
  (case bW | dF=>k_is)
  (case dG=>first | (unfold L2.B8i;kernel_rfl) | (unfold L2.B8i;rfl) | (unfold L2.B8i;decide))
  (case aV | aL | aG=>k_is)
  (case dI | cO | bZ=>k_exc)
  (case dJ | dK | dL | dM | dN | dO | dP | bT | bU | bE | aX=>k_is)
  (case aY | bL=>k_is)
  (case bM=>first | rfl | decide)
  (case aS | aT | aZ=>k_is)
  (case bA=>first | rfl | decide)
  (case cP | cQ | cR | cS | cT | cU | cV | aU=>k_is)
  (case bN=>first | rfl | decide)
  (case aI | aM=>k_is)
  (case aN=>first | rfl | decide)
  (case cA | cB | cC | cD | cE | cF | cG | aJ=>k_is)
  (case bB=>first | rfl | decide)
  (case aF=>k_is)
  (case aO=>first | rfl | decide)
  (case aE | cL | bF | bG | bC | bH | cH | aP | cI | aK | cW=>k_is)
  (case cX | cY | cZ | dA | dB | dC | bO | bP | bQ | bI | bR=>k_is)
  (case bS | bJ | bD | aW | aQ | bV | bK | aR | dD | dX | dY=>k_is)
  (case dE | dW | dU | dS | cJ | cK | dV | dT=>k_is)
