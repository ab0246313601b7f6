import PyProof.Rows.All
import Wide.All
import OpenK.AllK
import Wide.FinOn
import Lean
import PyProof.EqAt
import PyProof.EqKinds
import PyProof.TupleCall
import KE.KDictLaws
import KE.KDictList
import KE.KDictOf
import KE.KEqDict
import KE.KIntText
import KE.KTabLook
import KE.KTryMore
import KE.KUnpack
import PyProof.AttrMissHeap
import PyProof.AutoListH
import PyProof.CompUse
import PyProof.ConsumeWalk
import PyProof.Conv_int_bool
import PyProof.DictItems
import PyProof.DictValues
import PyProof.DictWalks
import PyProof.Draws
import PyProof.EnumFor
import PyProof.EnumMake
import PyProof.EnumStmt
import PyProof.ExcClass3
import PyProof.ExcInit
import PyProof.FString4
import PyProof.FString5
import PyProof.FactsAll.list_3
import PyProof.FactsAll.set
import PyProof.FactsAll.subtypes_5
import PyProof.FactsAll.zip
import PyProof.NeKinds
import PyProof.P3Eq
import PyProof.RangeIter
import PyProof.ReprHeads
import PyProof.ReprLen
import PyProof.Rows.SetFrom
import PyProof.Rows.StrNews
import PyProof.Rows.TupIter
import PyProof.SetRoads
import PyProof.StrLawsRepr
import PyProof.StrWalks
import PyProof.SumAny
import PyProof.TupleKey
import PyProof.Walks
import PyProof.StrLawsIn
import PySem.Challenge.RW_arrayloom_k16_not_yet
set_option compiler.extract_closed false
section
open PySem PySem.Spec PyProof.Rows PySem.Calls
abbrev Z00:=@wpAny_bind
abbrev Z01:=@Heap.get?_push_of_some
abbrev Z02:=@List.mem_append_right
abbrev Z03:=@List.getElem?_eq_some_iff
abbrev Z04:=@wpAny_pure
abbrev Z05:=@List.mem_append_left
abbrev Z06:=@List.length_append
abbrev Z07:=@List.mem_append
abbrev Z08:=@List.length_map
abbrev Z09:=@Nat.le_refl
abbrev Z0a:=@Heap.lt_size
abbrev Z0b:=@List.getElem?_eq_getElem
abbrev Z0c:=@Heap.get?_push_size
abbrev Z0d:=@PyProof.Rows.boot_isinstance
abbrev Z0e:=@List.mem_cons
abbrev Z0f:=@PySem.W.mg_of
abbrev Z0g:=@List.size_toArray
abbrev Z0h:=@Nat.ne_of_lt
abbrev Z0i:=@Option.map_eq_some_iff
abbrev Z0j:=@List.length_singleton
abbrev Z0k:=@PySem.F.plainAttrs_list
abbrev Z0l:=@List.nodup_append
abbrev Z0m:=@PyProof.Rows.boot_tuple
abbrev Z0n:=@PySem.F.slot_list_append
abbrev Z0o:=@PySem.F.type_list_append
abbrev Z0p:=@List.map_cons
abbrev Z0q:=@Nat.lt_of_lt_of_le
abbrev Z0r:=@PySem.boot_len
abbrev Z0s:=@List.map_append
abbrev Z0t:=@if_neg
abbrev Z0u:=@List.append_nil
abbrev Z0v:=@Bool.false_ne_true
abbrev Z0w:=@List.mem_singleton
abbrev Z0x:=@List.length_take
abbrev Z0y:=@List.length_cons
abbrev Z0z:=@List.append_assoc
abbrev Z10:=@wpAny_mono
abbrev Z11:=@wpAny_field
abbrev Z12:=@if_pos
abbrev Z13:=@List.mem_of_getElem?
abbrev Z14:=@List.take_add_one
abbrev Z15:=@List.nodup_cons
abbrev Z16:=@wpAny_newObj_type
abbrev Z18:=@List.take_length
abbrev Z19:=@List.length_drop
abbrev Z1a:=@Option.some.inj
abbrev Z1b:=@wpAny_callSpecial?_slot
abbrev Z1c:=@PySem.W.mg_none_of
abbrev Z1d:=@Heap.get?_update_other
abbrev Z1e:=@Nat.zero_le
abbrev Z1f:=@List.mem_cons_of_mem
abbrev Z1g:=@wpAny_call_entry
abbrev Z1h:=@wpAny_setField_rec
abbrev Z1i:=@List.not_mem_nil
abbrev Z1j:=@decide_eq_false
abbrev Z1k:=@wpAny_loadPart_at
abbrev Z1l:=@List.getElem?_append_right
abbrev Z1m:=@Array.getElem?_eq_some_iff
abbrev Z1n:=@Nat.le_trans
abbrev Z1o:=@PyProof.Rows.boot_list
abbrev Z1p:=@Int.emod_lt_of_pos
abbrev Z1q:=@Nat.ne_of_gt
abbrev Z1r:=@Heap.get?_update_self
abbrev Z1s:=@Heap.size_push
abbrev Z1t:=@wpAny_setField
abbrev Z1v:=@Int.emod_nonneg
abbrev Z1w:=@wpAny_holding
abbrev Z1x:=@Bool.and_eq_true
abbrev Z1y:=@wpAny_standAt
abbrev Z1z:=@List.getElem?_map
abbrev Z20:=@decide_eq_true
abbrev Z21:=@wpAny_seqItems
abbrev Z22:=@beq_eq_false_iff_ne
abbrev Z23:=@List.getElem?_set_self
abbrev Z24:=@List.drop_of_length_le
abbrev Z25:=@Array.getElem?_setIfInBounds_ne
abbrev Z26:=@List.getElem?_append_left
abbrev Z27:=@List.mem_cons_self
abbrev Z28:=@List.lookup_cons
abbrev Z29:=@Int.mul_le_mul_of_nonneg_left
abbrev Z2a:=@List.getElem?_set_ne
abbrev Z2b:=@wpAny_execs_nil
abbrev Z2c:=@List.mem_map
abbrev Z2d:=@Nat.lt_of_le_of_lt
abbrev Z2e:=@List.take_append_drop
abbrev Z2f:=@Option.toList_some
abbrev Z2g:=@List.length_nil
abbrev Z2h:=@List.find?_cons
abbrev Z2i:=@List.drop_length
abbrev Z2k:=@PyProof.Rows.slot_tuple_getitem
abbrev Z2l:=@List.take_of_length_le
abbrev Z2m:=@List.getElem?_zip_eq_some
abbrev Z2n:=@List.length_eq_zero_iff
abbrev Z2o:=@List.take_sublist
abbrev Z2p:=@List.mem_of_mem_take
abbrev Z2q:=@PyProof.Rows.boot_dict
abbrev Z2r:=@List.drop_zero
end
noncomputable section
open PySem.W (Frag findIn nsIn mroIn kitOne keepIn typeIn hideAll isFn plainGet isClsIn hasDictIn exmOne plainOver makesIn clsIn fnOf emptyDict instObj excIn kitAny takesIn specialIn subIn codeIn)
set_option Elab.async false
set_option bootstrap.genMatcherCode false
set_option linter.all false
set_option maxRecDepth 100000
set_option maxHeartbeats 4000000
namespace L2
open PySem PySem.Spec PyProof.Rows
abbrev Key:=Sum Int Str
def C4h:Key->Value->Bool
 | .inl k,v=>Value.isInt k v
 | .inr x,v=>Value.isStrOf x v
def keyH (w:World):Key->Int
 | .inl k=>hashInt k
 | .inr x=>hashStr w x
theorem A2w:∀{k:Key} {v:Value},C4h k v=true->(∃i t,k=Sum.inl i/\v=Value.int i t)\/(∃x t,k=Sum.inr x/\v=Value.str x t)
 | .inl i,v,h=>by
  obtain ⟨t,e⟩:=Value.isInt_shape (k:=i) (v:=v) h;exact .inl ⟨i,t,rfl,e⟩
 | .inr x,v,h=>by
  obtain ⟨t,e⟩:=Value.isStrOf_shape (x:=x) (v:=v) h;exact .inr ⟨x,t,rfl,e⟩
theorem C7r (i:Int) (t:Tok):C4h (.inl i) (.int i t)=true:=by simp [C4h,Value.isInt]
theorem C7s (x:Str) (t:Tok):C4h (.inr x) (.str x t)=true:=by simp [C4h,Value.isStrOf]
theorem D9a (a b:Int):decide ((Sum.inl a:Key)=Sum.inl b)=(a == b):=by
 by_cases e:a=b
 ·subst e;simp
 ·have h:¬(Sum.inl a:Key)=Sum.inl b:=λq=>e (Sum.inl.inj q);rw [Z1j h];exact (Z22.mpr e).symm
theorem D9n (a b:Str):decide ((Sum.inr a:Key)=Sum.inr b)=decide (a=b):=by
 by_cases e:a=b
 ·subst e;simp
 ·have h:¬(Sum.inr a:Key)=Sum.inr b:=λq=>e (Sum.inr.inj q);rw [Z1j h,Z1j e]
theorem D9p (a:Int) (b:Str):decide ((Sum.inl a:Key)=Sum.inr b)=false:=Z1j (λq=>nomatch q)
theorem D7m (a:Str) (b:Int):decide ((Sum.inr a:Key)=Sum.inl b)=false:=Z1j (λq=>nomatch q)
def A2e (prog:Program) (w:World):PySem.KeyKind prog w Key where
 is:=C4h
 hash:=keyH w
 inj:=λv a b ha hb=>by
  rcases A2w ha with ⟨i,t,rfl,rfl⟩ | ⟨x,t,rfl,rfl⟩
  ·rcases A2w hb with ⟨j,u,rfl,e⟩ | ⟨y,u,rfl,e⟩
   ·injection e with e1 _;rw [e1]
   ·exact nomatch e
  ·rcases A2w hb with ⟨j,u,rfl,e⟩ | ⟨y,u,rfl,e⟩
   ·exact nomatch e
   ·injection e with e1 _;rw [e1]
 byValue:=λk v h=>by
  rcases A2w h with ⟨i,t,rfl,rfl⟩ | ⟨x,t,rfl,rfl⟩ <;> rfl
 pyHash:=λhv h=>by
  rcases A2w hv with ⟨i,t,rfl,rfl⟩ | ⟨x,t,rfl,rfl⟩
  ·exact wpAny_pyHash_int h
  ·exact wpAny_pyHash_str h
 eqBool:=λhu hv h=>by
  rcases A2w hu with ⟨i,t,rfl,rfl⟩ | ⟨x,t,rfl,rfl⟩
  ·rcases A2w hv with ⟨j,u,rfl,rfl⟩ | ⟨y,u,rfl,rfl⟩
   ·rw [D9a] at h;exact wpAny_eqBool_int h
   ·rw [D9p] at h;exact SeqAt.EqAt.int_str i t y u _ _ _ _ h
  ·rcases A2w hv with ⟨j,u,rfl,rfl⟩ | ⟨y,u,rfl,rfl⟩
   ·rw [D7m] at h;exact SeqAt.EqAt.str_int x t j u _ _ _ _ h
   ·rw [D9n] at h;exact wpAny_eqBool_str h
 «strs»:=λk x t v h=>by
  rcases A2w h with ⟨i,u,rfl,e⟩ | ⟨y,u,rfl,e⟩
  ·exact nomatch e
  ·injection e with e1 _;subst e1;cases v <;> rfl
theorem C0x (prog:Program) (w:World) (i:Int) (t:Tok):(A2e prog w).is (.inl i) (.int i t)=true:=C7r i t
theorem C0g (prog:Program) (w:World) (x:Str) (t:Tok):(A2e prog w).is (.inr x) (.str x t)=true:=C7s x t
inductive V where
 | non | bl (b:Bool) | int (i:Int) | str (x:Str) | byt (b:Array UInt8) | flt (b:UInt64) | ref (a:Addr) | ty (n:String)
 deriving DecidableEq
def A3d:V->Value->Prop
 | .non,u=>u=Value.none
 | .bl b,u=>u=Value.bool b
 | .int i,u=>∃t,u=Value.int i t
 | .str x,u=>∃t,u=Value.str x t
 | .byt b,u=>∃t,u=Value.bytes b t
 | .flt b,u=>∃t,u=Value.float b t
 | .ref a,u=>u=Value.ref a
 | .ty n,u=>u=Value.type n
abbrev A2t:List V->List Value->Prop:=Paired A3d
theorem A2t.length {xs:List V} {us:List Value} (r:A2t xs us):xs.length=us.length:=Paired.length r
theorem A2t.get:∀{xs:List V} {us:List Value} {i:Nat} {x:V},A2t xs us->xs[i]? =some x->∃u,us[i]? =some u/\A3d x u
 | _,_,_,_,.nil,e=>by simp at e
 | _,_,0,_,.cons r _,e=>by simp at e;subst e;exact ⟨_,rfl,r⟩
 | _,_,i+1,x,.cons _ t,e=>by
  obtain ⟨u,h1,h2⟩:=A2t.get (i:=i) (x:=x) t (by simpa using e);exact ⟨u,by simpa using h1,h2⟩
theorem A2t.append:∀{xs ys:List V} {us ws:List Value},A2t xs us->A2t ys ws->A2t (xs++ys) (us++ws)
 | _,_,_,_,.nil,s=>s
 | _,_,_,_,.cons r t,s=> .cons r (A2t.append t s)
theorem A2t.take:∀{xs:List V} {us:List Value} (n:Nat),A2t xs us->A2t (xs.take n) (us.take n)
 | _,_,0,_=> .nil
 | _,_,_+1,.nil=> .nil
 | _,_,n+1,.cons r t=> .cons r (A2t.take n t)
theorem A2t.drop:∀{xs:List V} {us:List Value} (n:Nat),A2t xs us->A2t (xs.drop n) (us.drop n)
 | _,_,0,r=>r
 | _,_,_+1,.nil=> .nil
 | _,_,n+1,.cons _ t=>A2t.drop n t
def B6a:Option V->Option Value->Prop
 | some v,some u=>A3d v u
 | none,none=>True
 | _,_=>False
def KV {κ:Type}:List (κ×V)->List (κ×Value)->Prop:=Paired λ(p:κ×V) (q:κ×Value)=>p.1=q.1/\A3d p.2 q.2
def kV:Key->V
 | .inl i=> .int i
 | .inr x=> .str x
inductive HO where
 | lst (xs:List V)
 | tup (xs:List V)
 | dK (kvs:List (Key×V)) | dT (kvs:List (List Key×V))
 | set (S:Int->Bool) (n:Nat)
 | ins (C dx:Addr) (fs:List (Str×V))
 | own (x:Addr)
 | xd (fs:List (Str×V))
 | met (f x:Addr)
 | rng (lo hi:Int)
 | frz (o:Obj) (u:HO)
 | tbl (ps:Array Value)
 | ext (φ:Heap->Prop)
abbrev Hp:=Addr->Option HO
def upd (H:Hp) (a:Addr) (o:HO):Hp:=λb=>if b=a then some o else H b
theorem A0b {H:Hp} {a:Addr} {o:HO}:upd H a o a=some o:=by unfold upd;rw [Z12 rfl]
theorem A0j {H:Hp} {a b:Addr} {o:HO} (h:b≠a):upd H a o b=H b:=by unfold upd;rw [Z0t h]
theorem A6w {H:Hp} {a:Addr} {o u:HO}:upd (upd H a o) a u=upd H a u:=by
 funext b;unfold upd;split <;> rfl
theorem A2n {H:Hp} {a b:Addr} {o u:HO} (h:H a=some o) (h':H b=some u) (d:o≠u):a≠b:=by
 intro e;subst e;rw [h] at h';exact d (Z1a h')
theorem A0g {H:Hp} {a b:Addr} {o:HO} (h:H a=some o) (h':H b=none):a≠b:=by
 intro e;subst e;rw [h] at h';cases h'
section
variable (P:Program) (w:World)
def A2a (H:Hp) (h:Heap) (a:Addr):HO->Prop
 | .lst xs=>xs.length<=sizeLine/\∃(its:List Value) (n:Nat),A2t xs its/\h.get? a=some { cls:= .type "list",data:= .seq its.toArray n }
 | .tup xs=>xs.length<=sizeLine/\∃its:List Value,A2t xs its/\IsTup h a its.toArray
 | .dK kvs=>kvs.length<=sizeLine/\(a == sysModules)=false/\∃vs,KV kvs vs/\h.DictOf (A2e P w) a vs
 | .dT kvs=>kvs.length<=sizeLine/\(a == sysModules)=false/\∃xs:List (List Key×Addr×Value),
   Paired (λ(p:List Key×V) (q:List Key×Addr×Value)=>p.1=q.1/\H q.2.1=some (.tup (p.1.map kV))/\A3d p.2 q.2.2) kvs xs/\
   ∃o es ep,h.get? a=some o/\o.ExactDict/\o.data= .dict es ep/\es.toList=xs.map (entryOfKey (tupleKind (A2e P w)))/\(xs.map (·.1)).Nodup
 | .set S n=>h.SetOf (intKind P w) a S n
 | .ins C dx fs=>H dx=some (.own a)/\fs.length<=1000/\dx≠a/\h.get? a=some (instObj C dx)/\
   ∃mA,h.Ns1 dx mA/\(∀f,B6a (fs.lookup f) (mA f))/\PySem.Within mA (fs.map (·.1))
 | .own _=>∃o,h.get? a=some o
 | .xd fs=>∃mA,h.Ns1 a mA/\∀f,B6a (fs.lookup f) (mA f)
 | .rng lo hi=>∃t u v,h.get? a=some { cls:= .type "range",data:= .fields #[.int lo t,.int hi u,.int 1 v] }
 | .frz o u=>h.get? a=some o/\A2a H h a u
 | .tbl ps=>h.get? a=some { cls:= .none,data:= .fields ps }
 | .met f x=>h.get? a=some (PySem.W.methodObj (.ref f) (.ref x))
 | .ext φ=>φ h/\(∃o,h.get? a=some o)/\∀h1 h2:Heap,φ h1->(∀o,h1.get? a=some o->h2.get? a=some o)->φ h2
def HOk (H:Hp) (h:Heap):Prop:=∀a o,H a=some o->A2a P w H h a o
end
section
variable {P:Program} {w:World} {H H':Hp} {h h':Heap} {a:Addr} {o:HO}
theorem A2a.lt (x:A2a P w H h a o):a<h.objs.size:=by
 cases o with
 | lst xs=>obtain ⟨_,_,_,_,e⟩:=x;exact Z0a e
 | tup xs=>obtain ⟨_,_,_,p⟩:=x;exact p.lt
 | dK kvs=>obtain ⟨_,_,_,_,o,_,_,e,_⟩:=x;exact Z0a e
 | dT kvs=>obtain ⟨_,_,_,_,o,_,_,e,_⟩:=x;exact Z0a e
 | set S n=>obtain ⟨o,_,_,_,e,_⟩:=x;exact Z0a e
 | ins C dx fs=>obtain ⟨_,_,_,e,_⟩:=x;exact Z0a e
 | own y=>obtain ⟨_,e⟩:=x;exact Z0a e
 | xd fs=>obtain ⟨_,⟨_,_,_,e,_⟩,_⟩:=x;exact Z0a e
 | rng lo hi=>obtain ⟨_,_,_,e⟩:=x;exact Z0a e
 | frz ob u=>obtain ⟨e,_⟩:=x;exact Z0a e
 | tbl ps=>exact Z0a (show h.get? a=some _ from x)
 | met f y=>exact Z0a (show h.get? a=some _ from x)
 | ext φ=>obtain ⟨_,⟨_,e⟩,_⟩:=x;exact Z0a e
theorem Paired.mapP {α β:Type} {F G:α->β->Prop}:∀{l₁:List α} {l₂:List β},Paired F l₁ l₂->(∀a b,F a b->G a b)->Paired G l₁ l₂
 | _,_,.nil,_=> .nil
 | _,_,.cons r t,f=> .cons (f _ _ r) (Paired.mapP t f)
theorem A2a.stay (x:A2a P w H h a o) (k:∀b u,(b=a\/H b=some (.own a))->h.get? b=some u->h'.get? b=some u)
  (ho:∀b,H b=some (.own a)->H' b=some (.own a)) (ht:∀b xs,H b=some (.tup xs)->H' b=some (.tup xs)):A2a P w H' h' a o:=by
 induction o with
 | lst xs=>obtain ⟨z,its,n,r,e⟩:=x;exact ⟨z,its,n,r,k _ _ (.inl rfl) e⟩
 | tup xs=>obtain ⟨z,its,r,ob,e,c⟩:=x;exact ⟨z,its,r,ob,k _ _ (.inl rfl) e,c⟩
 | dK kvs=>obtain ⟨z,y,vs,r,ob,es,ep,e,c⟩:=x;exact ⟨z,y,vs,r,ob,es,ep,k _ _ (.inl rfl) e,c⟩
 | dT kvs =>
  obtain ⟨z,y,xs,r,ob,es,ep,e,c⟩:=x;exact ⟨z,y,xs,Paired.mapP r λp q z=>⟨z.1,ht _ _ z.2.1,z.2.2⟩,ob,es,ep,k _ _ (.inl rfl) e,c⟩
 | set S n=>obtain ⟨ob,es,ep,t,e,c⟩:=x;exact ⟨ob,es,ep,t,k _ _ (.inl rfl) e,c⟩
 | ins C dx fs =>
  obtain ⟨d,z,ne,e,mA,⟨od,es,ep,e2,c⟩,r⟩:=x;exact ⟨ho _ d,z,ne,k _ _ (.inl rfl) e,mA,⟨od,es,ep,k _ _ (.inr d) e2,c⟩,r⟩
 | own y=>obtain ⟨ob,e⟩:=x;exact ⟨ob,k _ _ (.inl rfl) e⟩
 | xd fs=>obtain ⟨mA,⟨od,es,ep,e,c⟩,r⟩:=x;exact ⟨mA,⟨od,es,ep,k _ _ (.inl rfl) e,c⟩,r⟩
 | rng lo hi=>obtain ⟨t,u,v,e⟩:=x;exact ⟨t,u,v,k _ _ (.inl rfl) e⟩
 | frz ob u ih=>obtain ⟨e,q⟩:=x;exact ⟨k _ _ (.inl rfl) e,ih q⟩
 | tbl ps =>
  have e:h.get? a=some { cls:= .none,data:= .fields ps }:=x;show h'.get? a=some { cls:= .none,data:= .fields ps };exact k a _ (.inl rfl) e
 | met f y =>
  have e:h.get? a=some (PySem.W.methodObj (.ref f) (.ref y)):=x;show h'.get? a=some (PySem.W.methodObj (.ref f) (.ref y));exact k a _ (.inl rfl) e
 | ext φ=>obtain ⟨p,⟨o,e⟩,st⟩:=x;exact ⟨st _ _ p λo q=>k _ _ (.inl rfl) q,⟨o,k _ _ (.inl rfl) e⟩,st⟩
theorem HOk.lt (x:HOk P w H h) (e:H a=some o):a<h.objs.size:=(x a o e).lt
theorem HOk.fresh (x:HOk P w H h) (e:h.objs.size<=a):H a=none:=by
 cases q:H a with
 | none=>rfl
 | some u=>exact absurd (Z0q (x.lt q) e) (Nat.lt_irrefl _)
theorem HOk.kept (x:HOk P w H h) (k:∀b u,h.get? b=some u->h'.get? b=some u):HOk P w H h':=λa o e =>
 (x a o e).stay (λb u _ q=>k b u q) (λ_ q=>q) λ_ _ q=>q
theorem HOk.laid (x:HOk P w H h) (k:∀b u,h.get? b=some u->h'.get? b=some u) (hp:h.objs.size<=a) (new:A2a P w (upd H a o) h' a o):HOk P w (upd H a o) h':=λb u e=>by
 have hn:=x.fresh hp;by_cases hb:b=a
 ·subst hb;rw [A0b] at e;cases e;exact new
 ·rw [A0j hb] at e;exact (x b u e).stay (λc v _ q=>k c v q) (λc q=>by rw [A0j (A0g q hn)];exact q) λc xs q=>by rw [A0j (A0g q hn)];exact q
end
def Rd (H:Hp) (a:Addr) (u:HO):Prop:=H a=some u\/∃o,H a=some (.frz o u)
theorem Rd.ok {P:Program} {w:World} {H:Hp} {h:Heap} {a:Addr} {u:HO} (r:Rd H a u) (x:HOk P w H h):A2a P w H h a u:=by
 rcases r with r | ⟨o,r⟩
 ·exact x a u r
 ·obtain ⟨_,q⟩:=x a _ r;exact q
def Mut:Option HO->Prop
 | some (.lst _)=>True
 | some (.dK _)=>True
 | some (.dT _)=>True
 | some (.set _ _)=>True
 | some (.ins _ _ _)=>True
 | some (.ext _)=>True
 | _=>False
section
variable {P:Program} {w:World} {H:Hp} {h h':Heap} {x e:Addr} {o':HO}
theorem HOk.write (ok:HOk P w H h) (mu:Mut (H x)) (he:e=x\/H e=some (.own x)) (k:∀b u,b≠e->h.get? b=some u->h'.get? b=some u) (heo:∃u,h'.get? e=some u)
  (new:A2a P w (upd H x o') h' x o'):HOk P w (upd H x o') h':=λb u q=>by
 have nown:∀c y,H c=some (.own y)->c≠x:=λc y r z=>by subst z;rw [r] at mu;exact mu
 have ntup:∀c xs,H c=some (.tup xs)->c≠x:=λc xs r z=>by subst z;rw [r] at mu;exact mu
 by_cases hb:b=x
 ·subst hb;rw [A0b] at q;cases q;exact new
 ·rw [A0j hb] at q;by_cases hbe:b=e
  ·have q':H b=some (.own x):=by
    rcases he with z | z
    ·exact absurd (hbe.trans z) hb
    ·rw [hbe];exact z
   rw [q] at q';cases q';obtain ⟨v,hv⟩:=heo;exact ⟨v,by rw [hbe];exact hv⟩
  ·refine (ok b u q).stay (λc v hc r=>k c v ?_ r) (λc r=>by rw [A0j (nown c b r)];exact r) λc xs r=>by rw [A0j (ntup c xs r)];exact r
   rcases hc with rfl | hc
   ·exact hbe
   ·rintro rfl;rcases he with z | z
    ·exact nown c b hc z
    ·rw [hc] at z;cases z;exact hb rfl
end
structure Un (fs ex:List Addr) (H H':Hp) (h h':Heap):Prop where
 keep:∀b o,h.get? b=some o->H b=none->b∉fs->b∉ex->h'.get? b=some o
 slot:∀b o,h.get? b=some o->H b=none->b∈fs->b∉ex->∃sl,h'.get? b=some { o with slots:=sl }
 free:∀b o,h.get? b=some o->H b=none->b∉ex->H' b=none
 there:∀b o,h.get? b=some o->b∉ex->∃o',h'.get? b=some o'
 tups:∀b xs,H b=some (.tup xs)->H' b=some (.tup xs)
 frzs:∀b o u,H b=some (.frz o u)->H' b=some (.frz o u)
 tbls:∀b ps,H b=some (.tbl ps)->∃more,H' b=some (.tbl (ps++more))
section
variable {fs fs' ex ex':List Addr} {H H1 H2:Hp} {h h1 h2 h':Heap} {a x e:Addr} {o:HO}
theorem Un.any (u:Un fs ex H H1 h h1) {b:Addr} {ob:Obj} (q:h.get? b=some ob) (n:H b=none) (hx:b∉ex):∃sl,h1.get? b=some { ob with slots:=sl }:=by
 by_cases hb:b∈fs
 ·exact u.slot b ob q n hb hx
 ·exact ⟨ob.slots,u.keep b ob q n hb hx⟩
theorem Un.kept (k:∀b u,h.get? b=some u->h'.get? b=some u):Un fs ex H H h h' :=
 ⟨λb ob q _ _ _=>k b ob q,λb ob q _ _ _=>⟨ob.slots,k b ob q⟩,λ_ _ _ n _=>n,λb ob q _=>⟨ob,k b ob q⟩,λ_ _ q=>q,λ_ _ _ q=>q,λ_ ps q=>⟨#[],by rw [q];simp⟩⟩
theorem Un.refl:Un fs ex H H h h:=Un.kept λ_ _ q=>q
theorem Un.laid (k:∀b u,h.get? b=some u->h'.get? b=some u) (hp:h.objs.size<=a) (hn:H a=none):Un fs ex H (upd H a o) h h' where
 keep:=λb u q _ _ _=>k b u q
 slot:=λb u q _ _ _=>⟨u.slots,k b u q⟩
 free:=λb u q n _=>by rw [A0j (Z0h (Z0q (Z0a q) hp))];exact n
 there:=λb u q _=>⟨u,k b u q⟩
 tups:=λb xs q=>by rw [A0j (A0g q hn)];exact q
 frzs:=λb u xs q=>by rw [A0j (A0g q hn)];exact q
 tbls:=λb ps q=>⟨#[],by rw [A0j (A0g q hn),q];simp⟩
theorem Un.write (mu:Mut (H x)) (he:e=x\/H e=some (.own x)) (k:∀b u,b≠e->h.get? b=some u->h'.get? b=some u) (heo:∃u,h'.get? e=some u):Un fs ex H (upd H x o) h h':=by
 have hx:∀b,H b=none->b≠x:=λb n z=>by subst z;rw [n] at mu;exact mu
 have hb:∀b,H b=none->b≠e:=λb n z=>by
  subst z;rcases he with r | r
  ·exact hx b n r
  ·rw [n] at r;cases r
 have hm:∀b u,H b=some u->¬Mut (some u)->b≠x:=λb u q nm z=>by subst z;rw [q] at mu;exact nm mu
 refine ⟨λb u q n _ _=>k b u (hb b n) q,λb u q n _ _=>⟨u.slots,k b u (hb b n) q⟩,λb u q n _=>by rw [A0j (hx b n)];exact n,λb u q _=> ?_,
  λb xs q=>by rw [A0j (hm b _ q λz=>z)];exact q,λb u xs q=>by rw [A0j (hm b _ q λz=>z)];exact q,λb ps q=>⟨#[],by rw [A0j (hm b _ q λz=>z),q];simp⟩⟩
 by_cases hbe:b=e
 ·subst hbe;exact heo
 ·exact ⟨u,k b u hbe q⟩
end
def trk (h:Heap) (H:Hp):List Addr:=(List.range h.objs.size).filter λa=>(H a).isSome
def D1b (h:Heap) (H:Hp):Heap:=hideAll h (trk h H)
theorem C8k (h:Heap) (H:Hp):(D1b h H).objs.size=h.objs.size:=PySem.W.hideAll_size _ _
theorem D0i {h:Heap} {H:Hp} {b:Addr} {o:Obj} (e:h.get? b=some o) (n:H b=none):(D1b h H).get? b=some o :=
 PySem.W.hideAll_get _ e λhm=>by
  have q:(H b).isSome=true:=(List.mem_filter.mp hm).2;rw [n] at q;simp at q
theorem D4h {h:Heap} {H:Hp} {b:Addr} {o:Obj} (e:(D1b h H).get? b=some o):h.get? b=some o/\H b=none:=by
 have e':h.get? b=some o:=PySem.W.of_hideAll (trk h H) e;refine ⟨e',?_⟩
 cases q:H b with
 | none=>rfl
 | some x =>
  have hm:b∈trk h H:=List.mem_filter.mpr ⟨List.mem_range.mpr (Z0a e'),by simp [q]⟩;have z:(D1b h H).get? b=none:=PySem.W.hideAll_none (trk h H) hm;rw [z] at e;cases e
structure Mod (K:Frag) (mg:Str->Option Value) (base:Heap):Prop where
 kin:K.In base
 glob:base.Ns mainGlobals mg
 blt:∃mb,base.Ns builtinsNs mb/\∀x:Str,x≠"__name__"->mb x=bootBuiltins x
 nolimit:base.NoLimit
structure Cx where
 prog:Program
 w:World
 K:Frag
 mg:Str->Option Value
 base:Heap
 A:Around
 N:List Str
 s₀:Shared
 H₀:Hp
 env:Env
 outer:List Env
 stack:List Env
 ex:List Addr
 fn:Str->Bool
 calm:Bool
 pn:List (Addr×Obj)
 xe:Value->Shared->Prop
def frs (l:List Env):List Addr:=l.filterMap (·.frame)
abbrev Cx.fs (X:Cx):List Addr:=frs X.outer
def Vis (sc:Scope) (x:Str):Prop:=sc.names.lookup x=some .local\/sc.names.lookup x=some .cell\/sc.names.lookup x=some .free
def Loc (sc:Scope) (x:Str):Prop:=sc.names.lookup x=some .local\/sc.names.lookup x=some .cell
def Look (env:Env) (h:Heap) (m:Str->Option Value) (x:Str) (u:Value):Prop :=
 (env.kindOf x=some .local/\m x=some u)\/((env.kindOf x=some .cell\/env.kindOf x=some .free)/\∃c,env.cells.lookup x=some c/\h.IsCell c (some u))
structure Cx.Ok (X:Cx):Prop where
 mod:Mod X.K X.mg X.base
 kind:X.env.scope.kind= .function
 glob:X.env.globals=mainGlobals
 blt:X.env.builtins=builtinsNs
 above:X.s₀.heap.objs.size<=X.env.locals
 inj:∀x y c,X.env.cells.lookup x=some c->X.env.cells.lookup y=some c->x=y
 has:∀x,(X.env.kindOf x=some .cell\/X.env.kindOf x=some .free)->∃c,X.env.cells.lookup x=some c
 cab:∀x c,X.fn x=true->X.env.cells.lookup x=some c->X.s₀.heap.objs.size<=c
 hd:X.calm=true->X.A.handled=none
 frames:X.A.frames=some X.stack
 stk:X.stack=X.outer\/(X.stack=X.env::X.outer/\X.env.frame=some X.env.locals)
 exf:∀b∈X.ex,b≠X.env.locals/\∀x c,X.env.cells.lookup x=some c->c≠b
 bs:∀b o,X.base.get? b=some o->X.s₀.heap.get? b=some o/\X.H₀ b=none
 bsz:X.base.objs.size<=X.s₀.heap.objs.size
 noex:∀b o,X.base.get? b=some o->b∉X.ex
 exfs:∀b∈X.ex,b∉X.fs
 funs:X.s₀.heap.FunFrames X.base X.outer
 frf:∀b∈X.fs,X.H₀ b=none
structure Inv (X:Cx) (pins:List (Addr×Obj)) (σ:List (Option V)) (H:Hp) (s:Shared):Prop where
 ok:X.Ok
 os:s.os=X.s₀.os
 bare:AllBare s.gens
 base:Un X.fs X.ex X.H₀ H X.s₀.heap s.heap
 loc:∃m,s.heap.Ns X.env.locals m/\∀(i:Nat) (x:Str) (v:V),X.N[i]? =some x->σ[i]? =some (some v)->Vis X.env.scope x->∃u,A3d v u/\Look X.env s.heap m x u
 cell:∀x c,X.env.cells.lookup x=some c->∃v,s.heap.IsCell c v
 free:H X.env.locals=none
 freeC:∀x c,X.env.cells.lookup x=some c->H c=none
 pin:∀p∈X.pn++pins,s.heap.get? p.1=some p.2/\H p.1=none/\p.1≠X.env.locals/\p.1∉X.fs/\∀v,p.2.data≠.cell v
 hok:HOk X.prog X.w H s.heap
 len:σ.length=X.N.length
section
variable {X:Cx} {pins:List (Addr×Obj)} {σ:List (Option V)} {H H':Hp} {s:Shared} {h':Heap}
theorem Cx.Ok.nofr (ok:X.Ok) {b:Addr} {o:Obj} (e:X.base.get? b=some o):b∉X.fs:=λhb=>by
 have:=(ok.funs.mem hb).1;rw [e] at this;cases this
theorem Inv.bs (I:Inv X pins σ H s):∀b o,X.base.get? b=some o->s.heap.get? b=some o/\H b=none:=λb o e =>
 ⟨I.base.keep b o (I.ok.bs b o e).1 (I.ok.bs b o e).2 (I.ok.nofr e) (I.ok.noex b o e),I.base.free b o (I.ok.bs b o e).1 (I.ok.bs b o e).2 (I.ok.noex b o e)⟩
theorem Inv.bk (I:Inv X pins σ H s):∀b o,X.base.get? b=some o->s.heap.get? b=some o:=λb o e=>(I.bs b o e).1
theorem Inv.mod (I:Inv X pins σ H s):Mod X.K X.mg X.base:=I.ok.mod
theorem Inv.kIn (I:Inv X pins σ H s):X.K.In s.heap:=I.ok.mod.kin.keeps I.bk
theorem Inv.lt (I:Inv X pins σ H s):X.env.locals<s.heap.objs.size:=let ⟨_,hn,_⟩:=I.loc;hn.lt
theorem Inv.sz (I:Inv X pins σ H s):X.s₀.heap.objs.size<=s.heap.objs.size:=Z1n I.ok.above (Nat.le_of_lt I.lt)
theorem Inv.nofs (I:Inv X pins σ H s) {a:Addr} (h:s.heap.objs.size<=a):a∉X.fs:=λhb=>by
 obtain ⟨_,o,ho,_⟩:=I.ok.funs.mem hb;exact absurd (Z0q (Z0a ho) (Z1n I.sz h)) (Nat.lt_irrefl _)
theorem Inv.cne (I:Inv X pins σ H s):∀x c,X.env.cells.lookup x=some c->c≠X.env.locals:=λx c e z=>by
 obtain ⟨v,o,ho,hd⟩:=I.cell x c e;obtain ⟨m,⟨o',es,ep,ho',hd',_⟩,_⟩:=I.loc;rw [z,ho'] at ho;cases ho;rw [hd'] at hd;cases hd
theorem Inv.funs (I:Inv X pins σ H s):s.heap.FunFrames X.base X.outer:=by
 have all:∀(l:List Env),(∀b∈frs l,b∈X.fs)->X.s₀.heap.FunFrames X.base l->s.heap.FunFrames X.base l:=by
  intro l
  induction l with
  | nil=>intro _ _;trivial
  | cons env r ih =>
   intro hs hl;obtain ⟨hk,⟨L,o,hf,hn,ho,hd⟩,hr⟩:=hl;have hL:L∈X.fs:=hs L (by unfold frs;rw [List.filterMap_cons,hf];exact Z27);obtain ⟨sl,e⟩:=I.base.slot L o ho (I.ok.frf L hL) hL λz=>I.ok.exfs L z hL;exact ⟨hk,⟨L,_,hf,hn,e,hd⟩,ih (λb hb=>hs b (by unfold frs;rw [List.filterMap_cons,hf];exact Z1f _ hb)) hr⟩
 exact all X.outer (λ_ hb=>hb) I.ok.funs
theorem Inv.stack (I:Inv X pins σ H s):s.heap.FunFrames X.base X.stack:=by
 rcases I.ok.stk with e | ⟨e,hf⟩
 ·rw [e];exact I.funs
 ·rw [e];obtain ⟨m,hn,_⟩:=I.loc;refine .cons (by rw [I.ok.kind];decide) hf hn ?_ I.funs;exact Heap.get?_none_of_le (Z1n I.ok.bsz I.ok.above)
theorem Inv.stkSub (I:Inv X pins σ H s):∀b∈frs X.stack,b∈X.env.locals::X.fs:=λb hb=>by
 rcases I.ok.stk with e | ⟨e,hf⟩
 ·rw [e] at hb;exact Z1f _ hb
 ·rw [e] at hb;unfold frs at hb;rw [List.filterMap_cons,hf] at hb;exact hb
theorem Inv.stkFree (I:Inv X pins σ H s):∀b∈frs X.stack,H b=none:=λb hb=>by
 rcases Z0e.mp (I.stkSub b hb) with e | hb
 ·rw [e];exact I.free
 ·obtain ⟨_,o,ho,_⟩:=I.ok.funs.mem hb;exact I.base.free b o ho (I.ok.frf b hb) λz=>I.ok.exfs b z hb
theorem Inv.step {g':Array GenState} {t':Nat} {d':Drawn} {ch:List Addr} (I:Inv X pins σ H s)
  (hch:∀b∈ch,(b∈X.ex\/X.s₀.heap.objs.size<=b)/\b≠X.env.locals/\(∀x c,X.env.cells.lookup x=some c->c≠b)/\∀p∈X.pn++pins,p.1≠b)
  (keep:∀b o,b≠X.env.locals->b∉X.fs->b∉ch->s.heap.get? b=some o->H b=none->h'.get? b=some o)
  (slot:∀b o,b≠X.env.locals->b∈X.fs->b∉ch->s.heap.get? b=some o->H b=none->∃sl,h'.get? b=some { o with slots:=sl }) (free:∀b o,b∉ch->s.heap.get? b=some o->H b=none->H' b=none)
  (there:∀b o,b∉ch->s.heap.get? b=some o->∃o',h'.get? b=some o')
  (tups:∀b xs,H b=some (.tup xs)->H' b=some (.tup xs)) (frzs:∀b o u,H b=some (.frz o u)->H' b=some (.frz o u)) (tbls:∀b ps,H b=some (.tbl ps)->∃more,H' b=some (.tbl (ps++more)))
  (ns:∀m,s.heap.Ns X.env.locals m->h'.Ns X.env.locals m) (hok:HOk X.prog X.w H' h') (hg:AllBare g') :
  Inv X pins σ H' { s with heap:=h',gens:=g',drawn:=d',toks:=t' }:=by
 have neL:∀b o,X.s₀.heap.get? b=some o->b≠X.env.locals:=λb o e=>Z0h (Z0q (Z0a e) I.ok.above)
 have neC:∀b o,X.s₀.heap.get? b=some o->b∉X.ex->b∉ch:=λb o e hx hb=>by
  rcases (hch b hb).1 with z | z
  ·exact hx z
  ·exact absurd (Z0q (Z0a e) z) (Nat.lt_irrefl _)
 have cellK:∀x c,X.env.cells.lookup x=some c->∀v,s.heap.IsCell c v->h'.IsCell c v:=λx c e v ⟨o,ho,hd⟩=>by
  have nch:c∉ch:=λz=>(hch c z).2.2.1 x c e rfl;by_cases hc:c∈X.fs
  ·obtain ⟨sl,q⟩:=slot c o (I.cne x c e) hc nch ho (I.freeC x c e);exact ⟨_,q,hd⟩
  ·exact ⟨o,keep c o (I.cne x c e) hc nch ho (I.freeC x c e),hd⟩
 refine ⟨I.ok,I.os,hg,⟨λb o e n hb hx=> ?_,λb o e n hb hx=> ?_,λb o e n hx=> ?_,λb o e hx=> ?_,λb xs e=>tups b xs (I.base.tups b xs e),λb o xs e=>frzs b o xs (I.base.frzs b o xs e),λb ps e=> ?_⟩,?_,λx c e=> ?_,?_,λx c e=> ?_,λp hp=> ?_,hok,I.len⟩
 ·exact keep b o (neL b o e) hb (neC b o e hx) (I.base.keep b o e n hb hx) (I.base.free b o e n hx)
 ·obtain ⟨sl,e1⟩:=I.base.slot b o e n hb hx;obtain ⟨sl',e2⟩:=slot b _ (neL b o e) hb (neC b o e hx) e1 (I.base.free b o e n hx);exact ⟨sl',e2⟩
 ·obtain ⟨o',e1⟩:=I.base.there b o e hx;exact free b o' (neC b o e hx) e1 (I.base.free b o e n hx)
 ·obtain ⟨o',e1⟩:=I.base.there b o e hx;exact there b o' (neC b o e hx) e1
 ·obtain ⟨m1,e1⟩:=I.base.tbls b ps e;obtain ⟨m2,e2⟩:=tbls b _ e1;exact ⟨m1++m2,by rw [e2,Array.append_assoc]⟩
 ·obtain ⟨m,hn,hl⟩:=I.loc;refine ⟨m,ns m hn,λi x v e1 e2 e3=> ?_⟩;obtain ⟨u,r,l⟩:=hl i x v e1 e2 e3;refine ⟨u,r,?_⟩;rcases l with l | ⟨k,c,e,z⟩
  ·exact .inl l
  ·exact .inr ⟨k,c,e,cellK x c e _ z⟩
 ·obtain ⟨v,z⟩:=I.cell x c e;exact ⟨v,cellK x c e v z⟩
 ·obtain ⟨m,⟨o,_,_,ho,_⟩,_⟩:=I.loc;exact free _ o (λz=>(hch _ z).2.1 rfl) ho I.free
 ·obtain ⟨v,o,ho,hd⟩:=I.cell x c e;exact free c o (λz=>(hch c z).2.2.1 x c e rfl) ho (I.freeC x c e)
 ·obtain ⟨e,n,ne,nf,d⟩:=I.pin p hp;have nch:p.1∉ch:=λz=>(hch p.1 z).2.2.2 p hp rfl;exact ⟨keep p.1 p.2 ne nf nch e n,free p.1 p.2 nch e n,ne,nf,d⟩
theorem Inv.un {t':Nat} (I:Inv X pins σ H s) (u:Un X.fs [] H H' s.heap h') (hok:HOk X.prog X.w H' h'):Inv X pins σ H' { s with heap:=h',toks:=t' }:=by
 obtain ⟨m,⟨o,es,ep,ho,r⟩,_⟩:=id I.loc;obtain ⟨sl,hL⟩:=u.any ho I.free (by simp)
 exact I.step (g':=s.gens) (d':=s.drawn) (ch:=[]) (λ_ z=>nomatch z) (λb o _ hb _ e n=>u.keep b o e n hb (by simp)) (λb o _ hb _ e n=>u.slot b o e n hb (by simp)) (λb o _ e n=>u.free b o e n (by simp)) (λb o _ e=>u.there b o e (by simp)) u.tups u.frzs u.tbls (λm' hm=>by
  obtain ⟨o',es',ep',ho',r'⟩:=hm;rw [ho] at ho';cases ho'
  exact ⟨_,es',ep',hL,r'⟩) hok I.bare
theorem Inv.call {g':Array GenState} {t':Nat} {d':Drawn} {ch:List Addr} (I:Inv X pins σ H s) (u:Un (frs X.stack) ch H H' s.heap h') (hok:HOk X.prog X.w H' h') (hg:AllBare g')
  (hch:∀b∈ch,(b∈X.ex\/X.s₀.heap.objs.size<=b)/\b≠X.env.locals/\(∀x c,X.env.cells.lookup x=some c->c≠b)/\∀p∈X.pn++pins,p.1≠b) :
  Inv X pins σ H' { s with heap:=h',gens:=g',drawn:=d',toks:=t' }:=by
 obtain ⟨m,⟨o,es,ep,ho,r⟩,_⟩:=id I.loc;obtain ⟨sl,hL⟩:=u.any ho I.free λz=>(hch _ z).2.1 rfl
 exact I.step (ch:=ch) hch (λb o hL hb hc e n=>u.keep b o e n (λz=>(Z0e.mp (I.stkSub b z)).elim hL hb) hc) (λb o _ _ hc e n=>u.any e n hc) (λb o hc e n=>u.free b o e n hc) (λb o hc e=>u.there b o e hc) u.tups u.frzs u.tbls (λm' hm=>by
  obtain ⟨o',es',ep',ho',r'⟩:=hm;rw [ho] at ho';cases ho'
  exact ⟨_,es',ep',hL,r'⟩) hok hg
theorem Inv.turned {t':Nat} {it:Addr} (I:Inv X pins σ H s) (k:∀b o,b≠it->s.heap.get? b=some o->h'.get? b=some o) (hn:H it=none) (hL:it≠X.env.locals)
  (h1:it∈X.ex\/X.s₀.heap.objs.size<=it) (h2:∀x c,X.env.cells.lookup x=some c->c≠it) (h3:∀p∈X.pn++pins,p.1≠it):Inv X pins σ H { s with heap:=h',toks:=t' }:=by
 have nit:∀b u,H b=some u->b≠it:=λb u e z=>by rw [z,hn] at e;cases e
 refine I.step (g':=s.gens) (d':=s.drawn) (ch:=[it]) (λb hb=> ?_) (λb o _ _ hc e _=>k b o (λz=>hc (by simp [z])) e) (λb o _ _ hc e _=>⟨o.slots,k b o (λz=>hc (by simp [z])) e⟩) (λ_ _ _ _ n=>n)
  (λb o hc e=>⟨o,k b o (λz=>hc (by simp [z])) e⟩) (λ_ _ e=>e) (λ_ _ _ e=>e) (λb ps e=>⟨#[],by rw [e];simp⟩) (λm hm=> ?_) (λb u e=> ?_) I.bare
 ·have e:b=it:=by simpa using hb
  subst e;exact ⟨h1,hL,h2,h3⟩
 ·obtain ⟨o,es,ep,ho,r⟩:=hm;exact ⟨o,es,ep,k _ o (Ne.symm hL) ho,r⟩
 ·refine (I.hok b u e).stay (λc v hc q=>k c v ?_ q) (λ_ q=>q) λ_ _ q=>q;rcases hc with z | z
  ·rw [z];exact nit b u e
  ·exact nit c _ z
theorem Inv.tok (I:Inv X pins σ H s) (t:Nat):Inv X pins σ H { s with toks:=t }:=I.un (h':=s.heap) (t':=t) Un.refl I.hok
theorem Inv.kept {t':Nat} (I:Inv X pins σ H s) (k:∀b u,s.heap.get? b=some u->h'.get? b=some u):Inv X pins σ H { s with heap:=h',toks:=t' }:=I.un (Un.kept k) (I.hok.kept k)
theorem Inv.laid {a:Addr} {o:HO} {t':Nat} (I:Inv X pins σ H s) (k:∀b u,s.heap.get? b=some u->h'.get? b=some u) (hp:s.heap.objs.size<=a) (new:A2a X.prog X.w (upd H a o) h' a o) :
  Inv X pins σ (upd H a o) { s with heap:=h',toks:=t' }:=I.un (Un.laid k hp (I.hok.fresh hp)) (I.hok.laid k hp new)
theorem Inv.write {x e:Addr} {o:HO} {t':Nat} (I:Inv X pins σ H s) (mu:Mut (H x)) (he:e=x\/H e=some (.own x)) (k:∀b u,b≠e->s.heap.get? b=some u->h'.get? b=some u) (heo:∃u,h'.get? e=some u)
  (new:A2a X.prog X.w (upd H x o) h' x o):Inv X pins σ (upd H x o) { s with heap:=h',toks:=t' }:=I.un (Un.write mu he k heo) (I.hok.write mu he k heo new)
theorem Inv.weak {σ':List (Option V)} (I:Inv X pins σ H s) (hl:σ'.length=σ.length) (w:∀(i:Nat) v,σ'[i]? =some (some v)->σ[i]? =some (some v)):Inv X pins σ' H s :=
 ⟨I.ok,I.os,I.bare,I.base,let ⟨m,hn,hl'⟩:=I.loc;⟨m,hn,λi x v e1 e2 e3=>hl' i x v e1 (w i v e2) e3⟩,I.cell,I.free,I.freeC,I.pin,I.hok,hl.trans I.len⟩
theorem Inv.pins_of {pins':List (Addr×Obj)} (I:Inv X pins σ H s) (h:∀p∈pins',s.heap.get? p.1=some p.2/\H p.1=none/\p.1≠X.env.locals/\p.1∉X.fs/\∀v,p.2.data≠.cell v):Inv X pins' σ H s :=
 ⟨I.ok,I.os,I.bare,I.base,I.loc,I.cell,I.free,I.freeC,λp hp=>(Z07.mp hp).elim (λz=>I.pin p (Z05 _ z)) (h p),I.hok,I.len⟩
theorem B6q {N:List Str} (hN:N.Nodup) {i j:Nat} {x:Str} (a:N[i]? =some x) (b:N[j]? =some x):i=j:=by
 obtain ⟨h1,e1⟩:=Z03.mp a;obtain ⟨h2,e2⟩:=Z03.mp b;exact (List.getElem_inj hN).mp (e1.trans e2.symm)
theorem B8b {M:Model} {A:Around} {E:Value->Shared->Prop} {i:Nat} {x:Str} {v:V} {u:Value} {Q:Unit->Shared->Prop} (I:Inv X pins σ H s) (hN:X.N.Nodup) (hi:X.N[i]? =some x) (hx:Loc X.env.scope x) (r:A3d v u)
  (h:∀s',Inv X pins (σ.set i (some v)) H s'->(∃a,Heap.SameBut a s.heap s'.heap/\(a=X.env.locals\/X.env.cells.lookup x=some a))->Q () s') (hf:X.fn x=true\/X.env.scope.names.lookup x=some .local:=by first | exact .inl rfl | exact .inr rfl | assumption):wpAny M A (storeName X.env x u) Q E s:=by
 obtain ⟨m,hn,hl⟩:=id I.loc;have hcls:(X.env.scope.kind == .class||(X.env.scope.kind == .module&&X.env.locals != X.env.globals))=false:=by rw [I.ok.kind];rfl
 have hiσ:i<σ.length:=by rw [I.len];exact (Z03.mp hi).1
 have cne:=I.cne
 have tracked:∀{a:Addr} {h':Heap},(∃o,s.heap.get? a=some o/\H a=none)->Heap.SameBut a s.heap h'->HOk X.prog X.w H h':=λ{a h'} ha hs b ob e=>by
  obtain ⟨_,_,hfree⟩:=ha;refine (I.hok b ob e).stay (λc w' hc q=>(hs.2 c ?_).trans q) (λ_ q=>q) λ_ _ q=>q;rintro rfl;rcases hc with rfl | hc
  ·rw [hfree] at e;cases e
  ·rw [hfree] at hc;cases hc
 rcases hx with hk | hk
 ·refine wpAny_storeName_local hk hn (λh' hn' hs=> ?_) hcls;obtain ⟨oL,_,_,hoL,_⟩:=id hn;refine h _ ⟨I.ok,I.os,I.bare,⟨λb o e n hb hx=> ?_,λb o e n hb hx=> ?_,I.base.free,λb o e hx=> ?_,I.base.tups,I.base.frzs,I.base.tbls⟩,⟨_,hn',λj y v' e1 e2 e3=> ?_⟩,λy c e=> ?_,I.free,I.freeC,λp hp=> ?_,tracked ⟨oL,hoL,I.free⟩ hs,by simpa using I.len⟩ ⟨_,hs,.inl rfl⟩
  ·exact (hs.2 b (Z0h (Z0q (Z0a e) I.ok.above))).trans (I.base.keep b o e n hb hx)
  ·obtain ⟨sl,e1⟩:=I.base.slot b o e n hb hx;exact ⟨sl,(hs.2 b (Z0h (Z0q (Z0a e) I.ok.above))).trans e1⟩
  ·obtain ⟨o',e1⟩:=I.base.there b o e hx;exact ⟨o',(hs.2 b (Z0h (Z0q (Z0a e) I.ok.above))).trans e1⟩
  ·by_cases hj:j=i
   ·subst hj;rw [hi] at e1;cases e1;rw [Z23 hiσ] at e2;cases e2;exact ⟨u,r,.inl ⟨hk,by simp⟩⟩
   ·rw [Z2a (Ne.symm hj)] at e2;obtain ⟨u',r',q⟩:=hl j y v' e1 e2 e3;refine ⟨u',r',?_⟩;rcases q with ⟨k,e⟩ | ⟨k,c,e,z⟩
    ·refine .inl ⟨k,?_⟩;have:y≠x:=λe=>hj (B6q hN e1 (e▸hi));simp [this,e]
    ·exact .inr ⟨k,c,e,z.sameBut hs (cne y c e)⟩
  ·obtain ⟨w',z⟩:=I.cell y c e;exact ⟨w',z.sameBut hs (cne y c e)⟩
  ·obtain ⟨e,n,ne,nf,d⟩:=I.pin p hp;exact ⟨(hs.2 p.1 ne).trans e,n,ne,nf,d⟩
 ·have hfn:X.fn x=true:=by
   rcases hf with z | z
   ·exact z
   ·rw [z] at hk;cases hk
  obtain ⟨c,hc⟩:=I.ok.has x (.inl hk);obtain ⟨w',z⟩:=I.cell x c hc;refine wpAny_storeName_cell I.ok.kind hk hc z (λh' hc' hs=> ?_);obtain ⟨oc,hoc,hocd⟩:=id z;refine h { s with heap:=h' } ⟨I.ok,I.os,I.bare,⟨λb o e n hb hx=> ?_,λb o e n hb hx=> ?_,I.base.free,λb o e hx=> ?_,I.base.tups,I.base.frzs,I.base.tbls⟩,⟨m,hn.sameBut hs (Ne.symm (cne x c hc)),λj y v' e1 e2 e3=> ?_⟩,λy c' e=> ?_,I.free,I.freeC,λp hp=> ?_,tracked ⟨oc,hoc,I.freeC x c hc⟩ hs,by simpa using I.len⟩ ⟨c,hs,.inr hc⟩
  ·exact (hs.2 b (Z0h (Z0q (Z0a e) (I.ok.cab x c hfn hc)))).trans (I.base.keep b o e n hb hx)
  ·obtain ⟨sl,e1⟩:=I.base.slot b o e n hb hx;exact ⟨sl,(hs.2 b (Z0h (Z0q (Z0a e) (I.ok.cab x c hfn hc)))).trans e1⟩
  ·obtain ⟨o',e1⟩:=I.base.there b o e hx;exact ⟨o',(hs.2 b (Z0h (Z0q (Z0a e) (I.ok.cab x c hfn hc)))).trans e1⟩
  ·by_cases hj:j=i
   ·subst hj;rw [hi] at e1;cases e1;rw [Z23 hiσ] at e2;cases e2;exact ⟨u,r,.inr ⟨.inl hk,c,hc,hc'⟩⟩
   ·rw [Z2a (Ne.symm hj)] at e2;obtain ⟨u',r',q⟩:=hl j y v' e1 e2 e3;refine ⟨u',r',?_⟩;rcases q with q | ⟨k,c',e,z'⟩
    ·exact .inl q
    ·refine .inr ⟨k,c',e,z'.sameBut hs ?_⟩;rintro rfl;exact hj (B6q hN e1 (I.ok.inj _ _ _ e hc▸hi))
  ·by_cases hcc:c'=c
   ·subst hcc;exact ⟨_,hc'⟩
   ·obtain ⟨w2,z2⟩:=I.cell y c' e;exact ⟨w2,z2.sameBut hs hcc⟩
  ·obtain ⟨e,n,ne,nf,d⟩:=I.pin p hp;refine ⟨(hs.2 p.1 ?_).trans e,n,ne,nf,d⟩;intro q;rw [q,hoc] at e;have q':oc=p.2:=Z1a e;exact d w' (by rw [<-q'];exact hocd)
theorem A8t {M:Model} {A:Around} {E:Value->Shared->Prop} {i:Nat} {x:Str} {v:V} {u:Value} {Q:Unit->Shared->Prop} (I:Inv X pins σ H s) (hN:X.N.Nodup) (hi:X.N[i]? =some x) (hx:Loc X.env.scope x) (r:A3d v u)
  (h:∀s',Inv X pins (σ.set i (some v)) H s'->Q () s') (hf:X.fn x=true\/X.env.scope.names.lookup x=some .local:=by first | exact .inl rfl | exact .inr rfl | assumption):wpAny M A (storeName X.env x u) Q E s :=
 B8b I hN hi hx r (λs' I' _=>h s' I') hf
theorem Inv.call' {s':Shared} {ch:List Addr} (I:Inv X pins σ H s) (ho:s'.os=s.os) (u:Un (frs X.stack) ch H H' s.heap s'.heap) (hok:HOk X.prog X.w H' s'.heap) (hg:AllBare s'.gens)
  (hch:∀b∈ch,(b∈X.ex\/X.s₀.heap.objs.size<=b)/\b≠X.env.locals/\(∀x c,X.env.cells.lookup x=some c->c≠b)/\∀p∈X.pn++pins,p.1≠b):Inv X pins σ H' s':=by
 obtain ⟨h',g',d',t',o'⟩:=s';have e:o'=s.os:=ho;subst e;exact I.call (g':=g') (t':=t') (d':=d') u hok hg hch
end
abbrev XK:=Value->Option Addr->Hp->Prop
abbrev St:=List (Option V)
abbrev VK:=V->Hp->Prop
abbrev TE:=St->Hp->VK->Prop
abbrev TT:=St->Hp->(Bool->Hp->Prop)->Prop
abbrev TA:=St->Hp->(List V->Hp->Prop)->Prop
structure B5v where
 nx:St->Hp->Prop
 rt:VK
 bk:St->Hp->Prop:=λ_ _=>False
 ct:St->Hp->Prop:=λ_ _=>False
abbrev TS:=B5v->St->Hp->Prop
def EP (X:Cx) (pins:List (Addr×Obj)) (σ:St) (Q:VK) (u:Value) (s':Shared):Prop:=∃v H',Inv X pins σ H' s'/\A3d v u/\Q v H'
def TP (X:Cx) (pins:List (Addr×Obj)) (σ:St) (Q:Bool->Hp->Prop) (b:Bool) (s':Shared):Prop:=∃H',Inv X pins σ H' s'/\Q b H'
def AP (X:Cx) (pins:List (Addr×Obj)) (σ:St) (Q:List V->Hp->Prop) (us:List Value) (s':Shared):Prop:=∃vs H',Inv X pins σ H' s'/\A2t vs us/\Q vs H'
def SP (X:Cx) (pins:List (Addr×Obj)) (D:B5v) (f:Flow) (s':Shared):Prop :=
 match f with
 | .next=>∃σ' H',Inv X pins σ' H' s'/\D.nx σ' H'
 | .brk=>∃σ' H',Inv X pins σ' H' s'/\D.bk σ' H'
 | .cont=>∃σ' H',Inv X pins σ' H' s'/\D.ct σ' H'
 | .ret u=>∃v σ' H',Inv X pins σ' H' s'/\A3d v u/\D.rt v H'
def PE (X:Cx) (e:Expr) (t:TE):Prop :=
 ∀(pins:List (Addr×Obj)) (s:Shared) (σ:St) (H:Hp) (Q:VK),Inv X pins σ H s->t σ H Q->wpAny (model X.prog X.w) X.A (eval e X.env) (EP X pins σ Q) X.xe s
def PT (X:Cx) (e:Expr) (t:TT):Prop :=
 ∀(pins:List (Addr×Obj)) (s:Shared) (σ:St) (H:Hp) (Q:Bool->Hp->Prop),Inv X pins σ H s->t σ H Q->wpAny (model X.prog X.w) X.A (isTrue e X.env (eval e X.env)) (TP X pins σ Q) X.xe s
def PW (X:Cx) (e:Expr) (t:TT):Prop :=
 ∀(whole:Sem Value) (pins:List (Addr×Obj)) (s:Shared) (σ:St) (H:Hp) (Q:Bool->Hp->Prop),Inv X pins σ H s->t σ H Q->wpAny (model X.prog X.w) X.A (isTrue e X.env whole) (TP X pins σ Q) X.xe s
theorem PW.pt {X:Cx} {e:Expr} {t:TT} (h:PW X e t):PT X e t:=h _
def PA (X:Cx) (es:List Expr) (t:TA):Prop :=
 ∀(pos:Pos) (pins:List (Addr×Obj)) (s:Shared) (σ:St) (H:Hp) (Q:List V->Hp->Prop),Inv X pins σ H s->t σ H Q->wpAny (model X.prog X.w) X.A (spliced (backTo pos (starEach es X.env))) (AP X pins σ Q) X.xe s
def PS (X:Cx) (st:Stmt) (t:TS):Prop :=
 ∀(pins:List (Addr×Obj)) (s:Shared) (σ:St) (H:Hp) (D:B5v),Inv X pins σ H s->t D σ H->wpAny (model X.prog X.w) X.A (exec st X.env) (SP X pins D) X.xe s
def PSs (X:Cx) (st:List Stmt) (t:TS):Prop :=
 ∀(pins:List (Addr×Obj)) (s:Shared) (σ:St) (H:Hp) (D:B5v),Inv X pins σ H s->t D σ H->wpAny (model X.prog X.w) X.A (execs st X.env) (SP X pins D) X.xe s
theorem thn {α:Type} {t:Sem α} {Q Q':α->Shared->Prop} {M:Model} {A:Around} {E:Value->Shared->Prop} {s:Shared} (h:wpAny M A t Q E s) (hQ:∀a s,Q a s->Q' a s):wpAny M A t Q' E s:=Z10 h hQ λ_ _ x=>x
section
variable {X:Cx}
def D7a (i:Nat):TE:=λσ H Q=>∃v,σ[i]? =some (some v)/\Q v H
def tC (v:V):TE:=λ_ H Q=>Q v H
theorem D9j {i:Nat} {x:Str} {pos:Pos} (hN:X.N[i]? =some x) (hv:Vis X.env.scope x) (hd:(x == ("__debug__":Str))=false:=by decide) (hcd:(x == ("__classdict__":Str))=false:=by decide):PE X (.Name x pos) (D7a i):=by
 intro pins s σ H Q I h;obtain ⟨v,e,h⟩:=h;obtain ⟨m,hn,hl⟩:=I.loc;obtain ⟨u,r,l⟩:=hl i x v hN e hv;have fin:EP X pins σ Q u s:=⟨v,H,I,r,h⟩;rcases l with ⟨hk,hm⟩ | ⟨hk,c,hc,hcell⟩
 ·exact wpAny_Name (wpAny_loadName_local I.ok.kind hk hn hm fin) hd
 ·rcases hk with hk | hk
  ·exact wpAny_Name (wpAny_loadName_cell I.ok.kind hk hc hcell fin) hd
  ·exact wpAny_Name (wpAny_loadName_free I.ok.kind hk hc hcell fin hcd) hd
theorem A0l {i j pos}:PE X (.Constant (.int i) j pos) (tC (.int i)):=λ_ _ _ H _ I h=>wpAny_Constant_int ⟨.int i,H,I.tok _,⟨_,rfl⟩,h⟩
theorem B0v {b j pos}:PE X (.Constant (.bool b) j pos) (tC (.bl b)):=λ_ _ _ H _ I h=>Constant_bool ⟨.bl b,H,I,rfl,h⟩
theorem D8l {j pos}:PE X (.Constant .none j pos) (tC .non):=λ_ _ _ H _ I h=>Constant_none ⟨.non,H,I,rfl,h⟩
theorem A1w {x j pos}:PE X (.Constant (.str x) j pos) (tC (.str x)):=λ_ _ _ H _ I h=>Calls.Constant_str ⟨.str x,H,I.tok _,⟨_,rfl⟩,h⟩
def Gl (X:Cx) (x:Str):Prop:=X.env.kindOf x=some .globalImplicit
theorem A5w {E:Value->Shared->Prop} {pins:List (Addr×Obj)} {s:Shared} {σ:St} {H:Hp} {x:Str} {u:Value} {pos:Pos} {Q:Value->Shared->Prop} (I:Inv X pins σ H s) (hg:Gl X x) (hm:X.mg x=some u) (h:Q u s)
  (hd:(x == ("__debug__":Str))=false:=by decide):wpAny (model X.prog X.w) X.A (eval (.Name x pos) X.env) Q E s :=
 Calls.Name_function_global I.ok.kind hg (Calls.loadGlobal_global (by rw [I.ok.glob];exact I.mod.glob.keeps I.bk) hm h) hd
theorem A9b {E:Value->Shared->Prop} {pins:List (Addr×Obj)} {s:Shared} {σ:St} {H:Hp} {x:Str} {u:Value} {pos:Pos} {Q:Value->Shared->Prop} (I:Inv X pins σ H s) (hg:Gl X x) (hm:X.mg x=none) (hv:bootBuiltins x=some u) (h:Q u s)
  (hn:x≠"__name__":=by decide) (hd:(x == ("__debug__":Str))=false:=by decide):wpAny (model X.prog X.w) X.A (eval (.Name x pos) X.env) Q E s:=by
 obtain ⟨mb,h1,h2⟩:=I.mod.blt;exact Calls.Name_function_global I.ok.kind hg (Calls.loadGlobal_builtin (by rw [I.ok.glob];exact I.mod.glob.keeps I.bk) hm (by rw [I.ok.blt];exact h1.keeps I.bk) ((h2 x hn).trans hv) h) hd
theorem A3p {x:Str} {v:V} {u:Value} {pos:Pos} (hg:Gl X x) (hm:X.mg x=some u) (r:A3d v u) (hd:(x == ("__debug__":Str))=false:=by decide):PE X (.Name x pos) (tC v) :=
 λ_ _ _ H _ I h=>A5w I hg hm ⟨v,H,I,r,h⟩ hd
theorem A4n {x:Str} {v:V} {u:Value} {pos:Pos} (hg:Gl X x) (hm:X.mg x=none) (hv:bootBuiltins x=some u) (r:A3d v u) (hn:x≠"__name__":=by decide) (hd:(x == ("__debug__":Str))=false:=by decide):PE X (.Name x pos) (tC v) :=
 λ_ _ _ H _ I h=>A9b I hg hm hv ⟨v,H,I,r,h⟩ hn hd
variable {a b:Expr} {ta tb:TE} {pos:Pos}
def PC (X:Cx) (op:CmpOp) (a b:Expr) (t:TE):Prop :=
 ∀(pins:List (Addr×Obj)) (s:Shared) (σ:St) (H:Hp) (Q:VK),Inv X pins σ H s->t σ H Q->
  wpAny (model X.prog X.w) X.A (eval a X.env) (λv s₁=>wpAny (model X.prog X.w) X.A (eval b X.env) (λu s₂=>wpAny (model X.prog X.w) X.A (compareOp op v u) (EP X pins σ Q) X.xe s₂) X.xe s₁) X.xe s
def tB (t:TE):TT:=λσ H Q=>t σ H λx H1=>∃c,x= .bl c/\Q c H1
theorem D8v {op:CmpOp} {t:TE} (h:PC X op a b t) (h1:behindInMarks op b=false:=by first | exact nobehind _ (by decide) (by decide) | rfl):PT X (.Compare a [op] [b] pos) (tB t):=by
 intro pins s σ H Q I hw;refine wpAny_isTrue_Compare1 (thn (h pins s σ H _ I hw) λv s1 h1=>thn h1 λu s2 h2=>thn h2 ?_) h1;rintro c s3 ⟨x,H1,I1,r1,q1⟩;obtain ⟨d,rfl,q⟩:=q1;cases r1;exact wpAny_truthy_bool ⟨H1,I1,q⟩
theorem A2k {e:Expr} {t:TE} (h:PE X e t) (he:∀whole,isTrue e X.env whole=(do let v<-whole;standAt e.pos;holding [v] (truthy v)):=by intro _;rfl):PT X e (tB t):=by
 intro pins s σ H Q I hw;refine isTrue_plain (thn (h pins s σ H _ I hw) ?_) (he _);rintro v s1 ⟨x,H1,I1,r1,q1⟩;obtain ⟨d,rfl,q⟩:=q1;cases r1;exact wpAny_truthy_bool ⟨H1,I1,q⟩
variable {tA tB':TT} {rest:List Expr}
def E3d (t u:TT):TT:=λσ H Q=>t σ H λc H1=>if c=true then u σ H1 Q else Q false H1
def tOr (t u:TT):TT:=λσ H Q=>t σ H λc H1=>if c=true then Q true H1 else u σ H1 Q
def tNot (t:TT):TT:=λσ H Q=>t σ H λc H1=>Q (!c) H1
theorem B3h (ha:PT X a tA):PW X (.BoolOp .And [a] pos) tA:=by
 intro wh pins s σ H Q I h;refine isTrue_and (thn (ha pins s σ H Q I h) λc s1 e=> ?_)
 cases c with
 | true=>exact isTrue_and_nil e
 | false=>exact e
theorem B5l (ha:PT X a tA):PW X (.BoolOp .Or [a] pos) tA:=by
 intro wh pins s σ H Q I h;refine isTrue_or (thn (ha pins s σ H Q I h) λc s1 e=> ?_)
 cases c with
 | false=>exact isTrue_or_nil e
 | true=>exact e
theorem B5r (ha:PT X a tA) (hb:PW X (.BoolOp .And (b::rest) pos) tB'):PW X (.BoolOp .And (a::b::rest) pos) (E3d tA tB'):=by
 intro wh pins s σ H Q I h;refine isTrue_and (thn (ha pins s σ H _ I h) ?_);rintro c s1 ⟨H1,I1,q1⟩
 cases c with
 | true=>exact hb wh pins s1 σ H1 Q I1 q1
 | false=>exact ⟨H1,I1,q1⟩
theorem C1o (ha:PT X a tA) (hb:PW X (.BoolOp .Or (b::rest) pos) tB'):PW X (.BoolOp .Or (a::b::rest) pos) (tOr tA tB'):=by
 intro wh pins s σ H Q I h;refine isTrue_or (thn (ha pins s σ H _ I h) ?_);rintro c s1 ⟨H1,I1,q1⟩
 cases c with
 | true=>exact ⟨H1,I1,q1⟩
 | false=>exact hb wh pins s1 σ H1 Q I1 q1
theorem B2o (ha:PT X a tA):PT X (.UnaryOp .Not a pos) (tNot tA):=by
 intro pins s σ H Q I h;exact isTrue_not (ha pins s σ H (λc H1=>Q (!c) H1) I h)
def E2o (ta tb:TE):TE:=λσ H Q=>ta σ H λx H1=>∃c,x= .bl c/\if c=true then tb σ H1 Q else Q (.bl false) H1
def E2e (ta:TE):TE:=λσ H Q=>ta σ H λx H1=>∃c,x= .bl c/\Q (.bl (!c)) H1
theorem B0n {op} {t:TE} (h:PE X a t):PE X (.BoolOp op [a] pos) t:=λpins s σ H Q I hw=>BoolOp_one (h pins s σ H Q I hw)
theorem A7m (ha:PE X a ta) (hb:PE X (.BoolOp .And (b::rest) pos) tb):PE X (.BoolOp .And (a::b::rest) pos) (E2o ta tb):=by
 intro pins s σ H Q I h;refine BoolOp_and (thn (ha pins s σ H _ I h) ?_);rintro v s1 ⟨x,H1,I1,r1,q1⟩;obtain ⟨c,rfl,q1⟩:=q1;cases r1;refine wpAny_truthy_bool ?_
 cases c with
 | true=>exact hb pins s1 σ H1 Q I1 q1
 | false=>exact ⟨.bl false,H1,I1,rfl,q1⟩
theorem C6q (ha:PE X a ta):PE X (.UnaryOp .Not a pos) (E2e ta):=by
 intro pins s σ H Q I h;refine UnaryOp_ (thn (ha pins s σ H _ I h) ?_);rintro v s1 ⟨x,H1,I1,r1,q1⟩;obtain ⟨c,rfl,q1⟩:=q1;cases r1;exact not_of (wpAny_truthy_bool ⟨.bl (!c),H1,I1,rfl,q1⟩)
end
def SqL (K:Frag) (H:Hp) (a:Addr) (xs:List V):Prop :=
 Rd H a (.lst xs)\/
  ∃(o:Obj) (its:Array Value) (n:Nat),K.lookup a=some o/\o.cls= .type "list"/\o.dict=none/\o.data= .seq its n/\its.size<=sizeLine/\A2t xs its.toList
def SqT (K:Frag) (H:Hp) (a:Addr) (xs:List V):Prop :=
 Rd H a (.tup xs)\/
  ∃(o:Obj) (its:Array Value) (n:Nat),K.lookup a=some o/\o.cls= .type "tuple"/\o.data= .seq its n/\its.size<=sizeLine/\A2t xs its.toList
noncomputable def absV:Value->Option V
 | .none=>some .non
 | .bool b=>some (.bl b)
 | .int i _=>some (.int i)
 | .str x _=>some (.str x)
 | .bytes b _=>some (.byt b)
 | .float b _=>some (.flt b)
 | .ref a=>some (.ref a)
 | .type n=>some (.ty n)
 | _=>none
theorem A3d.abs {x:V} {u:Value} (r:A3d x u):absV u=some x:=by
 cases x with
 | non=>cases r;rfl
 | bl _=>cases r;rfl
 | int _=>obtain ⟨t,rfl⟩:=r;rfl
 | str _=>obtain ⟨t,rfl⟩:=r;rfl
 | byt _=>obtain ⟨t,rfl⟩:=r;rfl
 | flt _=>obtain ⟨t,rfl⟩:=r;rfl
 | ref _=>cases r;rfl
 | ty _=>cases r;rfl
theorem A3d.inj {x y:V} {u:Value} (r:A3d x u) (q:A3d y u):x=y:=Z1a (r.abs.symm.trans q.abs)
theorem A2t.inj:∀{xs ys:List V} {us:List Value},A2t xs us->A2t ys us->xs=ys
 | _,_,_,.nil,.nil=>rfl
 | _,_,_,.cons r t,.cons r' t'=>by rw [r.inj r',A2t.inj t t']
section
variable {X:Cx} {pins:List (Addr×Obj)} {σ:St} {H:Hp} {s:Shared} {a:Addr} {xs ys:List V}
theorem SqL.of {K:Frag} (h:H a=some (.lst xs)):SqL K H a xs:= .inl (.inl h)
theorem SqT.of {K:Frag} (h:H a=some (.tup xs)):SqT K H a xs:= .inl (.inl h)
theorem Inv.list (I:Inv X pins σ H s) (h:SqL X.K H a xs):∃its:List Value,A2t xs its/\PlainL s.heap a its.toArray/\xs.length<=sizeLine:=by
 rcases h with h | ⟨o,its,n,hk,hc,hd,hs,hz,r⟩
 ·obtain ⟨z,its,n,r,e⟩:=h.ok I.hok;exact ⟨its,r,⟨_,n,e,rfl,rfl,rfl⟩,z⟩
 ·refine ⟨its.toList,r,⟨o,n,I.kIn a o hk,hc,hd,by simpa using hs⟩,?_⟩;have e:=r.length;simp only [Array.length_toList] at e
  lia
theorem Inv.tuple (I:Inv X pins σ H s) (h:SqT X.K H a xs):∃its:List Value,A2t xs its/\IsTup s.heap a its.toArray/\xs.length<=sizeLine:=by
 rcases h with h | ⟨o,its,n,hk,hc,hs,hz,r⟩
 ·obtain ⟨z,its,r,p⟩:=h.ok I.hok;exact ⟨its,r,p,z⟩
 ·refine ⟨its.toList,r,⟨o,I.kIn a o hk,hc,n,by simpa using hs⟩,?_⟩;have e:=r.length;simp only [Array.length_toList] at e
  lia
theorem Inv.list_inj (I:Inv X pins σ H s) (h:SqL X.K H a xs) (h':SqL X.K H a ys):xs=ys:=by
 obtain ⟨its,r,⟨o,n,e,_,_,d⟩,_⟩:=I.list h;obtain ⟨its',r',⟨o',n',e',_,_,d'⟩,_⟩:=I.list h';rw [e] at e';cases e';rw [d] at d';injection d' with d1 _;have:its=its':=by simpa using congrArg Array.toList d1
 subst this;exact r.inj r'
theorem Inv.tuple_inj (I:Inv X pins σ H s) (h:SqT X.K H a xs) (h':SqT X.K H a ys):xs=ys:=by
 obtain ⟨its,r,⟨o,e,_,n,d⟩,_⟩:=I.tuple h;obtain ⟨its',r',⟨o',e',_,n',d'⟩,_⟩:=I.tuple h';rw [e] at e';cases e';rw [d] at d';injection d' with d1 _;have:its=its':=by simpa using congrArg Array.toList d1
 subst this;exact r.inj r'
end
abbrev Cx.wish (X:Cx) (E:Value->Shared->Prop):Cx:={ X with xe:=E }
abbrev Cx.nox (X:Cx):Cx:=X.wish λ_ _=>False
theorem Cx.Ok.wish {X:Cx} (ok:X.Ok) (E:Value->Shared->Prop):(X.wish E).Ok :=
 ⟨ok.mod,ok.kind,ok.glob,ok.blt,ok.above,ok.inj,ok.has,ok.cab,ok.hd,ok.frames,ok.stk,ok.exf,ok.bs,ok.bsz,ok.noex,ok.exfs,ok.funs,ok.frf⟩
theorem Cx.Ok.unwish {X:Cx} {E:Value->Shared->Prop} (ok:(X.wish E).Ok):X.Ok :=
 ⟨ok.mod,ok.kind,ok.glob,ok.blt,ok.above,ok.inj,ok.has,ok.cab,ok.hd,ok.frames,ok.stk,ok.exf,ok.bs,ok.bsz,ok.noex,ok.exfs,ok.funs,ok.frf⟩
section
variable {X:Cx} {pins:List (Addr×Obj)} {σ:St} {H:Hp} {s:Shared} {E:Value->Shared->Prop}
theorem Inv.wish (I:Inv X pins σ H s) (E:Value->Shared->Prop):Inv (X.wish E) pins σ H s:=⟨I.ok.wish E,I.os,I.bare,I.base,I.loc,I.cell,I.free,I.freeC,I.pin,I.hok,I.len⟩
theorem Inv.unwish (I:Inv (X.wish E) pins σ H s):Inv X pins σ H s:=⟨I.ok.unwish,I.os,I.bare,I.base,I.loc,I.cell,I.free,I.freeC,I.pin,I.hok,I.len⟩
theorem SP.unwish {D:B5v} {f:Flow} {s':Shared} (h:SP (X.wish E) pins D f s'):SP X pins D f s':=by
 cases f with
 | next=>obtain ⟨σ',H',I,q⟩:=h;exact ⟨σ',H',I.unwish,q⟩
 | brk=>obtain ⟨σ',H',I,q⟩:=h;exact ⟨σ',H',I.unwish,q⟩
 | cont=>obtain ⟨σ',H',I,q⟩:=h;exact ⟨σ',H',I.unwish,q⟩
 | ret u=>obtain ⟨v,σ',H',I,r,q⟩:=h;exact ⟨v,σ',H',I.unwish,r,q⟩
theorem PSs.nox {st:List Stmt} {t:TS} (h:PSs X.nox st t):PSs X st t:=λpins s σ H D I hw =>
 Z10 (h pins s σ H D (I.wish _) hw) (λ_ _ q=>q.unwish) λ_ _ z=>False.elim z
end
section
variable {X:Cx} {st:Stmt} {rest:List Stmt} {t u:TS} {e:Expr} {te:TE} {pos:Pos}
def E1o:TS:=λD σ H=>D.nx σ H
def E3l (t u:TS):TS:=λD σ H=>t { D with nx:=u D } σ H
theorem A0r:PSs X [] E1o:=λ_ _ σ H _ I h=>Z2b ⟨σ,H,I,h⟩
theorem A0c (h1:PS X st t) (h2:PSs X rest u):PSs X (st::rest) (E3l t u):=by
 intro pins s σ H D I h;refine wpAny_execs_cons (thn (h1 pins s σ H { D with nx:=u D } I h) λf s1 q=> ?_)
 cases f with
 | next =>
  obtain ⟨σ',H',I',q⟩:=q;exact h2 pins s1 σ' H' D I' q
 | ret v=>exact q
 | brk=>exact q
 | cont=>exact q
theorem A0e (h1:PS X st t):PSs X [st] t:=by
 intro pins s σ H D I h;refine wpAny_execs_cons (thn (h1 pins s σ H D I h) λf s1 q=> ?_)
 cases f with
 | next=>exact Z2b q
 | ret v=>exact q
 | brk=>exact q
 | cont=>exact q
theorem Inv.quiet {pins:List (Addr×Obj)} {σ:St} {H:Hp} {s:Shared} (I:Inv X pins σ H s):interactive X.env=false:=by simp [interactive,I.ok.kind]
def E2p (te:TE):TS:=λD σ H=>te σ H λ_ H1=>D.nx σ H1
theorem A1y (he:PE X e te) (hs:swapsWith e none pos.line X.env=pure false:=by rfl):PS X (.Expr e pos) (E2p te):=by
 intro pins s σ H D I h;exact wpAny_Expr_any (thn (he pins s σ H _ I h) (by rintro v s1 ⟨x,H1,I1,r1,q1⟩;exact ⟨σ,H1,I1,q1⟩)) I.quiet hs
def tRet (te:TE):TS:=λD σ H=>te σ H D.rt
theorem A0v (he:PE X e te):PS X (.Return (some e) pos) (tRet te):=by
 intro pins s σ H D I h;exact wpAny_Return_some (thn (he pins s σ H _ I h) (by rintro v s1 ⟨x,H1,I1,r1,q1⟩;exact ⟨x,σ,H1,I1,r1,q1⟩))
def E3h (c:TT) (t u:TS):TS:=λD σ H=>c σ H λb H1=>if b=true then t D σ H1 else u D σ H1
theorem A1n {c:Expr} {a b:List Stmt} {tc:TT} (hc:PT X c tc) (ha:PSs X a t) (hb:PSs X b u):PS X (.If c a b pos) (E3h tc t u):=by
 intro pins s σ H D I h;refine wpAny_If (thn (hc pins s σ H _ I h) ?_);rintro d s1 ⟨H1,I1,q1⟩
 cases d with
 | true=>exact ha pins s1 σ H1 D I1 q1
 | false=>exact hb pins s1 σ H1 D I1 q1
def D8o:TS:=λ_ _ _=>False
theorem B6w:PS X st D8o:=λ_ _ _ _ _ _ h=>h.elim
end
abbrev TG:=V->St->Hp->(St->Hp->Prop)->Prop
abbrev TGs:=List V->St->Hp->(St->Hp->Prop)->Prop
def PG (X:Cx) (target:Expr) (t:TG):Prop :=
 ∀(pins:List (Addr×Obj)) (s:Shared) (σ:St) (H:Hp) (v:V) (u:Value) (Q:St->Hp->Prop),Inv X pins σ H s->A3d v u->t v σ H Q->
  wpAny (model X.prog X.w) X.A (assign target X.env u) (λ_ s'=>∃σ' H',Inv X pins σ' H' s'/\Q σ' H') X.xe s
def PGs (X:Cx) (ts:List Expr) (t:TGs):Prop :=
 ∀(pins:List (Addr×Obj)) (s:Shared) (σ:St) (H:Hp) (vs:List V) (us:List Value) (Q:St->Hp->Prop),Inv X pins σ H s->A2t vs us->t vs σ H Q->
  wpAny (model X.prog X.w) X.A (assignInOrder ((assignEach ts X.env).map (·.2)) us) (λ_ s'=>∃σ' H',Inv X pins σ' H' s'/\Q σ' H') X.xe s
section
variable {X:Cx} {pos:Pos}
def A6m (i:Nat):TG:=λv σ H Q=>Q (σ.set i (some v)) H
theorem A0h {i:Nat} {x:Str} (hN:X.N.Nodup) (hi:X.N[i]? =some x) (hx:Loc X.env.scope x) (hf:X.fn x=true\/X.env.scope.names.lookup x=some .local:=by first | exact .inl rfl | exact .inr rfl | assumption):PG X (.Name x pos) (A6m i):=by
 intro pins s σ H v u Q I r h;exact wpAny_assign_Name (A8t I hN hi hx r (λs' I'=>⟨_,H,I',h⟩) hf)
def D2k:TGs:=λvs σ H Q=>vs=[]/\Q σ H
def A8z (t:TG) (u:TGs):TGs:=λvs σ H Q=>∃v r,vs=v::r/\t v σ H λσ' H'=>u r σ' H' Q
theorem A1s:PGs X [] D2k:=by
 intro pins s σ H vs us Q I r h;obtain ⟨e,h⟩:=h;subst e;cases r;exact assignInOrder_nil ⟨σ,H,I,h⟩
theorem A0k {e:Expr} {es:List Expr} {t:TG} {u:TGs} (h1:PG X e t) (h2:PGs X es u)
  (hs:(assignEach (e::es) X.env).map (·.2)=assign e X.env::(assignEach es X.env).map (·.2):=by rfl):PGs X (e::es) (A8z t u):=by
 intro pins s σ H vs us Q I r h;obtain ⟨v,vr,e1,h⟩:=h;subst e1
 cases r with
 | cons r rr =>
  rw [hs];refine assignInOrder_cons (thn (h1 pins s σ H _ _ _ I r h) ?_);rintro _ s1 ⟨σ1,H1,I1,q1⟩;exact h2 pins s1 σ1 H1 _ _ Q I1 rr q1
def D2c (K:Frag) (n:Nat) (t:TGs):TG:=λv σ H Q=>∃a xs,v= .ref a/\SqT K H a xs/\xs.length=n/\t xs σ H Q
theorem A2p {es:List Expr} {k:Nat} {t:TGs} {n:Nat} (hc:X.calm=true) (h:PGs X es t)
  (hn:(assignEach es X.env).length=n:=by rfl) (hst:(assignEach es X.env).findIdx? (·.1)=none:=by rfl):PG X (.Tuple es k pos) (D2c X.K n t):=by
 intro pins s σ H v u Q I r hw;obtain ⟨a,xs,e1,hq,hl,hw⟩:=hw;subst e1;cases r;obtain ⟨its,rv,ht,hz⟩:=I.tuple hq;refine assign_Tuple_tuple (I.ok.hd hc) ht (by simp [hn,<-hl,rv.length]) hst λh' hx=> ?_;have I1:Inv X pins σ H { s with heap:=h' }:=I.kept (t':=s.toks) λb o e=>hx b o (Z0h (Z0a e)) e
 exact h pins _ σ H xs _ Q I1 (by simpa using rv) hw
def E0r (te:TE) (g:TG):TS:=λD σ H=>te σ H λx H1=>g x σ H1 D.nx
theorem C5i {tg e:Expr} {te:TE} {g:TG} (he:PE X e te) (hg:PG X tg g) (hs:swapsWithSole [tg] e pos.line X.env=pure false:=by rfl) (hw:swappedStores [tg] e X.env=pure none:=by rfl)
  (h1:(assignEach [tg] X.env).map (·.2)=[assign tg X.env]:=by rfl):PS X (.Assign [tg] e pos) (E0r te g):=by
 intro pins s σ H D I h;refine wpAny_Assign_stores (thn (he pins s σ H _ I h) ?_) hs hw;rintro v s1 ⟨x,H1,I1,r1,q1⟩;rw [h1];exact thn (hg pins s1 σ H1 x v _ I1 r1 q1) λ_ s2 q=>q
theorem A0n {i:Nat} {x:Str} {e:Expr} {te:TE} {pos':Pos} (hN:X.N.Nodup) (hi:X.N[i]? =some x) (hx:Loc X.env.scope x) (he:PE X e te) (hs:swapsWith e (some (.Name x pos')) pos.line X.env=pure false:=by rfl) (hf:X.fn x=true\/X.env.scope.names.lookup x=some .local:=by first | exact .inl rfl | exact .inr rfl | assumption) :
  PS X (.Assign [.Name x pos'] e pos) (E0r te (A6m i)):=by
 intro pins s σ H D I h;refine wpAny_Assign_Name (thn (he pins s σ H _ I h) ?_) hs;rintro v s1 ⟨y,H1,I1,r1,q1⟩;exact A8t I1 hN hi hx r1 (λs2 I2=>⟨_,H1,I2,q1⟩) hf
def D9x (c:TT) (tb:TS):TS:=λD σ H=>∃W:Nat->St->Hp->Prop,(∃m,W m σ H)/\∀m σ H,W m σ H->
 c σ H λb H1=>if b=true then∃N:St->Hp->Prop,(∀σ' H',N σ' H'->∃m',m'<m/\W m' σ' H')/\tb { D with nx:=N,ct:=N,bk:=D.nx } σ H1 else D.nx σ H1
theorem D1j {c:Expr} {body:List Stmt} {tc:TT} {tb:TS} (hp:PassesOwn (model X.prog X.w) X.A X.env X.xe) (hc:PT X c tc) (hb:PSs X body tb):PS X (.While c body [] pos) (D9x tc tb):=by
 intro pins s σ H D I h;obtain ⟨W,⟨m0,w0⟩,turn⟩:=h;refine wpAny_While (codeAny_whileLoop (λn s'=>∃σ' H',Inv X pins σ' H' s'/\W n σ' H') ?_ m0 ⟨σ,H,I,w0⟩);rintro n s1 ⟨σ1,H1,I1,w1⟩;refine wpAny_passesOwn hp (thn (hc pins s1 σ1 H1 _ I1 (turn n σ1 H1 w1)) ?_);rintro b s2 ⟨H2,I2,q2⟩
 cases b with
 | true =>
  obtain ⟨N,hN,q2⟩:=q2;rw [Z12 rfl];refine wpAny_passesOwn hp (thn (hb pins s2 σ1 H2 _ I2 q2) λf s3 q3=> ?_)
  cases f with
  | next =>
   obtain ⟨σ3,H3,I3,n3⟩:=q3;obtain ⟨m',hm,w3⟩:=hN σ3 H3 n3;exact ⟨m',hm,σ3,H3,I3,w3⟩
  | cont =>
   obtain ⟨σ3,H3,I3,n3⟩:=q3;obtain ⟨m',hm,w3⟩:=hN σ3 H3 n3;exact ⟨m',hm,σ3,H3,I3,w3⟩
  | brk=>exact q3
  | ret v=>exact q3
 | false =>
  rw [Z0t Z0v];exact Z2b ⟨σ1,H2,I2,q2⟩
end
structure It where
 go:Nat->Hp->Prop
 yld:Nat->Hp->V->Hp->Prop
 stop:Nat->Hp->Prop
def B4x (X:Cx) (pins:List (Addr×Obj)) (H:Hp) (b:Addr):Prop :=
 H b=none/\b≠X.env.locals/\b∉X.fs/\(b∈X.ex\/X.s₀.heap.objs.size<=b)/\(∀x c,X.env.cells.lookup x=some c->c≠b)/\∀p∈X.pn++pins,p.1≠b
theorem Inv.fpOk {X:Cx} {pins:List (Addr×Obj)} {σ:St} {H H':Hp} {s:Shared} {b:Addr} (I:Inv X pins σ H s) (hb:s.heap.objs.size<=b) (hn:H' b=none):B4x X pins H' b:=by
 refine ⟨hn,Z1q (Z0q I.lt hb),I.nofs hb,.inr (Z1n I.sz hb),λx c e z=> ?_,λp hp z=> ?_⟩
 ·obtain ⟨v,q⟩:=I.cell x c e;exact absurd (Z0q q.lt (by rw [z];exact hb)) (Nat.lt_irrefl _)
 ·exact absurd (Z0q (Z0a (I.pin p hp).1) (by rw [z];exact hb)) (Nat.lt_irrefl _)
structure D1n (P:Program) (w:World) (K:Frag) (tg:Expr) (J:It) (fp:List Addr) (it:Addr) (tn:Nat->Heap->Prop):Prop where
 mem:it∈fp
 obj:∀i h,tn i h->∀b∈fp,∃o,h.get? b=some o/\∀v,o.data≠.cell v
 keep:∀i h h',tn i h->(∀b∈fp,∀o,h.get? b=some o->h'.get? b=some o)->tn i h'
 item:∀(X:Cx),X.prog=P->X.w=w->X.K=K->X.calm=true->∀(i:Nat) (pins:List (Addr×Obj)) (s:Shared) (σ:St) (H:Hp) (E:Value->Shared->Prop),Inv X pins σ H s->(∀b∈fp,B4x X pins H b)->tn i s.heap->J.go i H->
  wpAny (model P w) X.A (pyNext (.ref it)) (λr s1=>∃u,r=some u/\
   wpAny (model P w) X.A (letOwnedTupleGo tg (.ref it) u) (λ_ s2=>∃x H',Inv X pins σ H' s2/\A3d x u/\J.yld i H x H'/\tn (i+1) s2.heap/\∀b∈fp,H' b=none) E s1) E s
 done:∀(X:Cx),X.prog=P->X.w=w->X.K=K->X.calm=true->∀(i:Nat) (pins:List (Addr×Obj)) (s:Shared) (σ:St) (H:Hp) (E:Value->Shared->Prop),Inv X pins σ H s->(∀b∈fp,B4x X pins H b)->tn i s.heap->J.stop i H->
  wpAny (model P w) X.A (pyNext (.ref it)) (λr s1=>r=none/\Inv X pins σ H s1) E s
 self:∀(A:Around) (i:Nat) (s:Shared) (Q:Value->Shared->Prop) (E:Value->Shared->Prop),tn i s.heap->Q (.ref it) s->wpAny (model P w) A (pyIter (.ref it)) Q E s
abbrev TI:=St->Hp->(It->Hp->Prop)->Prop
def PIE (X:Cx) (pins:List (Addr×Obj)) (σ:St) (tg:Expr) (R:It->Hp->Prop) (itv:Value) (s2:Shared):Prop :=
 ∃(it:Addr) (fp:List Addr) (tn:Nat->Heap->Prop) (J:It) (H':Hp),itv= .ref it/\Inv X pins σ H' s2/\D1n X.prog X.w X.K tg J fp it tn/\tn 0 s2.heap/\(∀b∈fp,B4x X pins H' b)/\R J H'
def PI (X:Cx) (tg iter:Expr) (wi:TI):Prop :=
 ∀(pins:List (Addr×Obj)) (s:Shared) (σ:St) (H:Hp) (R:It->Hp->Prop),Inv X pins σ H s->wi σ H R->
  wpAny (model X.prog X.w) X.A (eval iter X.env) (λv s1=>wpAny (model X.prog X.w) X.A (pyIter v) (PIE X pins σ tg R) X.xe s1) X.xe s
theorem C3q {M:Model} {A:Around} {E:Value->Shared->Prop} {s:Shared} {tg:Expr} {it:Addr} {u:Value} {o:Obj} {n:String} {vs:Array Value} {Q:Unit->Shared->Prop} (ho:s.heap.get? it=some o) (hc:o.cls= .type n) (hd:o.data= .fields vs)
  (hn:["enumerate","zip","dict_itemiterator","dict_reverseitemiterator","odict_iterator","itertools.zip_longest","itertools.pairwise"].contains n=false) (hQ:Q () s):wpAny M A (letOwnedTupleGo tg (.ref it) u) Q E s:=by
 unfold letOwnedTupleGo
 cases tg <;> first
  | exact Z04 hQ
  | (cases u <;> first
    | exact Z04 hQ
    | (refine Z00 (wpAny_load ho ?_);rw [hc,hd];show wpAny M A (if (["enumerate","zip","dict_itemiterator","dict_reverseitemiterator","odict_iterator","itertools.zip_longest","itertools.pairwise"].contains n&&vs[0]? == some (rawInt _))=true then _ else _) Q E s;rw [Z0t (by intro h;rw [hn,Bool.false_and] at h;cases h)];exact Z04 hQ))
def Itl (K:Frag) (a:Addr):It :=
 ⟨λi H=>∃xs x,SqL K H a xs/\xs[i]? =some x,λi H x H'=>H'=H/\∀xs,SqL K H a xs->xs[i]? =some x,λi H=>∃xs,SqL K H a xs/\xs.length<=i⟩
def Itt (K:Frag) (a:Addr):It :=
 ⟨λi H=>∃xs x,SqT K H a xs/\xs[i]? =some x,λi H x H'=>H'=H/\∀xs,SqT K H a xs->xs[i]? =some x,λi H=>∃xs,SqT K H a xs/\xs.length<=i⟩
def Itr (lo:Int) (n:Nat):It:=⟨λi _=>i<n,λi H x H'=>H'=H/\x= .int (lo+i),λi _=>n<=i⟩
theorem C6s {P:Program} {w:World} {K:Frag} {tg:Expr} (a it:Addr):D1n P w K tg (Itl K a) [it] it (λi h=>h.IsListIter it a i) where
 mem:=by simp
 obj:=λi h st b hb=>by
  have e:b=it:=by simpa using hb
  subst e;obtain ⟨o,e,c,d⟩:=st;exact ⟨o,e,λv z=>by rw [d] at z;cases z⟩
 keep:=λi h h' st k=>st.at λo e=>k it (by simp) o e
 item:=by
  intro X hP hw hK hc i pins s σ H E I hf st hg;subst hP hw hK;obtain ⟨xs,x,hq,hx⟩:=hg;obtain ⟨its,rv,p,hz⟩:=I.list hq;obtain ⟨u,hu,ru⟩:=rv.get hx;obtain ⟨f0,f1,f2,f3,f4,f5⟩:=hf it (by simp);refine wpAny_pyNext_list_item st p.isList (x:=u) (by simpa using hu) λh' st' sb=> ?_;have I1:Inv X pins σ H { s with heap:=h' }:=I.turned (t':=s.toks) (λb o hb e=>(sb.2 b hb).trans e) f0 f1 f3 f4 f5
  obtain ⟨o,e,c,d⟩:=id st';exact ⟨u,rfl,C3q (s:={ s with heap:=h' }) e c d (by decide) ⟨x,H,I1,ru,⟨rfl,λys hy=>by rw [I.list_inj hy hq];exact hx⟩,st',λb hb=>(hf b hb).1⟩⟩
 done:=by
  intro X hP hw hK hc i pins s σ H E I hf st hg;subst hP hw hK;obtain ⟨xs,hq,hx⟩:=hg;obtain ⟨its,rv,p,hz⟩:=I.list hq;obtain ⟨f0,f1,f2,f3,f4,f5⟩:=hf it (by simp);have hl:=rv.length;exact wpAny_pyNext_list_end (I.ok.hd hc) st p.isList (by simp;lia) λh' eb=>⟨rfl,I.turned (t':=s.toks) (λb o hb e=>eb b o hb e) f0 f1 f3 f4 f5⟩
 self:=λ_ _ _ _ _ st h=>wpAny_pyIter_listiter st h
theorem C3w {P:Program} {w:World} {K:Frag} {tg:Expr} (a it:Addr):D1n P w K tg (Itt K a) [it] it (λi h=>h.IsTupleIter it a i) where
 mem:=by simp
 obj:=λi h st b hb=>by
  have e:b=it:=by simpa using hb
  subst e;obtain ⟨o,e,c,d⟩:=st;exact ⟨o,e,λv z=>by rw [d] at z;cases z⟩
 keep:=λi h h' st k=>st.at λo e=>k it (by simp) o e
 item:=by
  intro X hP hw hK hc i pins s σ H E I hf st hg;subst hP hw hK;obtain ⟨xs,x,hq,hx⟩:=hg;obtain ⟨its,rv,p,hz⟩:=I.tuple hq;obtain ⟨u,hu,ru⟩:=rv.get hx;obtain ⟨f0,f1,f2,f3,f4,f5⟩:=hf it (by simp);refine wpAny_pyNext_tuple_item st (show s.heap.IsTuple a its.toArray from p) (x:=u) (by simpa using hu) λh' st' sb=> ?_;have I1:Inv X pins σ H { s with heap:=h' }:=I.turned (t':=s.toks) (λb o hb e=>(sb.2 b hb).trans e) f0 f1 f3 f4 f5
  obtain ⟨o,e,c,d⟩:=id st';exact ⟨u,rfl,C3q (s:={ s with heap:=h' }) e c d (by decide) ⟨x,H,I1,ru,⟨rfl,λys hy=>by rw [I.tuple_inj hy hq];exact hx⟩,st',λb hb=>(hf b hb).1⟩⟩
 done:=by
  intro X hP hw hK hc i pins s σ H E I hf st hg;subst hP hw hK;obtain ⟨xs,hq,hx⟩:=hg;obtain ⟨its,rv,p,hz⟩:=I.tuple hq;obtain ⟨f0,f1,f2,f3,f4,f5⟩:=hf it (by simp);have hl:=rv.length;exact wpAny_pyNext_tuple_end (I.ok.hd hc) st (show s.heap.IsTuple a its.toArray from p) (by simp;lia) λh' eb=>⟨rfl,I.turned (t':=s.toks) (λb o hb e=>eb b o hb e) f0 f1 f3 f4 f5⟩
 self:=λ_ _ _ _ _ st h=>wpAny_pyIter_tupleiter st h
theorem C4b {P:Program} {w:World} {K:Frag} {tg:Expr} (it:Addr) (lo:Int) (n:Nat):D1n P w K tg (Itr lo n) [it] it (λi h=>IsRangeIter h it (lo+(i:Nat)*1) ((n:Int)-(i:Nat)) 1) where
 mem:=by simp
 obj:=λi h st b hb=>by
  have e:b=it:=by simpa using hb
  subst e
  exact ⟨_,st,λv z=>by
   have z':Data.fields _=Data.cell v:=z
   cases z'⟩
 keep:=λi h h' st k=>k it (by simp) _ st
 item:=by
  intro X hP hw hK hc i pins s σ H E I hf st hg;subst hP hw hK;obtain ⟨f0,f1,f2,f3,f4,f5⟩:=hf it (by simp);have W:=Walks.range (prog:=X.prog) (w:=X.w) (I.ok.hd hc) it lo 1 n;refine W.item i s _ _ hg st λv h' tk hv st' kk=> ?_;obtain ⟨t,rfl⟩:=hv;have I1:Inv X pins σ H { s with heap:=h',toks:=tk }:=I.turned (λb o hb e=>kk b o (by simpa using hb) e) f0 f1 f3 f4 f5
  refine ⟨_,rfl,C3q (s:={ s with heap:=h',toks:=tk }) (n:="range_iterator") st' rfl rfl (by decide) ⟨.int (lo+i),H,I1,⟨t,?_⟩,⟨rfl,rfl⟩,st',λb hb=>(hf b hb).1⟩⟩
  rw [Int.mul_one]
 done:=by
  intro X hP hw hK hc i pins s σ H E I hf st hg;subst hP hw hK;obtain ⟨f0,f1,f2,f3,f4,f5⟩:=hf it (by simp);exact wpAny_pyNext_range_end (I.ok.hd hc) st (by have:n<=i:=hg;lia) λh' eb=>⟨rfl,I.turned (t':=s.toks) (λb o hb e=>eb b o hb e) f0 f1 f3 f4 f5⟩
 self:=λ_ _ _ _ _ st h=>wpAny_pyIter_rangeiter st h
section
variable {X:Cx} {tg:Expr}
def E0j (K:Frag) (tl:TE):TI:=λσ H R=>tl σ H λx H1=>∃a,x= .ref a/\(∃xs,SqL K H1 a xs)/\R (Itl K a) H1
def E3a (K:Frag) (tl:TE):TI:=λσ H R=>tl σ H λx H1=>∃a,x= .ref a/\(∃xs,SqT K H1 a xs)/\R (Itt K a) H1
theorem A1b {l:Expr} {tl:TE} (hl:PE X l tl):PI X tg l (E0j X.K tl):=by
 intro pins s σ H R I h;refine thn (hl pins s σ H _ I h) ?_;rintro v s1 ⟨x,H1,I1,r1,q1⟩;obtain ⟨a,e,⟨xs,hq⟩,q⟩:=q1;subst e;cases r1;obtain ⟨its,rv,p,hz⟩:=I1.list hq;refine wpAny_pyIter_list p.isList ?_;refine ⟨s1.heap.objs.size,[s1.heap.objs.size],_,_,H1,rfl,I1.kept (t':=s1.toks) λb o e=>Z01 _ e,C6s a _,⟨_,Z0c _ rfl,rfl,rfl⟩,λb hb=> ?_,q⟩;have e:b=s1.heap.objs.size:=by simpa using hb
 subst e;exact I1.fpOk (Z09 _) (I1.hok.fresh (Z09 _))
theorem D7o {l:Expr} {tl:TE} (hl:PE X l tl):PI X tg l (E3a X.K tl):=by
 intro pins s σ H R I h;refine thn (hl pins s σ H _ I h) ?_;rintro v s1 ⟨x,H1,I1,r1,q1⟩;obtain ⟨a,e,⟨xs,hq⟩,q⟩:=q1;subst e;cases r1;obtain ⟨its,rv,p,hz⟩:=I1.tuple hq;refine wpAny_pyIter_tuple (show s1.heap.IsTuple a its.toArray from p) ?_;refine ⟨s1.heap.objs.size,[s1.heap.objs.size],_,_,H1,rfl,I1.kept (t':=s1.toks) λb o e=>Z01 _ e,C3w a _,⟨_,Z0c _ rfl,rfl,rfl⟩,λb hb=> ?_,q⟩;have e:b=s1.heap.objs.size:=by simpa using hb
 subst e;exact I1.fpOk (Z09 _) (I1.hok.fresh (Z09 _))
theorem C8w {pins:List (Addr×Obj)} {σ:St} {H:Hp} {s:Shared} {R:It->Hp->Prop} {E:Value->Shared->Prop} {lo hi:Int} {t u v:Tok} {tk:Nat} (I:Inv X pins σ H s) (h1: -(2^62)<=lo) (h2:lo<2^62) (h3: -(2^62)<=hi) (h4:hi<2^62)
  (q:R (Itr lo (hi-lo).toNat) H):wpAny (model X.prog X.w) X.A (pyIter (.ref s.heap.objs.size)) (PIE X pins σ tg R) E { s with heap:=s.heap.push { cls:= .type "range",data:= .fields #[.int lo t,.int hi u,.int 1 v] },toks:=tk }:=by
 refine wpAny_pyIter_range (IsRange.new ..) (small_one h1 h2 h3 h4) ?_;have I1:Inv X pins σ H { s with heap:=s.heap.push { cls:= .type "range",data:= .fields #[.int lo t,.int hi u,.int 1 v] },toks:=tk }:=I.kept λb o e=>Z01 _ e
 refine ⟨(s.heap.push { cls:= .type "range",data:= .fields #[.int lo t,.int hi u,.int 1 v] }).objs.size,[(s.heap.push { cls:= .type "range",data:= .fields #[.int lo t,.int hi u,.int 1 v] }).objs.size],_,_,H,rfl,
  I1.kept (t':=tk) λb o e=>Z01 _ e,C4b _ lo (hi-lo).toNat,?_,λb hb=> ?_,q⟩
 ·have e1:lo+((0:Nat):Int)*1=lo:=by simp
  have e2:(((hi-lo).toNat:Nat):Int)-((0:Nat):Int)=Builtin.Range.rangeSize lo hi 1:=by rw [rangeSize_one];split <;> lia
  show IsRangeIter _ _ (lo+((0:Nat):Int)*1) ((((hi-lo).toNat:Nat):Int)-((0:Nat):Int)) 1;rw [e1,e2];exact Z0c _ rfl
 ·have e:b=(s.heap.push { cls:= .type "range",data:= .fields #[.int lo t,.int hi u,.int 1 v] }).objs.size:=by simpa using hb
  subst e;exact I1.fpOk (Z09 _) (I1.hok.fresh (Z09 _))
def E1a (ta:TA):TI:=λσ H R=>ta σ H λvs H1=>∃j:Int,vs=[.int j]/\-(2^62)<=j/\j<2^62/\R (Itr 0 j.toNat) H1
theorem A6l {a:Expr} {ta:TA} {p pos:Pos} (hg:Gl X "range") (hm:X.mg "range"=none) (ha:PA X [a] ta) (hs:starEach [a] X.env=[(false,eval a X.env)]:=by rfl):PI X tg (.Call (.Name "range" p) [a] [] pos) (E1a ta):=by
 intro pins s σ H R I h;refine Call_ (A9b I hg hm boot_range (PyProof.Rows.callWith_type1 (thn (ha pos pins s σ H _ I h) ?_) hs rfl));rintro us s1 ⟨vs,H1,I1,r1,q1⟩;obtain ⟨j,e,q1,q2,q⟩:=q1;subst e
 cases r1 with
 | cons r rr =>
  cases rr
  obtain ⟨t,rfl⟩:=r;exact call_range_1 (C8w I1 (by lia) (by lia) q1 q2 (by simpa using q))
def E3b (wi:TI) (g:TG) (tb:TS):TS:=λD σ H=>wi σ H λJ H1=>∃W:Nat->Nat->St->Hp->Prop,(∃m,W 0 m σ H1)/\∀i m σ H,W i m σ H->
 (J.stop i H/\D.nx σ H)\/(J.go i H/\∃N:St->Hp->Prop,(∀σ' H',N σ' H'->∃m',m'<m/\W (i+1) m' σ' H')/\∀x H',J.yld i H x H'->g x σ H' λσ2 H2=>tb { D with nx:=N,ct:=N,bk:=D.nx } σ2 H2)
def B3u (fp:List Addr) (h:Heap):List (Addr×Obj):=fp.filterMap λb=>(h.get? b).map λo=>(b,o)
theorem A3x {fp:List Addr} {h:Heap} {b:Addr} {o:Obj} (hb:b∈fp) (e:h.get? b=some o):(b,o)∈B3u fp h:=List.mem_filterMap.mpr ⟨b,hb,by rw [e];rfl⟩
theorem C7j {fp:List Addr} {h:Heap} {p:Addr×Obj} (hp:p∈B3u fp h):p.1∈fp/\h.get? p.1=some p.2:=by
 obtain ⟨b,hb,e⟩:=List.mem_filterMap.mp hp
 cases q:h.get? b with
 | none=>rw [q] at e;cases e
 | some o =>
  rw [q] at e;have e':(b,o)=p:=Z1a e;subst e';exact ⟨hb,q⟩
theorem Inv.pinned {pins:List (Addr×Obj)} {σ:St} {H:Hp} {s:Shared} {fp:List Addr} (I:Inv X pins σ H s) (hf:∀b∈fp,B4x X pins H b) (ho:∀b∈fp,∃o,s.heap.get? b=some o/\∀v,o.data≠.cell v):Inv X (pins++B3u fp s.heap) σ H s :=
 I.pins_of λp hp=>(Z07.mp hp).elim (λz=>I.pin p (Z02 _ z)) λz=>by
  obtain ⟨hb,e⟩:=C7j z;obtain ⟨f0,f1,f2,_⟩:=hf p.1 hb;obtain ⟨o,e',d⟩:=ho p.1 hb;rw [e] at e';cases e';exact ⟨e,f0,f1,f2,d⟩
theorem Inv.unpinned {pins pl:List (Addr×Obj)} {σ:St} {H:Hp} {s:Shared} (I:Inv X (pins++pl) σ H s):Inv X pins σ H s:=I.pins_of λp hp=>I.pin p (Z02 _ (Z05 _ hp))
theorem A1k {iter:Expr} {body:List Stmt} {wi:TI} {g:TG} {tb:TS} {pos:Pos} (hp:PassesOwn (model X.prog X.w) X.A X.env X.xe) (hc:X.calm=true) (hi:PI X tg iter wi) (hg:PG X tg g) (hb:PSs X body tb)
  (hs:∀x,foldedSetIterable iter X.env x=pure x:=by intro _;rfl):PS X (.For tg iter body [] pos) (E3b wi g tb):=by
 intro pins s σ H D I h;refine wpAny_For (thn (hi pins s σ H _ I h) λv s1 h1=>thn h1 λitv s2 h2=> ?_) hs;obtain ⟨it,fp,tn,J,H2,e,I2,T,st2,f2,W,⟨m0,w0⟩,turn⟩:=h2;subst e;have stat:∀{H':Hp},(∀b∈fp,H' b=none)->∀b∈fp,B4x X pins H' b:=λhn b hb=>⟨hn b hb,(f2 b hb).2⟩;refine codeAny_forLoop_any (λn s'=>∃i σ' H',Inv X pins σ' H' s'/\tn i s'.heap/\(∀b∈fp,H' b=none)/\W i n σ' H') ?_ m0 ⟨0,σ,H2,I2,st2,λb hb=>(f2 b hb).1,w0⟩;rintro n s3 ⟨i,σ3,H3,I3,st3,fr3,w3⟩;rcases turn i n σ3 H3 w3 with ⟨stop,qn⟩ | ⟨go,N,hN,step⟩
 ·refine wpAny_passesOwn hp (thn (T.done X rfl rfl rfl hc i pins s3 σ3 H3 X.xe I3 (stat fr3) st3 stop) ?_);rintro r s4 ⟨hr,I4⟩;subst hr;exact Z2b ⟨σ3,H3,I4,qn⟩
 ·refine wpAny_passesOwn hp (thn (T.item X rfl rfl rfl hc i pins s3 σ3 H3 X.xe I3 (stat fr3) st3 go) ?_);rintro r s4 ⟨u,hr,h4⟩;subst hr;refine wpAny_passesOwn hp (thn h4 ?_);rintro _ s5 ⟨x,H5,I5,r5,y5,st5,fr5⟩;have I5':=I5.pinned (stat fr5) (T.obj _ _ st5);refine wpAny_passesOwn hp (thn (hg _ s5 σ3 H5 x u _ I5' r5 (step x H5 y5)) ?_);rintro _ s6 ⟨σ6,H6,I6,q6⟩;refine wpAny_passesOwn hp (thn (hb _ s6 σ6 H6 _ I6 q6) λf s7 q7=> ?_)
  have again:∀{σ7:St} {H7:Hp},Inv X (pins++B3u fp s5.heap) σ7 H7 s7->N σ7 H7->∃m,m<n/\∃i σ' H',Inv X pins σ' H' s7/\tn i s7.heap/\(∀b∈fp,H' b=none)/\W i m σ' H':=λ{σ7 H7} I7 n7=>by
   obtain ⟨m',hm,w7⟩:=hN σ7 H7 n7;refine ⟨m',hm,i+1,σ7,H7,I7.unpinned,T.keep _ _ _ st5 λb hb o e=>(I7.pin (b,o) (Z02 _ (Z02 _ (A3x hb e)))).1,λb hb=> ?_,w7⟩;obtain ⟨o,e,d⟩:=T.obj _ _ st5 b hb;exact (I7.pin (b,o) (Z02 _ (Z02 _ (A3x hb e)))).2.1
  cases f with
  | next=>obtain ⟨σ7,H7,I7,n7⟩:=q7;exact again I7 n7
  | cont=>obtain ⟨σ7,H7,I7,n7⟩:=q7;exact again I7 n7
  | brk=>obtain ⟨σ7,H7,I7,q7⟩:=q7;exact ⟨σ7,H7,I7.unpinned,q7⟩
  | ret v=>obtain ⟨x7,σ7,H7,I7,r7,q7⟩:=q7;exact ⟨x7,σ7,H7,I7.unpinned,r7,q7⟩
end
theorem A1f {K:Frag} {a:Addr} {xs:List V} {g:TG} {tb:TS} {D:B5v} {σ:St} {H:Hp} (Pv:Nat->St->Hp->Prop) (h0:Pv 0 σ H) (hl:∀i σ H,i<=xs.length->Pv i σ H->SqL K H a xs)
  (hs:∀i x σ H,xs[i]? =some x->Pv i σ H->g x σ H λσ2 H2=>tb { D with nx:=Pv (i+1),ct:=Pv (i+1),bk:=D.nx } σ2 H2) (hd:∀σ H,Pv xs.length σ H->D.nx σ H) :
  ∃W:Nat->Nat->St->Hp->Prop,(∃m,W 0 m σ H)/\∀i m σ H,W i m σ H->
   ((Itl K a).stop i H/\D.nx σ H)\/((Itl K a).go i H/\∃N:St->Hp->Prop,(∀σ' H',N σ' H'->∃m',m'<m/\W (i+1) m' σ' H')/\∀x H',(Itl K a).yld i H x H'->g x σ H' λσ2 H2=>tb { D with nx:=N,ct:=N,bk:=D.nx } σ2 H2):=by
 refine ⟨λi m σ H=>m=xs.length-i/\i<=xs.length/\Pv i σ H,⟨xs.length,by simp,Z1e _,h0⟩,?_⟩;rintro i m σ H ⟨rfl,hi,p⟩;have q:=hl i σ H hi p;by_cases hlt:i<xs.length
 ·refine .inr ⟨⟨xs,xs[i],q,by simp [hlt]⟩,Pv (i+1),λσ' H' p'=>⟨xs.length-(i+1),by lia,rfl,hlt,p'⟩,λx H' y=> ?_⟩;obtain ⟨e,y⟩:=y;subst e;exact hs i x σ _ (y xs q) p
 ·have e:i=xs.length:=by lia
  subst e;exact .inl ⟨⟨xs,q,Z09 _⟩,hd σ H p⟩
theorem A6r {lo:Int} {n:Nat} {g:TG} {tb:TS} {D:B5v} {σ:St} {H:Hp} (Pv:Nat->St->Hp->Prop) (h0:Pv 0 σ H)
  (hs:∀i σ H,i<n->Pv i σ H->g (.int (lo+i)) σ H λσ2 H2=>tb { D with nx:=Pv (i+1),ct:=Pv (i+1),bk:=D.nx } σ2 H2) (hd:∀σ H,Pv n σ H->D.nx σ H) :
  ∃W:Nat->Nat->St->Hp->Prop,(∃m,W 0 m σ H)/\∀i m σ H,W i m σ H->
   ((Itr lo n).stop i H/\D.nx σ H)\/((Itr lo n).go i H/\∃N:St->Hp->Prop,(∀σ' H',N σ' H'->∃m',m'<m/\W (i+1) m' σ' H')/\∀x H',(Itr lo n).yld i H x H'->g x σ H' λσ2 H2=>tb { D with nx:=N,ct:=N,bk:=D.nx } σ2 H2):=by
 refine ⟨λi m σ H=>m=n-i/\i<=n/\Pv i σ H,⟨n,by simp,Z1e _,h0⟩,?_⟩;rintro i m σ H ⟨rfl,hi,p⟩;by_cases hlt:i<n
 ·refine .inr ⟨hlt,Pv (i+1),λσ' H' p'=>⟨n-(i+1),by lia,rfl,hlt,p'⟩,λx H' y=> ?_⟩;obtain ⟨e,y⟩:=y;subst e y;exact hs i σ _ hlt p
 ·have e:i=n:=by lia
  subst e;exact .inl ⟨Z09 _,hd σ H p⟩
abbrev R2:=V->V->Hp->VK->Prop
def OpR (X:Cx) (f:Value->Value->Sem Value) (r:R2):Prop :=
 ∀(pins:List (Addr×Obj)) (s:Shared) (σ:St) (H:Hp) (x y:V) (v u:Value) (Q:VK),Inv X pins σ H s->A3d x v->A3d y u->r x y H Q->
  wpAny (model X.prog X.w) X.A (f v u) (EP X pins σ Q) X.xe s
def B2b (X:Cx) (f:Value) (r:List V->Hp->VK->Prop):Prop :=
 ∀(pins:List (Addr×Obj)) (s:Shared) (σ:St) (H:Hp) (xs:List V) (us:List Value) (Q:VK),Inv X pins σ H s->A2t xs us->r xs H Q->
  wpAny (model X.prog X.w) X.A (call f us) (EP X pins σ Q) X.xe s
def tOp (r:R2) (ta tb:TE):TE:=λσ H Q=>ta σ H λx H1=>tb σ H1 λy H2=>r x y H2 Q
def rI (C:Int->Int->Prop) (g:Int->Int->V):R2:=λx y H Q=>∃i j,x= .int i/\y= .int j/\C i j/\Q (g i j) H
def rI0 (g:Int->Int->V):R2:=λx y H Q=>∃i j,x= .int i/\y= .int j/\Q (g i j) H
section
variable {X:Cx} {a b c:Expr} {ta tb tc:TE} {pos:Pos}
theorem E1b (ha:PE X a ta) (hb:PE X b tb) {pins:List (Addr×Obj)} {s:Shared} {σ:St} {H:Hp} {R:V->V->Hp->Prop} (I:Inv X pins σ H s)
  (h:ta σ H λx H1=>tb σ H1 λy H2=>R x y H2) {Q:Value->Shared->Prop} {f:Value->Value->Sem Value}
  (hf:∀v u s2 x y H2,Inv X pins σ H2 s2->A3d x v->A3d y u->R x y H2->wpAny (model X.prog X.w) X.A (f v u) Q X.xe s2) :
  wpAny (model X.prog X.w) X.A (eval a X.env) (λv s₁=>wpAny (model X.prog X.w) X.A (eval b X.env) (λu s₂=>wpAny (model X.prog X.w) X.A (f v u) Q X.xe s₂) X.xe s₁) X.xe s:=by
 refine thn (ha pins s σ H _ I h) ?_;rintro v s1 ⟨x,H1,I1,r1,q1⟩;refine thn (hb pins s1 σ H1 _ I1 q1) ?_;rintro u s2 ⟨y,H2,I2,r2,q2⟩;exact hf v u s2 x y H2 I2 r1 r2 q2
theorem A0x {op:Operator} {r:R2} (ho:OpR X (binaryOp op) r) (ha:PE X a ta) (hb:PE X b tb):PE X (.BinOp a op b pos) (tOp r ta tb):=by
 intro pins s σ H Q I h;exact wpAny_BinOp (E1b ha hb I h λv u s2 x y H2 I2 rx ry q=>ho pins s2 σ H2 x y v u Q I2 rx ry q)
theorem opI {f:Value->Value->Sem Value} {C:Int->Int->Prop} {g:Int->Int->Int}
  (rule:∀(i j:Int) (t u:Tok) (s:Shared) (Q:Value->Shared->Prop) (E:Value->Shared->Prop),C i j->Q (.int (g i j) s.toks) { s with toks:=s.toks+1 }->wpAny (model X.prog X.w) X.A (f (.int i t) (.int j u)) Q E s) :
  OpR X f (rI C λi j=> .int (g i j)):=by
 intro pins s σ H x y v u Q I rx ry h;obtain ⟨i,j,rfl,rfl,hc,q⟩:=h;obtain ⟨t,rfl⟩:=rx;obtain ⟨t',rfl⟩:=ry;exact rule i j t t' s _ _ hc ⟨.int (g i j),H,I.tok _,⟨_,rfl⟩,q⟩
theorem E3g {f:Value->Value->Sem Value} {g:Int->Int->Int}
  (rule:∀(i j:Int) (t u:Tok) (s:Shared) (Q:Value->Shared->Prop) (E:Value->Shared->Prop),Q (.int (g i j) s.toks) { s with toks:=s.toks+1 }->wpAny (model X.prog X.w) X.A (f (.int i t) (.int j u)) Q E s) :
  OpR X f (rI0 λi j=> .int (g i j)):=by
 intro pins s σ H x y v u Q I rx ry h;obtain ⟨i,j,rfl,rfl,q⟩:=h;obtain ⟨t,rfl⟩:=rx;obtain ⟨t',rfl⟩:=ry;exact rule i j t t' s _ _ ⟨.int (g i j),H,I.tok _,⟨_,rfl⟩,q⟩
theorem E0n {f:Value->Value->Sem Value} {g:Int->Int->Bool}
  (rule:∀(i j:Int) (t u:Tok) (s:Shared) (Q:Value->Shared->Prop) (E:Value->Shared->Prop),Q (.bool (g i j)) s->wpAny (model X.prog X.w) X.A (f (.int i t) (.int j u)) Q E s) :
  OpR X f (rI0 λi j=> .bl (g i j)):=by
 intro pins s σ H x y v u Q I rx ry h;obtain ⟨i,j,rfl,rfl,q⟩:=h;obtain ⟨t,rfl⟩:=rx;obtain ⟨t',rfl⟩:=ry;exact rule i j t t' s _ _ ⟨.bl (g i j),H,I,rfl,q⟩
def CDiv (i j:Int):Prop:=0<j/\j<1073741824
def CPow (i j:Int):Prop:=0<=j/\j<=1000000/\i.natAbs<2^64
def E2v (i j:Int):Prop:=(-(2^64)<i/\i<2^64)\/(-(2^64)<j/\j<2^64)
theorem E2v.ok {i j:Int} (h:E2v i j):IntMulOk i j:=by
 rcases h with ⟨h1,h2⟩ | ⟨h1,h2⟩
 ·exact .of_left (intBits_le_64 h1 h2)
 ·exact .of_right (intBits_le_64 h1 h2)
theorem A6n:OpR X (binaryOp .Add) (rI0 λi j=> .int (i+j)):=E3g λ_ _ _ _ _ _ _ q=>add_int q
theorem B0q:OpR X (binaryOp .Sub) (rI0 λi j=> .int (i-j)):=E3g λ_ _ _ _ _ _ _ q=>sub_int q
theorem B0k:OpR X (binaryOp .Mult) (rI E2v λi j=> .int (i*j)):=opI λ_ _ _ _ _ _ _ hc q=>mul_int q hc.ok
theorem A3e:OpR X (binaryOp .FloorDiv) (rI CDiv λi j=> .int (i/j)):=opI λi j _ _ _ _ _ hc q=>by
 have h1:(0:Int)<j:=hc.1;have h2:j<1073741824:=hc.2;exact floordiv_int (by lia) (by rw [Int.fdiv_eq_ediv_of_nonneg i (by lia)];exact q) (.inl (PyProof.noPylong_small (by lia)))
theorem A2o:OpR X (binaryOp .Mod) (rI (λ_ j=>0<j) λi j=> .int (i%j)):=opI λi j _ _ _ _ _ hc q=>by
 have h1:(0:Int)<j:=hc;exact mod_int' (by lia) (by rw [Int.fmod_eq_emod_of_nonneg i (by lia)];exact q)
theorem D2p:OpR X (binaryOp .Pow) (rI CPow λi j=> .int (i^j.toNat)):=opI λ_ _ _ _ _ _ _ hc q=>pow_int_small hc.1 hc.2.1 hc.2.2 q
end
def E2y:V->V->Bool
 | .non,.non=>true | .non,.int _=>true | .int _,.non=>true | .non,.bl _=>true | .bl _,.non=>true | .non,.str _=>true | .str _,.non=>true
 | .int _,.int _=>true | .bl _,.bl _=>true | .str _,.str _=>true | .byt _,.byt _=>true
 | .int _,.str _=>true | .str _,.int _=>true | .bl _,.str _=>true | .str _,.bl _=>true
 | _,_=>false
def rEq:R2:=λx y H Q=>E2y x y=true/\Q (.bl (decide (x=y))) H
def rNe:R2:=λx y H Q=>E2y x y=true/\Q (.bl (!decide (x=y))) H
theorem C8i {i j:Int}:decide (V.int i=V.int j)=(i == j):=by
 rw [Bool.eq_iff_iff];simp
theorem D2y {i j:Bool}:decide (V.bl i=V.bl j)=(i == j):=by
 rw [Bool.eq_iff_iff];simp
theorem C7c {i j:Str}:decide (V.str i=V.str j)=(i == j):=by
 rw [Bool.eq_iff_iff];simp
theorem C5t {i j:Array UInt8}:decide (V.byt i=V.byt j)=(i.toList == j.toList):=by
 rw [Bool.eq_iff_iff];cases i;cases j;simp
section
variable {X:Cx} {a b c:Expr} {ta tb tc:TE} {pos:Pos}
theorem A2j {pins:List (Addr×Obj)} {σ:St} {H:Hp} {s:Shared} {Q:VK} {k k':Bool} (I:Inv X pins σ H s) (q:Q (.bl k) H) (e:k=k'):EP X pins σ Q (.bool k') s:=by
 subst e;exact ⟨.bl k,H,I,rfl,q⟩
theorem A5x:OpR X (compareOp .Eq) rEq:=by
 intro pins s σ H x y v u Q I rx ry h;obtain ⟨hs,q⟩:=h
 cases x with
 | non =>
  cases rx
  cases y with
  | non=>cases ry;exact PySem.EqNone.eq_none_none (A2j I q (by simp))
  | bl j=>cases ry;exact PySem.EqNone.eq_none_bool (A2j I q (by simp))
  | int j=>obtain ⟨t',rfl⟩:=ry;exact PySem.EqNone.eq_none_int (A2j I q (by simp))
  | str j=>obtain ⟨t',rfl⟩:=ry;exact PySem.EqNone.eq_none_str (A2j I q (by simp))
  | _=>exact absurd (show false=true from hs) Z0v
 | bl i =>
  cases rx
  cases y with
  | non=>cases ry;exact PySem.EqNone.eq_bool_none (A2j I q (by simp))
  | bl j=>cases ry;exact eq_bool (A2j I q D2y)
  | str j=>obtain ⟨t',rfl⟩:=ry;exact PySem.EqMixed.eq_bool_str (A2j I q (by simp))
  | _=>exact absurd (show false=true from hs) Z0v
 | int i =>
  obtain ⟨t,rfl⟩:=rx
  cases y with
  | non=>cases ry;exact PySem.EqNone.eq_int_none (A2j I q (by simp))
  | int j=>obtain ⟨t',rfl⟩:=ry;exact eq_int (A2j I q C8i)
  | str j=>obtain ⟨t',rfl⟩:=ry;exact PySem.EqMixed.eq_int_str (A2j I q (by simp))
  | _=>exact absurd (show false=true from hs) Z0v
 | str i =>
  obtain ⟨t,rfl⟩:=rx
  cases y with
  | non=>cases ry;exact PySem.EqNone.eq_str_none (A2j I q (by simp))
  | bl j=>cases ry;exact PySem.EqMixed.eq_str_bool (A2j I q (by simp))
  | int j=>obtain ⟨t',rfl⟩:=ry;exact PySem.EqMixed.eq_str_int (A2j I q (by simp))
  | str j=>obtain ⟨t',rfl⟩:=ry;exact eq_str (A2j I q C7c)
  | _=>exact absurd (show false=true from hs) Z0v
 | byt i =>
  obtain ⟨t,rfl⟩:=rx
  cases y with
  | byt j=>obtain ⟨t',rfl⟩:=ry;exact PySem.W.eq_bytes (A2j I q C5t)
  | _=>exact absurd (show false=true from hs) Z0v
 | _=>cases y <;> exact absurd (show false=true from hs) Z0v
theorem B0f:OpR X (compareOp .NotEq) rNe:=by
 intro pins s σ H x y v u Q I rx ry h;obtain ⟨hs,q⟩:=h
 cases x with
 | non =>
  cases rx
  cases y with
  | non=>cases ry;exact PySem.EqNone.ne_none_none (A2j I q (by simp))
  | bl j=>cases ry;exact PySem.EqNone.ne_none_bool (A2j I q (by simp))
  | int j=>obtain ⟨t',rfl⟩:=ry;exact PySem.EqNone.ne_none_int (A2j I q (by simp))
  | str j=>obtain ⟨t',rfl⟩:=ry;exact PySem.EqNone.ne_none_str (A2j I q (by simp))
  | _=>exact absurd (show false=true from hs) Z0v
 | bl i =>
  cases rx
  cases y with
  | non=>cases ry;exact PySem.EqNone.ne_bool_none (A2j I q (by simp))
  | bl j=>cases ry;exact ne_bool (A2j I q (congrArg not D2y))
  | str j=>obtain ⟨t',rfl⟩:=ry;exact PySem.EqMixed.ne_bool_str (A2j I q (by simp))
  | _=>exact absurd (show false=true from hs) Z0v
 | int i =>
  obtain ⟨t,rfl⟩:=rx
  cases y with
  | non=>cases ry;exact PySem.EqNone.ne_int_none (A2j I q (by simp))
  | int j=>obtain ⟨t',rfl⟩:=ry;exact ne_int (A2j I q (congrArg not C8i))
  | str j=>obtain ⟨t',rfl⟩:=ry;exact PySem.EqMixed.ne_int_str (A2j I q (by simp))
  | _=>exact absurd (show false=true from hs) Z0v
 | str i =>
  obtain ⟨t,rfl⟩:=rx
  cases y with
  | non=>cases ry;exact PySem.EqNone.ne_str_none (A2j I q (by simp))
  | bl j=>cases ry;exact PySem.EqMixed.ne_str_bool (A2j I q (by simp))
  | int j=>obtain ⟨t',rfl⟩:=ry;exact PySem.EqMixed.ne_str_int (A2j I q (by simp))
  | str j=>obtain ⟨t',rfl⟩:=ry;exact ne_str (A2j I q (congrArg not C7c))
  | _=>exact absurd (show false=true from hs) Z0v
 | byt i =>
  obtain ⟨t,rfl⟩:=rx
  cases y with
  | byt j=>obtain ⟨t',rfl⟩:=ry;exact PySem.W.ne_bytes (A2j I q (congrArg not C5t))
  | _=>exact absurd (show false=true from hs) Z0v
 | _=>cases y <;> exact absurd (show false=true from hs) Z0v
theorem C1m:OpR X (compareOp .Lt) (rI0 λi j=> .bl (decide (i<j))):=E0n λ_ _ _ _ _ _ _ q=>lt_int q
theorem C5x:OpR X (compareOp .LtE) (rI0 λi j=> .bl (decide (i<=j))):=E0n λ_ _ _ _ _ _ _ q=>le_int q
theorem C9b:OpR X (compareOp .Gt) (rI0 λi j=> .bl (decide (j<i))):=E0n λ_ _ _ _ _ _ _ q=>gt_int q
theorem E2x:OpR X (compareOp .GtE) (rI0 λi j=> .bl (decide (j<=i))):=E0n λ_ _ _ _ _ _ _ q=>ge_int q
theorem D8a:OpR X (compareOp .Is) (λx y H Q=>y= .non/\Q (.bl (decide (x= .non))) H):=by
 intro pins s σ H x y v u Q I rx ry h;obtain ⟨rfl,q⟩:=h;cases ry;refine is_none_gen (A2j I q ?_)
 cases x <;> first
  | (cases rx;rfl)
  | (obtain ⟨t,rfl⟩:=rx;rfl)
theorem A1i (b:Expr) {op:CmpOp} (h:op≠.In:=by decide) (h2:op≠.NotIn:=by decide):behindInMarks op b=false:=by
 have e1:(op == CmpOp.In)=false:=by cases op <;> first | rfl | exact absurd rfl h
 have e2:(op == CmpOp.NotIn)=false:=by cases op <;> first | rfl | exact absurd rfl h2
 cases b <;> simp [behindInMarks,e1,e2]
theorem A3q {op:CmpOp} {r:R2} (ho:OpR X (compareOp op) r) (ha:PE X a ta) (hb:PE X b tb) (hm:behindInMarks op b=false):PE X (.Compare a [op] [b] pos) (tOp r ta tb):=by
 intro pins s σ H Q I h;exact wpAny_Compare1 (E1b ha hb I h λv u s2 x y H2 I2 rx ry q=>ho pins s2 σ H2 x y v u Q I2 rx ry q) hm
def D4x (t:TE):TT:=λσ H Q=>t σ H λx H'=>∃k,x= .bl k/\Q k H'
theorem A0z {op:CmpOp} {r:R2} (ho:OpR X (compareOp op) r) (ha:PE X a ta) (hb:PE X b tb) (hm:behindInMarks op b=false):PT X (.Compare a [op] [b] pos) (D4x (tOp r ta tb)):=by
 intro pins s σ H Q I h
 refine wpAny_isTrue_Compare1 (thn (ha pins s σ H _ I h) λv s1 ⟨x,H1,I1,r1,q1⟩=>thn (hb pins s1 σ H1 _ I1 q1) λu s2 ⟨y,H2,I2,r2,q2⟩ =>
  thn (ho pins s2 σ H2 x y v u _ I2 r1 r2 q2) λc s3 ⟨z,H3,I3,r3,k,e,q3⟩=> ?_) hm
 subst e;cases r3;exact wpAny_truthy_bool ⟨H3,I3,q3⟩
def D8u (r r':R2) (ta tb tc:TE):TE:=λσ H Q=>ta σ H λx H1=>tb σ H1 λy H2=>r x y H2 λz H3=>∃k,z= .bl k/\
 (if k=true then tc σ H3 λw' H4=>r' y w' H4 Q else Q (.bl false) H3)
theorem B6o {op op':CmpOp} {r r':R2} (ho:OpR X (compareOp op) r) (ho':OpR X (compareOp op') r') (ha:PE X a ta) (hb:PE X b tb) (hc:PE X c tc)
  (hm:lastMarks [op,op'] [b,c]=false:=by with_unfolding_all rfl):PE X (.Compare a [op,op'] [b,c] pos) (D8u r r' ta tb tc):=by
 intro pins s σ H Q I h
 refine Compare_chain (thn (ha pins s σ H _ I h) λv s1 ⟨x,H1,I1,r1,q1⟩=>chain_link (thn (hb pins s1 σ H1 _ I1 q1) λu s2 ⟨y,H2,I2,r2,q2⟩ =>
  thn (ho pins s2 σ H2 x y v u _ I2 r1 r2 q2) λd s3 ⟨z,H3,I3,r3,k,e,q3⟩=> ?_)) hm
 subst e;cases r3;refine wpAny_truthy_bool ?_
 cases k with
 | false=>exact ite_ff ⟨.bl false,H3,I3,rfl,q3⟩
 | true=>exact ite_tt (chain_last (thn (hc pins s3 σ H3 _ I3 q3) (by rintro w' s4 ⟨z',H4,I4,r4,q4⟩;exact ho' pins s4 σ H4 y z' u w' Q I4 r2 r4 q4)))
theorem C2f:(sizeLine:Nat)<2^63:=by rw [sizeLine_eq];decide
theorem B5f {x:V} {us:List Value} (r:A2t [x] us):∃u,us=[u]/\A3d x u:=by
 cases r with
 | cons r1 r2=>cases r2;exact ⟨_,rfl,r1⟩
theorem C0e {x y:V} {us:List Value} (r:A2t [x,y] us):∃u w',us=[u,w']/\A3d x u/\A3d y w':=by
 cases r with
 | cons r1 r2 =>
  cases r2 with
  | cons r3 r4=>cases r4;exact ⟨_,_,rfl,r1,r3⟩
theorem B3l:B2b X (.type "int") (λxs H Q=>(∃i,xs=[.int i]/\Q (.int i) H)\/∃k,xs=[.bl k]/\Q (.int (if k then 1 else 0)) H):=by
 intro pins s σ H xs us Q I r h;rcases h with ⟨i,rfl,q⟩ | ⟨k,rfl,q⟩
 ·obtain ⟨u,rfl,t,rfl⟩:=B5f r;exact call_int_int ⟨.int i,H,I,⟨_,rfl⟩,q⟩
 ·obtain ⟨u,rfl,r1⟩:=B5f r;cases r1;exact call_int_bool ⟨.int (if k then 1 else 0),H,I.tok _,⟨_,rfl⟩,q⟩
end
structure D5x (h:Heap) (x dx C:Addr) (mA:Str->Option Value):Prop where
 obj:h.get? x=some (instObj C dx)
 ns:h.Ns1 dx mA
 ne:dx≠x
theorem C4w {h:Heap} {dx:Addr} {mA:Str->Option Value} (n:h.Ns1 dx mA):∃od,h.get? dx=some od/\∀name,PySem.W.lookIn name od=some (mA name):=by
 obtain ⟨o,es,ep,ho,hd,hk,_,hm⟩:=n;refine ⟨o,ho,λname=> ?_⟩;have e:=hm name;unfold nsFind findBy at e;rw [<-Array.find?_toList] at e;unfold PySem.W.lookIn;rw [hd];dsimp only;split
 ·rename_i y q;rw [q] at e;exact congrArg some e
 ·rename_i q;rw [q] at e
  have a:es.toList.any (·.refKey)=false:=by
   rw [List.any_eq_false];intro y hy;obtain ⟨z,t,hkey⟩:=hk y (Array.mem_toList_iff.mp hy);simp [DictEntry.refKey,hkey]
  have a':¬es.toList.any (·.refKey)=true:=by rw [a];exact Z0v
  rw [Z0t a'];exact congrArg some e
theorem D5x.look {h:Heap} {x dx C:Addr} {mA:Str->Option Value} (I:D5x h x dx C mA):∃od,PySem.W.InstAt h x (instObj C dx) C (some od)/\∀name,PySem.W.lookIn name od=some (mA name) :=
 let ⟨od,ho,hl⟩:=C4w I.ns
 ⟨od,⟨I.obj,rfl,rfl,ho⟩,hl⟩
section
variable {prog:Program} {w:World} {A:Around} {E:Value->Shared->Prop} {s:Shared} {K:Frag} {x dx C f:Addr} {mA:Str->Option Value} {name:Str} {v:Value}
theorem A1r {expr:Bool} {Q:Value->Shared->Prop} (X:K.In s.heap) (I:D5x s.heap x dx C mA) (hg:plainGet K C name=true) (hh:hasDictIn K C=true)
  (ha:findIn K (.ref C) name=some none) (hv:mA name=some v) (hv':PySem.W.handedIn v=true) (h:Q v { s with toks:=s.toks+1 }) :
  wpAny (model prog w) A (getAttr (.ref x) name expr) Q E s:=by
 obtain ⟨od,J,hl⟩:=I.look;exact PySem.W.get_value X J (PySem.W.plainGet_of hg).1 (PySem.W.findObj_own hh ha rfl (by rw [hl,hv])) hv' h
theorem D0b {pl:Sem Bool} {Q:Value×List Value->Shared->Prop} (X:K.In s.heap) (I:D5x s.heap x dx C mA) (hg:plainGet K C name=true)
  (hf:findIn K (.ref C) name=some (some (.ref f))) (ht:isFn K (.ref f)=true) (hv:mA name=none) (h:Q (.ref f,[.ref x]) s) :
  wpAny (model prog w) A (getMethod (.ref x) name pl) Q E s:=by
 obtain ⟨od,J,hl⟩:=I.look;exact PySem.W.method_fn X J (PySem.W.plainGet_of hg).1 (PySem.W.plainGet_of hg).2 hf (beq_iff_eq.mp ht) (by show (PySem.W.lookIn name od).map (·.isSome)=some false;rw [hl,hv];rfl) h
theorem D3p {ns:List Str} {Q:Unit->Shared->Prop} (X:K.In s.heap) (I:D5x s.heap x dx C mA)
  (hs:findIn K (.ref C) "__setattr__"=some (some (.builtin "object.__setattr__"))) (hp:plainOver K C=true) (ht:PySem.W.takerIn K C name=some none) (hh:hasDictIn K C=true)
  (hw:PySem.Within mA ns) (hsz:ns.length<=sizeLine)
  (h:∀h',D5x h' x dx C (λy=>if y=name then some v else mA y)->Heap.SameBut dx s.heap h'->Q () { s with heap:=h',toks:=s.toks+2 }) :
  wpAny (model prog w) A (setAttr (.ref x) name v) Q E s:=by
 obtain ⟨od,J,hl⟩:=I.look;refine PySem.W.set_plain X J hs (PySem.W.osa_open (s:={ s with toks:=s.toks+1 }) (r:=none) X J hp ht λb=> ?_)
 obtain ⟨cd,hc,hd'⟩:=PySem.W.any_some hh;have hx:s.heap.get? x=some ⟨.ref C,some dx,.plain,#[]⟩:=I.obj;refine Z00 (Z04 (Z00 (Z00 (wpAny_loadPart hx (Z00 (PySem.W.Looks.here (s:={ s with toks:=s.toks+1 }) (PySem.W.looks_clsIn X hc) ?_))))));rw [hd'];refine Z04 (a:=some dx) (Z00 (Z04 (Z00 ?_)));refine wpAny_nsSet1 (s:={ s with toks:=s.toks+1 }) I.ns λh' hn2 hs2=> ?_
 obtain ⟨oD,esD,epD,hoD,hdD,hcD⟩:=hn2.count (PySem.Within.cons name v hw);refine Z00 (wpAny_lookBehind hoD (by rw [hdD];exact pastItsLine_dict (Z1n hcD (by rw [Z0y];lia))) ?_);exact Z04 (h _ ⟨(hs2.2 _ (Ne.symm I.ne)).trans I.obj,hn2,I.ne⟩ hs2)
theorem C8t {R:Result->Shared->Prop} {vs:List Value} {kw:List (Str×Value)} (X:K.In s.heap) (hm:makesIn K C=true)
  (hi:findIn K (.ref C) "__init__"=some (some (.ref f))) (hf:typeIn K (.ref f)=some (.type "function"))
  (h:codeAny (model prog w) (A.under (.builtin "type.__call__" ⟨.ref C::vs,kw⟩)) (.call (.ref f) ⟨.ref (s.heap.objs.size+1)::vs,kw⟩) (PySem.W.InitBack (s.heap.objs.size+1) R)
   { s with heap:=(s.heap.push emptyDict).push (instObj C s.heap.objs.size) }) :
  codeAny (model prog w) A (.call (.ref C) ⟨vs,kw⟩) R s:=by
 obtain ⟨hh,g,d,t,os⟩:=s;exact PySem.W.make_core (PySem.W.makes_of X hm) (PySem.W.looks_findIn X hi) (λself=>PySem.W.bind_fn X self hf) (.inl rfl) h
end
def A5y (f:Str) (v:V):List (Str×V)->List (Str×V)
 | []=>[(f,v)]
 | (g,x)::r=>if g=f then (g,v)::r else (g,x)::A5y f v r
theorem B3x (f g:Str) (v:V):∀fs:List (Str×V),(A5y f v fs).lookup g=if g=f then some v else fs.lookup g
 | []=>by
  show List.lookup g [(f,v)]=_;by_cases h:g=f
  ·have hb:(g == f)=true:=beq_iff_eq.mpr h;simp only [List.lookup,hb,Z12 h]
  ·have hb:(g == f)=false:=Z22.mpr h;simp only [List.lookup,hb,Z0t h]
 | (k,x)::r=>by
  have ih:=B3x f g v r;rw [show A5y f v ((k,x)::r)=(if k=f then (k,v)::r else (k,x)::A5y f v r) from rfl];by_cases hk:k=f
  ·rw [Z12 hk];by_cases h:g=k
   ·have hb:(g == k)=true:=beq_iff_eq.mpr h;simp only [List.lookup,hb,Z12 (h.trans hk)]
   ·have hb:(g == k)=false:=Z22.mpr h;simp only [List.lookup,hb,Z0t (λe:g=f=>h (e.trans hk.symm))]
  ·rw [Z0t hk];by_cases h:g=k
   ·have hb:(g == k)=true:=beq_iff_eq.mpr h;simp only [List.lookup,hb,Z0t (λe:g=f=>hk (h.symm.trans e))]
   ·have hb:(g == k)=false:=Z22.mpr h;simp only [List.lookup,hb];exact ih
theorem B4a (f:Str) (v:V):∀fs:List (Str×V),f∈(A5y f v fs).map (·.1)/\∀g,g∈fs.map (·.1)->g∈(A5y f v fs).map (·.1)
 | []=>⟨by simp [A5y],λg h=>by simp at h⟩
 | (k,x)::r=>by
  obtain ⟨i1,i2⟩:=B4a f v r;rw [show A5y f v ((k,x)::r)=(if k=f then (k,v)::r else (k,x)::A5y f v r) from rfl];by_cases hk:k=f
  ·rw [Z12 hk];subst hk;exact ⟨by simp,λg h=>by simpa using h⟩
  ·rw [Z0t hk];refine ⟨?_,λg h=> ?_⟩
   ·rw [Z0p];exact Z1f _ i1
   ·rw [Z0p] at h⊢;rcases Z0e.mp h with e | e
    ·exact Z0e.mpr (.inl e)
    ·exact Z1f _ (i2 g e)
theorem B3n (f:Str) (v:V):∀fs:List (Str×V),(A5y f v fs).length<=fs.length+1
 | []=>by simp [A5y]
 | (k,x)::r=>by
  have ih:=B3n f v r;rw [show A5y f v ((k,x)::r)=(if k=f then (k,v)::r else (k,x)::A5y f v r) from rfl];by_cases hk:k=f
  ·rw [Z12 hk,Z0y,Z0y];lia
  ·rw [Z0t hk,Z0y,Z0y];lia
theorem B6a.some_of {v:V} {o:Option Value} (r:B6a (some v) o):∃u,o=some u/\A3d v u:=by
 cases o with
 | none=>exact (show False from r).elim
 | some u=>exact ⟨u,rfl,r⟩
theorem B6a.none_of {o:Option Value} (r:B6a none o):o=none:=by
 cases o with
 | none=>rfl
 | some u=>exact (show False from r).elim
theorem B8y {v:V} {u:Value} (r:A3d v u):PySem.W.handedIn u=true:=by
 cases v with
 | non=>cases (show u=Value.none from r);rfl
 | bl b=>cases (show u=Value.bool b from r);rfl
 | int i=>obtain ⟨t,e⟩:=(show∃t,u=Value.int i t from r);cases e;rfl
 | str x=>obtain ⟨t,e⟩:=(show∃t,u=Value.str x t from r);cases e;rfl
 | byt b=>obtain ⟨t,e⟩:=(show∃t,u=Value.bytes b t from r);cases e;rfl
 | flt b=>obtain ⟨t,e⟩:=(show∃t,u=Value.float b t from r);cases e;rfl
 | ref a=>cases (show u=Value.ref a from r);rfl
 | ty n=>cases (show u=Value.type n from r);rfl
section
variable {P:Program} {w:World} {H H':Hp} {h h':Heap} {a C dx:Addr} {fs fs':List (Str×V)}
theorem B4c (hok:HOk P w H h) (e:H a=some (.ins C dx fs)):∃mA,D5x h a dx C mA/\(∀f,B6a (fs.lookup f) (mA f))/\PySem.Within mA (fs.map (·.1))/\fs.length<=1000/\H dx=some (.own a):=by
 obtain ⟨d,z,ne,ob,mA,n,r,q⟩:=(show A2a P w H h a (.ins C dx fs) from hok a _ e);exact ⟨mA,⟨ob,n,ne⟩,r,q,z,d⟩
end
structure Cls (K:Frag) (C:Addr):Prop where
 pg:plainGet K C Str.empty=true
 hd:hasDictIn K C=true
 po:plainOver K C=true
 sa:findIn K (.ref C) "__setattr__"=some (some (.builtin "object.__setattr__"))
theorem Cls.get {K:Frag} {C:Addr} (c:Cls K C) (f:Str):plainGet K C f=true:=c.pg
def A1v (K:Frag) (C:Addr) (f:Str):Prop:=findIn K (.ref C) f=some none
theorem A1v.taker {K:Frag} {C:Addr} {f:Str} (n:A1v K C f):PySem.W.takerIn K C f=some none:=by
 unfold PySem.W.takerIn;rw [show findIn K (.ref C) f=some none from n];rfl
structure E0o (K:Frag) (C:Addr) (m:Str) (f:Addr):Prop where
 at_:findIn K (.ref C) m=some (some (.ref f))
 fn:isFn K (.ref f)=true
 kp:keepIn K (.ref f)=true
section
variable {X:Cx} {pins:List (Addr×Obj)} {σ:St} {H:Hp} {s:Shared} {a C dx:Addr} {fs:List (Str×V)} {f:Str} {v:V} {A:Around} {E:Value->Shared->Prop}
theorem C4e {b:Bool} {Q:Value->Shared->Prop} (I:Inv X pins σ H s) (e:H a=some (.ins C dx fs)) (c:Cls X.K C) (n:A1v X.K C f) (l:fs.lookup f=some v)
  (h:∀u s',Inv X pins σ H s'->A3d v u->Q u s'):wpAny (model X.prog X.w) A (getAttr (.ref a) f b) Q E s:=by
 obtain ⟨mA,O,r,_,_,_⟩:=B4c I.hok e;obtain ⟨u,hu,ru⟩:=B6a.some_of (v:=v) (o:=mA f) (by rw [<-l];exact r f);exact A1r I.kIn O (c.get f) c.hd n hu (B8y ru) (h u _ (I.tok _) ru)
theorem C3e {m:Str} {g:Addr} {pl:Sem Bool} {Q:Value×List Value->Shared->Prop} (I:Inv X pins σ H s) (e:H a=some (.ins C dx fs)) (c:Cls X.K C) (k:E0o X.K C m g) (l:fs.lookup m=none)
  (h:Q (.ref g,[.ref a]) s):wpAny (model X.prog X.w) A (getMethod (.ref a) m pl) Q E s:=by
 obtain ⟨mA,O,r,_,_,_⟩:=B4c I.hok e;have hn:mA m=none:=B6a.none_of (by rw [<-l];exact r m);exact D0b I.kIn O (c.get m) k.at_ k.fn hn h
theorem C3g {y:V} {u:Value} {Q:Unit->Shared->Prop} (I:Inv X pins σ H s) (e:H a=some (.ins C dx fs)) (c:Cls X.K C) (n:A1v X.K C f) (hl:fs.length<1000) (ry:A3d y u)
  (h:∀s',Inv X pins σ (upd H a (.ins C dx (A5y f y fs))) s'->Q () s'):wpAny (model X.prog X.w) A (setAttr (.ref a) f u) Q E s:=by
 obtain ⟨mA,O,r,wi,_,ho⟩:=B4c I.hok e;have hz:(fs.map (·.1)).length<=sizeLine:=by rw [Z08,sizeLine_eq];lia
 refine D3p I.kIn O c.sa c.po n.taker c.hd wi hz λh' O' sb=>h _ ?_;have hd:∃o,h'.get? dx=some o:=let ⟨o,_,_,e',_⟩:=O'.ns;⟨o,e'⟩;refine I.write (x:=a) (e:=dx) (by rw [e];exact True.intro) (.inr ho) (λb q hb z=>(sb.2 b hb).trans z) hd ?_;refine ⟨by rw [A0j O.ne];exact ho,?_,O.ne,O'.obj,_,O'.ns,λg=> ?_,λg hg=> ?_⟩
 ·have:=B3n f y fs;lia
 ·show B6a ((A5y f y fs).lookup g) (if g=f then some u else mA g);rw [B3x];by_cases q:g=f
  ·rw [Z12 q,Z12 q];exact ry
  ·rw [Z0t q,Z0t q];exact r g
 ·by_cases q:g=f
  ·rw [q];exact (B4a f y fs).1
  ·refine (B4a f y fs).2 g (wi g λz=>hg ?_);show (if g=f then some u else mA g)=none;rw [Z0t q];exact z
theorem Inv.made (I:Inv X pins σ H s):Inv X pins σ (upd (upd H s.heap.objs.size (.own (s.heap.objs.size+1))) (s.heap.objs.size+1) (.ins C s.heap.objs.size []))
  { s with heap:=(s.heap.push emptyDict).push (instObj C s.heap.objs.size) }:=by
 have e1:(s.heap.push emptyDict).get? s.heap.objs.size=some emptyDict:=Z0c s.heap rfl
 have e2:((s.heap.push emptyDict).push (instObj C s.heap.objs.size)).get? (s.heap.objs.size+1)=some (instObj C s.heap.objs.size):=by
  have:=Z0c (s.heap.push emptyDict) (o:=instObj C s.heap.objs.size) rfl
  rwa [Z1s] at this
 have e3:(s.heap.push emptyDict).Ns s.heap.objs.size (λ_=>none):=⟨emptyDict,#[],_,e1,rfl,(λe he=>absurd he (by simp)),λ_=>rfl⟩;have I1:=I.laid (a:=s.heap.objs.size) (o:= .own (s.heap.objs.size+1)) (h':=s.heap.push emptyDict) (t':=s.toks) (λb u q=>Z01 _ q) (Z09 _) ⟨_,e1⟩;refine I1.laid (a:=s.heap.objs.size+1) (o:= .ins C s.heap.objs.size []) (t':=s.toks) (λb u q=>Z01 _ q) (Nat.le_of_eq (Z1s _ _)) ?_;have ne:s.heap.objs.size≠s.heap.objs.size+1:=Z0h (Nat.lt_succ_self _);refine ⟨by rw [A0j ne,A0b],Z1e _,ne,e2,λ_=>none,(Heap.Ns1.of_empty e3).at λo q=>Z01 _ q,λ_=>True.intro,λy hy=>absurd rfl hy⟩
theorem C8g {prog:Program} {w:World} {env:Env} {e:Expr} {f:Str} {pos:Pos} {s:Shared} {Q:Value->Shared->Prop} (hb:attributeBase e f env (eval e env)=eval e env)
  (h:wpAny (model prog w) A (eval e env) (λo s₁=>wpAny (model prog w) A (getAttr o f true) Q E s₁) E s):wpAny (model prog w) A (eval (.Attribute e f pos) env) Q E s :=
 Attribute_any_ h (by rw [arm_eval_Attribute,hb])
end
def E3c (K:Frag) (ta:TE) (f:Str):TE:=λσ H Q=>ta σ H λx H1=>∃a C dx fs v,x= .ref a/\H1 a=some (.ins C dx fs)/\Cls K C/\A1v K C f/\fs.lookup f=some v/\Q v H1
def sFld (K:Frag) (ta tv:TE) (f:Str):TS:=λD σ H=>tv σ H λy H1=>ta σ H1 λx H2=>∃a C dx fs,x= .ref a/\H2 a=some (.ins C dx fs)/\Cls K C/\A1v K C f/\fs.length<1000/\
 D.nx σ (upd H2 a (.ins C dx (A5y f y fs)))
section
variable {X:Cx} {o e value:Expr} {f:Str} {pos pos' tpos:Pos} {ta tv:TE}
theorem A0t (he:PE X e ta) (hb:attributeBase e f X.env (eval e X.env)=eval e X.env):PE X (.Attribute e f pos) (E3c X.K ta f):=by
 intro pins s σ H Q I h;refine C8g hb (thn (he pins s σ H _ I h) ?_);rintro u s1 ⟨x,H1,I1,rx,a,C,dx,fs,v,ex,ea,c,n,l,q⟩;subst ex;obtain rfl:u=Value.ref a:=rx;exact C4e I1 ea c n l λu' s2 I2 ru=>⟨v,H1,I2,ru,q⟩
theorem A3k (ha:PE X o ta) (hv:PE X value tv) (hs:swapsWith value (some (.Attribute o f pos')) pos.line X.env=pure false):PS X (.Assign [.Attribute o f pos'] value pos) (sFld X.K ta tv f):=by
 intro pins s σ H D I h;refine plainObj_wpAny_Assign_Attribute (thn (hv pins s σ H _ I h) ?_) hs;rintro u s1 ⟨y,H1,I1,ry,q⟩;refine thn (ha pins s1 σ H1 _ I1 q) ?_;rintro ov s2 ⟨x,H2,I2,rx,a,C,dx,fs,ex,ea,c,n,l,q2⟩;subst ex;obtain rfl:ov=Value.ref a:=rx;exact C3g I2 ea c n l ry λs3 I3=>⟨σ,_,I3,q2⟩
end
section
variable {X:Cx} {pins:List (Addr×Obj)} {σ:St} {H:Hp} {s:Shared} {A:Around} {E:Value->Shared->Prop} {Q:Value->Shared->Prop} {c:Value} {b:Bool}
inductive A9s (K:Frag) (H:Hp):V->Value->Prop where
 | non:A9s K H .non (.type "NoneType")
 | bl (x:Bool):A9s K H (.bl x) (.type "bool")
 | int (i:Int):A9s K H (.int i) (.type "int")
 | str (x:Str):A9s K H (.str x) (.type "str")
 | flt (x:UInt64):A9s K H (.flt x) (.type "float")
 | lst {a:Addr} {xs:List V} (e:H a=some (.lst xs)):A9s K H (.ref a) (.type "list")
 | frz {a:Addr} {o:Obj} {xs:List V} (e:H a=some (.frz o (.lst xs))):A9s K H (.ref a) (.type "list")
 | tup {a:Addr} {xs:List V} (e:H a=some (.tup xs)):A9s K H (.ref a) (.type "tuple")
 | dK {a:Addr} {kvs:List (Key×V)} (e:H a=some (.dK kvs)):A9s K H (.ref a) (.type "dict")
 | dT {a:Addr} {kvs:List (List Key×V)} (e:H a=some (.dT kvs)):A9s K H (.ref a) (.type "dict")
 | ins {a C dx:Addr} {fs:List (Str×V)} (e:H a=some (.ins C dx fs)) (cl:Cls K C) (ha:findIn K (.ref C) "__class__"=some (some (.builtin "object.__class__")))
   (hn:specialIn K (.builtin "object.__class__") "__get__"=some (some (.builtin "getset_descriptor.__get__"))) (htk:takesIn K (.builtin "object.__class__")=some true)
   (hm:mroIn K C (.type "object")=some true):A9s K H (.ref a) (.ref C)
theorem C4x {x:V} {u t:Value} (I:Inv X pins σ H s) (rx:A3d x u) (ty:A9s X.K H x t) (e:kitOne X.K t c=some b) (h:∀tk,Q (.bool b) { s with toks:=tk }) :
  wpAny (model X.prog X.w) A (call (.builtin "isinstance") [u,c]) Q E s:=by
 cases ty with
 | non=>cases (show u=Value.none from rx);exact PySem.W.kia_one PySem.W.kitx_none I.kIn True.intro e (λz=>nomatch z) h
 | bl y=>cases (show u=Value.bool y from rx);exact PySem.W.kia_one PySem.W.kitx_bool I.kIn True.intro e (λz=>nomatch z) h
 | int i=>obtain ⟨t,q⟩:=(show∃t,u=Value.int i t from rx);cases q;exact PySem.W.kia_one PySem.W.kitx_int I.kIn True.intro e (λz=>nomatch z) h
 | str y=>obtain ⟨t,q⟩:=(show∃t,u=Value.str y t from rx);cases q;exact PySem.W.kia_one PySem.W.kitx_str I.kIn True.intro e (λz=>nomatch z) h
 | flt y=>obtain ⟨t,q⟩:=(show∃t,u=Value.float y t from rx);cases q;exact PySem.W.kia_one PySem.W.kitx_float I.kIn True.intro e (λz=>nomatch z) h
 | @lst a xs ea =>
  cases (show u=Value.ref a from rx)
  obtain ⟨_,_,n,_,h1⟩:=(show A2a X.prog X.w H s.heap a (.lst xs) from I.hok a _ ea);exact PySem.W.kia_one PySem.W.kitx_list I.kIn ⟨_,h1,rfl⟩ e (λz=>nomatch z) h
 | @frz a ob xs ea =>
  cases (show u=Value.ref a from rx)
  obtain ⟨_,_,_,n,_,h1⟩:=(show A2a X.prog X.w H s.heap a (.frz ob (.lst xs)) from I.hok a _ ea);exact PySem.W.kia_one PySem.W.kitx_list I.kIn ⟨_,h1,rfl⟩ e (λz=>nomatch z) h
 | @tup a xs ea =>
  cases (show u=Value.ref a from rx)
  obtain ⟨_,_,_,p⟩:=(show A2a X.prog X.w H s.heap a (.tup xs) from I.hok a _ ea);obtain ⟨o,h1,h2,_⟩:=p;exact PySem.W.kia_one PySem.W.kitx_tuple I.kIn ⟨o,h1,h2⟩ e (λz=>nomatch z) h
 | @dK a kvs ea =>
  cases (show u=Value.ref a from rx)
  obtain ⟨_,_,vs,_,p⟩:=(show A2a X.prog X.w H s.heap a (.dK kvs) from I.hok a _ ea);obtain ⟨o,es,ep,h1,h2,_⟩:=p;exact PySem.W.kia_one PySem.W.kitx_dict I.kIn ⟨o,h1,h2.1⟩ e (λz=>nomatch z) h
 | @dT a kvs ea =>
  cases (show u=Value.ref a from rx)
  obtain ⟨_,_,xs,_,o,es,ep,h1,h2,_⟩:=(show A2a X.prog X.w H s.heap a (.dT kvs) from I.hok a _ ea);exact PySem.W.kia_one PySem.W.kitx_dict I.kIn ⟨o,h1,h2.1⟩ e (λz=>nomatch z) h
 | @ins a C dx fs ea cl ha hn htk hm =>
  cases (show u=Value.ref a from rx)
  obtain ⟨mA,O,_⟩:=B4c I.hok ea;obtain ⟨od,J,_⟩:=O.look;exact PySem.W.kia_one (PySem.W.kitx_own (cl.get _) cl.hd ha hn htk hm) I.kIn J e (λz=>nomatch z) h
end
structure A7j (k:Nat) (A:Around):Prop where
 hd:A.handled=none
 dp:A.depth+3*k+5<recursionLimit
 un:A.units+16*k+200<cLine
 gd:A.guards=some []
theorem A7j.mono {j k:Nat} {A:Around} (r:A7j k A) (h:j<=k):A7j j A:=⟨r.hd,by have:=r.dp;lia,by have:=r.un;lia,r.gd⟩
theorem A7j.deeper {k:Nat} {A:Around} (r:A7j (k+1) A) (env:Env):A7j k (A.deeper env) :=
 ⟨r.hd,by have:=r.dp;show A.depth+1+3*k+5<_;lia,by have:=r.un;show A.units+3+16*k+200<_;lia,r.gd⟩
theorem C4p {A:Around} {C:Addr} {us:List Value} {kw:List (Str×Value)}:(A.under (.builtin "type.__call__" ⟨.ref C::us,kw⟩)).depth=A.depth+1:=by
 first | rfl | simp [Around.under,Code.weight,Code.isCreation,Code.isGuard,Code.isCaller,Code.frames,Code.isFrame,guardIds]
theorem C3z {A:Around} {C:Addr} {us:List Value} {kw:List (Str×Value)}:(A.under (.builtin "type.__call__" ⟨.ref C::us,kw⟩)).units=A.units+1:=by
 first | rfl | simp [Around.under,Code.cUnits,Code.frames,Code.isFrame]
theorem C0f {A:Around} {C:Addr} {us:List Value} {kw:List (Str×Value)}:(A.under (.builtin "type.__call__" ⟨.ref C::us,kw⟩)).guards=A.guards:=by
 show pushGuards (Code.guards (.builtin "type.__call__" ⟨.ref C::us,kw⟩)) A.guards=A.guards;have h:Code.isGuard (.builtin "type.__call__" ⟨.ref C::us,kw⟩)=false:=by first | rfl | (simp [Code.isGuard,guardIds]) | decide
 unfold Code.guards;rw [h];cases A.guards <;> rfl
theorem A7j.make {k:Nat} {A:Around} (r:A7j (k+1) A) (C:Addr) (us:List Value) (kw:List (Str×Value)):A7j k (A.under (.builtin "type.__call__" ⟨.ref C::us,kw⟩)) :=
 ⟨r.hd,by have:=r.dp;rw [C4p];lia,by have:=r.un;rw [C3z];lia,by rw [C0f];exact r.gd⟩
theorem A7j.depth {k:Nat} {A:Around} (r:A7j k A):A.depth<recursionLimit:=by have:=r.dp;lia
theorem A7j.units {k:Nat} {A:Around} (r:A7j k A):A.units+64<cLine:=by have:=r.un;lia
theorem A7j.units0 {k:Nat} {A:Around} (r:A7j k A):A.units<cLine:=by have:=r.un;lia
def tNil:TA:=λ_ H Q=>Q [] H
def E1t (ta:TE) (tr:TA):TA:=λσ H Q=>ta σ H λx H1=>tr σ H1 λxs H2=>Q (x::xs) H2
section
variable {X:Cx} {e:Expr} {es:List Expr} {te:TE} {t:TA} {pos:Pos}
theorem A0d:PA X [] tNil:=λ_ _ _ _ H Q I h=>Calls.spliced_nil ⟨[],H,I,.nil,h⟩
theorem A0a (ha:PE X e te) (hr:PA X es t) (hs:starEach (e::es) X.env=(false,eval e X.env)::starEach es X.env:=by rfl):PA X (e::es) (E1t te t):=by
 intro pos pins s σ H Q I h;rw [hs];show wpAny _ _ (spliced ((false,eval e X.env)::backTo pos (starEach es X.env))) _ _ s;refine Calls.spliced_cons (thn (ha pins s σ H _ I h) ?_);rintro u s1 ⟨x,H1,I1,r1,q1⟩;exact thn (hr pos pins s1 σ H1 _ I1 q1) (by rintro us s2 ⟨xs,H2,I2,r2,q2⟩;exact ⟨x::xs,H2,I2,.cons r1 r2,q2⟩)
def tTup (t:TA):TE:=λσ H Q=>t σ H λxs H1=>xs.length<=sizeLine/\∀p,H1 p=none->Q (.ref p) (upd H1 p (.tup xs))
def tLst (t:TA):TE:=λσ H Q=>t σ H λxs H1=>xs.length<=sizeLine/\∀p,H1 p=none->Q (.ref p) (upd H1 p (.lst xs))
theorem A2g {x1} (h:PA X es t):PE X (.Tuple es x1 pos) (tTup t):=by
 intro pins s σ H Q I hq;refine wpAny_Tuple_spliced (thn (h pos pins s σ H _ I hq) λus s1 ⟨xs,H1,I1,r,z,q⟩=>⟨by rw [<-r.length];exact z,?_⟩);have hf:H1 s1.heap.objs.size=none:=I1.hok.fresh (Z09 _);refine ⟨.ref s1.heap.objs.size,upd H1 s1.heap.objs.size (.tup xs),I1.laid (t':=s1.toks) (λb u e=>Z01 _ e) (Z09 _) ?_,rfl,q _ hf⟩;exact ⟨z,us,r,⟨_,Z0c _ rfl,rfl,_,rfl⟩⟩
theorem A2d (h:PA X es t):PE X (.List es pos) (tLst t):=by
 intro pins s σ H Q I hq;refine wpAny_List_spliced (thn (h pos pins s σ H _ I hq) λus s1 ⟨xs,H1,I1,r,z,q⟩=>⟨by rw [<-r.length];exact z,?_⟩);have hf:H1 s1.heap.objs.size=none:=I1.hok.fresh (Z09 _);refine ⟨.ref s1.heap.objs.size,upd H1 s1.heap.objs.size (.lst xs),I1.laid (t':=s1.toks) (λb u e=>Z01 _ e) (Z09 _) ?_,rfl,q _ hf⟩;exact ⟨z,us,0,r,Z0c _ rfl⟩
end
abbrev Sp:=List V->Hp->VK->XK->Prop
abbrev CXT:=List Env->Hp->Shared->XK->Value->Shared->Prop
structure C8q (P:Program) (w:World) (K:Frag) (mg:Str->Option Value) (base:Heap) (A:Around) (outer:List Env) (s:Shared) (H:Hp):Prop where
 frames:A.frames=some outer
 mod:Mod K mg base
 bs:∀b o,base.get? b=some o->s.heap.get? b=some o/\H b=none
 bsz:base.objs.size<=s.heap.objs.size
 funs:s.heap.FunFrames base outer
 frf:∀b∈frs outer,H b=none
 hok:HOk P w H s.heap
 bare:AllBare s.gens
def CE (outer:List Env) (P:Program) (w:World) (H:Hp) (s:Shared) (Q:VK) (u:Value) (s':Shared):Prop :=
 ∃v H',s'.os=s.os/\AllBare s'.gens/\Un (frs outer) [] H H' s.heap s'.heap/\HOk P w H' s'.heap/\A3d v u/\Q v H'
def CR (CX:CXT) (outer:List Env) (P:Program) (w:World) (H:Hp) (s:Shared) (Q:VK) (E:XK) (r:Result) (s':Shared):Prop :=
 match r with
 | .ok (.ret u)=>CE outer P w H s Q u s'
 | .ok _=>False
 | .error e=>CX outer H s E e s'
structure A4m (P:Program) (w:World) (K:Frag) (mg:Str->Option Value) (base:Heap) (CX:CXT) (k:Nat) (f:Addr) (fd:FuncData) (ps:List Str) (sp:Sp):Prop where
 len:∀vs H Q E,sp vs H Q E->vs.length=ps.length
 run:∀(A:Around) (outer:List Env) (s:Shared) (H:Hp) (args:Args) (us:List Value) (vs:List V) (Q:VK) (E:XK),A7j k A->C8q P w K mg base A outer s H->BindsTo s fd args (ps.zip us)->A2t vs us->sp vs H Q E->
  codeAny (model P w) A (.call (.ref f) args) (CR CX outer P w H s Q E) s
theorem A4m.mono {P:Program} {w:World} {K:Frag} {mg:Str->Option Value} {base:Heap} {CX:CXT} {j k:Nat} {f:Addr} {fd:FuncData} {ps:List Str} {sp:Sp} (F:A4m P w K mg base CX j f fd ps sp) (h:j<=k) :
  A4m P w K mg base CX k f fd ps sp:=⟨F.len,λA outer s H args us vs Q E hr=>F.run A outer s H args us vs Q E (hr.mono h)⟩
theorem C8q.make {P:Program} {w:World} {K:Frag} {mg:Str->Option Value} {base:Heap} {A:Around} {outer:List Env} {s:Shared} {H:Hp} (e:C8q P w K mg base A outer s H) (C:Addr) (us:List Value) (kw:List (Str×Value)) :
  C8q P w K mg base (A.under (.builtin "type.__call__" ⟨.ref C::us,kw⟩)) outer s H:=⟨by first | exact e.frames | (simpa [Around.under,Code.envs,Code.isFrame,pushEnvs] using e.frames),e.mod,e.bs,e.bsz,e.funs,e.frf,e.hok,e.bare⟩
section
variable {X:Cx} {pins:List (Addr×Obj)} {σ:St} {H:Hp} {s s':Shared}
theorem Inv.env0 (I:Inv X pins σ H s):C8q X.prog X.w X.K X.mg X.base X.A X.stack s H :=
 ⟨I.ok.frames,I.ok.mod,I.bs,Z1n I.ok.bsz I.sz,I.stack,I.stkFree,I.hok,I.bare⟩
theorem Inv.after {Q:VK} {u:Value} (I:Inv X pins σ H s) (h:CE X.stack X.prog X.w H s Q u s'):EP X pins σ Q u s':=by
 obtain ⟨v,H',os,bare,un,hok,r,q⟩:=h;obtain ⟨hh,g,d,t,os'⟩:=s';obtain rfl:os'=s.os:=os;exact ⟨v,H',I.call (h':=hh) (g':=g) (d':=d) (t':=t) (ch:=[]) un hok bare (λb z=>absurd z (by simp)),r,q⟩
end
def D6e (sp:Sp) (dvs:List V) (E:XK) (t:TA):TE:=λσ H Q=>t σ H λvs H1=>sp (vs++dvs) H1 Q E
def E1c (C:Addr) (m:Str) (sp:Sp) (dvs:List V) (E:XK) (ta:TE) (t:TA):TE:=λσ H Q=>ta σ H λx H1=>∃a dx fs,x= .ref a/\H1 a=some (.ins C dx fs)/\fs.lookup m=none/\
 t σ H1 λvs H2=>sp (x::(vs++dvs)) H2 Q E
def D9e (C:Addr) (sp:Sp) (dvs:List V) (E:XK) (t:TA):TE:=λσ H Q=>t σ H λvs H1=>∀x dx,H1 x=none->H1 dx=none->dx≠x->
 sp (.ref x::(vs++dvs)) (upd (upd H1 dx (.own x)) x (.ins C dx [])) (λv H2=>v= .non/\Q (.ref x) H2) E
def A8w (K:Frag) (fd:FuncData) (ps:List Str) (ds:List Value):Prop :=
 ∀(s:Shared) (us:List Value),K.In s.heap->(us++ds).length=ps.length->BindsTo s fd ⟨us,[]⟩ (ps.zip (us++ds))
theorem A8w.all {K:Frag} {fd:FuncData} {ps:List Str} (h:∀us:List Value,us.length=ps.length->bindArgs fd ⟨us,[]⟩=pure (ps.zip us)):A8w K fd ps []:=λs us _ hl=>by
 rw [Z0u] at hl⊢;exact .of_eq (h us hl)
def A9c (CX:CXT) (X:Cx) (E:XK):Prop:=∀(pins:List (Addr×Obj)) (σ:St) (H:Hp) (s:Shared) (e:Value) (s':Shared),Inv X pins σ H s->CX X.stack H s E e s'->X.xe e s'
section
variable {X:Cx} {CX:CXT} {k:Nat} {f C:Addr} {fd:FuncData} {ps:List Str} {sp:Sp} {dvs:List V} {ds:List Value} {E:XK} {x m:Str} {p pos apos:Pos} {e o:Expr} {es:List Expr} {ta:TE} {t:TA}
theorem D2x {pins:List (Addr×Obj)} {σ:St} {H:Hp} {s:Shared} {Q:VK} {us:List Value} {vs:List V} (F:A4m X.prog X.w X.K X.mg X.base CX k f fd ps sp) (hr:A7j k X.A) (hb:A8w X.K fd ps ds) (hd:A2t dvs ds) (hx:A9c CX X E)
  (I:Inv X pins σ H s) (r:A2t vs us) (h:sp (vs++dvs) H Q E):wpAny (model X.prog X.w) X.A (call (.ref f) us) (EP X pins σ Q) X.xe s:=by
 have r2:A2t (vs++dvs) (us++ds):=r.append hd;have hl:(us++ds).length=ps.length:=by rw [<-r2.length];exact F.len _ _ _ _ h
 refine wpAny_call (codeAny_mono (F.run X.A X.stack s H ⟨us,[]⟩ (us++ds) (vs++dvs) Q E hr I.env0 (hb s us I.kIn hl) r2 h) λr s' hq=> ?_)
 cases r with
 | error e=>exact hx pins σ H s e s' I hq
 | ok fl =>
  cases fl with
  | ret u=>exact I.after hq
  | next=>exact False.elim hq
  | brk=>exact False.elim hq
  | cont=>exact False.elim hq
theorem A3g (F:A4m X.prog X.w X.K X.mg X.base CX k f fd ps sp) (hr:A7j k X.A) (hg:Gl X x) (hm:X.mg x=some (.ref f)) (hk:keepIn X.K (.ref f)=true) (hb:A8w X.K fd ps ds) (hd:A2t dvs ds) (hx:A9c CX X E)
  (ha:PA X (e::es) t) (hdb:(x == ("__debug__":Str))=false:=by decide) (he:starEach (e::es) X.env=(false,eval e X.env)::starEach es X.env:=by rfl) (hpl:(backTo pos (starEach es X.env)).any (·.1)=false:=by rfl) :
  PE X (.Call (.Name x p) (e::es) [] pos) (D6e sp dvs E t):=by
 intro pins s σ H Q I h;refine wpAny_Call_Name_kw (A5w I hg hm ?_ hdb);refine PySem.W.callWith_K (h₀:=X.base) I.ok.mod.kin hk (thn (ha pos pins s σ H _ I h) λus s1 ⟨vs,H1,I1,r,q⟩=>⟨I1.kIn,?_⟩) he hpl;exact D2x F hr hb hd hx I1 r q
theorem C5y {pl:Sem Bool} (he:PE X o ta) (c:Cls X.K C) (hm:E0o X.K C m f) (F:A4m X.prog X.w X.K X.mg X.base CX k f fd ps sp) (hr:A7j k X.A) (hb:A8w X.K fd ps ds) (hd:A2t dvs ds) (hx:A9c CX X E) (ha:PA X (e::es) t)
  (hst:starEach (e::es) X.env=(false,eval e X.env)::starEach es X.env:=by rfl) (hpl:(backTo pos (starEach es X.env)).any (·.1)=false:=by rfl)
  (ht:eval (.Call (.Attribute o m apos) (e::es) [] pos) X.env=(do
   let ov<-eval o X.env
   standAt apos.atName
   let (f,first)<-holding [ov] (getMethod ov m pl)
   callWith pos f first (backTo pos (starEach (e::es) X.env)) (backToKw pos (keywordEach [] X.env))):=by rfl) :
  PE X (.Call (.Attribute o m apos) (e::es) [] pos) (E1c C m sp dvs E ta t):=by
 intro pins s σ H Q I h;refine PySem.W.methodCall_KW (pl:=pl) (thn (he pins s σ H _ I h) ?_) ht;rintro u s1 ⟨x,H1,I1,rx,a,dx,fs,ex,ea,l,q⟩;subst ex;obtain rfl:u=Value.ref a:=rx;refine C3e I1 ea c hm l ?_;refine PySem.W.callWith_K (first:=[.ref a]) (h₀:=X.base) I.ok.mod.kin hm.kp (thn (ha pos pins s1 σ H1 _ I1 q) λus s2 ⟨vs,H2,I2,r,q2⟩=>⟨I2.kIn,?_⟩) hst hpl;exact D2x (us:= .ref a::us) (vs:= .ref a::vs) F hr hb hd hx I2 (.cons rfl r) q2
structure Mk (K:Frag) (C f:Addr):Prop where
 makes:makesIn K C=true
 init:findIn K (.ref C) "__init__"=some (some (.ref f))
 fn:isFn K (.ref f)=true
 kp:keepIn K (.ref C)=true
theorem C9r {pins:List (Addr×Obj)} {σ:St} {H:Hp} {s:Shared} {Q:VK} {us:List Value} {vs:List V} (M:Mk X.K C f) (F:A4m X.prog X.w X.K X.mg X.base CX k f fd ps sp) (hr:A7j (k+1) X.A) (hb:A8w X.K fd ps ds) (hd:A2t dvs ds)
  (hx:A9c CX X E) (I:Inv X pins σ H s) (r:A2t vs us)
  (h:∀x dx,H x=none->H dx=none->dx≠x->sp (.ref x::(vs++dvs)) (upd (upd H dx (.own x)) x (.ins C dx [])) (λv H2=>v= .non/\Q (.ref x) H2) E) :
  wpAny (model X.prog X.w) X.A (call (.ref C) us) (EP X pins σ Q) X.xe s:=by
 have hq:=h (s.heap.objs.size+1) s.heap.objs.size (I.hok.fresh (Nat.le_succ _)) (I.hok.fresh (Z09 _)) (Z0h (Nat.lt_succ_self _));have I2:=Inv.made (C:=C) I;have r2:A2t (V.ref (s.heap.objs.size+1)::(vs++dvs)) (Value.ref (s.heap.objs.size+1)::(us++ds)):= .cons rfl (r.append hd)
 have hl:(Value.ref (s.heap.objs.size+1)::us++ds).length=ps.length:=by
  have e:=r2.length;rw [F.len _ _ _ _ hq] at e;exact e.symm
 refine wpAny_call (C8t (f:=f) I.kIn M.makes M.init (beq_iff_eq.mp M.fn) (codeAny_mono (F.run _ X.stack _ _ ⟨Value.ref (s.heap.objs.size+1)::us,[]⟩ (Value.ref (s.heap.objs.size+1)::(us++ds)) _ _ E (hr.make C us [])
  (I2.env0.make C us []) (hb _ (Value.ref (s.heap.objs.size+1)::us) I2.kIn hl) r2 hq) λr s' hq'=> ?_))
 cases r with
 | error e=>exact hx pins σ _ _ e s' I2 hq'
 | ok fl =>
  cases fl with
  | ret u =>
   obtain ⟨v,H',I3,rv,ev,q3⟩:=I2.after hq';subst ev;exact ⟨rv,⟨V.ref (s.heap.objs.size+1),H',I3,rfl,q3⟩⟩
  | next=>exact False.elim hq'
  | brk=>exact False.elim hq'
  | cont=>exact False.elim hq'
theorem D3q (M:Mk X.K C f) (F:A4m X.prog X.w X.K X.mg X.base CX k f fd ps sp) (hr:A7j (k+1) X.A) (hg:Gl X x) (hm:X.mg x=some (.ref C)) (hb:A8w X.K fd ps ds) (hd:A2t dvs ds) (hx:A9c CX X E)
  (ha:PA X (e::es) t) (hdb:(x == ("__debug__":Str))=false:=by decide) (he:starEach (e::es) X.env=(false,eval e X.env)::starEach es X.env:=by rfl) (hpl:(backTo pos (starEach es X.env)).any (·.1)=false:=by rfl) :
  PE X (.Call (.Name x p) (e::es) [] pos) (D9e C sp dvs E t):=by
 intro pins s σ H Q I h;refine wpAny_Call_Name_kw (A5w I hg hm ?_ hdb);refine PySem.W.callWith_K (h₀:=X.base) I.ok.mod.kin M.kp (thn (ha pos pins s σ H _ I h) λus s1 ⟨vs,H1,I1,r,q⟩=>⟨I1.kIn,?_⟩) he hpl;exact C9r M F hr hb hd hx I1 r q
end
section
variable {X:Cx} {CX:CXT} {k:Nat} {f C:Addr} {fd:FuncData} {ps ks:List Str} {sp:Sp} {E:XK} {x m:Str} {p pos apos kpos:Pos} {e o:Expr} {es:List Expr} {kws:List Keyword} {te ta:TE} {t tk:TA} {nm:Option Str}
variable {g:List Value->List Value->List Value} {gV:List V->List V->List V}
end
structure A0m (N P:List Str) (sc:Scope):Prop where
 kind:sc.kind= .function
 co:sc.isCoroutine=false
 gen:sc.isGenerator=false
 nd:N.Nodup
 pre:N.take P.length=P
 par:∀x∈P,sc.names.lookup x=some .local\/sc.names.lookup x=some .cell
 nofree:∀y∈sc.names,y.2≠.free
theorem B7x {kindOf:Str->Option NameKind} {x:Str}:∀{binds:List (Str×Value)} {m:Str->Option Value},(∀v,(x,v)∉binds)->bindL kindOf binds m x=m x
 | [],_,_=>rfl
 | (n,v)::r,m,h=>by
  unfold bindL;rw [B7x λw hw=>h w (Z1f _ hw)];split
  ·have:x≠n:=by rintro rfl;exact h v Z27
   simp [this]
  ·rfl
theorem B8v {kindOf:Str->Option NameKind} {x:Str}:∀{binds:List (Str×Value)} {m:Str->Option Value},(∀v,(x,v)∉binds)->bindC kindOf binds m x=m x
 | [],_,_=>rfl
 | (n,v)::r,m,h=>by
  unfold bindC;rw [B8v λw hw=>h w (Z1f _ hw)];split
  ·rfl
  ·have:x≠n:=by rintro rfl;exact h v Z27
   simp [this]
theorem B7y {kindOf:Str->Option NameKind} {x:Str} {v:Value}:∀{P:List Str} {vs:List Value} {i:Nat} {m:Str->Option Value},P.Nodup->P[i]? =some x->vs[i]? =some v->kindOf x=some .local->
  bindL kindOf (P.zip vs) m x=some v
 | [],_,_,_,_,h,_,_=>by simp at h
 | _::_,[],_,_,_,_,h,_=>by simp at h
 | p::P,w::vs,0,m,nd,h1,h2,hk=>by
  simp at h1 h2;subst h1;subst h2;show bindL kindOf ((p,w)::P.zip vs) m p=_;unfold bindL;rw [B7x λv hv=>(Z15.mp nd).1 (List.of_mem_zip hv).1,Z12 hk];simp
 | p::P,w::vs,i+1,m,nd,h1,h2,hk=>by
  show bindL kindOf ((p,w)::P.zip vs) m x=_;unfold bindL;exact B7y (i:=i) (Z15.mp nd).2 (by simpa using h1) (by simpa using h2) hk
theorem B8u {kindOf:Str->Option NameKind} {x:Str} {v:Value}:∀{P:List Str} {vs:List Value} {i:Nat} {m:Str->Option Value},P.Nodup->P[i]? =some x->vs[i]? =some v->kindOf x≠some .local->
  bindC kindOf (P.zip vs) m x=some v
 | [],_,_,_,_,h,_,_=>by simp at h
 | _::_,[],_,_,_,_,h,_=>by simp at h
 | p::P,w::vs,0,m,nd,h1,h2,hk=>by
  simp at h1 h2;subst h1;subst h2;show bindC kindOf ((p,w)::P.zip vs) m p=_;unfold bindC;rw [B8v λv hv=>(Z15.mp nd).1 (List.of_mem_zip hv).1,Z0t hk];simp
 | p::P,w::vs,i+1,m,nd,h1,h2,hk=>by
  show bindC kindOf ((p,w)::P.zip vs) m x=_;unfold bindC;exact B8u (i:=i) (Z15.mp nd).2 (by simpa using h1) (by simpa using h2) hk
def B2v (N:List Str) (vs:List V):St:=vs.map some++List.replicate (N.length-vs.length) none
def C6m (CX:CXT) (P:Program) (w:World) (K:Frag) (mg:Str->Option Value) (base:Heap) (N:List Str) (qual:Str) (scope:Scope) (f:Addr) (cd:Value) (A:Around) (outer:List Env) (s:Shared) (H:Hp) (E:XK):Cx where
 prog:=P
 w:=w
 K:=K
 mg:=mg
 base:=base
 A:=A.deeper (envOfC qual scope s.heap.objs.size f cd)
 N:=N
 s₀:=s
 H₀:=H
 env:=envOfC qual scope s.heap.objs.size f cd
 outer:=outer
 stack:=envOfC qual scope s.heap.objs.size f cd::outer
 ex:=[]
 calm:=true
 fn:=λ_=>true
 pn:=[]
 xe:=λe s'=>wpAny (model P w) (A.deeper (envOfC qual scope s.heap.objs.size f cd)) (leaving (envOfC qual scope s.heap.objs.size f cd) e) (λ_ s''=>CX outer H s E e s'') (λe' s''=>CX outer H s E e' s'') s'
theorem C3b {sc:Scope} {n:Nat} {x:Str} (h:sc.names.lookup x=some .cell):∃c,(cellsFrom n sc.names []).lookup x=some c:=by
 have q:=PySem.W.cellsFrom_some sc.names n [] (.inl h);exact Option.isSome_iff_exists.mp q
theorem B9k {CX:CXT} {P:Program} {w:World} {K:Frag} {mg:Str->Option Value} {base:Heap} {N ps:List Str} {qual:Str} {scope:Scope} {f:Addr} {cd:Value} {A:Around} {outer:List Env} {s s1:Shared} {H:Hp} {E:XK} {us:List Value} {vs:List V}
  (S:A0m N ps scope) (hd:A.handled=none) (e0:C8q P w K mg base A outer s H) (hl:vs.length=ps.length) (r:A2t vs us)
  (x:InCallC s s.heap.objs.size (bindL (envOfC qual scope s.heap.objs.size f cd).kindOf (ps.zip us) λ_=>none) (cellsFrom (s.heap.objs.size+1) scope.names []) (bindC (envOfC qual scope s.heap.objs.size f cd).kindOf (ps.zip us) λ_=>none) s1) :
  Inv (C6m CX P w K mg base N qual scope f cd A outer s H E) [] (B2v N vs) H s1:=by
 have hpl:ps.length<=N.length:=by have:=congrArg List.length S.pre;rw [Z0x] at this;lia
 obtain ⟨h1,tk,rfl,hk⟩:=x.done;have noA:∀b:Addr,b∉(C6m CX P w K mg base N qual scope f cd A outer s H E).ex:=λb z=>absurd (show b∈([]:List Addr) from z) (by simp)
 refine ⟨⟨e0.mod,S.kind,rfl,rfl,Z09 _,λy z c h1 h2=> ?_,λy hy=> ?_,λy c _ h=> ?_,λ_=>hd,Around.frames_deeper e0.frames,.inr ⟨rfl,rfl⟩,λb z=>absurd z (noA b),e0.bs,e0.bsz,λb _ _=>noA b,λb z=>absurd z (noA b),e0.funs,e0.frf⟩,
  rfl,e0.bare,Un.kept hk,⟨_,x.toInCall.ns,λi y v h1 h2 h3=> ?_⟩,λy c h=>⟨_,x.cell y c h⟩,e0.hok.fresh (Z09 _),λy c h=> ?_,λp hp=>absurd (show p∈([]:List (Addr×Obj)) from hp) (by simp),e0.hok.kept hk,?_⟩
 ·exact name_of_addr x.apart (PySem.mem_of_lookup h1) (PySem.mem_of_lookup h2)
 ·have hy:scope.names.lookup y=some .cell\/scope.names.lookup y=some .free:=hy;rcases hy with hy | hy
  ·exact C3b hy
  ·exact absurd rfl (S.nofree _ (PySem.mem_of_lookup hy))
 ·exact Nat.le_of_lt (x.above y c (PySem.mem_of_lookup h))
 ·have hi:i<vs.length:=by
   unfold B2v at h2;by_cases hi:i<vs.length
   ·exact hi
   ·rw [Z1l (by simpa using hi)] at h2;rw [List.getElem?_replicate] at h2;split at h2 <;> cases h2
  have ha:vs[i]? =some v:=by
   unfold B2v at h2;rw [Z26 (by simpa using hi),Z1z] at h2
   cases e:vs[i]? with
   | none=>rw [e] at h2;cases h2
   | some a=>rw [e] at h2;cases h2;rfl
  obtain ⟨u,hu,rv⟩:=r.get ha
  have hp:ps[i]? =some y:=by
   rw [<-S.pre,List.getElem?_take_of_lt (by lia)];exact h1
  have ndP:ps.Nodup:=by rw [<-S.pre];exact S.nd.sublist (Z2o _ _)
  refine ⟨u,rv,?_⟩;rcases S.par y (Z13 hp) with k | k
  ·exact .inl ⟨k,B7y ndP hp hu k⟩
  ·obtain ⟨c,e⟩:=C3b (n:=s.heap.objs.size+1) k;refine .inr ⟨.inl k,c,e,?_⟩;have q:=x.cell y c e;rw [B8u ndP hp hu (by show scope.names.lookup y≠_;rw [k];decide)] at q;exact q
 ·exact e0.hok.fresh (Nat.le_of_lt (x.above y c (PySem.mem_of_lookup h)))
 ·unfold B2v;show _=N.length;rw [Z06,Z08,List.length_replicate]
  lia
theorem E0i {CX:CXT} {P:Program} {w:World} {K:Frag} {mg:Str->Option Value} {base:Heap} {k:Nat} {f:Addr} {name qual:Str} {params:Arguments} {body:List Stmt} {scope:Scope} {dV kV doc pm cdv ct oc:Value} {an od:Option Addr}
  {osl:Array (Option Value)} {N ps:List Str} {sp:Sp} (lk:K.lookup f=some ⟨oc,od,.func (fnOf name qual params body scope dV kV doc pm an cdv ct),osl⟩) (hcd:codeIn K cdv qual=true) (S:A0m N ps scope)
  (len:∀vs H Q E,sp vs H Q E->vs.length=ps.length)
  (hbody:∀(A:Around) (outer:List Env) (s:Shared) (H:Hp) (vs:List V) (Q:VK) (E:XK),A7j k (A.deeper (envOfC qual scope s.heap.objs.size f cdv))->sp vs H Q E->
   ∃t,PSs (C6m CX P w K mg base N qual scope f cdv A outer s H E) body t/\t { nx:=λ_ H'=>Q .non H',rt:=Q } (B2v N vs) H) :
  A4m P w K mg base CX (k+1) f (fnOf name qual params body scope dV kV doc pm an cdv ct) ps sp:=by
 refine ⟨len,λA outer s H args us vs Q E hr e0 hb r hsp=> ?_⟩;have hl:=len _ _ _ _ hsp;have KX:K.In s.heap:=e0.mod.kin.keeps λb o e=>(e0.bs b o e).1;have lim:s.heap.NoLimit:=e0.mod.nolimit.keeps λb o e=>(e0.bs b o e).1
 have hkind:∀y∈ps.zip us,scope.names.lookup y.1=some .local\/(scope.names.lookup y.1=some .cell/\((cellsFrom (s.heap.objs.size+1) scope.names []).lookup y.1).isSome=true):=λ⟨n,v⟩ hy=>by
  rcases S.par n (List.of_mem_zip hy).1 with q | q
  ·exact .inl q
  ·exact .inr ⟨q,PySem.W.cellsFrom_some _ _ _ (.inl q)⟩
 refine codeAny_call_function hr.depth (KX _ _ lk) rfl S.co S.gen rfl (PySem.W.codeRec_of KX hcd) (hb _ _ _ _ ?_);refine wpAny_newFunctionEnv_cells S.kind hkind λenv he s1 x=> ?_;subst he;refine ⟨lim.keeps x.toInCall.keep,codeAny_func ?_⟩;obtain ⟨t,ht,hq⟩:=hbody A outer s H vs Q E (hr.deeper _) hsp;have I:Inv (C6m CX P w K mg base N qual scope f cdv A outer s H E) [] (B2v N vs) H s1:=B9k S hr.hd e0 hl r x;refine Z10 (ht [] s1 (B2v N vs) H _ I hq) (λfl s' hs=> ?_) λe s' hs=>hs
 have fin:∀{σ':St} {H':Hp} {v:V} {u:Value},Inv (C6m CX P w K mg base N qual scope f cdv A outer s H E) [] σ' H' s'->A3d v u->Q v H'->CE outer P w H s Q u s' :=
  λ{σ' H' v u} J rv q=>⟨v,H',J.os,J.bare,J.base,J.hok,rv,q⟩
 cases fl with
 | ret u =>
  obtain ⟨v,σ',H',J,rv,q⟩:=hs;exact fin J rv q
 | next =>
  obtain ⟨σ',H',J,q⟩:=hs;exact fin (v:=V.non) (u:=Value.none) J rfl q
 | brk =>
  obtain ⟨_,_,_,q⟩:=hs;exact False.elim q
 | cont =>
  obtain ⟨_,_,_,q⟩:=hs;exact False.elim q
section
variable {X:Cx} {x:Str} {p pos:Pos} {e:Expr} {es:List Expr} {t:TA} {id T:String} {r:List V->Hp->VK->Prop}
def tCB (r:List V->Hp->VK->Prop) (t:TA):TE:=λσ H Q=>t σ H λvs H1=>r vs H1 Q
theorem A0s (hc:B2b X (.builtin id) r) (hg:Gl X x) (hm:X.mg x=none) (hv:bootBuiltins x=some (.builtin id)) (ha:PA X (e::es) t) (hn:x≠"__name__":=by decide) (hdb:(x == ("__debug__":Str))=false:=by decide)
  (he:starEach (e::es) X.env=(false,eval e X.env)::starEach es X.env:=by rfl) (hpl:(backTo pos (starEach es X.env)).any (·.1)=false:=by rfl):PE X (.Call (.Name x p) (e::es) [] pos) (tCB r t):=by
 intro pins s σ H Q I h;refine wpAny_Call_Name_kw (A9b I hg hm hv ?_ hn hdb);exact PyProof.Rows.callWith_builtin1 (thn (ha pos pins s σ H _ I h) (by rintro us s1 ⟨vs,H1,I1,r1,q1⟩;exact hc pins s1 σ H1 vs us Q I1 r1 q1)) he hpl
theorem A3a (hc:B2b X (.type T) r) (hg:Gl X x) (hm:X.mg x=none) (hv:bootBuiltins x=some (.type T)) (ha:PA X (e::es) t) (hn:x≠"__name__":=by decide) (hdb:(x == ("__debug__":Str))=false:=by decide)
  (he:starEach (e::es) X.env=(false,eval e X.env)::starEach es X.env:=by rfl) (hpl:(backTo pos (starEach es X.env)).any (·.1)=false:=by rfl):PE X (.Call (.Name x p) (e::es) [] pos) (tCB r t):=by
 intro pins s σ H Q I h;refine wpAny_Call_Name_kw (A9b I hg hm hv ?_ hn hdb);exact PyProof.Rows.callWith_type1 (thn (ha pos pins s σ H _ I h) (by rintro us s1 ⟨vs,H1,I1,r1,q1⟩;exact hc pins s1 σ H1 vs us Q I1 r1 q1)) he hpl
end
end L2
namespace HT
open PySem PyProof.Rows
def lexLt:List Int->List Int->Bool
 | [],[]=>false
 | [],_::_=>true
 | _::_,[]=>false
 | x::xs,y::ys=>if x=y then lexLt xs ys else decide (x<y)
theorem lexLt_cons (x y:Int) (xs ys:List Int):lexLt (x::xs) (y::ys)=if x=y then lexLt xs ys else decide (x<y):=rfl
theorem lexLt_nil_nil:lexLt [] []=false:=rfl
theorem B4n (y:Int) (ys:List Int):lexLt [] (y::ys)=true:=rfl
theorem B4u (x:Int) (xs:List Int):lexLt (x::xs) []=false:=rfl
theorem D1d (A:Around) (s:Shared) (a:Int) (t:Tok) (c:Int) (u:Tok):∃e,SeqAt.EqAt A s (.int a t) (.int c u) e/\(e=true↔a=c) :=
 ⟨(a == c),SeqAt.EqAt.int_int a t c u,by simp⟩
theorem D0o (A:Around) (s:Shared) (a:Int) (t:Tok) (c:Int) (u:Tok) (prog:Program) (w:World) (E:Value->Shared->Prop) (Q:Value->Shared->Prop) (h:Q (.bool (decide (a<c))) s) :
  wpAny (model prog w) A (richCompare .Lt (.int a t) (.int c u)) Q E s :=
 (PyProof.Rows.lt_int h:wpAny (model prog w) A (compareOp .Lt (.int a t) (.int c u)) Q E s)
section
open PySem.SeqAt
open PySem.AutoSeq1 (wpAny_loadPart')
open PySem.MeetsSeq PySem.MeetsSeq2 PySem.MeetsSeq3
theorem B7h (l b:Addr) (items items2:Array Value) (n n2:Nat) (dd dd2:Option Addr) (sl sl2:Array (Option Value)) (ns ms:List Int) (hi:IntsAre items.toList ns) (hj:IntsAre items2.toList ms) :
  Meets (Builtin.«tuple.__lt__» ⟨[.ref l,.ref b],[]⟩)
   (λ_ R s=>s.heap.get? l=some { cls:= .type "tuple",dict:=dd,data:= .seq items n,slots:=sl }/\s.heap.get? b=some { cls:= .type "tuple",dict:=dd2,data:= .seq items2 n2,slots:=sl2 }/\
    R (.ok (.ret (.bool (lexLt ns ms)))) s) :=
 .of_wp λprog w A R s h=>by
  obtain ⟨hp,g,d,tk,os⟩:=s;obtain ⟨hl,hb,h⟩:=h;have f2:=AutoSeq1.sub_tuple_tuple;have z1:items.size=ns.length:=by rw [<-hi.length];simp
  have z2:items2.size=ms.length:=by rw [<-hj.length];simp
  wp_walk using wpAny_loadPart' hl,wpAny_loadPart' hb,wpAny_forIn_list _ (λrest b s'=>b.1=none/\s'=⟨hp,g,d,tk,os⟩/\∃(vs ws:List Value) (ns' ms':List Int),rest=vs.zip ws/\
   IntsAre vs ns'/\IntsAre ws ms'/\ns'.length+items2.size=ms'.length+items.size/\R (.ok (.ret (.bool (lexLt ns' ms')))) ⟨hp,g,d,tk,os⟩) _
  case turn =>
   rintro ⟨y,x⟩ rest b s' ⟨hb',rfl,vs,ws,ns',ms',hz,hvi,hwi,hlen,hR⟩
   cases hvi with
   | nil=>rw [List.zip_nil_left] at hz;cases hz
   | cons a t hvi' =>
    cases hwi with
    | nil=>rw [List.zip_nil_right] at hz;cases hz
    | cons c u hwi' =>
     rw [List.zip_cons_cons] at hz;injection hz with hyx hrest;injection hyx with hy hx;subst hy hx;rw [lexLt_cons] at hR;simp only [Z0y] at hlen;obtain ⟨e,he,hiff⟩:=D1d A.in1 ⟨hp,g,d,tk,os⟩ a t c u;refine Z00 (he prog w _ _ ?_)
     cases e with
     | true =>
      rw [Z12 (hiff.mp rfl)] at hR
      wp_walk
      exact ⟨rfl,rfl,_,_,_,_,hrest,hvi',hwi',by lia,hR⟩
     | false =>
      rw [Z0t (λq=>absurd (hiff.mpr q) Z0v)] at hR;have hri:=D0o A.in1 ⟨hp,g,d,tk,os⟩ a t c u prog w
      wp_walk using hri
      exact ⟨_,rfl,by simpa using hR⟩
  case fin =>
   rintro ⟨b1,b2⟩ s' ⟨hb',rfl,vs,ws,ns',ms',hz,hvi,hwi,hlen,hR⟩;simp only at hb';subst hb'
   have hv:lexLt ns' ms'=decide (items.size<items2.size):=by
    cases hvi with
    | nil =>
     cases hwi with
     | nil =>
      simp only [Z2g] at hlen;rw [lexLt_nil_nil];exact (Z1j (by lia)).symm
     | cons c u hw =>
      simp only [Z2g,Z0y] at hlen;rw [B4n];exact (Z20 (by lia)).symm
    | cons a t hv =>
     cases hwi with
     | nil =>
      simp only [Z2g,Z0y] at hlen;rw [B4u];exact (Z1j (by lia)).symm
     | cons c u hw =>
      rw [List.zip_cons_cons] at hz;cases hz
   rw [hv] at hR
   wp_walk
   exact ⟨_,rfl,by simpa [Builtin.Tuple.tupleCompareSizes] using hR⟩
  case h =>
   exact ⟨rfl,rfl,items.toList,items2.toList,ns,ms,rfl,hi,hj,by lia,h⟩
end
section
variable {prog:Program} {w:World} {A:Around} {E:Value->Shared->Prop} {s:Shared}
theorem lt_tupInts {l b:Addr} {items items2:Array Value} {ns ms:List Int} {Q:Value->Shared->Prop} (hl:IsTup s.heap l items) (hb:IsTup s.heap b items2) (hi:IntsAre items.toList ns) (hj:IntsAre items2.toList ms)
  (hu:A.units<cLine) (h:Q (.bool (lexLt ns ms)) s):wpAny (model prog w) A (compareOp .Lt (.ref l) (.ref b)) Q E s:=by
 obtain ⟨⟨cls,dd,data,sl⟩,ho,hc,n,hd⟩:=id hl;obtain ⟨⟨cls2,dd2,data2,sl2⟩,ho2,hc2,n2,hd2⟩:=id hb;simp only at hc hd hc2 hd2;subst hc hd hc2 hd2
 exact richCompare_meets_room (op:= .Lt) ⟨_,ho,rfl⟩ ⟨_,ho2,rfl⟩ PySem.F.slot_tuple_lt PySem.F.entry_tuple_lt (PySem.F.args_tuple_lt_2 _ _) (B7h l b items items2 n n2 dd dd2 sl sl2 ns ms hi hj)
  ⟨ho,ho2,show Value.bool (lexLt ns ms)≠Value.notImplemented/\Q (.bool (lexLt ns ms)) s from ⟨(λx=>nomatch x),h⟩⟩ hu
theorem cat_tup {t b:Addr} {vs ws:List Value} {Q:Value->Shared->Prop} (ht:IsTup s.heap t vs.toArray) (hb:IsTup s.heap b ws.toArray) (hv:vs≠[])
  (h1:ws=[]->Q (.ref t) s) (h2:ws≠[]->Q (.ref s.heap.objs.size) { s with heap:=s.heap.push { cls:= .type "tuple",data:= .seq (vs++ws).toArray } })
  (hsz:vs.length+ws.length<=sizeLine):wpAny (model prog w) A (binaryOp .Add (.ref t) (.ref b)) Q E s:=by
 obtain ⟨⟨cls,dd,data,sl⟩,ho,hc,n,hd⟩:=id ht;obtain ⟨⟨cls2,dd2,data2,sl2⟩,ho2,hc2,n2,hd2⟩:=id hb;simp only at hc hd hc2 hd2;subst hc hd hc2 hd2;have e:vs.toArray++ws.toArray=(vs++ws).toArray:=by simp
 by_cases hw:ws=[]
 ·exact concat_meets ⟨_,ho,rfl⟩ ⟨_,ho2,rfl⟩ noFill_tuple_add seq_tuple_add PySem.F.slot_tuple_add PySem.F.entry_tuple_add (PySem.F.args_tuple_add_2 _ _)
   (tuple_addW1 t b vs.toArray ws.toArray n n2 dd dd2 sl sl2 (by simpa using hv) (by simp [hw])) ⟨ho,ho2,h1 hw⟩
 ·refine concat_meets ⟨_,ho,rfl⟩ ⟨_,ho2,rfl⟩ noFill_tuple_add seq_tuple_add PySem.F.slot_tuple_add PySem.F.entry_tuple_add (PySem.F.args_tuple_add_2 _ _)
   (tuple_addW2 t b vs.toArray ws.toArray n n2 dd dd2 sl sl2 (by simpa using hv) (by simpa using hw) (by rw [Z0g,Z0g];exact hsz)) ⟨ho,ho2,?_⟩
  rw [e];exact h2 hw
def sIx (n d:Nat):Option Int->Nat
 | none=>d
 | some v=>if v<0 then (v+(n:Int)).toNat else min v.toNat n
theorem sIx_nat (n d k:Nat):sIx n d (some (k:Int))=min k n:=by
 show (if (k:Int)<0 then ((k:Int)+(n:Int)).toNat else min (k:Int).toNat n)=min k n;rw [Z0t (by lia),Int.toNat_natCast]
theorem D8d (n d:Nat) (hd:d<=n) (o:Option Int):sIx n d o<=n:=by
 cases o with
 | none=>exact hd
 | some v =>
  show (if v<0 then (v+(n:Int)).toNat else min v.toNat n)<=n;by_cases hv:v<0
  ·rw [Z12 hv];lia
  ·rw [Z0t hv];exact Nat.min_le_right _ _
theorem C6b (v:Int) (n d:Nat):(if v<0 then max (v+(n:Int)) 0 else min v (n:Int))=((sIx n d (some v):Nat):Int):=by
 show (if v<0 then max (v+(n:Int)) 0 else min v (n:Int))=(((if v<0 then (v+(n:Int)).toNat else min v.toNat n):Nat):Int);by_cases hv:v<0
 ·simp only [Z12 hv];lia
 ·simp only [Z0t hv];lia
theorem C3l (lo hi:Option Int) (n:Nat):Builtin.Slice.sliceAdjust lo hi 1 (n:Int)=(((sIx n 0 lo:Nat):Int),((sIx n n hi:Nat):Int)):=by
 have h1:¬((1:Int)<0):=by lia
 unfold Builtin.Slice.sliceAdjust;simp only [h1,if_false];refine Prod.ext ?_ ?_
 ·cases lo with
  | none=>rfl
  | some v=>exact C6b v n 0
 ·cases hi with
  | none=>rfl
  | some v=>exact C6b v n n
theorem C3y (i j:Nat):Builtin.Slice.slicePlaces (i:Int) (j:Int) 1=j-i:=by
 unfold Builtin.Slice.slicePlaces;have h1:(1:Int)>0:=by lia
 simp only [h1,if_true,Int.ediv_one];split <;> lia
theorem B5o {v:Value} {o:Option Int} {Q:Option Int->Shared->Prop} (p:IsPart v o) (h:Q o s):wpAny (model prog w) A (Builtin.Slice.slicePartIndex v) Q E s:=by
 cases p with
 | none=>exact slicePart_none h
 | int i t=>exact slicePart_int h
theorem A7n {sl:Addr} {vl vu:Value} {lo hi:Option Int} {n:Nat} {Q:Int×Int×Nat->Shared->Prop} (hs:s.heap.IsSliceOf sl vl vu .none) (pl:IsPart vl lo) (pu:IsPart vu hi)
  (h:Q (((sIx n 0 lo:Nat):Int),1,sIx n n hi-sIx n 0 lo) s):wpAny (model prog w) A (Builtin.Slice.sliceApplied (.ref sl) (pure (n:Int))) Q E s:=by
 obtain ⟨os,hos,hcs,hds⟩:=id hs;unfold Builtin.Slice.sliceApplied Builtin.Slice.sliceFields;refine Z00 (Z00 (Z11 hos hds (x:=vl) rfl (Z00 (Z11 hos hds (x:=vu) rfl (Z00 (Z11 hos hds (x:= .none) rfl (Z04 ?_)))))));refine Z00 (slicePart_none ?_);show wpAny _ _ (if ((1:Int) == 0)=true then _ else _) _ _ s;rw [Z0t (by decide)];refine Z00 (B5o pl (Z00 (B5o pu (Z00 (Z04 ?_)))));show wpAny _ _ (match Builtin.Slice.sliceAdjust lo hi 1 (n:Int) with | (lo,hi)=>pure (lo,(1:Int),Builtin.Slice.slicePlaces lo hi 1)) _ _ s
 rw [C3l lo hi n];show wpAny _ _ (pure (((sIx n 0 lo:Nat):Int),(1:Int),Builtin.Slice.slicePlaces ((sIx n 0 lo:Nat):Int) ((sIx n n hi:Nat):Int) 1)) _ _ s;rw [C3y];exact Z04 h
theorem C9u (xs:Array Value) (i k:Nat):((List.range k).filterMap λ(m:Nat)=>xs[((i:Int)+(m:Int)*1).toNat]?).toArray=((xs.toList.drop i).take k).toArray:=by
 have e:(λ(m:Nat)=>xs[((i:Int)+(m:Int)*1).toNat]?)=λm=>xs[i+m]? :=by
  funext m;have:((i:Int)+(m:Int)*1).toNat=i+m:=by lia
  rw [this]
 rw [e];have:=pick_run xs i k;rw [List.filterMap_map] at this;have e2:((λx=>xs[x]?)∘λx=>i+x)=λm=>xs[i+m]? :=rfl;rw [e2] at this;rw [this]
theorem getItem_tuple_cut {t sl:Addr} {items:Array Value} {vl vu:Value} {lo hi:Option Int} {Q:Value->Shared->Prop} (ht:IsTup s.heap t items) (hs:s.heap.IsSliceOf sl vl vu .none) (pl:IsPart vl lo) (pu:IsPart vu hi)
  (hw:¬(sIx items.size 0 lo=0/\sIx items.size items.size hi=items.size))
  (h:Q (.ref s.heap.objs.size) { s with heap:=s.heap.push { cls:= .type "tuple",data:= .seq ((items.toList.drop (sIx items.size 0 lo)).take (sIx items.size items.size hi-sIx items.size 0 lo)).toArray } })
  (hsz:items.size<=sizeLine):wpAny (model prog w) A (getItem (.ref t) (.ref sl)) Q E s:=by
 have htake:sizeOk (.seq ((items.toList.drop (sIx items.size 0 lo)).take (sIx items.size items.size hi-sIx items.size 0 lo)).toArray):=by
  show ((items.toList.drop (sIx items.size 0 lo)).take (sIx items.size items.size hi-sIx items.size 0 lo)).toArray.size<=sizeLine;rw [Z0g,Z0x,Z19,Array.length_toList]
  lia
 have hj:sIx items.size items.size hi<=items.size:=D8d _ _ (Z09 _) hi;obtain ⟨os,hos,hcs,hds⟩:=id hs;have hTs:s.TypeIs (.ref sl) "slice":=⟨os,hos,hcs⟩;unfold getItem
 try with_reducible refine Z1w ?_
 first | refine Z00 (Z04 ?_) | skip
 refine Z00 (wpAny_sequenceKey ht.typeIs (by decide) ?_)
 refine Z00 (Z1b (name:=Str.ofString "__getitem__") ht.typeIs Z2k
  (Z1g Z2k ht.typeIs entry_tuple_getitem ?_ (args_tuple_getitem _ _)))
 show wpAny _ _ (Builtin.Tuple.tupleItemsOf (.ref t) >>= _) _ _ s;refine Z00 (tupleItemsOf_ ht ?_);refine Z00 (wpAny_typeOf hTs ?_);rw [Z12 (by decide)];refine Z00 (A7n hs pl pu ?_)
 have hno:¬((((sIx items.size 0 lo:Nat):Int) == 0&&(1:Int) == 1&&(sIx items.size items.size hi-sIx items.size 0 lo) == items.size)=true):=by
  intro q;rw [Z1x,Z1x] at q;have q1:((sIx items.size 0 lo:Nat):Int)=0:=eq_of_beq q.1.1;have q2:sIx items.size items.size hi-sIx items.size 0 lo=items.size:=eq_of_beq q.2;exact hw ⟨by lia,by lia⟩
 show wpAny _ _ (if (((sIx items.size 0 lo:Nat):Int) == 0&&(1:Int) == 1&&(sIx items.size items.size hi-sIx items.size 0 lo) == items.size)=true then _ else _) _ _ s;rw [Z0t hno,C9u]
 first
  | exact Z00 (m:=Builtin.Tuple.tupleExact _) (Z16 (Z04 ⟨_,rfl,Z04 h⟩) htake)
  | exact Z00 (m:=Builtin.Tuple.tupleExact _) (Z16 (Z00 (Z04 (Z04 ⟨_,rfl,Z04 h⟩))) htake)
  | exact Z00 (Z00 (m:=Builtin.Tuple.tupleExact _) (Z16 (Z04 (Z04 ⟨_,rfl,Z04 h⟩)) htake))
  | exact Z00 (Z00 (m:=Builtin.Tuple.tupleExact _) (Z16 (Z04 ⟨_,rfl,Z04 h⟩) htake))
end
end HT
namespace L2
open PySem PySem.Spec PyProof.Rows
abbrev TO:=St->Hp->(Option Int->Hp->Prop)->Prop
def PO (X:Cx) (e:Option Expr) (t:TO):Prop :=
 ∀(pins:List (Addr×Obj)) (s:Shared) (σ:St) (H:Hp) (Q:Option Int->Hp->Prop),Inv X pins σ H s->t σ H Q->
  wpAny (model X.prog X.w) X.A (evalPart e X.env) (λu s'=>∃o H',Inv X pins σ H' s'/\IsPart u o/\Q o H') X.xe s
def D6s:TO:=λ_ H Q=>Q none H
def E1p (t:TE):TO:=λσ H Q=>t σ H λx H1=>∃i,x= .int i/\Q (some i) H1
theorem B5m {ns:List Int}:∀{us:List Value},A2t (ns.map V.int) us->IntsAre us ns:=by
 induction ns with
 | nil=>intro us r;rw [List.map_nil] at r;cases r;exact .nil
 | cons n ns ih =>
  intro us r;rw [Z0p] at r
  cases r with
  | cons r1 r2 =>
   obtain ⟨t,e⟩:=r1;subst e;exact .cons n t (ih r2)
section
variable {X:Cx} {e:Expr} {te:TE} {lo hi:Option Expr} {tl th:TO} {pos p2:Pos}
theorem A5m:PO X none D6s:=by
 intro pins s σ H Q I h;rw [evalPart_none];exact Z04 ⟨none,H,I,.none,h⟩
theorem A5r (h:PE X e te):PO X (some e) (E1p te):=by
 intro pins s σ H Q I hw;rw [evalPart_some];refine thn (h pins s σ H _ I hw) ?_;rintro u s1 ⟨x,H1,I1,r1,q1⟩;obtain ⟨i,rfl,q⟩:=q1;obtain ⟨t,rfl⟩:=r1;exact ⟨some i,H1,I1,.int i t,q⟩
def SlR (X:Cx) (r:V->Option Int->Option Int->Hp->VK->Prop):Prop :=
 ∀(pins:List (Addr×Obj)) (s:Shared) (σ:St) (H:Hp) (x:V) (v vl vu:Value) (lo hi:Option Int) (sl:Addr) (Q:VK),Inv X pins σ H s->A3d x v->s.heap.IsSliceOf sl vl vu .none->IsPart vl lo->IsPart vu hi->r x lo hi H Q->
  ∃T id,typeLookup (.type T) "__getitem__"=pure (some (.builtin id))/\s.TypeIs v T/\wpAny (model X.prog X.w) X.A (getItem v (.ref sl)) (EP X pins σ Q) X.xe s
def tSl (r:V->Option Int->Option Int->Hp->VK->Prop) (te:TE) (tl th:TO):TE:=λσ H Q=>te σ H λx H1=>tl σ H1 λl H2=>th σ H2 λu H3=>r x l u H3 Q
theorem A4b {r:V->Option Int->Option Int->Hp->VK->Prop} (hr:SlR X r) (he:PE X e te) (hl:PO X lo tl) (hu:PO X hi th):PE X (.Subscript e (.Slice lo hi none p2) pos) (tSl r te tl th):=by
 intro pins s σ H Q I h;refine Subscript_ (thn (he pins s σ H _ I h) ?_);rintro v s1 ⟨x,H1,I1,r1,q1⟩;refine wpAny_Slice (thn (hl pins s1 σ H1 _ I1 q1) ?_);rintro vl s2 ⟨l,H2,I2,pl,q2⟩;refine thn (hu pins s2 σ H2 _ I2 q2) ?_;rintro vu s3 ⟨u,H3,I3,pu,q3⟩;rw [evalPart_none];refine Z04 ?_;have I4:Inv X pins σ H3 { s3 with heap:=s3.heap.push { cls:= .type "slice",data:= .fields #[vl,vu,.none] } }:=I3.kept (t':=s3.toks) λb ob q=>Z01 _ q
 obtain ⟨T,id,hT,ht,hg⟩:=hr pins { s3 with heap:=s3.heap.push { cls:= .type "slice",data:= .fields #[vl,vu,.none] } } σ H3 x v vl vu l u s3.heap.objs.size Q I4 r1 (Heap.IsSliceOf.new ..) pl pu q3;show wpAny (model X.prog X.w) X.A (subscriptTail e (.Slice lo hi none p2) v (.ref s3.heap.objs.size)) (EP X pins σ Q) X.xe { s3 with heap:=s3.heap.push { cls:= .type "slice",data:= .fields #[vl,vu,.none] } };exact tail_any (ops:=[.ref s3.heap.objs.size,v]) ht hT hg (by with_unfolding_all rfl)
def B7s (xs:List V) (lo hi:Option Int):List V:=(xs.drop (HT.sIx xs.length 0 lo)).take (HT.sIx xs.length xs.length hi-HT.sIx xs.length 0 lo)
theorem B4l (xs:List V) (lo hi:Option Int):(B7s xs lo hi).length<=xs.length:=by
 unfold B7s;rw [Z0x,Z19]
 lia
def rLtT (K:Frag):R2:=λx y H Q=>∃a b ns ms,x= .ref a/\y= .ref b/\SqT K H a (ns.map V.int)/\SqT K H b (ms.map V.int)/\Q (.bl (HT.lexLt ns ms)) H
theorem D9l (hu:X.A.units<cLine):OpR X (compareOp .Lt) (rLtT X.K):=by
 intro pins s σ H x y v u Q I rx ry h;obtain ⟨a,b,ns,ms,rfl,rfl,ha,hb,q⟩:=h;cases rx;cases ry;obtain ⟨its,r1,p1,_⟩:=I.tuple ha;obtain ⟨its2,r2,p2,_⟩:=I.tuple hb;have i1:IntsAre its.toArray.toList ns:=B5m r1;have i2:IntsAre its2.toArray.toList ms:=B5m r2;exact HT.lt_tupInts p1 p2 i1 i2 hu ⟨.bl (HT.lexLt ns ms),H,I,rfl,q⟩
def E2i (K:Frag):R2:=λx y H Q=>∃a b xs ys,x= .ref a/\y= .ref b/\SqT K H a xs/\SqT K H b ys/\xs≠[]/\xs.length+ys.length<=sizeLine/\
 (ys=[]->Q (.ref a) H)/\(ys≠[]->∀p,H p=none->Q (.ref p) (upd H p (.tup (xs++ys))))
theorem A2t.nil_iff {xs:List V} {us:List Value} (r:A2t xs us):us=[]↔xs=[]:=by
 cases r with
 | nil=>simp
 | cons _ _=>simp
theorem D5a:OpR X (binaryOp .Add) (E2i X.K):=by
 intro pins s σ H x y v u Q I rx ry h;obtain ⟨a,b,xs,ys,rfl,rfl,ha,hb,hx,hz,q1,q2⟩:=h;cases rx;cases ry;obtain ⟨its,r1,p1,_⟩:=I.tuple ha;obtain ⟨its2,r2,p2,_⟩:=I.tuple hb;refine HT.cat_tup p1 p2 (λz=>hx (r1.nil_iff.mp z)) (λz=>⟨.ref a,H,I,rfl,q1 (r2.nil_iff.mp z)⟩) (λz=> ?_) (by rw [<-r1.length,<-r2.length];exact hz);refine ⟨.ref s.heap.objs.size,_,I.laid (t':=s.toks) (o:= .tup (xs++ys)) (λb ob q=>Z01 _ q) (Z09 _) ?_,rfl,q2 (λw=>z (r2.nil_iff.mpr w)) _ (I.hok.fresh (Z09 _))⟩;exact ⟨by rw [Z06];exact hz,_,r1.append r2,IsTup.new _ _⟩
end
def ixN (n:Nat) (i:Int):Option Nat:=if 0<=i then (if i<n then some i.toNat else none) else if -(n:Int)<=i then some (i+n).toNat else none
def atI {α:Type} (xs:List α) (i:Int):Option α:=(ixN xs.length i).bind λj=>xs[j]?
theorem D5g {n:Nat} {i:Int} {j:Nat} (h:ixN n i=some j):seqIndex? i n=some j/\j<n/\-(n:Int)<=i/\i<n:=by
 unfold ixN at h;by_cases h0:0<=i
 ·rw [Z12 h0] at h;by_cases h1:i<n
  ·rw [Z12 h1] at h;have e:i.toNat=j:=Z1a h;exact ⟨by rw [seqIndex_of h0 h1,e],by lia,by lia,h1⟩
  ·rw [Z0t h1] at h;cases h
 ·rw [Z0t h0] at h;by_cases h1: -(n:Int)<=i
  ·rw [Z12 h1] at h;have e:(i+n).toNat=j:=Z1a h;exact ⟨by rw [seqIndex_neg (by lia) h1,e],by lia,h1,by lia⟩
  ·rw [Z0t h1] at h;cases h
theorem C5d {α:Type} {xs:List α} {i:Int} {v:α} (h:atI xs i=some v):∃j,seqIndex? i xs.length=some j/\xs[j]? =some v/\j<xs.length/\-(xs.length:Int)<=i/\i<xs.length:=by
 unfold atI at h
 cases e:ixN xs.length i with
 | none=>rw [e] at h;cases h
 | some j =>
  rw [e] at h;obtain ⟨h1,h2,h3,h4⟩:=D5g e;exact ⟨j,h1,h,h2,h3,h4⟩
theorem A4c {α:Type} {xs:List α} {j:Nat} {v:α} (h:xs[j]? =some v):atI xs (j:Int)=some v:=by
 have hj:j<xs.length:=(Z03.mp h).1
 have e:ixN xs.length (j:Int)=some j:=by
  unfold ixN;rw [Z12 (by lia),Z12 (by lia)];simp
 unfold atI;rw [e];exact h
def D6n (b:Expr):Prop:=∀o i,subscripted b false o i=operate [o,i] (getItem o i)
def IxR (X:Cx) (r:R2):Prop :=
 ∀(value slice:Expr) (pins:List (Addr×Obj)) (s:Shared) (σ:St) (H:Hp) (x y:V) (v u:Value) (Q:VK),Inv X pins σ H s->A3d x v->A3d y u->r x y H Q->
  subscripted slice false v u=operate [v,u] (getItem v u)->wpAny (model X.prog X.w) X.A (subscriptTail value slice v u) (EP X pins σ Q) X.xe s
def MtR (X:Cx) (id:String) (r:V->List V->Hp->VK->Prop):Prop :=
 ∀(pins:List (Addr×Obj)) (s:Shared) (σ:St) (H:Hp) (x:V) (xs:List V) (v:Value) (us:List Value) (Q:VK),Inv X pins σ H s->A3d x v->A2t xs us->r x xs H Q->
  wpAny (model X.prog X.w) X.A (call (.builtin id) (v::us)) (EP X pins σ Q) X.xe s
section
variable {X:Cx} {a b:Expr} {ta tb:TE} {pos:Pos}
theorem A3y {r:R2} (hr:IxR X r) (ha:PE X a ta) (hb:PE X b tb) (hs:D6n b):PE X (.Subscript a b pos) (tOp r ta tb):=by
 intro pins s σ H Q I h;exact Subscript_ (E1b ha hb I h λv u s2 x y H2 I2 rx ry q=>hr a b pins s2 σ H2 x y v u Q I2 rx ry q (hs _ _))
def rIxL (K:Frag):R2:=λx y H Q=>∃p xs i v,x= .ref p/\y= .int i/\SqL K H p xs/\atI xs i=some v/\Q v H
def E3e (K:Frag):R2:=λx y H Q=>∃p xs i v,x= .ref p/\y= .int i/\SqT K H p xs/\atI xs i=some v/\Q v H
theorem A3b:IxR X (rIxL X.K):=by
 intro value slice pins s σ H x y v u Q I rx ry h hs;obtain ⟨p,xs,i,z,rfl,rfl,hq,he,q⟩:=h;cases rx;obtain ⟨t,rfl⟩:=ry;obtain ⟨its,r,pl,hz⟩:=I.list hq;obtain ⟨j,h1,h2,h3,h4,h5⟩:=C5d he;obtain ⟨w,ew,rw'⟩:=r.get h2;have hl:=r.length;have hn:=C2f;have fin:EP X pins σ Q w s:=⟨z,H,I,rw',q⟩;by_cases h0:0<=i
 ·have hj:i.toNat=j:=by
   rw [seqIndex_of h0 h5] at h1;exact Z1a h1
  exact item_listR pl.isList h0 (by lia) (by rw [hj];simpa using ew) fin hs
 ·have hj:(i+(its.toArray.size:Int)).toNat=j:=by
   rw [seqIndex_neg (by lia) h4] at h1;rw [Z0g,<-hl];exact Z1a h1
  exact subscriptTail_builtinR (x:=w) pl.isList.typeIs slot_list_getitem.lookup
   (wpAny_getItem_list_neg (Q:=λr s'=>r=w/\EP X pins σ Q r s') pl.isList (by lia) (by rw [Z0g] <;> lia) (by lia) (by rw [hj];simpa using ew) ⟨rfl,fin⟩) hs
theorem B5y:IxR X (E3e X.K):=by
 intro value slice pins s σ H x y v u Q I rx ry h hs;obtain ⟨p,xs,i,z,rfl,rfl,hq,he,q⟩:=h;cases rx;obtain ⟨t,rfl⟩:=ry;obtain ⟨its,r,pl,hz⟩:=I.tuple hq;obtain ⟨j,h1,h2,h3,h4,h5⟩:=C5d he;obtain ⟨w,ew,rw'⟩:=r.get h2;have hl:=r.length;have hn:=C2f;have fin:EP X pins σ Q w s:=⟨z,H,I,rw',q⟩
 exact subscriptTail_builtinR (x:=w) pl.typeIs slot_tuple_getitem.lookup
  (getItem_tuple (j:=j) (Q:=λr s'=>r=w/\EP X pins σ Q r s') pl (by lia) (by lia) (by rw [Z0g,<-hl];exact h1) (by simpa using ew) ⟨rfl,fin⟩) hs
theorem B9n (lo hi:Option Int) (n:Nat):(sliceBounds lo hi none n).1=((HT.sIx n 0 lo:Nat):Int)/\(sliceBounds lo hi none n).2.1=((HT.sIx n n hi:Nat):Int)/\(sliceBounds lo hi none n).2.2=1:=by
 refine ⟨?_,?_,rfl⟩
 ·cases lo with
  | none=>simp [sliceBounds,HT.sIx]
  | some i =>
   simp only [sliceBounds,HT.sIx,Option.getD_none,show (1:Int)>0 by decide,if_true];by_cases h:i<0
   ·simp only [h,if_true] <;> lia
   ·simp only [h,if_false] <;> lia
 ·cases hi with
  | none=>simp [sliceBounds,HT.sIx]
  | some i =>
   simp only [sliceBounds,HT.sIx,Option.getD_none,show (1:Int)>0 by decide,if_true];by_cases h:i<0
   ·simp only [h,if_true] <;> lia
   ·simp only [h,if_false] <;> lia
theorem B6k (its:List Value) (lo hi:Option Int):slicePick its.toArray lo hi none=((its.drop (HT.sIx its.length 0 lo)).take (HT.sIx its.length its.length hi-HT.sIx its.length 0 lo)).toArray:=by
 obtain ⟨h1,h2,h3⟩:=B9n lo hi its.toArray.size;unfold slicePick;rw [h1,h2,h3];simp only [sliceRange_one,pick_run,Z0g] <;> rfl
def rSlL (K:Frag):V->Option Int->Option Int->Hp->VK->Prop:=λx lo hi H Q=>∃a xs,x= .ref a/\SqL K H a xs/\∀p,H p=none->Q (.ref p) (upd H p (.lst (B7s xs lo hi)))
theorem A6j:SlR X (rSlL X.K):=by
 intro pins s σ H x v vl vu lo hi sl Q I rx hs pl pu h;obtain ⟨a,xs,rfl,hx,q⟩:=h;cases rx;obtain ⟨its,r,ht,hz⟩:=I.list hx;have hlen:=r.length;refine ⟨"list",_,slot_list_getitem.lookup,ht.isList.typeIs,?_⟩;refine wpAny_getItem_list_slice ht.isList hs pl pu .none (by simp) ?_ (by rw [Z0g] <;> lia);rw [B6k,<-hlen];refine ⟨.ref s.heap.objs.size,_,I.laid (t':=s.toks) (o:= .lst (B7s xs lo hi)) (λb ob q=>Z01 _ q) (Z09 _) ?_,rfl,q _ (I.hok.fresh (Z09 _))⟩;exact ⟨Z1n (B4l xs lo hi) hz,_,0,(r.drop (HT.sIx xs.length 0 lo)).take (HT.sIx xs.length xs.length hi-HT.sIx xs.length 0 lo),Z0c _ rfl⟩
def B6j:V->Bool
 | .non=>true
 | .bl _=>true
 | .int _=>true
 | .str _=>true
 | _=>false
noncomputable def eqV:V->V->Bool
 | .non,.non=>true
 | .bl a,.bl b=>a == b
 | .bl a,.int b=>(if a then 1 else 0) == b
 | .int a,.bl b=>a == (if b then 1 else 0)
 | .int a,.int b=>a == b
 | .str a,.str b=>a == b
 | _,_=>false
theorem D9h {A:Around} {s:Shared} {y x:V} {u v:Value} (ry:A3d y u) (rx:A3d x v) (fy:B6j y=true) (fx:B6j x=true):SeqAt.EqAt A s u v (eqV y x):=by
 cases y with
 | non =>
  cases ry
  cases x with
  | non=>cases rx;exact SeqAt.EqAt.same _
  | bl b=>cases rx;exact SeqAt.EqAt.none_bool b
  | int b=>obtain ⟨t,rfl⟩:=rx;exact SeqAt.EqAt.none_int b t
  | str b=>obtain ⟨t,rfl⟩:=rx;exact SeqAt.EqAt.none_str b t
  | _=>exact absurd (show false=true from fx) Z0v
 | bl a =>
  cases ry
  cases x with
  | non=>cases rx;exact SeqAt.EqAt.bool_none a
  | bl b=>cases rx;exact SeqAt.EqAt.bool_bool a b
  | int b=>obtain ⟨t,rfl⟩:=rx;exact SeqAt.EqAt.bool_int a b t
  | str b=>obtain ⟨t,rfl⟩:=rx;exact SeqAt.EqAt.bool_str a b t
  | _=>exact absurd (show false=true from fx) Z0v
 | int a =>
  obtain ⟨t',rfl⟩:=ry
  cases x with
  | non=>cases rx;exact SeqAt.EqAt.int_none a t'
  | bl b=>cases rx;exact SeqAt.EqAt.int_bool a t' b
  | int b=>obtain ⟨t,rfl⟩:=rx;exact SeqAt.EqAt.int_int a t' b t
  | str b=>obtain ⟨t,rfl⟩:=rx;exact SeqAt.EqAt.int_str a t' b t
  | _=>exact absurd (show false=true from fx) Z0v
 | str a =>
  obtain ⟨t',rfl⟩:=ry
  cases x with
  | non=>cases rx;exact SeqAt.EqAt.str_none a t'
  | bl b=>cases rx;exact SeqAt.EqAt.str_bool a t' b
  | int b=>obtain ⟨t,rfl⟩:=rx;exact SeqAt.EqAt.str_int a t' b t
  | str b=>obtain ⟨t,rfl⟩:=rx;exact SeqAt.EqAt.str_str a t' b t
  | _=>exact absurd (show false=true from fx) Z0v
 | _=>exact absurd (show false=true from fy) Z0v
def eqU (x:V) (u:Value):Bool:=match u with
 | .none=>eqV .non x
 | .bool b=>eqV (.bl b) x
 | .int i _=>eqV (.int i) x
 | .str z _=>eqV (.str z) x
 | _=>false
theorem D2d {x y:V} {u:Value} (r:A3d y u) (f:B6j y=true):eqU x u=eqV y x:=by
 cases y with
 | non=>cases r;rfl
 | bl b=>cases r;rfl
 | int i=>obtain ⟨t,rfl⟩:=r;rfl
 | str z=>obtain ⟨t,rfl⟩:=r;rfl
 | _=>exact absurd (show false=true from f) Z0v
theorem B4i {x:V}:∀{xs:List V} {us:List Value},A2t xs us->xs.all B6j=true->us.any (eqU x)=xs.any λy=>eqV y x
 | _,_,.nil,_=>rfl
 | y::xs,u::us,.cons r t,f=>by
  rw [List.all_cons,Z1x] at f;rw [List.any_cons,List.any_cons,D2d r f.1,B4i t f.2]
theorem B0t {A:Around} {s:Shared} {x:V} {v:Value} (rx:A3d x v) (fx:B6j x=true):∀{xs:List V} {us:List Value},A2t xs us->xs.all B6j=true->∀u∈us,SeqAt.EqAt A s u v (eqU x u)
 | _,_,.nil,_=>λu hu=>by cases hu
 | y::xs,u::us,.cons r t,f=>λu' hu=>by
  rw [List.all_cons,Z1x] at f;rcases Z0e.mp hu with rfl | hu
  ·rw [D2d r f.1];exact D9h r rx f.1 fx
  ·exact B0t rx fx t f.2 u' hu
def inV (x:V) (xs:List V):Bool:=xs.any λy=>eqV y x
def rIn (K:Frag) (neg:Bool):R2:=λx y H Q=>∃p xs,y= .ref p/\(SqL K H p xs\/SqT K H p xs)/\B6j x=true/\xs.all B6j=true/\Q (.bl (if neg then !inV x xs else inV x xs)) H
theorem B0i:OpR X (compareOp .In) (rIn X.K false):=by
 intro pins s σ H x y v u Q I rx ry h;obtain ⟨p,xs,rfl,hq,fx,fs,q⟩:=h;cases ry;rcases hq with hq | hq
 ·obtain ⟨its,r,pl,hz⟩:=I.list hq;refine SeqAt.in_listAt (eqU x) pl.isList (λw hw=>B0t rx fx r fs w (by simpa using hw)) ⟨.bl _,H,I,rfl,?_⟩;rw [show its.toArray.any (eqU x)=its.any (eqU x) by simp,B4i r fs];exact q
 ·obtain ⟨its,r,pl,hz⟩:=I.tuple hq;refine SeqAt.in_tupleAt (eqU x) pl (λw hw=>B0t rx fx r fs w (by simpa using hw)) ⟨.bl _,H,I,rfl,?_⟩;rw [show its.toArray.any (eqU x)=its.any (eqU x) by simp,B4i r fs];exact q
theorem A3f:OpR X (compareOp .NotIn) (rIn X.K true):=by
 intro pins s σ H x y v u Q I rx ry h;obtain ⟨p,xs,rfl,hq,fx,fs,q⟩:=h;cases ry;rcases hq with hq | hq
 ·obtain ⟨its,r,pl,hz⟩:=I.list hq;refine SeqAt.notIn_listAt (eqU x) pl.isList (λw hw=>B0t rx fx r fs w (by simpa using hw)) ⟨.bl _,H,I,rfl,?_⟩;rw [show its.toArray.any (eqU x)=its.any (eqU x) by simp,B4i r fs];exact q
 ·obtain ⟨its,r,pl,hz⟩:=I.tuple hq;refine SeqAt.notIn_tupleAt (eqU x) pl (λw hw=>B0t rx fx r fs w (by simpa using hw)) ⟨.bl _,H,I,rfl,?_⟩;rw [show its.toArray.any (eqU x)=its.any (eqU x) by simp,B4i r fs];exact q
theorem A1d:B2b X (.builtin "len") (λxs H Q=>∃p ys,xs=[.ref p]/\(SqL X.K H p ys\/SqT X.K H p ys)/\Q (.int ys.length) H):=by
 intro pins s σ H xs us Q I r h;obtain ⟨p,ys,rfl,hq,q⟩:=h;obtain ⟨u,rfl,rx⟩:=B5f r;cases rx;have hn:=C2f;rcases hq with hq | hq
 ·obtain ⟨its,r',pl,hz⟩:=I.list hq;have hlen:=r'.length;exact Calls.call_len_list pl.isList (by simp only [Z0g] <;> lia) ⟨.int ys.length,H,I.tok _,⟨s.toks+1,by rw [Z0g,hlen]⟩,q⟩
 ·obtain ⟨its,r',pl,hz⟩:=I.tuple hq;have hlen:=r'.length;exact len_tuple pl (by simp only [Z0g] <;> lia) ⟨.int ys.length,H,I.tok _,⟨s.toks+1,by rw [Z0g,hlen]⟩,q⟩
theorem B8s:B2b X (.builtin "len") (λxs H Q=>∃z,xs=[.str z]/\z.length<=sizeLine/\Q (.int z.length) H):=by
 intro pins s σ H xs us Q I r h;obtain ⟨z,rfl,hz,q⟩:=h;obtain ⟨u,rfl,t,rfl⟩:=B5f r;have hn:=C2f;exact len_str (by lia) ⟨.int z.length,H,I.tok _,⟨_,rfl⟩,q⟩
theorem B2i:B2b X (.type "list") (λxs H Q=>∃p ys,xs=[.ref p]/\(SqL X.K H p ys\/SqT X.K H p ys)/\∀l,H l=none->Q (.ref l) (upd H l (.lst ys))):=by
 intro pins s σ H xs us Q I r h;obtain ⟨p,ys,rfl,hq,q⟩:=h;obtain ⟨u,rfl,rx⟩:=B5f r;cases rx
 have fin:∀(its:List Value),A2t ys its->ys.length<=sizeLine->∀(h':Heap) (c':Nat),(∀b o',s.heap.get? b=some o'->h'.get? b=some o')->
   h'.get? s.heap.objs.size=some { cls:= .type "list",dict:=none,data:= .seq its.toArray c',slots:= #[] }->EP X pins σ Q (.ref s.heap.objs.size) { s with heap:=h' }:=λits r' hz h' c' kp e =>
  ⟨.ref s.heap.objs.size,_,I.laid (t':=s.toks) kp (Z09 _) (show A2a X.prog X.w _ h' _ (.lst ys) from ⟨hz,its,c',r',e⟩),rfl,q _ (I.hok.fresh (Z09 _))⟩
 rcases hq with hq | hq
 ·obtain ⟨its,r',pl,hz⟩:=I.list hq;have hlen:=r'.length;obtain ⟨o,ho,hc,n,hd⟩:=pl.isList;exact call_list_seq p (.inl rfl) ho hc hd (λh' c' kp e=>fin its r' hz h' c' kp e) (by simp only [Z0g] <;> lia)
 ·obtain ⟨its,r',pl,hz⟩:=I.tuple hq;have hlen:=r'.length;obtain ⟨o,ho,hc,n,hd⟩:=pl;exact call_list_seq p (.inr rfl) ho hc hd (λh' c' kp e=>fin its r' hz h' c' kp e) (by simp only [Z0g] <;> lia)
theorem A4f:B2b X (.type "tuple") (λxs H Q=>∃p ys,xs=[.ref p]/\((SqL X.K H p ys/\∀l,H l=none->Q (.ref l) (upd H l (.tup ys)))\/(SqT X.K H p ys/\Q (.ref p) H))):=by
 intro pins s σ H xs us Q I r h;obtain ⟨p,ys,rfl,h⟩:=h;obtain ⟨u,rfl,rx⟩:=B5f r;cases rx;rcases h with ⟨hq,q⟩ | ⟨hq,q⟩
 ·obtain ⟨its,r',pl,hz⟩:=I.list hq;have hlen:=r'.length;refine call_tuple_list pl.isList (λh' kp=> ?_) (by simp only [Z0g] <;> lia);have I1:Inv X pins σ H { s with heap:=h' }:=I.kept (t':=s.toks) kp
  have I2:Inv X pins σ (upd H h'.objs.size (.tup ys)) { s with heap:=h'.push { cls:= .type "tuple",data:= .seq its.toArray } } :=
   I1.laid (t':=s.toks) (λb o e=>Z01 _ e) (Z09 _) (show A2a X.prog X.w _ _ _ (.tup ys) from ⟨hz,its,r',IsTup.new _ _⟩)
  exact ⟨.ref h'.objs.size,_,I2,rfl,q _ (I1.hok.fresh (Z09 _))⟩
 ·obtain ⟨its,r',pl,hz⟩:=I.tuple hq;exact call_tuple_same pl ⟨.ref p,H,I,rfl,q⟩
def tyV (K:Frag) (T:String) (x:V) (H:Hp):Prop:=match x with
 | .str _=>T="str"
 | .int _=>T="int"
 | .ref p=>(T="list"/\∃xs,SqL K H p xs)\/(T="tuple"/\∃o,K.lookup p=some o/\o.cls= .type "tuple"/\o.dict=none)\/
   (T="dict"/\((∃kvs,H p=some (.dK kvs))\/∃kvs,H p=some (.dT kvs)))\/(T="set"/\∃S n,H p=some (.set S n))
 | _=>False
theorem D3a {pins:List (Addr×Obj)} {σ:St} {H:Hp} {s:Shared} {T:String} {x:V} {v:Value} (I:Inv X pins σ H s) (r:A3d x v) (ty:tyV X.K T x H) :
  s.TypeIs v T/\∀a,v= .ref a->∃ob,s.heap.get? a=some ob/\ob.dict=none:=by
 cases x with
 | str z =>
  obtain ⟨t,rfl⟩:=r;cases (show T="str" from ty);exact ⟨typeIs_str s z t,λ_ e=>nomatch e⟩
 | int i =>
  obtain ⟨t,rfl⟩:=r;cases (show T="int" from ty);exact ⟨typeIs_int s i t,λ_ e=>nomatch e⟩
 | ref p =>
  cases r
  rcases ty with ⟨rfl,xs,hq⟩ | ⟨rfl,o,hk,hc,hd⟩ | ⟨rfl,hk⟩ | ⟨rfl,S,n,hk⟩
  ·obtain ⟨its,_,pl,_⟩:=I.list hq;refine ⟨pl.isList.typeIs,λa e=> ?_⟩;cases e;obtain ⟨o,n,e,c,hd,_⟩:=pl;exact ⟨o,e,hd⟩
  ·refine ⟨⟨o,I.kIn p o hk,hc⟩,λa e=> ?_⟩;cases e;exact ⟨o,I.kIn _ o hk,hd⟩
  ·have z:∃o,s.heap.get? p=some o/\o.ExactDict:=by
    rcases hk with ⟨kvs,hk⟩ | ⟨kvs,hk⟩
    ·obtain ⟨_,_,_,_,o,_,_,e,ex,_⟩:=I.hok p _ hk;exact ⟨o,e,ex⟩
    ·obtain ⟨_,_,_,_,o,_,_,e,ex,_⟩:=I.hok p _ hk;exact ⟨o,e,ex⟩
   obtain ⟨o,e,ex⟩:=z;refine ⟨⟨o,e,ex.1⟩,λa e2=> ?_⟩;cases e2;exact ⟨o,e,ex.2.1⟩
  ·obtain ⟨o,_,_,_,e,ex,_⟩:=I.hok p _ hk;refine ⟨⟨o,e,ex.1⟩,λa e2=> ?_⟩;cases e2;exact ⟨o,e,ex.2.1⟩
 | _=>exact False.elim ty
def tBM0 (K:Frag) (T:String) (r:V->List V->Hp->VK->Prop) (to:TE):TE:=λσ H Q=>to σ H λx H1=>tyV K T x H1/\r x [] H1 Q
def tBM (K:Frag) (T:String) (r:V->List V->Hp->VK->Prop) (to:TE) (t:TA):TE:=λσ H Q=>to σ H λx H1=>tyV K T x H1/\t σ H1 λxs H2=>r x xs H2 Q
variable {o e:Expr} {es:List Expr} {to:TE} {t:TA} {name:Str} {apos cpos:Pos} {T id:String} {r:V->List V->Hp->VK->Prop}
theorem D2m (pa:PlainAttrs T) (slot:Slot T name id) (hty:typeOf (.builtin id)=pure (.type "method_descriptor")) (hm:MtR X id r) (ho:PE X o to)
  (hbase:attributeBase o name X.env (eval o X.env)=eval o X.env:=by rfl) (hline:(apos.endLine == cpos.line)=true:=by rfl):PE X (.Call (.Attribute o name apos) [] [] cpos) (tBM0 X.K T r to):=by
 intro pins s σ H Q I h;refine wpAny_Call_method0_late hbase hline (thn (ho pins s σ H _ I h) ?_);rintro v s1 ⟨x,H1,I1,r1,ty,q1⟩;obtain ⟨h1,h2⟩:=D3a I1 r1 ty;exact ⟨T,id,pa,slot,hty,h1,h2,Calls.callWith_builtin rfl (PySem.evalArgs_none (hm pins s1 σ H1 x [] v [] Q I1 r1 .nil q1))⟩
theorem B5j (pa:PlainAttrs T) (slot:Slot T name id) (hty:typeOf (.builtin id)=pure (.type "method_descriptor")) (hm:MtR X id r) (ho:PE X o to) (ha:PA X (e::es) t)
  (hbase:attributeBase o name X.env (eval o X.env)=eval o X.env:=by rfl)
  (hfew:((backTo cpos (starEach (e::es) X.env)).all (λx=> !x.1)&&(backToKw cpos (keywordEach [] X.env)).all (λx=>x.1.isSome)
   && decide ((e::es).length+([]:List Keyword).length+(if ([]:List Keyword).isEmpty then 0 else 1)<30))=true:=by rfl)
  (hline:(apos.endLine == cpos.line)=true:=by rfl) (hs:starEach (e::es) X.env=(false,eval e X.env)::starEach es X.env:=by rfl) (hplain:(backTo cpos (starEach es X.env)).any (·.1)=false:=by rfl) :
  PE X (.Call (.Attribute o name apos) (e::es) [] cpos) (tBM X.K T r to t):=by
 intro pins s σ H Q I h;refine wpAny_Call_method_late hbase hfew hline rfl (thn (ho pins s σ H _ I h) ?_);rintro v s1 ⟨x,H1,I1,r1,ty,q1⟩;obtain ⟨h1,h2⟩:=D3a I1 r1 ty;refine ⟨T,id,pa,slot,hty,h1,h2,?_⟩;have hA:=ha cpos pins s1 σ H1 _ I1 q1;rw [hs] at hA⊢;refine Calls.callWith_builtin (by show (false||(backTo cpos (starEach es X.env)).any (·.1))=false;rw [hplain] <;> rfl) (Calls.evalArgs_plain ?_);exact thn hA (by rintro us s2 ⟨vs,H2,I2,r2,q2⟩;exact hm pins s2 σ H2 x vs v us Q I2 r1 r2 q2)
end
def MtM (X:Cx) (id:String) (r:V->List V->Hp->VK->Prop):Prop :=
 ∀(pins:List (Addr×Obj)) (s:Shared) (σ:St) (H:Hp) (x:V) (xs:List V) (v:Value) (us:List Value) (Q:VK),Inv X pins σ H s->A3d x v->A2t xs us->r x xs H Q->
  wpAny (model X.prog X.w) X.A (call (.builtin id) (v::us)) (EP X pins σ Q) X.xe s
theorem A2t.one:∀{x:V} {us:List Value},A2t [x] us->∃u,us=[u]/\A3d x u
 | _,_,.cons r .nil=>⟨_,rfl,r⟩
theorem A2t.zero:∀{us:List Value},A2t [] us->us=[]
 | _,.nil=>rfl
theorem A2t.dropLast {xs:List V} {us:List Value} (h:A2t xs us):A2t xs.dropLast us.dropLast:=by
 induction h with
 | nil=>exact .nil
 | cons r t ih =>
  cases t with
  | nil=>exact .nil
  | cons q t'=>exact .cons r ih
theorem C3u {α:Type} (l:List α):l.eraseIdx (l.length-1)=l.dropLast:=by
 induction l with
 | nil=>rfl
 | cons a r ih =>
  cases r with
  | nil=>rfl
  | cons b r =>
   have e:(a::b::r).length-1=((b::r).length-1)+1:=by
    have h1:(a::b::r).length=r.length+2:=rfl;have h2:(b::r).length=r.length+1:=rfl
    lia
   rw [e,List.eraseIdx_cons_succ,ih]
   all_goals rfl
section
variable {X:Cx} {pins:List (Addr×Obj)} {σ:St} {H:Hp} {s:Shared} {l b:Addr} {xs ys zs:List V}
theorem Inv.lset {its its':List Value} {n:Nat} {f:Array Value->Array Value} {t':Nat} (I:Inv X pins σ H s) (hH:H l=some (.lst xs))
  (e:s.heap.get? l=some { cls:= .type "list",data:= .seq its.toArray n }) (hf:f its.toArray=its'.toArray) (hv:A2t ys its') (hz:ys.length<=sizeLine) :
  Inv X pins σ (upd H l (.lst ys)) { s with heap:=s.heap.update l (Obj.mapSeq f),toks:=t' }:=by
 have q:=PySem.IsL.update e f;rw [hf] at q;refine I.write (x:=l) (e:=l) (by rw [hH];exact trivial) (.inl rfl) (λb' u hb hu=>(Z1d s.heap (Obj.mapSeq f) (Ne.symm hb)).trans hu) ⟨_,q⟩ ?_;exact ⟨hz,its',_,hv,q⟩
theorem Inv.lnew {its:List Value} {t':Nat} (I:Inv X pins σ H s) (hv:A2t ys its) (hz:ys.length<=sizeLine) :
  Inv X pins σ (upd H s.heap.objs.size (.lst ys)) { s with heap:=s.heap.push { cls:= .type "list",data:= .seq its.toArray },toks:=t' } :=
 I.laid (λ_ _ q=>Z01 _ q) (Z09 _) ⟨hz,its,0,hv,Z0c _ rfl⟩
theorem Inv.fresh (I:Inv X pins σ H s):H s.heap.objs.size=none:=I.hok.fresh (Z09 _)
theorem Inv.lstM (I:Inv X pins σ H s) (hH:H l=some (.lst xs)):xs.length<=sizeLine/\∃(its:List Value) (n:Nat),A2t xs its/\xs.length=its.length/\s.heap.get? l=some { cls:= .type "list",data:= .seq its.toArray n }:=by
 obtain ⟨z,its,n,r,e⟩:=I.hok l _ hH;exact ⟨z,its,n,r,r.length,e⟩
theorem C9a {n:Nat} (h:n<=sizeLine):Builtin.List.listTooLong n=false:=by
 unfold Builtin.List.listTooLong;exact Z1j (by lia)
end
section
variable {X:Cx}
def C0k:V->List V->Hp->VK->Prop:=λx vs H Q=>∃l xs y,x= .ref l/\vs=[y]/\H l=some (.lst xs)/\xs.length<sizeLine/\Q .non (upd H l (.lst (xs++[y])))
theorem A3i:MtM X "list.append" C0k:=by
 intro pins s σ H x vs v us Q I rx rv h;obtain ⟨l,xs,y,rfl,rfl,hH,hz,q⟩:=h;cases rx;obtain ⟨u,rfl,ru⟩:=rv.one;obtain ⟨z,its,n,r,hl,e⟩:=I.lstM hH;refine call_meets F.slot_list_append ⟨_,e,rfl⟩ F.entry_list_append (F.args_list_append_2 _ _) (PySem.list_append l its.toArray n u (by rw [Z0g];lia)) ⟨e,?_⟩;refine ⟨.non,_,I.lset (its':=its++[u]) hH e (by simp) (r.append (.cons ru .nil)) ?_,rfl,q⟩;rw [Z06,Z0j]
 lia
def D4a:V->List V->Hp->VK->Prop:=λx vs H Q=>∃l b xs zs,x= .ref l/\vs=[.ref b]/\H l=some (.lst xs)/\H b=some (.lst zs)/\xs.length+zs.length<=sizeLine/\Q .non (upd H l (.lst (xs++zs)))
theorem C6r:MtM X "list.extend" D4a:=by
 intro pins s σ H x vs v us Q I rx rv h;obtain ⟨l,b,xs,zs,rfl,rfl,hH,hB,hz,q⟩:=h;cases rx;obtain ⟨u,rfl,ru⟩:=rv.one;cases ru;obtain ⟨z,its,n,r,hl,e⟩:=I.lstM hH;obtain ⟨z2,its2,n2,r2,hl2,e2⟩:=I.lstM hB;have hsz:its.toArray.size+its2.toArray.size<=sizeLine:=by rw [Z0g,Z0g];lia
 have hlong:¬(!its.toArray.isEmpty&&Builtin.List.listTooLong (its.toArray.size+its2.toArray.size))=true:=by
  rw [C9a hsz,Bool.and_false];exact Z0v
 refine call_meets F.slot_list_extend ⟨_,e,rfl⟩ F.entry_list_extend (F.args_list_extend_2 _ _)
  (AutoSeq1.list_extend_list_list_0 l its.toArray n b its2.toArray n2 hlong (by rw [Z0g];lia) (by lia)) ⟨e,e2,?_⟩
 refine ⟨.non,_,I.lset (its':=its++its2) hH e (by simp) (r.append r2) ?_,rfl,q⟩;rw [Z06]
 lia
def rPop:V->List V->Hp->VK->Prop:=λx vs H Q=>∃l xs y,x= .ref l/\vs=[]/\H l=some (.lst xs)/\xs[xs.length-1]? =some y/\Q y (upd H l (.lst xs.dropLast))
theorem D9m:MtM X "list.pop" rPop:=by
 intro pins s σ H x vs v us Q I rx rv h;obtain ⟨l,xs,y,rfl,rfl,hH,hy,q⟩:=h;cases rx;have hus:=rv.zero;subst hus;obtain ⟨z,its,n,r,hl,e⟩:=I.lstM hH;obtain ⟨u,hu,ru⟩:=r.get hy
 have hy':its.toArray[its.toArray.size-1]? =some u:=by
  show its.toArray[its.length-1]? =some u;rw [<-Array.getElem?_toList,<-hl];exact hu
 refine call_meets F.slot_list_pop ⟨_,e,rfl⟩ F.entry_list_pop (F.args_list_pop_1 _) (MeetsSeq.list_pop_last l its.toArray n u hy' (by rw [Z0g];lia)) ⟨e,?_⟩;refine ⟨y,_,I.lset (its':=its.dropLast) hH e ?_ r.dropLast ?_,ru,q⟩
 ·show its.toArray.eraseIdxIfInBounds (its.toArray.size-1)=its.dropLast.toArray;rw [Z0g,List.eraseIdxIfInBounds_toArray,C3u]
 ·rw [List.length_dropLast]
  lia
def rCat:R2:=λx y H Q=>∃l b xs zs,x= .ref l/\y= .ref b/\H l=some (.lst xs)/\H b=some (.lst zs)/\xs.length+zs.length<=sizeLine/\∀p,H p=none->Q (.ref p) (upd H p (.lst (xs++zs)))
theorem A5c:OpR X (binaryOp .Add) rCat:=by
 intro pins s σ H x y v u Q I rx ry h;obtain ⟨l,b,xs,zs,rfl,rfl,hH,hB,hz,q⟩:=h;cases rx;cases ry;obtain ⟨z,its,n,r,hl,e⟩:=I.lstM hH;obtain ⟨z2,its2,n2,r2,hl2,e2⟩:=I.lstM hB;refine PySem.P.add_list e e2 ?_ (by rw [Z0g,Z0g];lia);have ea:its.toArray++its2.toArray=(its++its2).toArray:=by simp
 rw [ea];exact ⟨.ref _,_,I.lnew (t':=s.toks) (r.append r2) (by rw [Z06];lia),rfl,q _ I.fresh⟩
end
section
variable {prog:Program} {w:World} {A:Around} {E:Value->Shared->Prop} {s:Shared}
set_option maxRecDepth 100000 in
end
section
variable {X:Cx}
end
section
variable {κ:Type} [DecidableEq κ]
def A4x (kvs:List (κ×V)) (k:κ):Option V:=(kvs.find? λkv=>decide (kv.1=k)).map (·.2)
def A9e (kvs:List (κ×V)) (k:κ) (v:V):List (κ×V) :=
 if (kvs.any λkv=>decide (kv.1=k))=true then kvs.map (λkv=>if kv.1=k then (kv.1,v) else kv) else kvs++[(k,v)]
theorem A3m {p:κ×V} {r:List (κ×V)} {k:κ} (e:p.1=k):A4x (p::r) k=some p.2:=by simp [A4x,Z2h,e]
theorem A3u {p:κ×V} {r:List (κ×V)} {k:κ} (e:¬p.1=k):A4x (p::r) k=A4x r k:=by simp [A4x,Z2h,e]
theorem B0p (k:κ):∀kvs:List (κ×V),(kvs.any λkv=>decide (kv.1=k))=(A4x kvs k).isSome
 | []=>rfl
 | p::r=>by
  rw [List.any_cons];by_cases e:p.1=k
  ·simp only [A3m e,Z20 e,Bool.true_or,Option.isSome_some]
  ·rw [A3u e,Z1j e,Bool.false_or];exact B0p k r
theorem C2g (k j:κ) (y:V):∀kvs:List (κ×V),A4x (kvs.map λkv=>if kv.1=k then (kv.1,y) else kv) j=(A4x kvs j).map λx=>if j=k then y else x
 | []=>rfl
 | p::r=>by
  have ih:=C2g k j y r;rw [Z0p];by_cases h:p.1=k
  ·rw [Z12 h];by_cases e:p.1=j
   ·rw [A3m (p:=(p.1,y)) e,A3m e,Option.map_some,Z12 (e.symm.trans h)]
   ·rw [A3u (p:=(p.1,y)) e,A3u e,ih]
  ·rw [Z0t h];by_cases e:p.1=j
   ·rw [A3m (p:=p) e,A3m e,Option.map_some,Z0t (λz=>h (e.trans z))]
   ·rw [A3u (p:=p) e,A3u e,ih]
theorem B9h (k j:κ) (y:V):∀kvs:List (κ×V),A4x kvs k=none->A4x (kvs++[(k,y)]) j=if j=k then some y else A4x kvs j
 | [],_=>by
  by_cases e:k=j
  ·rw [Z12 e.symm];exact A3m (p:=(k,y)) e
  ·rw [Z0t (λz=>e z.symm)];exact A3u (p:=(k,y)) e
 | p::r,hn=>by
  rw [List.cons_append];have hk:¬p.1=k:=λz=>by rw [A3m z] at hn;cases hn
  rw [A3u hk] at hn;have ih:=B9h k j y r hn;by_cases e:p.1=j
  ·rw [A3m e,A3m e,Z0t (λz=>hk (e.trans z))]
  ·rw [A3u e,A3u e,ih]
theorem A7e (kvs:List (κ×V)) (k j:κ) (y:V):A4x (A9e kvs k y) j=if j=k then some y else A4x kvs j:=by
 unfold A9e;by_cases a:(kvs.any λkv=>decide (kv.1=k))=true
 ·rw [Z12 a,C2g];rw [B0p] at a;by_cases e:j=k
  ·obtain ⟨x,hx⟩:=Option.isSome_iff_exists.mp a;rw [Z12 e,e,hx,Option.map_some,Z12 rfl]
  ·rw [Z0t e]
   cases A4x kvs j with
   | none=>rfl
   | some x=>rw [Option.map_some,Z0t e]
 ·rw [Z0t a];refine B9h k j y kvs ?_;rw [B0p] at a
  cases q:A4x kvs k with
  | none=>rfl
  | some x=>rw [q] at a;exact (a rfl).elim
theorem A7d (kvs:List (κ×V)) (k:κ) (v:V):(A9e kvs k v).length<=kvs.length+1:=by
 unfold A9e;split
 ·rw [Z08];lia
 ·rw [Z06,Z0y,Z2g];lia
theorem D1k {kvs:List (κ×V)} {k:κ} (v:V) (h:A4x kvs k=none):A9e kvs k v=kvs++[(k,v)]:=by
 unfold A9e;rw [B0p,h];exact Z0t (by decide)
theorem B6a.isSome_eq {o:Option V} {u:Option Value} (r:B6a o u):o.isSome=u.isSome:=by
 cases o with
 | none=>cases u with
  | none=>rfl
  | some _=>exact (show False from r).elim
 | some _=>cases u with
  | none=>exact (show False from r).elim
  | some _=>rfl
theorem KV.val {kvs:List (κ×V)} {vs:List (κ×Value)} (r:KV kvs vs) (k:κ):B6a (A4x kvs k) (valueAt vs k):=by
 unfold KV at r
 induction r with
 | nil=>exact True.intro
 | @cons p q ps qs h t ih =>
  obtain ⟨h1,h2⟩:=h;by_cases e:p.1=k
  ·have e':q.1=k:=h1.symm.trans e;have b:valueAt (q::qs) k=some q.2:=by simp [valueAt,Z2h,e']
   rw [A3m e,b];exact h2
  ·have e':¬q.1=k:=λz=>e (h1.trans z);have b:valueAt (q::qs) k=valueAt qs k:=by simp [valueAt,Z2h,e']
   rw [A3u e,b];exact ih
theorem KV.any {kvs:List (κ×V)} {vs:List (κ×Value)} (r:KV kvs vs) (k:κ):(kvs.any λkv=>decide (kv.1=k))=vs.any λkv=>decide (kv.1=k):=by
 unfold KV at r
 induction r with
 | nil=>rfl
 | cons h t ih=>rw [List.any_cons,List.any_cons,ih,h.1]
theorem KV.repl {kvs:List (κ×V)} {vs:List (κ×Value)} (r:KV kvs vs) (k:κ) {y:V} {u:Value} (ry:A3d y u) :
  KV (kvs.map λkv=>if kv.1=k then (kv.1,y) else kv) (vs.map λkv=>if kv.1=k then (kv.1,u) else kv):=by
 unfold KV at r⊢
 induction r with
 | nil=>exact .nil
 | @cons p q ps qs h t ih =>
  rw [Z0p,Z0p];refine .cons ?_ ih;obtain ⟨h1,h2⟩:=h;by_cases e:p.1=k
  ·rw [Z12 e,Z12 (h1.symm.trans e)];exact ⟨h1,ry⟩
  ·rw [Z0t e,Z0t (λz=>e (h1.trans z))];exact ⟨h1,h2⟩
theorem KV.put {kvs:List (κ×V)} {vs:List (κ×Value)} (r:KV kvs vs) (k:κ) {y:V} {u:Value} (ry:A3d y u):KV (A9e kvs k y) (stored vs k u):=by
 unfold A9e stored;rw [r.any k];by_cases e:(vs.any λkv=>decide (kv.1=k))=true
 ·rw [Z12 e,Z12 e];exact r.repl k ry
 ·rw [Z0t e,Z0t e];exact Paired.snoc r ⟨rfl,ry⟩
theorem KV.length {kvs:List (κ×V)} {vs:List (κ×Value)} (r:KV kvs vs):kvs.length=vs.length:=Paired.length r
end
theorem C0a {P:Program} {w:World} {k:Key} {u:Value} (r:A3d (kV k) u):(A2e P w).is k u=true:=by
 cases k with
 | inl i=>obtain ⟨t,e⟩:=(show∃t,u=Value.int i t from r);subst e;exact C0x P w i t
 | inr x=>obtain ⟨t,e⟩:=(show∃t,u=Value.str x t from r);subst e;exact C0g P w x t
theorem B8k {P:Program} {w:World}:∀{ks:List Key} {us:List Value},A2t (ks.map kV) us->ItemsAre (A2e P w) ks us
 | [],_,r=>by rw [List.map_nil] at r;cases r;exact .nil
 | k::ks,_,r=>by
  rw [Z0p] at r
  cases r with
  | cons h t=>exact .cons (C0a h) (B8k t)
abbrev KT (H:Hp):List (List Key×V)->List (List Key×Addr×Value)->Prop:=Paired λp q=>p.1=q.1/\H q.2.1=some (.tup (p.1.map kV))/\A3d p.2 q.2.2
theorem KT.val {H:Hp} {kvs:List (List Key×V)} {xs:List (List Key×Addr×Value)} (r:KT H kvs xs) (k:List Key):B6a (A4x kvs k) ((atKey xs k).map (·.2)):=by
 induction r with
 | nil=>exact True.intro
 | @cons p q ps qs h t ih =>
  obtain ⟨h1,_,h2⟩:=h;by_cases e:p.1=k
  ·have e':q.1=k:=h1.symm.trans e;have b:atKey (q::qs) k=some q.2:=by simp [atKey,Z2h,e']
   rw [A3m e,b];exact h2
  ·have e':¬q.1=k:=λz=>e (h1.trans z);have b:atKey (q::qs) k=atKey qs k:=by simp [atKey,Z2h,e']
   rw [A3u e,b];exact ih
theorem KT.repl {H:Hp} {kvs:List (List Key×V)} {xs:List (List Key×Addr×Value)} (r:KT H kvs xs) (k:List Key) {y:V} {u:Value} (ry:A3d y u) :
  KT H (kvs.map λkv=>if kv.1=k then (kv.1,y) else kv) (xs.map (putAt k u)):=by
 induction r with
 | nil=>exact .nil
 | @cons p q ps qs h t ih =>
  rw [Z0p,Z0p];refine .cons ?_ ih;obtain ⟨h1,h2,h3⟩:=h;unfold putAt;by_cases e:p.1=k
  ·rw [Z12 e,Z12 (h1.symm.trans e)];exact ⟨h1,h2,ry⟩
  ·rw [Z0t e,Z0t (λz=>e (h1.trans z))];exact ⟨h1,h2,h3⟩
theorem KT.put {H:Hp} {kvs:List (List Key×V)} {xs:List (List Key×Addr×Value)} (r:KT H kvs xs) (k:List Key) {b:Addr} {y:V} {u:Value} (hb:H b=some (.tup (k.map kV))) (ry:A3d y u) :
  KT H (A9e kvs k y) (storedH xs k b u):=by
 have e:(kvs.any λkv=>decide (kv.1=k))=(atKey xs k).isSome:=by
  rw [B0p,(r.val k).isSome_eq,Option.isSome_map]
 unfold A9e storedH;rw [e];by_cases q:(atKey xs k).isSome=true
 ·rw [Z12 q,Z12 q];exact r.repl k ry
 ·rw [Z0t q,Z0t q];exact Paired.snoc r ⟨rfl,hb,ry⟩
theorem KT.keeps {H H':Hp} {kvs:List (List Key×V)} {xs:List (List Key×Addr×Value)} (r:KT H kvs xs) (ht:∀b ys,H b=some (.tup ys)->H' b=some (.tup ys)):KT H' kvs xs :=
 Paired.mapP r λ_ _ z=>⟨z.1,ht _ _ z.2.1,z.2.2⟩
section
variable {P:Program} {w:World} {H:Hp} {h:Heap} {a:Addr}
theorem D9w {u:HO} (ok:HOk P w H h) (e:Rd H a u):A2a P w H h a u:=e.ok ok
theorem D0y {kvs:List (Key×V)} (ok:HOk P w H h) (e:Rd H a (.dK kvs)):kvs.length<=sizeLine/\(a == sysModules)=false/\∃vs,KV kvs vs/\h.DictOf (A2e P w) a vs :=
 show A2a P w H h a (.dK kvs) from D9w ok e
theorem D3v {kvs:List (Key×V)} (ok:HOk P w H h) (e:H a=some (.dK kvs)):kvs.length<=sizeLine/\(a == sysModules)=false/\∃vs,KV kvs vs/\h.DictOf (A2e P w) a vs:=D0y ok (.inl e)
theorem C2p {ks:List Key} (ok:HOk P w H h) (e:H a=some (.tup (ks.map kV))):(tupleKind (A2e P w)).is h ks a:=by
 obtain ⟨_,its,r,o,h1,h2,n,h3⟩:=(show A2a P w H h a (.tup (ks.map kV)) from ok a _ e);exact ⟨o,its.toArray,n,h1,h2,h3,by simpa using B8k r⟩
theorem D0s {kvs:List (List Key×V)} (ok:HOk P w H h) (e:Rd H a (.dT kvs)):kvs.length<=sizeLine/\(a == sysModules)=false/\
  ∃xs,KT H kvs xs/\h.DictOfH (tupleKind (A2e P w)) a xs:=by
 obtain ⟨z,y,xs,r,o,es,ep,h1,h2,h3,h4,h5⟩:=(show A2a P w H h a (.dT kvs) from D9w ok e);refine ⟨z,y,xs,r,o,es,ep,h1,h2,h3,h4,λx hx=> ?_,h5⟩
 have all:∀{l:List (List Key×V)} {m:List (List Key×Addr×Value)},KT H l m->∀x∈m,(tupleKind (A2e P w)).is h x.1 x.2.1:=by
  intro l m q
  induction q with
  | nil=>intro x hx;exact nomatch hx
  | @cons p q ps qs hq t ih =>
   intro x hx;rcases Z0e.mp hx with e | hx
   ·subst e;exact C2p ok (by rw [<-hq.1];exact hq.2.1)
   ·exact ih x hx
 exact all r x hx
theorem E1y {kvs:List (List Key×V)} (ok:HOk P w H h) (e:H a=some (.dT kvs)):kvs.length<=sizeLine/\(a == sysModules)=false/\
  ∃xs,KT H kvs xs/\h.DictOfH (tupleKind (A2e P w)) a xs:=D0s ok (.inl e)
end
def B2h (H:Hp) (a:Addr) (y:V) (r:Option V):Prop :=
 (∃kvs k,Rd H a (.dK kvs)/\y=kV k/\r=A4x kvs k)\/∃kvs k b,Rd H a (.dT kvs)/\y= .ref b/\H b=some (.tup (k.map kV))/\r=A4x kvs k
def C9l (H:Hp) (a:Addr) (y v:V) (H':Hp):Prop :=
 (∃kvs k,H a=some (.dK kvs)/\y=kV k/\kvs.length<sizeLine/\H'=upd H a (.dK (A9e kvs k v)))\/
 ∃kvs k b,H a=some (.dT kvs)/\y= .ref b/\H b=some (.tup (k.map kV))/\kvs.length<sizeLine/\H'=upd H a (.dT (A9e kvs k v))
theorem B2h.k {H:Hp} {a:Addr} {kvs:List (Key×V)} {k:Key} (e:H a=some (.dK kvs)):B2h H a (kV k) (A4x kvs k):= .inl ⟨kvs,k,.inl e,rfl,rfl⟩
theorem C9l.k {H:Hp} {a:Addr} {kvs:List (Key×V)} {k:Key} {v:V} (e:H a=some (.dK kvs)) (hl:kvs.length<sizeLine):C9l H a (kV k) v (upd H a (.dK (A9e kvs k v))):= .inl ⟨kvs,k,e,rfl,hl,rfl⟩
section
variable {X:Cx} {pins:List (Addr×Obj)} {σ:St} {H:Hp} {s:Shared} {a:Addr} {y v:V} {u r:Value} {o:Option V} {A:Around} {E:Value->Shared->Prop}
theorem Inv.big (I:Inv X pins σ H s):sysModules<s.heap.objs.size:=by
 have h:mainGlobals<s.heap.objs.size:=(I.mod.glob.keeps I.bk).lt;exact Nat.lt_trans (by decide) h
theorem C5u {Q:Value->Shared->Prop} (hu:A.units+1<cLine) (I:Inv X pins σ H s) (g:B2h H a y (some v)) (ry:A3d y u) (h:∀w' s',Inv X pins σ H s'->A3d v w'->Q w' s') :
  wpAny (model X.prog X.w) A (getItem (.ref a) u) Q E s:=by
 rcases g with ⟨kvs,k,e,ey,l⟩ | ⟨kvs,k,b,e,ey,eb,l⟩
 ·subst ey;obtain ⟨z,hd,vs,rel,dd⟩:=D0y I.hok e;obtain ⟨w',hw,rw'⟩:=B6a.some_of (v:=v) (o:=valueAt vs k) (by rw [l];exact rel.val k);exact wpAny_getItem_of (C0a ry) dd.mapOf hw (h w' _ (I.tok _) rw')
 ·subst ey;cases (show u=Value.ref b from ry);obtain ⟨z,hd,xs,rel,dd⟩:=D0s I.hok e;obtain ⟨w',hw,rw'⟩:=B6a.some_of (v:=v) (o:=(atKey xs k).map (·.2)) (by rw [l];exact rel.val k);obtain ⟨p,hp,hp2⟩:=Z0i.mp hw;refine wpAny_getItem_heap (tupleKind_room_in1 hu) (C2p I.hok eb) dd hp ?_;rw [hp2];exact h w' _ (I.tok _) rw'
theorem D3u {Q:Value->Shared->Prop} (hu:A.units+1<cLine) (I:Inv X pins σ H s) (g:B2h H a y o) (ry:A3d y u) (h:∀s',Inv X pins σ H s'->Q (.bool (!o.isSome)) s') :
  wpAny (model X.prog X.w) A (compareOp .NotIn u (.ref a)) Q E s:=by
 rcases g with ⟨kvs,k,e,ey,l⟩ | ⟨kvs,k,b,e,ey,eb,l⟩
 ·subst ey;obtain ⟨z,hd,vs,rel,dd⟩:=D0y I.hok e;refine wpAny_notIn_of (C0a ry) hd dd.mapOf ?_;rw [<-(rel.val k).isSome_eq,<-l];exact h _ (I.tok _)
 ·subst ey;cases (show u=Value.ref b from ry);obtain ⟨z,hd,xs,rel,dd⟩:=D0s I.hok e;refine wpAny_notIn_heap (tupleKind_room_in1 hu) (C2p I.hok eb) hd dd ?_;have q:=(rel.val k).isSome_eq;rw [Option.isSome_map] at q;rw [<-q,<-l];exact h _ (I.tok _)
theorem C0v {h':Heap} {t':Nat} {ob:HO} (I:Inv X pins σ H s) (mu:Mut (H a)) (hs:Heap.SameBut a s.heap h') (he:∃q,h'.get? a=some q) (new:A2a X.prog X.w (upd H a ob) h' a ob) :
  Inv X pins σ (upd H a ob) { s with heap:=h',toks:=t' } :=
 I.write (x:=a) (e:=a) mu (.inl rfl) (λb q hb z=>(hs.2 b hb).trans z) he new
theorem D2s {P:Program} {w:World} {H':Hp} {h':Heap} {kvs:List (Key×V)} {vs:List (Key×Value)} (z:kvs.length<=sizeLine) (hd:(a == sysModules)=false) (rel:KV kvs vs) (dd:h'.DictOf (A2e P w) a vs) :
  A2a P w H' h' a (.dK kvs):=⟨z,hd,vs,rel,dd⟩
theorem C7p {H':Hp} {Q:Unit->Shared->Prop} (hu:A.units+1<cLine) (I:Inv X pins σ H s) (g:C9l H a y v H') (ry:A3d y u) (rv:A3d v r) (h:∀s',Inv X pins σ H' s'->Q () s') :
  wpAny (model X.prog X.w) A (setItem (.ref a) u r) Q E s:=by
 rcases g with ⟨kvs,k,e,ey,l,eH⟩ | ⟨kvs,k,b,e,ey,eb,l,eH⟩
 ·subst ey eH;obtain ⟨z,hd,vs,rel,dd⟩:=D3v I.hok e;have hz:vs.length<=sizeLine:=by rw [<-rel.length];exact z
  have hl:(A9e kvs k v).length<=sizeLine:=by have:=A7d kvs k v;lia
  refine wpAny_setItem_pairs (hsz:=hz) (C0a ry) dd λh' dd' hs=>h _ ?_;have he:∃q,h'.get? a=some q:=let ⟨q,_,_,hq,_⟩:=dd';⟨q,hq⟩;exact C0v I (by rw [e];exact True.intro) hs he (D2s hl hd (rel.put k rv) dd')
 ·subst ey eH;cases (show u=Value.ref b from ry);obtain ⟨z,hd,xs,rel,dd⟩:=E1y I.hok e;have hz:xs.length<=sizeLine:=by rw [<-Paired.length rel];exact z
  have hl:(A9e kvs k v).length<=sizeLine:=by have:=A7d kvs k v;lia
  refine wpAny_setItem_heap (hsz:=hz) (tupleKind_room_in1 hu) (C2p I.hok eb) dd λh' dd' hs=>h _ ?_;obtain ⟨q,es,ep,hq,h2,h3,h4,_,h5⟩:=dd';refine C0v I (by rw [e];exact True.intro) hs ⟨q,hq⟩ ⟨hl,hd,_,(rel.put k eb rv).keeps λc ys ec=> ?_,q,es,ep,hq,h2,h3,h4,h5⟩;rw [A0j (A2n ec e (λz=>nomatch z))];exact ec
end
section
variable {X:Cx} {pins:List (Addr×Obj)} {σ:St} {H:Hp} {s:Shared} {a:Addr} {kvs:List (Key×V)} {k:Key} {u:Value} {A:Around} {E:Value->Shared->Prop}
end
def E3k (i:Expr):Prop:=∀ov iv,subscripted i false ov iv=operate [ov,iv] (getItem ov iv)
theorem D3y {prog:Program} {w:World} {A:Around} {E:Value->Shared->Prop} {s:Shared} {env:Env} {value slice:Expr} {pos:Pos} {T id:String} {Q:Value->Shared->Prop}
  (hl:typeLookup (.type T) "__getitem__"=pure (some (.builtin id))) (hs:E3k slice)
  (h:wpAny (model prog w) A (eval value env) (λo s₁=>wpAny (model prog w) A (eval slice env) (λi s₂=>s₂.TypeIs o T/\wpAny (model prog w) A (getItem o i) Q E s₂) E s₁) E s) :
  wpAny (model prog w) A (eval (.Subscript value slice pos) env) Q E s:=by
 refine Subscript_ (Z10 h (λo s₁ h₁=>Z10 h₁ (λi s₂ h₂=> ?_) λ_ _ x=>x) λ_ _ x=>x);obtain ⟨hT,h₂⟩:=h₂;unfold subscriptTail;refine Z00 ?_;rw [getitemInPython_of_ne hT.not_modules];refine Z00 (wpAny_specialOf hT hl ?_)
 have fin:wpAny (model prog w) A (subscripted slice false o i) (λr s₃=>wpAny (model prog w) A (letTemporaryGo value o r >>= λ_=>pure r) Q E s₃) E s₂:=by
  rw [hs o i];exact wpAny_operating (Z10 h₂ (λr s₃ h₃=>Z00 (wpAny_letTemporaryGo (Z04 h₃))) λ_ _ x=>x)
 first
  | exact Z04 (Z00 fin)
  | exact Z00 (Z04 (Z00 fin))
  | exact Z00 fin
theorem C0c {X:Cx} {pins:List (Addr×Obj)} {σ:St} {H:Hp} {s:Shared} {a:Addr} {y:V} {o:Option V} (I:Inv X pins σ H s) (g:B2h H a y o):s.TypeIs (.ref a) "dict":=by
 rcases g with ⟨kvs,k,e,_,_⟩ | ⟨kvs,k,b,e,_,_,_⟩
 ·obtain ⟨_,_,vs,_,dd⟩:=D0y I.hok e;exact dd.typeIs
 ·obtain ⟨_,_,xs,_,dd⟩:=D0s I.hok e;exact dd.typeIs
def E1q (td ty:TE):TE:=λσ H Q=>td σ H λx H1=>ty σ H1 λy H2=>∃a v,x= .ref a/\B2h H2 a y (some v)/\Q v H2
def D5l (ty td:TE):TE:=λσ H Q=>ty σ H λy H1=>td σ H1 λx H2=>∃a o,x= .ref a/\B2h H2 a y o/\Q (.bl (!o.isSome)) H2
def E1h (td ty tv:TE):TS:=λD σ H=>tv σ H λv H1=>td σ H1 λx H2=>ty σ H2 λy H3=>∃a H4,x= .ref a/\C9l H3 a y v H4/\D.nx σ H4
section
variable {X:Cx} {o i e value:Expr} {pos pos' tpos:Pos} {td ty tv:TE}
theorem A3j (hu:X.A.units+1<cLine) (ho:PE X o td) (hi:PE X i ty) (hs:E3k i):PE X (.Subscript o i pos) (E1q td ty):=by
 intro pins s σ H Q I h;refine D3y PySem.F.slot_dict_getitem.lookup hs (thn (ho pins s σ H _ I h) ?_);rintro u s1 ⟨x,H1,I1,rx,q1⟩;refine thn (hi pins s1 σ H1 _ I1 q1) ?_;rintro iv s2 ⟨y,H2,I2,ry,a,v,ex,g,q2⟩;subst ex;obtain rfl:u=Value.ref a:=rx;exact ⟨C0c I2 g,C5u hu I2 g ry λw' s3 I3 rw'=>⟨v,H2,I3,rw',q2⟩⟩
theorem C6a (hu:X.A.units+1<cLine) (hi:PE X i ty) (ho:PE X o td):PC X .NotIn i o (D5l ty td):=by
 intro pins s σ H Q I h;refine thn (hi pins s σ H _ I h) ?_;rintro iv s1 ⟨y,H1,I1,ry,q1⟩;refine thn (ho pins s1 σ H1 _ I1 q1) ?_;rintro u s2 ⟨x,H2,I2,rx,a,ov,ex,g,q2⟩;subst ex;obtain rfl:u=Value.ref a:=rx;exact D3u hu I2 g ry λs3 I3=>⟨.bl (!ov.isSome),H2,I3,rfl,q2⟩
theorem B3r (hu:X.A.units+1<cLine) (ho:PE X o td) (hi:PE X i ty) (hv:PE X value tv) (hs:swapsWith value (some (.Subscript o i pos')) pos.line X.env=pure false) :
  PS X (.Assign [.Subscript o i pos'] value pos) (E1h td ty tv):=by
 intro pins s σ H D I h;refine wpAny_Assign_Subscript (thn (hv pins s σ H _ I h) ?_) hs;rintro r s1 ⟨v,H1,I1,rv,q1⟩;refine thn (ho pins s1 σ H1 _ I1 q1) ?_;rintro u s2 ⟨x,H2,I2,rx,q2⟩;refine thn (hi pins s2 σ H2 _ I2 q2) ?_;rintro iv s3 ⟨y,H3,I3,ry,a,H4,ex,g,q3⟩;subst ex;obtain rfl:u=Value.ref a:=rx;exact C7p hu I3 g ry rv λs4 I4=>⟨σ,H4,I4,q3⟩
end
theorem C1w {P:Program} {w:World} {H:Hp} (h:Heap) (hb:sysModules<h.objs.size):A2a P w H (h.push { cls:= .type "dict",data:= .dict #[] }) h.objs.size (.dK []) :=
 ⟨Z1e _,Z22.mpr (Ne.symm (Z0h hb)),[],.nil,Heap.DictOf.new h⟩
def D7f:TE:=λ_ H Q=>∀p,H p=none->Q (.ref p) (upd H p (.dK []))
section
variable {X:Cx} {pos:Pos}
theorem C2a:PE X (.Dict [] [] pos) D7f:=λpins s σ H Q I h =>
 wpAny_Dict_empty ⟨.ref s.heap.objs.size,_,I.laid (a:=s.heap.objs.size) (o:= .dK []) (t':=s.toks) (λ_ _ q=>Z01 _ q) (Z09 _) (C1w s.heap I.big),rfl,h _ (I.hok.fresh (Z09 _))⟩
end
def C7m:List (TE×TE)->St->Hp->(List (V×V)->Hp->Prop)->Prop
 | [],_,H,Q=>Q [] H
 | (tk,tv)::r,σ,H,Q=>tk σ H λx H1=>tv σ H1 λy H2=>C7m r σ H2 λps H3=>Q ((x,y)::ps) H3
abbrev VV:List (V×V)->List (Value×Value)->Prop:=Paired λp q=>A3d p.1 q.1/\A3d p.2 q.2
def PPs (X:Cx) (pos:Pos) (keys:List (Option Expr)) (values:List Expr) (trs:List (TE×TE)):Prop :=
 ∀(pins:List (Addr×Obj)) (s:Shared) (σ:St) (H:Hp) (Q:List (V×V)->Hp->Prop),Inv X pins σ H s->C7m trs σ H Q->
  wpAny (model X.prog X.w) X.A (evalPairs (pairTrees keys values X.env pos)) (λvs s'=>∃ps H',Inv X pins σ H' s'/\VV ps vs/\Q ps H') X.xe s
theorem D5k {X:Cx} {pos:Pos}:PPs X pos [] [] []:=λpins s σ H Q I h=>pairTrees_nil_walk ⟨[],H,I,.nil,h⟩
theorem C9z {X:Cx} {pos:Pos} {k v:Expr} {ks:List (Option Expr)} {vs:List Expr} {tk tv:TE} {trs:List (TE×TE)} (hk:PE X k tk) (hv:PE X v tv) (hr:PPs X pos ks vs trs) :
  PPs X pos (some k::ks) (v::vs) ((tk,tv)::trs):=λpins s σ H Q I h =>
 pairTrees_cons_walk (thn (hk pins s σ H _ I h) λu s1 ⟨x,H1,I1,rx,q1⟩=>thn (hv pins s1 σ H1 _ I1 q1) λw2 s2 ⟨y,H2,I2,ry,q2⟩ =>
  thn (hr pins s2 σ H2 _ I2 q2) (by rintro ws s3 ⟨ps,H3,I3,rel,q3⟩;exact ⟨(x,y)::ps,H3,I3,.cons ⟨rx,ry⟩ rel,q3⟩))
def A1c (kvs more:List (Key×V)):List (Key×V):=more.foldl (λacc kv=>A9e acc kv.1 kv.2) kvs
theorem KV.merge:∀{more:List (Key×V)} {rs:List (Key×Value)} {kvs:List (Key×V)} {vs:List (Key×Value)},KV more rs->KV kvs vs->KV (A1c kvs more) (merged vs rs):=by
 intro more rs kvs vs r;unfold KV at r
 induction r generalizing kvs vs with
 | nil=>intro q;exact q
 | @cons p q ps qs h t ih =>
  intro r0
  have e:KV (A9e kvs p.1 p.2) (stored vs q.1 q.2):=by
   have:=r0.put p.1 h.2;rw [<-h.1];exact this
  exact ih e
theorem A2y:∀(more kvs:List (Key×V)),(A1c kvs more).length<=kvs.length+more.length
 | [],kvs=>by show kvs.length<=kvs.length+0;lia
 | p::r,kvs=>by
  have h1:=A2y r (A9e kvs p.1 p.2);have h2:=A7d kvs p.1 p.2;show (A1c (A9e kvs p.1 p.2) r).length<=_;rw [Z0y];lia
theorem B5q {P:Program} {w:World}:∀{kvs:List (Key×V)} {ws:List (Value×Value)},VV (kvs.map λkv=>(kV kv.1,kv.2)) ws->∃rs,Carries (A2e P w) ws rs/\KV kvs rs
 | [],_,r=>by rw [List.map_nil] at r;cases r;exact ⟨[],True.intro,.nil⟩
 | p::kvs,_,r=>by
  rw [Z0p] at r
  cases r with
  | @cons a b as bs h t =>
   obtain ⟨rs,c,q⟩:=B5q (P:=P) (w:=w) t;obtain ⟨b1,b2⟩:=b;exact ⟨(p.1,b2)::rs,⟨C0a h.1,rfl,c⟩,.cons ⟨rfl,h.2⟩ q⟩
def E2a (trs:List (TE×TE)):TE:=λσ H Q=>∀p,H p=none->C7m trs σ (upd H p (.dK [])) λps H2=>H2 p=some (.dK [])/\∃kvs:List (Key×V),ps=kvs.map (λkv=>(kV kv.1,kv.2))/\kvs.length<=15/\Q (.ref p) (upd H2 p (.dK (A1c [] kvs)))
theorem D3g {X:Cx} {pos:Pos} {keys:List (Option Expr)} {values:List Expr} {trs:List (TE×TE)} (h:PPs X pos keys values trs) (hall:keys.all (·.isSome)=true) (hl:keys.length=values.length) (h0:keys≠[])
  (h15:keys.length<=15):PE X (.Dict keys values pos) (E2a trs):=by
 intro pins s σ H Q I q;have hn:=I.hok.fresh (Z09 s.heap.objs.size);have I1:=I.laid (a:=s.heap.objs.size) (o:= .dK []) (h':=s.heap.push { cls:= .type "dict",data:= .dict #[] }) (t':=s.toks) (λ_ _ q=>Z01 _ q) (Z09 _) (C1w s.heap I.big);refine wpAny_Dict_walk (knd:=A2e X.prog X.w) hall hl h0 h15 (thn (h pins _ σ _ _ I1 (q _ hn)) ?_);rintro ws s2 ⟨ps,H2,I2,rel,e,kvs,ep,lk,q2⟩;subst ep;obtain ⟨rs,c,rk⟩:=B5q (P:=X.prog) (w:=X.w) rel;obtain ⟨z,hd,vs0,r0,dd⟩:=D3v I2.hok e;cases r0;refine ⟨rs,c,dd,λh' dd' hs=>⟨.ref s.heap.objs.size,_,?_,rfl,q2⟩⟩
 have hz:(A1c [] kvs).length<=sizeLine:=by
  have h1:=A2y kvs [];rw [Z2g] at h1;rw [sizeLine_eq];lia
 have he:∃q,h'.get? s.heap.objs.size=some q:=let ⟨q,_,_,hq,_⟩:=dd';⟨q,hq⟩;exact C0v I2 (by rw [e];exact True.intro) hs he (D2s hz hd (rk.merge .nil) dd')
section
variable {X:Cx} {pins:List (Addr×Obj)} {σ:St} {H:Hp} {s:Shared} {a:Addr} {y d:V} {u r:Value} {o:Option V} {A:Around} {E:Value->Shared->Prop}
end
section
variable {X:Cx} {o e f:Expr} {apos cpos:Pos} {td ty tx:TE}
end
section
variable {X:Cx} {pins:List (Addr×Obj)} {σ:St} {H:Hp} {s:Shared} {a:Addr} {kvs:List (Key×V)} {A:Around} {E:Value->Shared->Prop}
end
section
variable {X:Cx} {pins:List (Addr×Obj)} {σ:St} {H:Hp} {s:Shared} {a:Addr} {y:V} {u:Value} {A:Around} {E:Value->Shared->Prop}
end
end L2
namespace Att
open PySem PySem.W PySem.Calls PyProof.Rows
theorem B3f {P:Params} {h:Heap}:∀(ns:List Int) (vs:List Value),WellAll P h vs (ns.map WData.int)->IntsAre vs ns:=by
 intro ns
 induction ns with
 | nil =>
  intro vs w;rw [List.map_nil] at w;cases w;exact .nil
 | cons n ns ih =>
  intro vs w;rw [Z0p] at w
  cases w with
  | cons a b =>
   cases a
   exact .cons _ _ (ih _ b)
theorem C5r {l:OpenLaw} {n:Nat} (hn:l.most=some n) {P:Params} {h:Heap} {args:List WData} {vals:List Value}
  (hpre:l.row.toRowW.claim.pre args=true) (hwl:WellAll P h vals args) :
  ∃a vs ns,vals=[Value.ref a]/\args=[WData.list (ns.map WData.int)]/\h.get? a=some { cls:= .type "list",data:= .seq vs.toArray }/\IntsAre vs ns/\ns.length<=n:=by
 have hsh:WShape.hasAll [] args [.list .int]=true:=(pre_splitW hpre).1;have hc:l.pre.holds [] { args:=args }=true:=(pre_splitW hpre).2;obtain ⟨d,r,rfl,h1,h2⟩:=hasAllW_cons hsh;obtain rfl:=hasAllW_nil h2;obtain ⟨xs,rfl,h3⟩:=hasW_list h1;obtain ⟨ns,rfl⟩:=items_int h3
 have hlen:ns.length<=n:=by
  unfold OpenLaw.pre at hc
  have h4:(WTm.not (.lt (.lit (.int (n:Int))) (.len (.arg 0)))).holds [] { args:=[.list (ns.map .int)] }=true:=by
   have h4:=(holds_andW hc).1;rw [hn] at h4;exact h4
  have h5:=condW_of h4 (w_not (w_lt w_lit (w_len_list (w_arg rfl))));rw [Z08] at h5;refine Nat.le_of_not_lt λq=> ?_;have q':(n:Int)<((ns.length:Nat):Int):=by lia
  first
   | (rw [Z20 q'] at h5;exact absurd h5 (by decide))
   | (simp at h5;lia)
 cases hwl with
 | cons w1 w2 =>
  cases w2
  cases w1 with
  | list ho hall=>exact ⟨_,_,ns,rfl,rfl,ho,B3f ns _ hall,hlen⟩
theorem C8a (l:OpenLaw) (args:List WData):l.row.toRowW.claim.post args (.bool true) args=true :=
 postW_of (r:=l.row.toRowW) (X:=(true == true))
  (show WShape.has [] (.bool true) .bool=true by first | rfl | decide | simp [WShape.has,WShape.arms,WShape.armsAll])
  (show (WTm.eq .res (.lit (.bool true))).value [] { args:=args,res:=some (.bool true),after:=args }=some (.bool (true == true)) from w_eq_bool (w_res rfl) w_lit) rfl
theorem attach_call {l:OpenLaw} {n:Nat} {q:Program} {loose:List Str} {XP:(Str->Option Value)->Heap->Prop} {YP:World->Heap->Prop} {d:DefRec}
  (hn:l.most=some n) (hdf:d.params.defaults=[])
  (call:∀(w:World) (s₀ s₁:Shared) (mg mb:Str->Option Value) (fa:Addr) (o:Obj) (pm cd doc:Value) (a:Addr) (vs:List Value) (ns:List Int),
   Ground q loose [] XP w s₀ mg mb s₁.heap->YP w s₁.heap->
   s₁.heap.get? fa=some o->o.data= .func (docDef d.name d.params d.body d.scope pm cd doc)->s₁.heap.CodeRec cd d.name->mg d.name=some (.ref fa)->
   s₁.heap.get? a=some { cls:= .type "list",data:= .seq vs.toArray }->IntsAre vs ns->ns.length<=n->s₁.gens= #[]->
   codeAny (model l.prog w) callerA (.call (.ref fa) ⟨[.ref a],[]⟩) (λr s'=>r= .ok (.ret (.bool true))/\OldK s₁.heap s'.heap/\s'.os=s₁.os/\AllBare s'.gens) s₁) :
  WalkO q loose XP YP l.row.toRowW d [] (λf vs=>PySem.call f vs):=by
 intro w s₀ s₁ mg mb G Y fa o pm cd doc dV kV ho hd hcd hD hmg hg args vals as hpre hlay hrd hwl hlo;obtain rfl:dV= .none:=Dflts.none hD hdf;obtain rfl:kV= .none:=Dflts.noKw hD;obtain ⟨a,vs,ns,rfl,rfl,hobj,hints,hlen⟩:=C5r hn hpre hwl;refine enter_call (codeAny_mono (call w s₀ s₁ mg mb fa o pm cd doc a vs ns G Y ho (fd_plain hd) hcd hmg hobj hints hlen hg) λr s' hq=> ?_);obtain ⟨rfl,h2,h3,h4⟩:=hq;exact ⟨.inl ⟨.bool true,.bool true,[],rfl,λ_=>rfl,.bool true,C8a l _,λ_=>⟨List.Pairwise.nil,λ_ hm=>(nomatch hm)⟩⟩,h2,h3,h4⟩
section
variable {prog:Program} {w:World} {A:Around} {E:Value->Shared->Prop} {s:Shared} {K:Frag}
end
end Att
namespace L2
open PySem PySem.Spec PyProof.Rows
theorem B9i:∀{vs:List Value} {ns:List Int},IntsAre vs ns->A2t (ns.map V.int) vs
 | _,_,.nil=> .nil
 | _,_,.cons n t h=> .cons ⟨t,rfl⟩ (B9i h)
def E1j (H:Hp):Prop:=∀b,H b=none\/∃o xs,H b=some (.frz o (.lst xs))
theorem C9t {P:Program} {w:World} {K:Frag} {mg mb:Str->Option Value} {CX:CXT} {k:Nat} {fa a:Addr} {fd:FuncData} {x:Str} {sp:Sp} {s₁:Shared} {vs:List Value} {ns:List Int}
  (KX:K.In s₁.heap) (hns:s₁.heap.Ns mainGlobals mg) (hb:s₁.heap.Ns builtinsNs mb) (hbb:∀x:Str,x≠"__name__"->mb x=bootBuiltins x) (hlim:s₁.heap.NoLimit) (hg:s₁.gens= #[])
  (ha:s₁.heap.get? a=some { cls:= .type "list",data:= .seq vs.toArray }) (hi:IntsAre vs ns) (hl:ns.length<=sizeLine) (hr:A7j k callerA)
  (F:∀base:Heap,K.In base->base.Ns mainGlobals mg->A4m P w K mg base CX k fa fd [x] sp) (hbind:∀(s:Shared) (u:Value),BindsTo s fd ⟨[u],[]⟩ [(x,u)])
  (hsp:∀H:Hp,E1j H->SqL K H a (ns.map V.int)->sp [.ref a] H (λv _=>v= .bl true) λ_ _ _=>False)
  (hCX:∀H e s',CX [] H s₁ (λ_ _ _=>False) e s'->False) :
  codeAny (model P w) callerA (.call (.ref fa) ⟨[.ref a],[]⟩) (λr s'=>r= .ok (.ret (.bool true))/\OldK s₁.heap s'.heap/\s'.os=s₁.os/\AllBare s'.gens) s₁:=by
 have rv:=B9i hi;have lenV:=hi.length
 have core:∀H:Hp,E1j H->SqL K H a (ns.map V.int)->HOk P w H s₁.heap->(∀b,H b≠none->b=a)->(H a≠none->K.lookup a=none)->
   codeAny (model P w) callerA (.call (.ref fa) ⟨[.ref a],[]⟩) (λr s'=>r= .ok (.ret (.bool true))/\OldK s₁.heap s'.heap/\s'.os=s₁.os/\AllBare s'.gens) s₁:=by
  intro H hO hS hok hA hK;have base_of:∀{b:Addr} {o:Obj},s₁.heap.get? b=some o->H b=none->(D1b s₁.heap H).get? b=some o:=λe n=>D0i e n
  have noA:∀{b:Addr} {o:Obj} {es:Array DictEntry} {ep:Nat},s₁.heap.get? b=some o->o.data= .dict es ep->H b=none:=λ{b o es ep} e d=>by
   cases q:H b with
   | none=>rfl
   | some u =>
    have e':b=a:=hA b (by rw [q];simp);subst e';rw [ha] at e;cases e;have d':Data.seq vs.toArray _=Data.dict es ep:=d;cases d'
  have nsK:∀{b:Addr} {m:Str->Option Value},s₁.heap.Ns b m->(D1b s₁.heap H).Ns b m:=λ{b m} ⟨o,es,ep,e,d,r⟩=>⟨o,es,ep,base_of e (noA e d),d,r⟩
  have hKb:K.In (D1b s₁.heap H):=λb o e=>base_of (KX b o e) (by
   cases q:H b with
   | none=>rfl
   | some u =>
    have e':b=a:=hA b (by rw [q];simp);subst e'
    rw [hK (by rw [q];simp)] at e;cases e)
  have hM:Mod K mg (D1b s₁.heap H):=⟨hKb,nsK hns,⟨mb,nsK hb,hbb⟩,let ⟨mc,h1,h2⟩:=hlim;⟨mc,nsK h1,h2⟩⟩;have e0:C8q P w K mg (D1b s₁.heap H) callerA [] s₁ H:=⟨rfl,hM,λb o e=>D4h e,Nat.le_of_eq (C8k _ _),trivial,λb hb=>absurd (show b∈([]:List Addr) from hb) (by simp),hok,.of_eq hg⟩;refine codeAny_mono ((F _ hKb (nsK hns)).run callerA [] s₁ H ⟨[.ref a],[]⟩ [.ref a] [.ref a] _ _ hr e0 (hbind s₁ (.ref a)) (.cons rfl .nil) (hsp H hO hS)) λr s' h=> ?_
  cases r with
  | error e=>exact (hCX H e s' h).elim
  | ok fl =>
   cases fl with
   | next=>exact False.elim h
   | brk=>exact False.elim h
   | cont=>exact False.elim h
   | ret u =>
    obtain ⟨v,H',os,bare,un,hok',r',q⟩:=h;have q':v= .bl true:=q;subst q';obtain rfl:u=Value.bool true:=r';refine ⟨rfl,OldK.of_keep λb o e=> ?_,os,bare⟩
    cases q:H b with
    | none=>exact un.keep b o e q (by intro z;exact absurd (show b∈([]:List Addr) from z) (by simp)) (by simp)
    | some u =>
     rcases hO b with z | ⟨ob,xs,z⟩
     ·rw [q] at z;cases z
     ·have z2:=un.frzs b ob _ z;obtain ⟨e1,_⟩:=hok b _ z;obtain ⟨e2,_⟩:=hok' b _ z2;rw [e] at e1;cases e1;exact e2
 cases hk:K.lookup a with
 | some o =>
  have e:=KX a o hk;rw [ha] at e;cases e;refine core (λ_=>none) (λ_=> .inl rfl) (.inr ⟨_,vs.toArray,_,hk,rfl,rfl,rfl,by rw [Z0g,lenV];exact hl,by simpa using rv⟩) (λb u z=>by have z':(none:Option HO)=some u:=z;cases z') (λb z=>absurd rfl z) λz=>absurd rfl z
 | none =>
  refine core (λb=>if b=a then some (.frz { cls:= .type "list",data:= .seq vs.toArray } (.lst (ns.map V.int))) else none) (λb=> ?_) (.inl (.inr ⟨{ cls:= .type "list",data:= .seq vs.toArray },Z12 rfl⟩)) (λb u z=> ?_) (λb z=> ?_) λ_=>hk
  ·by_cases hb:b=a
   ·exact .inr ⟨_,_,Z12 hb⟩
   ·exact .inl (Z0t hb)
  ·by_cases hb:b=a
   ·have z':=(Z12 hb).symm.trans z;cases z';subst hb;exact ⟨ha,by rw [Z08];exact hl,vs,_,rv,ha⟩
   ·have z':=(Z0t hb).symm.trans z;cases z'
  ·by_cases hb:b=a
   ·exact hb
   ·exact absurd (Z0t hb) z
theorem D5m {l:PySem.W.OpenLaw} {n k:Nat} {q:Program} {loose:List Str} {XP:(Str->Option Value)->Heap->Prop} {YP:World->Heap->Prop} {d:DefRec} {K:Params->Frag} {CX:World->CXT} {sp:World->Sp} {x:Str}
  (hn:l.most=some n) (hn2:n<=sizeLine) (hdf:d.params.defaults=[]) (hr:A7j k callerA)
  (hY:∀(w:World) (h:Heap),YP w h->(K w.params).In h)
  (F:∀(w:World) (mg:Str->Option Value) (fa:Addr) (h:Heap),(K w.params).In h->h.Ns mainGlobals mg->mg d.name=some (.ref fa)->
   ∃fd:FuncData,(∀(s:Shared) (u:Value),BindsTo s fd ⟨[u],[]⟩ [(x,u)])/\
    ∀base:Heap,(K w.params).In base->base.Ns mainGlobals mg->A4m l.prog w (K w.params) mg base (CX w) k fa fd [x] (sp w))
  (hsp:∀(w:World) (H:Hp) (a:Addr) (ns:List Int),ns.length<=n->E1j H->SqL (K w.params) H a (ns.map V.int)->sp w [.ref a] H (λv _=>v= .bl true) λ_ _ _=>False)
  (hCX:∀(w:World) (H:Hp) (s:Shared) (e:Value) (s':Shared),CX w [] H s (λ_ _ _=>False) e s'->False) :
  PySem.W.WalkO q loose XP YP l.row.toRowW d [] (λf vs=>PySem.call f vs):=by
 refine Att.attach_call hn hdf λw s₀ s₁ mg mb fa o pm cd doc a vs ns G Y ho hd hcd hmg hobj hints hlen hg=> ?_;have KX:=hY w _ Y;obtain ⟨fd,hb,hF⟩:=F w mg fa _ KX G.T.g hmg;exact C9t KX G.T.g G.T.b G.T.builtins G.T.nolimit hg hobj hints (Z1n hlen hn2) hr hF hb (λH hO hS=>hsp w H a ns hlen hO hS) λH e s'=>hCX w H s₁ e s'
def A4l (s:Stmt) (j:Nat):Stmt:=match s with
 | .ClassDef _ _ _ body _ _ _ _ _ _ _=>body.getD j (.Pass ⟨0,0,0,0⟩)
 | _=> .Pass ⟨0,0,0,0⟩
def A9f (s:Stmt):Arguments:=match s with
 | .FunctionDef _ a _ _ _ _ _ _ _ _=>a
 | _=>{ posonlyargs:=[],args:=[],vararg:=none,kwonlyargs:=[],kw_defaults:=[],kwarg:=none,defaults:=[] }
def A6i (s:Stmt):List Stmt:=match s with
 | .FunctionDef _ _ b _ _ _ _ _ _ _=>b
 | _=>[]
def A0i (s:Stmt):Scope:=match s with
 | .FunctionDef _ _ _ _ _ _ sc _ _ _=>sc
 | _=>{ kind:= .function,names:=[],isGenerator:=false,isCoroutine:=false }
abbrev CX0:CXT:=λ_ _ _ _ _ _=>False
abbrev E0:XK:=λ_ _ _=>False
theorem B4r {X:Cx}:A9c CX0 X E0:=λ_ _ _ _ _ _ _ h=>h.elim
structure Fun (K:Frag) (x qual:Str) (st:Stmt) (f:Addr) (fd:FuncData):Prop where
 ex:∃(oc:Value) (od:Option Addr) (kV doc pm:Value) (an:Option Addr) (cdv ct:Value) (osl:Array (Option Value)),
  fd=fnOf x qual (A9f st) (A6i st) (A0i st) .none kV doc pm an cdv ct/\K.lookup f=some ⟨oc,od,.func fd,osl⟩/\codeIn K cdv qual=true
 kp:keepIn K (.ref f)=true
section
variable {P:Program} {w:World} {K:Frag} {mg:Str->Option Value} {base:Heap}
theorem Fun.ok {x qual:Str} {st:Stmt} {f:Addr} {fd:FuncData} {N ps:List Str} {k:Nat} {sp:Sp} (F:Fun K x qual st f fd) (S:A0m N ps (A0i st)) (len:∀vs H Q E,sp vs H Q E->vs.length=ps.length)
  (hbody:∀(cdv:Value) (A:Around) (outer:List Env) (s:Shared) (H:Hp) (vs:List V) (Q:VK) (E:XK),A7j k (A.deeper (envOfC qual (A0i st) s.heap.objs.size f cdv))->sp vs H Q E->
   ∃t,PSs (C6m CX0 P w K mg base N qual (A0i st) f cdv A outer s H E).nox (A6i st) t/\t { nx:=λ_ H'=>Q .non H',rt:=Q } (B2v N vs) H):A4m P w K mg base CX0 (k+1) f fd ps sp:=by
 obtain ⟨oc,od,kV,doc,pm,an,cdv,ct,osl,rfl,lk,hcd⟩:=F.ex;refine E0i lk hcd S len λA outer s H vs Q E hr hsp=> ?_;obtain ⟨t,h,q⟩:=hbody cdv A outer s H vs Q E hr hsp;exact ⟨t,h.nox,q⟩
theorem Fun.binds {x qual:Str} {st:Stmt} {f:Addr} {fd:FuncData} {ps:List Str} (F:Fun K x qual st f fd)
  (h:∀(kV doc pm:Value) (an:Option Addr) (cdv ct:Value) (us:List Value),us.length=ps.length->bindArgs (fnOf x qual (A9f st) (A6i st) (A0i st) .none kV doc pm an cdv ct) ⟨us,[]⟩=pure (ps.zip us)):A8w K fd ps []:=by
 obtain ⟨oc,od,kV,doc,pm,an,cdv,ct,osl,rfl,lk,hcd⟩:=F.ex;exact .all (h kV doc pm an cdv ct)
theorem D3d {x qual:Str} {st:Stmt} {f:Addr} {oc:Value} {od an:Option Addr} {osl:Array (Option Value)} {kV doc pm cdv ct:Value} (l:K.lookup f=some ⟨oc,od,.func (fnOf x qual (A9f st) (A6i st) (A0i st) .none kV doc pm an cdv ct),osl⟩)
  (c:codeIn K cdv qual=true) (k:keepIn K (.ref f)=true):Fun K x qual st f (fnOf x qual (A9f st) (A6i st) (A0i st) .none kV doc pm an cdv ct):=⟨⟨oc,od,kV,doc,pm,an,cdv,ct,osl,rfl,l,c⟩,k⟩
end
theorem B0m {A:Around} {k:Nat} (hr:A7j k A):A.units+1<cLine:=Z2d (Nat.add_le_add_left (by decide:1<=64) _) hr.units
section
variable {X:Cx}
theorem pv (i:Nat) {x:Str} {pos:Pos} (hN:X.N[i]? =some x:=by rfl) (hv:Vis X.env.scope x:=by first | exact Or.inl rfl | exact Or.inr (Or.inl rfl) | exact Or.inr (Or.inr rfl)) (hd:(x == ("__debug__":Str))=false:=by decide)
  (hcd:(x == ("__classdict__":Str))=false:=by decide):PE X (.Name x pos) (D7a i):=D9j hN hv hd hcd
end
theorem A3v {A B:Prop} (h:B):if false=true then A else B:=by
 rw [Z0t Z0v];exact h
theorem B2r {A B:Prop} (h:A):if true=true then A else B:=by
 rw [Z12 rfl];exact h
theorem E1r {c A B:Prop} [Decidable c] (h1:c->A) (h2:¬c->B):if c then A else B:=by
 by_cases h:c
 ·rw [Z12 h];exact h1 h
 ·rw [Z0t h];exact h2 h
def A0p (H H':Hp):Prop:=∀b o,H b=some o->H' b=some o
theorem A0p.refl (H:Hp):A0p H H:=λ_ _ h=>h
theorem A0p.trans {H H1 H2:Hp} (a:A0p H H1) (b:A0p H1 H2):A0p H H2:=λc o h=>b c o (a c o h)
theorem A0p.free {H H':Hp} (e:A0p H H') {l:Addr} (h:H' l=Option.none):H l=Option.none:=by
 cases q:H l with
 | none=>rfl
 | some o =>
  rw [e l o q] at h;cases h
section
variable {κ:Type} [DecidableEq κ]
end
section
variable {X:Cx}
def tCut (t u:TS):TS:=λD σ H=>∃M:St->Hp->Prop,t { D with nx:=M } σ H/\∀σ' H',M σ' H'->u D σ' H'
theorem A7z {st:Stmt} {rest:List Stmt} {t u:TS} (h1:PS X st t) (h2:PSs X rest u):PSs X (st::rest) (tCut t u):=by
 intro pins s σ H D I h;obtain ⟨M,h,hm⟩:=h;refine wpAny_execs_cons (thn (h1 pins s σ H { D with nx:=M } I h) λf s1 q=> ?_)
 cases f with
 | next =>
  obtain ⟨σ',H',I',q⟩:=q;exact h2 pins s1 σ' H' D I' (hm _ _ q)
 | ret v=>exact q
 | brk=>exact q
 | cont=>exact q
def rIsi (K:Frag):List V->Hp->VK->Prop:=λxs H Q=>∃x c t b,xs=[x,c]/\A9s K H x t/\(∀u,A3d c u->kitOne K t u=some b)/\Q (.bl b) H
theorem A1h:B2b X (.builtin "isinstance") (rIsi X.K):=by
 intro pins s σ H xs us Q I r h;obtain ⟨x,c,t,b,rfl,ty,e,q⟩:=h;obtain ⟨u,w',rfl,ru,rw'⟩:=C0e r;exact C4x I ru ty (e w' rw') λtk=>⟨.bl b,H,I.tok tk,rfl,q⟩
theorem B0h {K:Frag} (T:String):∀u,A3d (.ty T) u->kitOne K (.type T) u=some true:=by
 intro u h;cases (show u=Value.type T from h);unfold kitOne;rw [Z12 (beq_self_eq_true _)]
theorem C2o {K:Frag} {T U:String} {b:Bool} (h:(Value.type T == Value.type U)=false) (hm:PySem.W.kitMeta U=true) (hs:(PySem.fastBuiltinMro T).map (·.contains (Value.type U))=some b) :
  ∀u,A3d (.ty U) u->kitOne K (.type T) u=some b:=by
 intro u z;cases (show u=Value.type U from z);unfold kitOne;rw [Z0t (by rw [h];exact Z0v)];show (if PySem.W.kitMeta U=true then subIn K (.type T) (.type U) else none)=some b;rw [Z12 hm];exact hs
def D9f (K:Frag):R2:=λx y H Q=>∃a b xs ys,x= .ref a/\y= .ref b/\SqT K H a xs/\SqT K H b ys/\ys≠[]/\xs.length+ys.length<=sizeLine/\
 (xs=[]->Q (.ref b) H)/\(xs≠[]->∀p,H p=none->Q (.ref p) (upd H p (.tup (xs++ys))))
theorem C2u:OpR X (binaryOp .Add) (D9f X.K):=by
 intro pins s σ H x y v u Q I rx ry h;obtain ⟨a,b,xs,ys,rfl,rfl,ha,hb,hy,hz,q1,q2⟩:=h;by_cases hx:xs=[]
 ·subst hx;cases rx;cases ry;obtain ⟨its,r1,p1,_⟩:=I.tuple ha;obtain ⟨its2,r2,p2,_⟩:=I.tuple hb;have e1:its=[]:=r1.nil_iff.mpr rfl;obtain ⟨⟨cls,dd,data,sl⟩,ho,hc,n,hd⟩:=id p1;obtain ⟨⟨cls2,dd2,data2,sl2⟩,ho2,hc2,n2,hd2⟩:=id p2;simp only at hc hd hc2 hd2;subst hc hd hc2 hd2
  exact concat_meets ⟨_,ho,rfl⟩ ⟨_,ho2,rfl⟩ noFill_tuple_add seq_tuple_add PySem.F.slot_tuple_add PySem.F.entry_tuple_add (PySem.F.args_tuple_add_2 _ _)
   (tuple_addW0 a b its.toArray its2.toArray n n2 dd dd2 sl sl2 (by simp [e1])) ⟨ho,ho2,⟨.ref b,H,I,rfl,q1 rfl⟩⟩
 ·exact D5a pins s σ H _ _ v u Q I rx ry ⟨a,b,xs,ys,rfl,rfl,ha,hb,hx,hz,λz=>absurd z hy,λ_=>q2 hx⟩
end
structure Nx (it l:Addr) (st:Nat->Heap->Prop) (src:Array Value->Heap->Prop):Prop where
 item:∀{prog:Program} {w:World} {A:Around} {E:Value->Shared->Prop} {s:Shared} {k:Nat} {xs:Array Value} {x:Value} {Q:Value->Shared->Prop},st k s.heap->src xs s.heap->xs[k]? =some x->
  (∀h',st (k+1) h'->Heap.SameBut it s.heap h'->Q x { s with heap:=h' })->wpAny (model prog w) A (Builtin.SmallTypes.nextOf (.ref it)) Q E s
 fin:∀{prog:Program} {w:World} {A:Around} {E:Value->Shared->Prop} {s:Shared} {k:Nat} {xs:Array Value} {Q:Value->Shared->Prop},A.handled=none->st k s.heap->src xs s.heap->xs[k]? =none->
  (∀h' e,Heap.ExtBut it s.heap h'->(∃o,h'.get? e=some o/\o.cls= .type "StopIteration")->E (.ref e) { s with heap:=h' })->wpAny (model prog w) A (Builtin.SmallTypes.nextOf (.ref it)) Q E s
 mv:∀{k:Nat} {h h':Heap},st k h->(∀o,h.get? it=some o->h'.get? it=some o)->st k h'
 mvS:∀{xs:Array Value} {h h':Heap},src xs h->(∀o,h.get? l=some o->h'.get? l=some o)->src xs h'
 ob:∀{k:Nat} {h:Heap},st k h->∃o,h.get? it=some o/\∀v,o.data≠.cell v
theorem A8m (it l:Addr):Nx it l (λk h=>h.IsListIter it l k) (λxs h=>h.IsList l xs) where
 item:=wpAny_nextOf_list_item
 fin:=wpAny_nextOf_list_end
 mv:=λx e=>x.at e
 mvS:=λx e=>x.at e
 ob:=λ⟨o,e,_,d⟩=>⟨o,e,λv z=>by rw [d] at z;cases z⟩
section
variable {prog:Program} {w:World} {A:Around} {E:Value->Shared->Prop} {s:Shared}
theorem B1r {it l:Addr} {k:Nat} {xs:Array Value} {x:Value} {Q:Value->Shared->Prop} (hi:s.heap.IsTupleIter it l k) (hl:s.heap.IsTuple l xs) (hx:xs[k]? =some x)
  (hQ:∀h',h'.IsTupleIter it l (k+1)->Heap.SameBut it s.heap h'->Q x { s with heap:=h' }):wpAny (model prog w) A (Builtin.SmallTypes.nextOf (.ref it)) Q E s:=by
 obtain ⟨o,ho,hc,hd⟩:=id hi;obtain ⟨ol,hol,_,nl,hdl⟩:=hl;unfold Builtin.SmallTypes.nextOf;refine Z00 (Z1b (name:=Str.ofString "__next__") hi.typeIs F.slot_tuple_iterator_next (Z1g F.slot_tuple_iterator_next hi.typeIs F.entry_tuple_iterator_next ?_ (F.args_tuple_iterator_next_1 _)));show wpAny _ _ (field (.ref it) 0 >>= _) _ _ s;refine Z00 (Z11 ho hd (x:= .ref l) rfl ?_);show wpAny _ _ (if (Value.ref l == Value.none)=true then _ else _) _ _ s;rw [Z0t (show¬((Value.ref l == Value.none)=true) from Z0v)];show wpAny _ _ (field (.ref it) 1 >>= _) _ _ s;refine Z00 (Z11 ho hd (x:= .int k 0) rfl ?_);show wpAny _ _ (seqItems? (.ref l) >>= _) _ _ s;refine Z00 (Z21 hol hdl ?_);simp only [Int.toNat_natCast,hx];refine Z00 (Z1t ho hd (by simp) (Z04 ⟨x,rfl,Z04 (hQ _ ?_ (Heap.SameBut.update ..))⟩));exact ⟨_,Z1r _ ho (Obj.isFreed_of_fields (Obj.data_mapFields hd _)),(Obj.cls_mapFields ..).trans hc,by rw [Obj.data_mapFields hd];simp [rawInt]⟩
theorem B2t {it l:Addr} {k:Nat} {xs:Array Value} {Q:Value->Shared->Prop} (hh:A.handled=none) (hi:s.heap.IsTupleIter it l k) (hl:s.heap.IsTuple l xs) (hx:xs[k]? =none)
  (hE:∀h' e,Heap.ExtBut it s.heap h'->(∃o,h'.get? e=some o/\o.cls= .type "StopIteration")->E (.ref e) { s with heap:=h' }):wpAny (model prog w) A (Builtin.SmallTypes.nextOf (.ref it)) Q E s:=by
 obtain ⟨o,ho,hc,hd⟩:=id hi;obtain ⟨ol,hol,_,nl,hdl⟩:=hl;unfold Builtin.SmallTypes.nextOf;refine Z00 (Z1b (name:=Str.ofString "__next__") hi.typeIs F.slot_tuple_iterator_next (Z1g F.slot_tuple_iterator_next hi.typeIs F.entry_tuple_iterator_next ?_ (F.args_tuple_iterator_next_1 _)));show wpAny _ _ (field (.ref it) 0 >>= _) _ _ s;refine Z00 (Z11 ho hd (x:= .ref l) rfl ?_);show wpAny _ _ (if (Value.ref l == Value.none)=true then _ else _) _ _ s;rw [Z0t (show¬((Value.ref l == Value.none)=true) from Z0v)];show wpAny _ _ (field (.ref it) 1 >>= _) _ _ s;refine Z00 (Z11 ho hd (x:= .int k 0) rfl ?_);show wpAny _ _ (seqItems? (.ref l) >>= _) _ _ s;refine Z00 (Z21 hol hdl ?_);simp only [Int.toNat_natCast,hx];refine Z00 (wpAny_rule (Z00 (Z1t ho hd (by simp) ?_)));show wpAny _ _ (newExc (.type "StopIteration") [] >>= _) _ _ _;refine Z00 ?_;simp only [newExc,newTuple];refine Z00 (Z16 ?_ (by size_fits));refine Z00 (m:=firstArgMember _ _) (wpAny_of_eq (a:=Value.none) (by first | rfl | (simp only [firstArgMember];rfl)) ?_);refine Z16 ?_ (by size_fits);simp only [raiseNew];refine Z00 (wpAny_handled ?_)
 first | rw [show A.in1.handled=none from hh] | rw [hh]
 refine Z00 (Z04 (wpAny_throw ?_));exact hE _ _ (((Heap.SameBut.update ..).extBut.push _).push _) ⟨_,Z0c _ rfl,rfl⟩
end
theorem A2b (it l:Addr):Nx it l (λk h=>h.IsTupleIter it l k) (λxs h=>h.IsTuple l xs) where
 item:=B1r
 fin:=B2t
 mv:=λ⟨o,e,r⟩ f=>⟨o,f _ e,r⟩
 mvS:=λ⟨o,e,r⟩ f=>⟨o,f _ e,r⟩
 ob:=λ⟨o,e,_,d⟩=>⟨o,e,λv z=>by rw [d] at z;cases z⟩
section
variable {z TI TO i1 i2 l1 l2:Addr} {st1 st2:Nat->Heap->Prop} {src1 src2:Array Value->Heap->Prop} {prog:Program} {w:World} {A:Around} {E:Value->Shared->Prop} {s:Shared}
theorem B7b (N1:Nx i1 l1 st1 src1) (N2:Nx i2 l2 st2 src2) {k1 k2:Nat} {xs ys:Array Value} {x y a b:Value} {Q:Option Value->Shared->Prop} (D:ZipApart z TI TO i1 i2 l1 l2)
  (hz:IsZip s.heap z TI TO .none) (hTI:IsPair s.heap TI (.ref i1) (.ref i2)) (hTO:IsPair s.heap TO a b) (h1:st1 k1 s.heap) (h2:st2 k2 s.heap) (hl1:src1 xs s.heap) (hl2:src2 ys s.heap) (hx:xs[k1]? =some x) (hy:ys[k2]? =some y)
  (hQ:∀h',IsZip h' z TI TO (rawInt s.heap.objs.size)->IsPair h' TO x y->st1 (k1+1) h'->st2 (k2+1) h'->IsPair h' s.heap.objs.size x y->
   (∀c o,c≠z->c≠TO->c≠i1->c≠i2->s.heap.get? c=some o->h'.get? c=some o)->Q (some (.ref s.heap.objs.size)) { s with heap:=h' }):wpAny (model prog w) A (pyNext (.ref z)) Q E s:=by
 have hT:s.TypeIs (.ref z) "zip":=⟨_,hz,rfl⟩;unfold pyNext;refine Z00 (wpAny_attempt (Z1b (name:=Str.ofString "__next__") hT F.slot_zip_next (Z1g F.slot_zip_next hT F.entry_zip_next ?_ (F.args_zip_next_1 _))));show wpAny _ _ (field (.ref z) 2 >>= _) _ _ _;refine Z00 (Z11 hz rfl (x:= .bool false) rfl ?_);show wpAny _ _ (field (.ref z) 3 >>= _) _ _ _;refine Z00 (Z11 hz rfl (x:= .ref TI) rfl ?_);refine Z00 (Z21 hTI rfl ?_);show wpAny _ _ (Builtin.SmallTypes.ownedTupleIsFree (.ref z) >>= _) _ _ _;refine Z00 ?_;unfold Builtin.SmallTypes.ownedTupleIsFree;refine Z00 (Z11 hz rfl (x:= .none) rfl (Z04 ?_));simp only [if_true];refine Z00 (wpAny_rule ?_);refine Z00 (Z11 hz rfl (x:= .ref TO) rfl ?_);refine Z00 (Z1h hz (by simp) λg1 z1 b1=> ?_)
 replace z1:IsZip g1 z TI TO .ellipsis:=z1
 refine Z00 ?_;simp only [List.zipIdx_cons,List.zipIdx_nil,List.forIn_cons,List.forIn_nil];refine Z00 (Z00 (wpAny_onRaise ?_));show wpAny _ _ (Builtin.SmallTypes.nextOf (.ref i1) >>= _) _ _ _;refine Z00 (N1.item (N1.mv h1 λo e=>b1.extBut _ _ D.i1z e) (N1.mvS hl1 λo e=>b1.extBut _ _ D.l1z e) hx λg2 t2 b2=>Z04 ?_);have p2:IsPair g2 TO a b:=b2.extBut _ _ D.TOi1 (b1.extBut _ _ D.TOz hTO);refine Z00 (Z21 p2 rfl ?_);refine Z00 (wpAny_updateSeq_pair p2 λg3 p3 b3=> ?_)
 replace p3:IsPair g3 TO x b:=p3
 refine Z00 (wpAny_letGo (Z04 ?_));refine Z00 (Z00 (wpAny_onRaise ?_));show wpAny _ _ (Builtin.SmallTypes.nextOf (.ref i2) >>= _) _ _ _;refine Z00 (N2.item (N2.mv h2 λo e=>b3.extBut _ _ D.TOi2.symm (b2.extBut _ _ D.i12.symm (b1.extBut _ _ D.i2z e))) (N2.mvS hl2 λo e=>b3.extBut _ _ D.l2TO (b2.extBut _ _ D.l2i1 (b1.extBut _ _ D.l2z e))) hy λg4 t4 b4=>Z04 ?_);have p4:IsPair g4 TO x b:=b4.extBut _ _ D.TOi2 p3;refine Z00 (Z21 p4 rfl ?_);refine Z00 (wpAny_updateSeq_pair p4 λg5 p5 b5=> ?_)
 replace p5:IsPair g5 TO x y:=p5
 refine Z00 (wpAny_letGo (Z04 (Z04 ?_)));refine Z00 (Z21 p5 rfl ?_);refine Z00 (wpAny_newTuple ?_);have hsz:g5.objs.size=s.heap.objs.size:=by rw [b5.1,b4.1,b3.1,b2.1,b1.1]
 have z5:IsZip g5 z TI TO .ellipsis:=b5.extBut _ _ D.TOz.symm (b4.extBut _ _ D.i2z.symm (b3.extBut _ _ D.TOz.symm (b2.extBut _ _ D.i1z.symm z1)));have k5:∀c o,c≠z->c≠TO->c≠i1->c≠i2->s.heap.get? c=some o->g5.get? c=some o:=λc o c1 c2 c3 c4 e=>b5.extBut _ _ c2 (b4.extBut _ _ c4 (b3.extBut _ _ c2 (b2.extBut _ _ c3 (b1.extBut _ _ c1 e))));have s1:st1 (k1+1) g5:=N1.mv t2 λo e=>b5.extBut _ _ D.TOi1.symm (b4.extBut _ _ D.i12 (b3.extBut _ _ D.TOi1.symm e));have s2:st2 (k2+1) g5:=N2.mv t4 λo e=>b5.extBut _ _ D.TOi2.symm e;have zlt:z<g5.objs.size:=Z0a z5;show wpAny _ _ (Builtin.SmallTypes.ownedTupleHandOut (.ref z) (.ref g5.objs.size) >>= _) _ _ _;refine Z00 ?_;unfold Builtin.SmallTypes.ownedTupleHandOut;have z6:IsZip (g5.push { cls:= .type "tuple",data:= .seq #[x,y] }) z TI TO .ellipsis:=Z01 _ z5;refine Z00 (Z1h z6 (by simp) λg7 z7 b7=> ?_)
 replace z7:IsZip g7 z TI TO (rawInt g5.objs.size):=z7
 refine Z1h z7 (by simp) λg8 z8 b8=> ?_
 replace z8:IsZip g8 z TI TO (rawInt g5.objs.size):=z8
 have up:∀c o,c≠z->g5.get? c=some o->g8.get? c=some o:=λc o c1 e=>b8.extBut _ _ c1 (b7.extBut _ _ c1 (Z01 _ e));have p8:IsPair g8 g5.objs.size x y:=b8.extBut _ _ (Z1q zlt) (b7.extBut _ _ (Z1q zlt) (Z0c _ rfl));rw [hsz] at z8 p8;refine Z04 ⟨_,rfl,Z04 ?_⟩;show Q (some (.ref g5.objs.size)) _;rw [hsz];exact hQ g8 z8 (up _ _ D.TOz p5) (N1.mv s1 λo e=>up _ o D.i1z e) (N2.mv s2 λo e=>up _ o D.i2z e) p8 λc o c1 c2 c3 c4 e=>up c o c1 (k5 c o c1 c2 c3 c4 e)
theorem C6e (N1:Nx i1 l1 st1 src1) (N2:Nx i2 l2 st2 src2) {k1 k2:Nat} {xs ys:Array Value} {a b:Value} {Q:Option Value->Shared->Prop} (hh:A.handled=none) (D:ZipApart z TI TO i1 i2 l1 l2)
  (hz:IsZip s.heap z TI TO .none) (hTI:IsPair s.heap TI (.ref i1) (.ref i2)) (hTO:IsPair s.heap TO a b) (h1:st1 k1 s.heap) (h2:st2 k2 s.heap) (hl1:src1 xs s.heap) (hl2:src2 ys s.heap) (hend:xs[k1]? =none\/ys[k2]? =none)
  (hQ:∀h',(∀c o,c≠z->c≠TO->c≠i1->c≠i2->s.heap.get? c=some o->h'.get? c=some o)->Q none { s with heap:=h' }):wpAny (model prog w) A (pyNext (.ref z)) Q E s:=by
 have hT:s.TypeIs (.ref z) "zip":=⟨_,hz,rfl⟩;unfold pyNext
 have fin:∀(h':Heap) (e:Addr),(∀c o,c≠z->c≠TO->c≠i1->c≠i2->s.heap.get? c=some o->h'.get? c=some o)->(∃o,h'.get? e=some o/\o.cls= .type "StopIteration")->
   wpAny (model prog w) A (isInstance (.ref e) (.type "StopIteration") >>= λb=>if b=true then pure none else throw (.ref e)) Q E { s with heap:=h' }:=λh' e hk ⟨o,ho,hc⟩ =>
  Z00 (wpAny_isInstance (T:="StopIteration") (b:=true) ⟨o,ho,hc⟩ isSubtype_stop (Z04 (hQ _ hk)))
 refine Z00 (wpAny_attempt (Z1b (name:=Str.ofString "__next__") hT F.slot_zip_next (Z1g F.slot_zip_next hT F.entry_zip_next ?_ (F.args_zip_next_1 _))));show wpAny _ _ (field (.ref z) 2 >>= _) _ _ _;refine Z00 (Z11 hz rfl (x:= .bool false) rfl ?_);show wpAny _ _ (field (.ref z) 3 >>= _) _ _ _;refine Z00 (Z11 hz rfl (x:= .ref TI) rfl ?_);refine Z00 (Z21 hTI rfl ?_);show wpAny _ _ (Builtin.SmallTypes.ownedTupleIsFree (.ref z) >>= _) _ _ _;refine Z00 ?_;unfold Builtin.SmallTypes.ownedTupleIsFree;refine Z00 (Z11 hz rfl (x:= .none) rfl (Z04 ?_));simp only [if_true];refine Z00 (wpAny_rule ?_);refine Z00 (Z11 hz rfl (x:= .ref TO) rfl ?_);refine Z00 (Z1h hz (by simp) λg1 z1 b1=> ?_)
 replace z1:IsZip g1 z TI TO .ellipsis:=z1
 refine Z00 ?_;simp only [List.zipIdx_cons,List.zipIdx_nil,List.forIn_cons,List.forIn_nil];refine Z00 (Z00 (wpAny_onRaise ?_));show wpAny _ _ (Builtin.SmallTypes.nextOf (.ref i1) >>= _) _ _ _;have u1:=N1.mv h1 λo e=>b1.extBut _ _ D.i1z e;have v1:=N1.mvS hl1 λo e=>b1.extBut _ _ D.l1z e
 cases hx:xs[k1]? with
 | none =>
  refine Z00 (N1.fin hh u1 v1 hx λg2 e b2 he=> ?_);obtain ⟨oe,hoe,hce⟩:=he;have z2:IsZip g2 z TI TO .ellipsis:=b2 _ _ D.i1z.symm z1;have ez:e≠z:=λx=>by subst x;rw [z2] at hoe;cases hoe;simp at hce
  exact Z1h z2 (by simp) λg3 _ b3=>fin g3 e (λc o c1 _ c3 _ x=>b3.extBut _ _ c1 (b2 _ _ c3 (b1.extBut _ _ c1 x))) ⟨oe,b3.extBut _ _ ez hoe,hce⟩
 | some x =>
  have hy:ys[k2]? =none:=by
   rcases hend with h | h
   ·rw [hx] at h;cases h
   ·exact h
  refine Z00 (N1.item u1 v1 hx λg2 t2 b2=>Z04 ?_);have p2:IsPair g2 TO a b:=b2.extBut _ _ D.TOi1 (b1.extBut _ _ D.TOz hTO);refine Z00 (Z21 p2 rfl ?_);refine Z00 (wpAny_updateSeq_pair p2 λg3 p3 b3=> ?_);refine Z00 (wpAny_letGo (Z04 ?_));refine Z00 (Z00 (wpAny_onRaise ?_));show wpAny _ _ (Builtin.SmallTypes.nextOf (.ref i2) >>= _) _ _ _;refine Z00 (N2.fin hh (N2.mv h2 λo e=>b3.extBut _ _ D.TOi2.symm (b2.extBut _ _ D.i12.symm (b1.extBut _ _ D.i2z e))) (N2.mvS hl2 λo e=>b3.extBut _ _ D.l2TO (b2.extBut _ _ D.l2i1 (b1.extBut _ _ D.l2z e))) hy λg4 e b4 he=> ?_);obtain ⟨oe,hoe,hce⟩:=he;have z4:IsZip g4 z TI TO .ellipsis:=b4 _ _ D.i2z.symm (b3.extBut _ _ D.TOz.symm (b2.extBut _ _ D.i1z.symm z1));have ez:e≠z:=λx=>by subst x;rw [z4] at hoe;cases hoe;simp at hce
  exact Z1h z4 (by simp) λg5 _ b5=>fin g5 e (λc o c1 c2 c3 c4 x=>b5.extBut _ _ c1 (b4 _ _ c4 (b3.extBut _ _ c2 (b2.extBut _ _ c3 (b1.extBut _ _ c1 x))))) ⟨oe,b5.extBut _ _ ez hoe,hce⟩
end
section
variable {X:Cx} {pins:List (Addr×Obj)} {σ:St} {H:Hp} {s:Shared} {h':Heap}
theorem Inv.turnedNew {t':Nat} {ts:List Addr} {a:Addr} {o:HO} (I:Inv X pins σ H s) (k:∀b u,b∉ts->s.heap.get? b=some u->h'.get? b=some u) (f:∀b∈ts,B4x X pins H b) (hp:s.heap.objs.size<=a)
  (new:A2a X.prog X.w (upd H a o) h' a o):Inv X pins σ (upd H a o) { s with heap:=h',toks:=t' }:=by
 have nt:∀b u,H b=some u->b∉ts:=λb u e z=>by have:=(f b z).1;rw [e] at this;cases this
 have na:∀b u,s.heap.get? b=some u->b≠a:=λb u e=>Z0h (Z0q (Z0a e) hp);have ha:H a=none:=I.hok.fresh hp
 refine I.step (g':=s.gens) (d':=s.drawn) (ch:=ts) (λb hb=>⟨(f b hb).2.2.2.1,(f b hb).2.1,(f b hb).2.2.2.2.1,(f b hb).2.2.2.2.2⟩) (λb u _ _ hc e _=>k b u hc e) (λb u _ _ hc e _=>⟨u.slots,k b u hc e⟩)
  (λb u _ e n=>by rw [A0j (na b u e)];exact n) (λb u hc e=>⟨u,k b u hc e⟩) (λb xs e=>by rw [A0j (A0g e ha)];exact e) (λb u xs e=>by rw [A0j (A0g e ha)];exact e)
  (λb ps e=>⟨#[],by rw [A0j (A0g e ha),e];simp⟩) (λm hm=> ?_) (λb u e=> ?_) I.bare
 ·obtain ⟨ob,es,ep,ho,r⟩:=hm;exact ⟨ob,es,ep,k _ ob (λz=>(f _ z).2.1 rfl) ho,r⟩
 ·by_cases hb:b=a
  ·subst hb;rw [A0b] at e;cases e;exact new
  ·rw [A0j hb] at e;refine (I.hok b u e).stay (λc v hc q=>k c v ?_ q) (λc q=>by rw [A0j (A0g q ha)];exact q) λc xs q=>by rw [A0j (A0g q ha)];exact q
   rcases hc with rfl | hc
   ·exact nt _ _ e
   ·exact nt _ _ hc
theorem Inv.turnedL {t':Nat} {ts:List Addr} (I:Inv X pins σ H s) (k:∀b u,b∉ts->s.heap.get? b=some u->h'.get? b=some u) (f:∀b∈ts,B4x X pins H b):Inv X pins σ H { s with heap:=h',toks:=t' }:=by
 have nt:∀b u,H b=some u->b∉ts:=λb u e z=>by have:=(f b z).1;rw [e] at this;cases this
 refine I.step (g':=s.gens) (d':=s.drawn) (ch:=ts) (λb hb=>⟨(f b hb).2.2.2.1,(f b hb).2.1,(f b hb).2.2.2.2.1,(f b hb).2.2.2.2.2⟩) (λb u _ _ hc e _=>k b u hc e) (λb u _ _ hc e _=>⟨u.slots,k b u hc e⟩)
  (λb u _ e n=>n) (λb u hc e=>⟨u,k b u hc e⟩) (λb xs e=>e) (λb u xs e=>e) (λb ps e=>⟨#[],by rw [e];simp⟩) (λm hm=> ?_) (λb u e=> ?_) I.bare
 ·obtain ⟨ob,es,ep,ho,r⟩:=hm;exact ⟨ob,es,ep,k _ ob (λz=>(f _ z).2.1 rfl) ho,r⟩
 ·refine (I.hok b u e).stay (λc v hc q=>k c v ?_ q) (λc q=>q) λc xs q=>q;rcases hc with rfl | hc
  ·exact nt _ _ e
  ·exact nt _ _ hc
end
def SqK (k:Bool) (K:Frag) (H:Hp) (a:Addr) (xs:List V):Prop:=match k with | true=>SqL K H a xs | false=>SqT K H a xs
def SrK (k:Bool) (h:Heap) (l:Addr) (xs:Array Value):Prop:=match k with | true=>h.IsList l xs | false=>h.IsTuple l xs
def StK (k:Bool) (it l:Addr) (i:Nat) (h:Heap):Prop:=match k with | true=>h.IsListIter it l i | false=>h.IsTupleIter it l i
abbrev itK (k:Bool):String:=match k with | true=>"list_iterator" | false=>"tuple_iterator"
theorem nxK:∀(k:Bool) (it l:Addr),Nx it l (λi h=>StK k it l i h) (λxs h=>SrK k h l xs)
 | true=>A8m
 | false=>A2b
theorem D7b {X:Cx} {pins:List (Addr×Obj)} {σ:St} {H:Hp} {s:Shared} {a:Addr} {xs:List V} (I:Inv X pins σ H s):∀{k:Bool},SqK k X.K H a xs->∃its:List Value,A2t xs its/\SrK k s.heap a its.toArray
 | true,h=>let ⟨its,rv,p,_⟩:=I.list h;⟨its,rv,p.isList⟩
 | false,h=>let ⟨its,rv,p,_⟩:=I.tuple h;⟨its,rv,p⟩
theorem E2z {X:Cx} {pins:List (Addr×Obj)} {σ:St} {H:Hp} {s:Shared} {a:Addr} {xs ys:List V} (I:Inv X pins σ H s):∀{k:Bool},SqK k X.K H a xs->SqK k X.K H a ys->xs=ys
 | true,h,g=>I.list_inj h g
 | false,h,g=>I.tuple_inj h g
theorem ltK {h:Heap} {l:Addr} {xs:Array Value}:∀{k:Bool},SrK k h l xs->l<h.objs.size
 | true,⟨_,e,_⟩=>Z0a e
 | false,⟨_,e,_⟩=>Z0a e
theorem D8j {prog:Program} {w:World} {A:Around} {E:Value->Shared->Prop} {s:Shared} {l:Addr} {xs:Array Value} {Q:Value->Shared->Prop}:∀{k:Bool},SrK k s.heap l xs->Q (.ref s.heap.objs.size) { s with heap:=s.heap.push { cls:= .type (itK k),data:= .fields #[.ref l,.int 0 0] } }->wpAny (model prog w) A (pyIter (.ref l)) Q E s
 | true,h,q=>wpAny_pyIter_list h q
 | false,h,q=>wpAny_pyIter_tuple h q
theorem E3j {h:Heap} {it l:Addr}:∀{k:Bool},h.get? it=some { cls:= .type (itK k),data:= .fields #[.ref l,.int 0 0] }->StK k it l 0 h
 | true,e=>⟨_,e,rfl,rfl⟩
 | false,e=>⟨_,e,rfl,rfl⟩
def Itk (k1 k2:Bool) (K:Frag) (a b:Addr):It :=
 ⟨λi H=>∃xs ys x y,SqK k1 K H a xs/\SqK k2 K H b ys/\xs[i]? =some x/\ys[i]? =some y,
  λi H v H'=>∃p,H p=none/\v= .ref p/\∃x y,(∀xs,SqK k1 K H a xs->xs[i]? =some x)/\(∀ys,SqK k2 K H b ys->ys[i]? =some y)/\H'=upd H p (.tup [x,y]),
  λi H=>∃xs ys,SqK k1 K H a xs/\SqK k2 K H b ys/\(xs.length<=i\/ys.length<=i)⟩
def C1u (k1 k2:Bool) (z TI TO i1 i2 a b:Addr) (i:Nat) (h:Heap):Prop:=IsZip h z TI TO .none/\IsPair h TI (.ref i1) (.ref i2)/\(∃u v,IsPair h TO u v)/\StK k1 i1 a i h/\StK k2 i2 b i h
theorem C7a {k1 k2:Bool} {P:Program} {w:World} {K:Frag} {elts:List Expr} {kk:Nat} {pos:Pos} {z TI TO i1 i2 a b:Addr} (D:ZipApart z TI TO i1 i2 a b) :
  D1n P w K (.Tuple elts kk pos) (Itk k1 k2 K a b) [z,TI,TO,i1,i2] z (C1u k1 k2 z TI TO i1 i2 a b) where
 mem:=by simp
 obj:=λi h st c hc=>by
  obtain ⟨h1,h2,⟨u,v,h3⟩,h4,h5⟩:=st;simp only [Z0e,Z1i,or_false] at hc;rcases hc with rfl | rfl | rfl | rfl | rfl
  ·exact ⟨_,h1,λv z=>by cases (show Data.fields _=Data.cell v from z)⟩
  ·exact ⟨_,h2,λv z=>by cases (show Data.seq _ _=Data.cell v from z)⟩
  ·exact ⟨_,h3,λv z=>by cases (show Data.seq _ _=Data.cell v from z)⟩
  ·exact (nxK k1 _ a).ob h4
  ·exact (nxK k2 _ b).ob h5
 keep:=λi h h' st k=>by
  obtain ⟨h1,h2,⟨u,v,h3⟩,h4,h5⟩:=st;exact ⟨k z (by simp) _ h1,k TI (by simp) _ h2,⟨u,v,k TO (by simp) _ h3⟩,(nxK k1 i1 a).mv h4 λo e=>k i1 (by simp) o e,(nxK k2 i2 b).mv h5 λo e=>k i2 (by simp) o e⟩
 item:=by
  intro X hP hw hK hc i pins s σ H E I hf st hg;subst hP hw hK;obtain ⟨xs,ys,x,y,hq1,hq2,hx,hy⟩:=hg;obtain ⟨its,rv,p1⟩:=D7b I hq1;obtain ⟨its2,rv2,p2⟩:=D7b I hq2;obtain ⟨u,hu,ru⟩:=rv.get hx;obtain ⟨u2,hu2,ru2⟩:=rv2.get hy;obtain ⟨h1,h2,⟨o1,o2,h3⟩,h4,h5⟩:=st;refine B7b (nxK k1 i1 a) (nxK k2 i2 b) D h1 h2 h3 h4 h5 p1 p2 (x:=u) (by simpa using hu) (y:=u2) (by simpa using hu2) λh' z1 z2 z3 z4 z5 kp=> ?_;refine ⟨_,rfl,wpAny_letOwnedTupleGo_zip (s:={ s with heap:=h' }) z1 λg zg sb=> ?_⟩
  have nz:s.heap.objs.size≠z:=Z1q (Z0a h1);have n2:TI<s.heap.objs.size:=Z0a h2;have n3:TO<s.heap.objs.size:=Z0a h3;have n4:i1<s.heap.objs.size:=let ⟨_,e,_⟩:=(nxK k1 i1 a).ob h4;Z0a e;have n5:i2<s.heap.objs.size:=let ⟨_,e,_⟩:=(nxK k2 i2 b).ob h5;Z0a e;have zq:IsPair g s.heap.objs.size u u2:=sb.extBut _ _ nz z5
  have I1:Inv X pins σ (upd H s.heap.objs.size (.tup [x,y])) { s with heap:=g,toks:=s.toks }:=I.turnedNew (ts:=[z,TI,TO,i1,i2]) (λc o hc e=>by
   simp only [Z0e,Z1i,or_false,not_or] at hc
   exact sb.extBut _ _ hc.1 (kp c o hc.1 hc.2.2.1 hc.2.2.2.1 hc.2.2.2.2 e)) hf (Z09 _) ⟨by show 2<=sizeLine;decide,[u,u2],.cons ru (.cons ru2 .nil),⟨_,zq,rfl,_,rfl⟩⟩
  refine ⟨.ref s.heap.objs.size,_,I1,rfl,⟨_,I.hok.fresh (Z09 _),rfl,x,y,λzs hz=>by rw [E2z I hz hq1];exact hx,λzs hz=>by rw [E2z I hz hq2];exact hy,rfl⟩,
   ⟨zg,sb.extBut _ _ D.TIz (kp _ _ D.TIz D.TITO D.TIi1 D.TIi2 h2),⟨_,_,sb.extBut _ _ D.TOz z2⟩,(nxK k1 i1 a).mv z3 λo e=>sb.extBut _ _ D.i1z e,(nxK k2 i2 b).mv z4 λo e=>sb.extBut _ _ D.i2z e⟩,λc hc=> ?_⟩
  have hcn:c≠s.heap.objs.size:=by
   simp only [Z0e,Z1i,or_false] at hc;rcases hc with rfl | rfl | rfl | rfl | rfl
   ·exact nz.symm
   ·exact Z0h n2
   ·exact Z0h n3
   ·exact Z0h n4
   ·exact Z0h n5
  rw [A0j hcn];exact (hf c hc).1
 done:=by
  intro X hP hw hK hc i pins s σ H E I hf st hg;subst hP hw hK;obtain ⟨xs,ys,hq1,hq2,hx⟩:=hg;obtain ⟨its,rv,p1⟩:=D7b I hq1;obtain ⟨its2,rv2,p2⟩:=D7b I hq2;have e1:=rv.length;have e2:=rv2.length;obtain ⟨h1,h2,⟨o1,o2,h3⟩,h4,h5⟩:=st;refine C6e (nxK k1 i1 a) (nxK k2 i2 b) (I.ok.hd hc) D h1 h2 h3 h4 h5 p1 p2 (by simp;lia) λh' kp=>⟨rfl,?_⟩
  exact I.turnedL (t':=s.toks) (ts:=[z,TI,TO,i1,i2]) (λc o hc e=>by
   simp only [Z0e,Z1i,or_false,not_or] at hc
   exact kp c o hc.1 hc.2.2.1 hc.2.2.2.1 hc.2.2.2.2 e) hf
 self:=λ_ _ _ _ _ st h=>wpAny_pyIter_zip st.1 h
abbrev E0p (k1:Bool) (h:Heap) (l1:Addr):Heap:=h.push { cls:= .type (itK k1),data:= .fields #[.ref l1,.int 0 0] }
abbrev E0v (k1 k2:Bool) (h:Heap) (l1 l2:Addr):Heap:=(E0p k1 h l1).push { cls:= .type (itK k2),data:= .fields #[.ref l2,.int 0 0] }
noncomputable abbrev E0q (k1 k2:Bool) (h:Heap) (l1 l2:Addr):Heap:=(E0v k1 k2 h l1 l2).push { cls:= .type "tuple",data:= .seq #[.ref h.objs.size,.ref (E0p k1 h l1).objs.size] }
noncomputable abbrev E0s (k1 k2:Bool) (h:Heap) (l1 l2:Addr):Heap:=(E0q k1 k2 h l1 l2).push { cls:= .type "tuple",data:= .seq #[.none,.none] }
noncomputable abbrev D6y (k1 k2:Bool) (h:Heap) (l1 l2:Addr):Heap:=(E0s k1 k2 h l1 l2).push { cls:= .type "zip",data:= .fields #[.none,.bool false,.bool false,.ref (E0v k1 k2 h l1 l2).objs.size,.ref (E0q k1 k2 h l1 l2).objs.size] }
theorem C3m (k1 k2:Bool) (l1 l2:Addr) (xs ys:Array Value):Meets (Builtin.«zip.__new__» ⟨[.type "zip",.ref l1,.ref l2],[]⟩) (λ_ R s=>SrK k1 s.heap l1 xs/\SrK k2 s.heap l2 ys/\
  R (.ok (.ret (.ref (E0s k1 k2 s.heap l1 l2).objs.size))) { s with heap:=D6y k1 k2 s.heap l1 l2 }) :=
 .of_wp λprog w A R s h=>by
  obtain ⟨hp,g,d,tk,os⟩:=s;obtain ⟨hl1,hl2,h⟩:=h;have hsub:=sub_zip;have hL1:SrK k1 (Shared.heap ⟨hp,g,d,tk,os⟩) l1 xs:=hl1;have hL2:SrK k2 (Shared.heap ⟨hp.push { cls:= .type (itK k1),data:= .fields #[.ref l1,.int 0 0] },g,d,tk,os⟩) l2 ys:=(nxK k2 0 l2).mvS hl2 λo e=>Z01 _ e
  wp_walk using D8j hL1,D8j hL2
  exact ⟨_,rfl,h⟩
theorem B4k {k1 k2:Bool} {prog:Program} {w:World} {A:Around} {E:Value->Shared->Prop} {s:Shared} {l1 l2:Addr} {xs ys:Array Value} {Q:Value->Shared->Prop} (hl1:SrK k1 s.heap l1 xs) (hl2:SrK k2 s.heap l2 ys)
  (h:∀h',C1u k1 k2 (s.heap.objs.size+4) (s.heap.objs.size+2) (s.heap.objs.size+3) s.heap.objs.size (s.heap.objs.size+1) l1 l2 0 h'->(∀c o,s.heap.get? c=some o->h'.get? c=some o)->Q (.ref (s.heap.objs.size+4)) { s with heap:=h' }) :
  wpAny (model prog w) A (call (.type "zip") [.ref l1,.ref l2]) Q E s:=by
 refine callType_new F.called_zip (by decide) (F.typeCall_zip_2 _ _) (F.newCall_zip_2 _ _) (λobj=>F.args_object_init_3 obj _ _) F.entry_zip_new (C3m k1 k2 l1 l2 xs ys) ⟨hl1,hl2,?_⟩;have z1:(E0p k1 s.heap l1).objs.size=s.heap.objs.size+1:=Z1s ..;have z2:(E0v k1 k2 s.heap l1 l2).objs.size=s.heap.objs.size+2:=by rw [Z1s,z1]
 have z3:(E0q k1 k2 s.heap l1 l2).objs.size=s.heap.objs.size+3:=by rw [Z1s,z2]
 have z4:(E0s k1 k2 s.heap l1 l2).objs.size=s.heap.objs.size+4:=by rw [Z1s,z3]
 have q5:(D6y k1 k2 s.heap l1 l2).get? (E0s k1 k2 s.heap l1 l2).objs.size=some _:=Z0c _ rfl;have q4:(D6y k1 k2 s.heap l1 l2).get? (E0q k1 k2 s.heap l1 l2).objs.size=some _:=Z01 _ (Z0c _ rfl);have q3:(D6y k1 k2 s.heap l1 l2).get? (E0v k1 k2 s.heap l1 l2).objs.size=some _:=Z01 _ (Z01 _ (Z0c _ rfl));have q2:(D6y k1 k2 s.heap l1 l2).get? (E0p k1 s.heap l1).objs.size=some _:=Z01 _ (Z01 _ (Z01 _ (Z0c _ rfl)));have q1:(D6y k1 k2 s.heap l1 l2).get? s.heap.objs.size=some _:=Z01 _ (Z01 _ (Z01 _ (Z01 _ (Z0c _ rfl))));show _/\_;rw [z2,z3,z4] at q5;rw [z1,z2] at q3;rw [z3] at q4;rw [z1] at q2;rw [z4];exact ⟨⟨_,q5,rfl⟩,h _ ⟨q5,q3,⟨_,_,q4⟩,E3j q1,E3j q2⟩ λc o x=>Z01 _ (Z01 _ (Z01 _ (Z01 _ (Z01 _ x))))⟩
def E1n (k1 k2:Bool) (K:Frag) (ta:TA):TI:=λσ H R=>ta σ H λvs H1=>∃a b xs ys,vs=[.ref a,.ref b]/\SqK k1 K H1 a xs/\SqK k2 K H1 b ys/\R (Itk k1 k2 K a b) H1
theorem C1h {k1 k2:Bool} {X:Cx} {elts:List Expr} {kk:Nat} {tpos:Pos} {a b:Expr} {ta:TA} {p pos:Pos} (hg:Gl X "zip") (hm:X.mg "zip"=none) (ha:PA X [a,b] ta) (hs:starEach [a,b] X.env=[(false,eval a X.env),(false,eval b X.env)]:=by rfl) (hs2:starEach [b] X.env=[(false,eval b X.env)]:=by rfl) :
  PI X (.Tuple elts kk tpos) (.Call (.Name "zip" p) [a,b] [] pos) (E1n k1 k2 X.K ta):=by
 intro pins s σ H R I h;refine Call_ (A9b I hg hm boot_zip (PyProof.Rows.callWith_type1 (thn (ha pos pins s σ H _ I h) λus s1 ⟨vs,H1,I1,r1,q1⟩=> ?_) (by rw [hs,hs2]) (by rw [hs2];rfl)));obtain ⟨l1,l2,xs,ys,e,hq1,hq2,q⟩:=q1;subst e;obtain ⟨u,u2,rfl,ru,ru2⟩:=C0e r1;cases ru;cases ru2;obtain ⟨its,rv,p1⟩:=D7b I1 hq1;obtain ⟨its2,rv2,p2⟩:=D7b I1 hq2;have t1:l1<s1.heap.objs.size:=ltK p1;have t2:l2<s1.heap.objs.size:=ltK p2;refine B4k p1 p2 λh' zs kp=>wpAny_pyIter_zip zs.1 ?_;have I2:Inv X pins σ H1 { s1 with heap:=h' }:=I1.kept (t':=s1.toks) kp;refine ⟨_,[s1.heap.objs.size+4,s1.heap.objs.size+2,s1.heap.objs.size+3,s1.heap.objs.size,s1.heap.objs.size+1],_,_,H1,rfl,I2,C7a (zipApart_new t1 t2),zs,λc hc=> ?_,q⟩
 have hle:s1.heap.objs.size<=c:=by
  simp only [Z0e,Z1i,or_false] at hc;rcases hc with rfl | rfl | rfl | rfl | rfl
  ·exact Nat.le_add_right _ _
  ·exact Nat.le_add_right _ _
  ·exact Nat.le_add_right _ _
  ·exact Z09 _
  ·exact Nat.le_add_right _ _
 exact I1.fpOk hle (I1.hok.fresh hle)
theorem B6g {k1 k2:Bool} {K:Frag} {a b:Addr} {xs ys:List V} {g:TG} {tb:TS} {D:B5v} {σ:St} {H:Hp} (Pv:Nat->St->Hp->Prop) (h0:Pv 0 σ H) (hl:∀i σ H,Pv i σ H->SqK k1 K H a xs/\SqK k2 K H b ys) (hlen:xs.length<=ys.length)
  (hs:∀i x y σ H p,xs[i]? =some x->ys[i]? =some y->Pv i σ H->H p=none->g (.ref p) σ (upd H p (.tup [x,y])) λσ2 H2=>tb { D with nx:=Pv (i+1),ct:=Pv (i+1),bk:=D.nx } σ2 H2) (hd:∀σ H,Pv xs.length σ H->D.nx σ H) :
  ∃W:Nat->Nat->St->Hp->Prop,(∃m,W 0 m σ H)/\∀i m σ H,W i m σ H->
   ((Itk k1 k2 K a b).stop i H/\D.nx σ H)\/((Itk k1 k2 K a b).go i H/\∃N:St->Hp->Prop,(∀σ' H',N σ' H'->∃m',m'<m/\W (i+1) m' σ' H')/\∀x H',(Itk k1 k2 K a b).yld i H x H'->g x σ H' λσ2 H2=>tb { D with nx:=N,ct:=N,bk:=D.nx } σ2 H2):=by
 refine ⟨λi m σ H=>m=xs.length-i/\i<=xs.length/\Pv i σ H,⟨xs.length,by simp,Z1e _,h0⟩,?_⟩;rintro i m σ H ⟨rfl,hi,p⟩;obtain ⟨q1,q2⟩:=hl i σ H p;by_cases hlt:i<xs.length
 ·have e1:xs[i]? =some xs[i]:=Z0b hlt;have e2:ys[i]? =some (ys[i]'(by lia)):=Z0b _;refine .inr ⟨⟨xs,ys,_,_,q1,q2,e1,e2⟩,Pv (i+1),λσ' H' p'=>⟨xs.length-(i+1),by lia,rfl,hlt,p'⟩,λv H' y=> ?_⟩;obtain ⟨c,hc,rfl,x,z,f1,f2,rfl⟩:=y;exact hs i x z σ H c (f1 xs q1) (f2 ys q2) p hc
 ·have e:i=xs.length:=by lia
  subst e;exact .inl ⟨⟨xs,ys,q1,q2,.inl (Z09 _)⟩,hd σ H p⟩
abbrev Itz:=Itk true false
abbrev ZipSt:=C1u true false
abbrev B9y:= @B4k true false
abbrev D0p:= @C1h true false
abbrev D4q {K:Frag} {a b:Addr} {xs ys:List V} {g:TG} {tb:TS} {D:B5v} {σ:St} {H:Hp} (Pv:Nat->St->Hp->Prop) (h0:Pv 0 σ H) (hl:∀i σ H,Pv i σ H->SqL K H a xs/\SqT K H b ys) (hlen:xs.length=ys.length):=B6g (k1:=true) (k2:=false) (g:=g) (tb:=tb) (D:=D) Pv h0 hl (Nat.le_of_eq hlen)
def Itv (K:Frag) (a:Addr) (n:Nat):It :=
 ⟨λi H=>∃xs x,SqL K H a xs/\xs.length=n/\i<n/\xs[n-1-i]? =some x,λi H x H'=>H'=H/\∀xs,SqL K H a xs->xs[n-1-i]? =some x,λi _=>i=n⟩
theorem D1o {P:Program} {w:World} {K:Frag} {tg:Expr} (a it:Addr) (n:Nat):D1n P w K tg (Itv K a n) [it] it (λi h=>h.IsRevIter it a ((n:Int)-1-(i:Int))) where
 mem:=by simp
 obj:=λi h st b hb=>by
  have e:b=it:=by simpa using hb
  subst e;obtain ⟨o,e,c,d⟩:=st;exact ⟨o,e,λv z=>by rw [d] at z;cases z⟩
 keep:=λi h h' st k=>st.at λo e=>k it (by simp) o e
 item:=by
  intro X hP hw hK hc i pins s σ H E I hf st hg;subst hP hw hK;obtain ⟨xs,x,hq,hn,hi,hx⟩:=hg;obtain ⟨its,rv,p,hz⟩:=I.list hq;obtain ⟨u,hu,ru⟩:=rv.get hx;obtain ⟨f0,f1,f2,f3,f4,f5⟩:=hf it (by simp);have e1:(n:Int)-1-(i:Int)=((n-1-i:Nat):Int):=by lia
  rw [e1] at st;refine wpAny_pyNext_rev_item st p.isList (x:=u) (by simpa using hu) λh' st' sb=> ?_;have I1:Inv X pins σ H { s with heap:=h' }:=I.turned (t':=s.toks) (λb o hb e=>(sb.2 b hb).trans e) f0 f1 f3 f4 f5
  have e2:((n-1-i:Nat):Int)-1=(n:Int)-1-((i+1:Nat):Int):=by lia
  rw [e2] at st';obtain ⟨o,e,c,d⟩:=id st';exact ⟨u,rfl,C3q (s:={ s with heap:=h' }) e c d (by decide) ⟨x,H,I1,ru,⟨rfl,λys hy=>by rw [I.list_inj hy hq];exact hx⟩,st',λb hb=>(hf b hb).1⟩⟩
 done:=by
  intro X hP hw hK hc i pins s σ H E I hf st hg;subst hP hw hK;have hi:i=n:=hg;subst hi;obtain ⟨f0,f1,f2,f3,f4,f5⟩:=hf it (by simp);have e1:(i:Int)-1-(i:Int)= -1:=by lia
  rw [e1] at st;exact wpAny_pyNext_rev_end (I.ok.hd hc) st λh' eb=>⟨rfl,I.turned (t':=s.toks) (λb o hb e=>eb b o hb e) f0 f1 f3 f4 f5⟩
 self:=λ_ _ _ _ _ st h=>wpAny_pyIter_revIter st h
def iRev (K:Frag) (ta:TA):TI:=λσ H R=>ta σ H λvs H1=>∃a xs,vs=[.ref a]/\SqL K H1 a xs/\R (Itv K a xs.length) H1
theorem C2t {X:Cx} {tg:Expr} {a:Expr} {ta:TA} {p pos:Pos} (hg:Gl X "reversed") (hm:X.mg "reversed"=none) (ha:PA X [a] ta) (hs:starEach [a] X.env=[(false,eval a X.env)]:=by rfl) :
  PI X tg (.Call (.Name "reversed" p) [a] [] pos) (iRev X.K ta):=by
 intro pins s σ H R I h;refine Call_ (A9b I hg hm boot_reversed (PyProof.Rows.callWith_type1 (thn (ha pos pins s σ H _ I h) λus s1 ⟨vs,H1,I1,r1,q1⟩=> ?_) hs rfl));obtain ⟨l,xs,e,hq,q⟩:=q1;subst e;obtain ⟨u,rfl,ru⟩:=B5f r1;cases ru;obtain ⟨its,rv,p1,_⟩:=I1.list hq;have en:(its.toArray.size:Int)-1=(xs.length:Int)-1-((0:Nat):Int):=by rw [Z0g,<-rv.length];lia
 refine call_reversed_list p1.isList ?_;rw [en];have st:(s1.heap.push (revObj l ((xs.length:Int)-1-((0:Nat):Int)))).IsRevIter s1.heap.objs.size l ((xs.length:Int)-1-((0:Nat):Int)):=⟨_,Z0c _ rfl,rfl,rfl⟩;refine wpAny_pyIter_revIter (s:={ s1 with heap:=s1.heap.push (revObj l ((xs.length:Int)-1-((0:Nat):Int))) }) st ?_;refine ⟨_,[s1.heap.objs.size],_,_,H1,rfl,I1.kept (t':=s1.toks) λb o e=>Z01 _ e,D1o l _ xs.length,st,λb hb=> ?_,q⟩
 have e:b=s1.heap.objs.size:=by simpa using hb
 subst e;exact I1.fpOk (Z09 _) (I1.hok.fresh (Z09 _))
theorem C6v {K:Frag} {a:Addr} {xs:List V} {g:TG} {tb:TS} {D:B5v} {σ:St} {H:Hp} (Pv:Nat->St->Hp->Prop) (h0:Pv 0 σ H) (hl:∀i σ H,Pv i σ H->SqL K H a xs)
  (hs:∀i x σ H,i<xs.length->xs[xs.length-1-i]? =some x->Pv i σ H->g x σ H λσ2 H2=>tb { D with nx:=Pv (i+1),ct:=Pv (i+1),bk:=D.nx } σ2 H2) (hd:∀σ H,Pv xs.length σ H->D.nx σ H) :
  ∃W:Nat->Nat->St->Hp->Prop,(∃m,W 0 m σ H)/\∀i m σ H,W i m σ H->
   ((Itv K a xs.length).stop i H/\D.nx σ H)\/((Itv K a xs.length).go i H/\∃N:St->Hp->Prop,(∀σ' H',N σ' H'->∃m',m'<m/\W (i+1) m' σ' H')/\∀x H',(Itv K a xs.length).yld i H x H'->g x σ H' λσ2 H2=>tb { D with nx:=N,ct:=N,bk:=D.nx } σ2 H2):=by
 refine ⟨λi m σ H=>m=xs.length-i/\i<=xs.length/\Pv i σ H,⟨xs.length,by simp,Z1e _,h0⟩,?_⟩;rintro i m σ H ⟨rfl,hi,p⟩;have q:=hl i σ H p;by_cases hlt:i<xs.length
 ·refine .inr ⟨⟨xs,xs[xs.length-1-i],q,rfl,hlt,Z0b _⟩,Pv (i+1),λσ' H' p'=>⟨xs.length-(i+1),by lia,rfl,hlt,p'⟩,λx H' y=> ?_⟩;obtain ⟨e,y⟩:=y;subst e;exact hs i x σ _ hlt (y xs q) p
 ·have e:i=xs.length:=by lia
  subst e;exact .inl ⟨rfl,hd σ H p⟩
structure C8p (X:Cx) (scope:Scope) (cl:List (Str×Addr)):Prop where
 eq:closureFor scope X.env=pure cl
 sub:∀x c,cl.lookup x=some c->X.env.cells.lookup x=some c
 has:∀x,((relabel scope X.env).names.lookup x=some .cell\/(relabel scope X.env).names.lookup x=some .free)->∃c,cl.lookup x=some c
 kind:scope.kind= .function
 ncell:∀y∈scope.names,y.2≠.cell
 names:∀y∈scope.names,y.2= .local->scope.names.lookup y.1=some .local
noncomputable def blk (X:Cx) (N':List Str) (scope:Scope) (cl:List (Str×Addr)) (C:Addr) (s₀:Shared) (H₀:Hp) (fp:List Addr):Cx :=
 { X with N:=N',s₀:=s₀,H₀:=H₀,env:=compEnvC scope cl C X.env,outer:=X.stack,ex:=fp,fn:=λ_=>false,pn:=[],xe:=λ_ _=>False }
def A6e (ix:List (Option Nat)) (σ:St):St:=ix.map λo=>o.bind λj=>(σ[j]?).bind id
section
variable {X:Cx} {pins:List (Addr×Obj)} {σ:St} {H:Hp} {s:Shared} {N':List Str} {scope:Scope} {cl:List (Str×Addr)} {fp:List Addr} {ix:List (Option Nat)}
def C8y (X:Cx) (N':List Str) (scope:Scope) (ix:List (Option Nat)):Prop :=
 ix.length=N'.length/\∀i j:Nat,ix[i]? =some (some j)->∃x,N'[i]? =some x/\X.N[j]? =some x/\(X.env.scope.names.lookup x=some .cell\/X.env.scope.names.lookup x=some .free)/\
  ((relabel scope X.env).names.lookup x=some .cell\/(relabel scope X.env).names.lookup x=some .free)
theorem D7i (I:Inv X pins σ H s) (ck:C8p X scope cl) (f:∀b∈fp,B4x X pins H b) (hlt:∀b∈fp,b<s.heap.objs.size):(blk X N' scope cl s.heap.objs.size s H fp).Ok where
 mod:=I.ok.mod
 kind:=ck.kind
 glob:=I.ok.glob
 blt:=I.ok.blt
 above:=Z09 _
 inj:=λx y c h1 h2=>I.ok.inj x y c (ck.sub x c h1) (ck.sub y c h2)
 has:=λx h=>ck.has x h
 cab:=λx c h=>by cases h
 hd:=I.ok.hd
 frames:=I.ok.frames
 stk:= .inl rfl
 exf:=λb hb=>⟨Z0h (hlt b hb),λx c h=>(f b hb).2.2.2.2.1 x c (ck.sub x c h)⟩
 bs:=I.bs
 bsz:=Z1n I.ok.bsz I.sz
 noex:=λb o e hb=>by
  rcases (f b hb).2.2.2.1 with z | z
  ·exact I.ok.noex b o e z
  ·exact absurd (Z0q (Z0a (I.ok.bs b o e).1) z) (Nat.lt_irrefl _)
 exfs:=λb hb hs=>by
  rcases Z0e.mp (I.stkSub b hs) with z | z
  ·exact (f b hb).2.1 z
  ·exact (f b hb).2.2.1 z
 funs:=I.stack
 frf:=I.stkFree
theorem B8d (I:Inv X pins σ H s) (ck:C8p X scope cl) (io:C8y X N' scope ix) (f:∀b∈fp,B4x X pins H b) (hlt:∀b∈fp,b<s.heap.objs.size) {h':Heap} {m:Str->Option Value} {t':Nat}
  (hn:h'.Ns s.heap.objs.size m) (k:∀b o,s.heap.get? b=some o->h'.get? b=some o):Inv (blk X N' scope cl s.heap.objs.size s H fp) [] (A6e ix σ) H { s with heap:=h',toks:=t' }:=by
 have cl':∀x c,cl.lookup x=some c->∃v,s.heap.IsCell c v:=λx c h=>I.cell x c (ck.sub x c h);refine ⟨D7i I ck f hlt,rfl,I.bare,Un.kept k,⟨m,hn,λi x v e1 e2 e3=> ?_⟩,λx c e=> ?_,I.hok.fresh (Z09 _),λx c e=>I.freeC x c (ck.sub x c e),(λp hp=>by cases hp),I.hok.kept k,?_⟩
 ·unfold A6e at e2;rw [Z1z] at e2
  cases hi:ix[i]? with
  | none=>rw [hi] at e2;cases e2
  | some o =>
   rw [hi] at e2
   cases o with
   | none=>cases Z1a e2
   | some j =>
    have e2':(σ[j]?).bind id=some v:=Z1a e2;obtain ⟨x',n1,n2,k1,k2⟩:=io.2 i j hi;have ex:x'=x:=Z1a (n1.symm.trans e1);subst ex
    have es:σ[j]? =some (some v):=by
     cases q:σ[j]? with
     | none=>rw [q] at e2';cases e2'
     | some w =>
      rw [q] at e2';exact congrArg some e2'
    obtain ⟨m0,_,hl⟩:=I.loc;obtain ⟨u,ru,lo⟩:=hl j x' v n2 es (k1.elim (λz=> .inr (.inl z)) λz=> .inr (.inr z));refine ⟨u,ru,.inr ⟨k2,?_⟩⟩;obtain ⟨c,hc⟩:=ck.has x' k2;refine ⟨c,hc,?_⟩;rcases lo with ⟨z,_⟩ | ⟨_,c',hc',ic⟩
    ·exfalso;have z':X.env.scope.names.lookup x'=some .local:=z;rcases k1 with k1 | k1 <;> (rw [z'] at k1;cases k1)
    ·have ec:c'=c:=Z1a (hc'.symm.trans (ck.sub x' c hc));subst ec;obtain ⟨o,ho,hd⟩:=ic;exact ⟨o,k _ _ ho,hd⟩
 ·obtain ⟨v,o,ho,hd⟩:=cl' x c e;exact ⟨v,o,k _ _ ho,hd⟩
 ·unfold A6e;rw [Z08];exact io.1
theorem C6o (I:Inv X pins σ H s) (f:∀b∈fp,B4x X pins H b) {σ':St} {H':Hp} {s':Shared} {pl:List (Addr×Obj)} (J:Inv (blk X N' scope cl s.heap.objs.size s H fp) pl σ' H' s') {h':Heap} (sb:Heap.SameBut s.heap.objs.size s'.heap h') :
  Inv X pins σ H' { s' with heap:=h' }:=by
 have nC:∀b o,s.heap.get? b=some o->b≠s.heap.objs.size:=λb o e=>Z0h (Z0a e);have hC:H' s.heap.objs.size=none:=J.free;have u:Un (frs X.stack) fp H H' s.heap s'.heap:=J.base
 refine I.call' (ch:=fp) (s':={ s' with heap:=h' }) J.os ⟨λb o e n hb hx=>(sb.2 b (nC b o e)).trans (u.keep b o e n hb hx),λb o e n hb hx=> ?_,u.free,λb o e hx=> ?_,u.tups,u.frzs,u.tbls⟩ (λb o e=> ?_) J.bare
  (λb hb=>⟨(f b hb).2.2.2.1,(f b hb).2.1,(f b hb).2.2.2.2.1,(f b hb).2.2.2.2.2⟩)
 ·obtain ⟨sl,q⟩:=u.slot b o e n hb hx;exact ⟨sl,(sb.2 b (nC b o e)).trans q⟩
 ·obtain ⟨o',q⟩:=u.there b o e hx;exact ⟨o',(sb.2 b (nC b o e)).trans q⟩
 ·refine (J.hok b o e).stay (λc v hc q=>(sb.2 c ?_).trans q) (λc q=>q) λc xs q=>q;rcases hc with rfl | hc
  ·exact A0g e hC
  ·exact A0g hc hC
end
def A3c:St->St->Prop
 | [],_=>True
 | none::r,_::r'=>A3c r r'
 | none::r,[]=>A3c r []
 | some v::r,w::r'=>w=some v/\A3c r r'
 | some _::_,[]=>False
theorem A3c.get:∀{a b:St},A3c a b->∀(j:Nat) v,a[j]? =some (some v)->b[j]? =some (some v)
 | [],_,_,_,_,e=>by simp at e
 | none::r,_::r',h,0,v,e=>by simp at e
 | none::r,_::r',h,j+1,v,e=>by simpa using A3c.get (a:=r) (b:=r') h j v (by simpa using e)
 | none::r,[],h,0,v,e=>by simp at e
 | none::r,[],h,j+1,v,e=>by have:=A3c.get (a:=r) (b:=[]) h j v (by simpa using e);simp at this
 | some w::r,_::r',h,0,v,e=>by
  have e':w=v:=by simpa using e
  subst e'
  simpa using h.1
 | some _::r,_::r',h,j+1,v,e=>by simpa using A3c.get (a:=r) (b:=r') h.2 j v (by simpa using e)
section
variable {X:Cx}
def D8c (ix:List (Option Nat)) (wi:TI) (g:TG) (te:TE):TE:=λσ H Q=>wi σ H λJ H1=>∀D,H1 D=none->∃W:Nat->Nat->Hp->Prop,(∃m,W 0 m (upd H1 D (.lst [])))/\∀i m H2,W i m H2->
 (J.stop i H2/\Q (.ref D) H2)\/(J.go i H2/\∃N:VK,(∀y H5,N y H5->∃xs,H5 D=some (.lst xs)/\xs.length<sizeLine/\∃m',m'<m/\W (i+1) m' (upd H5 D (.lst (xs++[y]))))/\∀x H3,J.yld i H2 x H3->g x (A6e ix σ) H3 λσ4 H4=>A3c (A6e ix σ) σ4/\te σ4 H4 N)
end
section
variable {X:Cx} {m:Str} {pos apos:Pos} {e o:Expr} {es:List Expr} {ta:TE} {t:TA}
end
mutual
inductive Rep (H:Hp):V->PyData->Prop
 | non:Rep H .non .none
 | bl (b:Bool):Rep H (.bl b) (.bool b)
 | int (i:Int):Rep H (.int i) (.int i)
 | str (x:Str):Rep H (.str x) (.str x)
 | lst {p:Addr} {xs:List V} {ds:List PyData}:H p=some (.lst xs)->A5j H xs ds->Rep H (.ref p) (.list ds)
 | tup {p:Addr} {xs:List V} {ds:List PyData}:H p=some (.tup xs)->A5j H xs ds->Rep H (.ref p) (.tuple ds)
inductive A5j (H:Hp):List V->List PyData->Prop
 | nil:A5j H [] []
 | cons {v:V} {vs:List V} {d:PyData} {ds:List PyData}:Rep H v d->A5j H vs ds->A5j H (v::vs) (d::ds)
end
mutual
theorem Rep.imp {H H':Hp} (f:∀p o,H p=some o->H' p=some o):∀{v:V} {d:PyData},Rep H v d->Rep H' v d
 | _,_,.non=> .non
 | _,_,.bl b=> .bl b
 | _,_,.int i=> .int i
 | _,_,.str x=> .str x
 | _,_,.lst e r=> .lst (f _ _ e) (A5j.imp f r)
 | _,_,.tup e r=> .tup (f _ _ e) (A5j.imp f r)
theorem A5j.imp {H H':Hp} (f:∀p o,H p=some o->H' p=some o):∀{vs:List V} {ds:List PyData},A5j H vs ds->A5j H' vs ds
 | _,_,.nil=> .nil
 | _,_,.cons a r=> .cons (Rep.imp f a) (A5j.imp f r)
end
theorem Rep.same {H H':Hp} {v:V} {d:PyData} (h:Rep H v d) (s:A0p H H'):Rep H' v d:=h.imp s
theorem A5j.same {H H':Hp} {v:List V} {d:List PyData} (h:A5j H v d) (s:A0p H H'):A5j H' v d:=h.imp s
theorem A5j.len {H:Hp}:∀{vs:List V} {ds:List PyData},A5j H vs ds->vs.length=ds.length
 | _,_,.nil=>rfl
 | _,_,.cons _ r=>by rw [Z0y,Z0y,A5j.len r]
theorem A5j.snoc {H:Hp} {v:V} {d:PyData} (a:Rep H v d):∀{vs:List V} {ds:List PyData},A5j H vs ds->A5j H (vs++[v]) (ds++[d])
 | _,_,.nil=> .cons a .nil
 | _,_,.cons b r=> .cons b (A5j.snoc a r)
theorem A5j.strs {H:Hp}:∀xs:List Str,A5j H (xs.map V.str) (xs.map PyData.str)
 | []=> .nil
 | x::r=> .cons (.str x) (A5j.strs r)
section
variable {X:Cx} {pins:List (Addr×Obj)} {σ:St} {H:Hp} {s:Shared}
end
section
variable {X:Cx}
end
theorem A2q {X:Cx} {scope:Scope} (hk:scope.kind= .function) (hn:∀y∈scope.names,y.2≠.free/\y.2≠.cell) (hl:∀y∈scope.names,y.2= .local->scope.names.lookup y.1=some .local):C8p X scope [] where
 eq:=closureFor_none λy hy=>(hn y hy).1
 sub:=λx c h=>by cases h
 has:=λx h=>by
  exfalso
  have e:(relabel scope X.env).names=scope.names:=map_eq_self λy hy=>by
   obtain ⟨n,k⟩:=y;have z:=(hn _ hy).1;have z':(k == NameKind.free)=false:=by simpa using z
   simp [z']
  rw [e] at h
  have mem:∀{k:NameKind},scope.names.lookup x=some k->(x,k)∈scope.names:=λ{k} q=>by
   generalize scope.names=l at q
   induction l with
   | nil=>cases q
   | cons a r ih =>
    obtain ⟨n,k'⟩:=a;rw [Z28] at q;split at q
    ·rename_i hb;have hb':x=n:=by simpa using hb
     cases q
     subst hb';exact .head _
    ·exact .tail _ (ih q)
  rcases h with h | h
  ·exact (hn _ (mem h)).2 rfl
  ·exact (hn _ (mem h)).1 rfl
 kind:=hk
 ncell:=λy hy=>(hn y hy).2
 names:=hl
theorem A2r {X:Cx} {N':List Str} {scope:Scope} {n:Nat} (h:n=N'.length):C8y X N' scope (List.replicate n none):=⟨by rw [List.length_replicate];exact h,λi j e=>by
 rw [List.getElem?_replicate] at e
 split at e <;> cases e⟩
section
variable {K:Frag} {a D:Addr} {xs:List V} {g:TG} {te:TE} {Q:VK} {σ₀:St} {H:Hp}
theorem C6f (Pv:Nat->List V->Hp->Prop) (h0:Pv 0 [] (upd H D (.lst []))) (hl:∀i ys H,Pv i ys H->SqL K H a xs)
  (hs:∀i x ys H,xs[i]? =some x->Pv i ys H->g x σ₀ H λσ4 H4=>A3c σ₀ σ4/\te σ4 H4 λy H5=>H5 D=some (.lst ys)/\ys.length<sizeLine/\Pv (i+1) (ys++[y]) (upd H5 D (.lst (ys++[y])))) (hd:∀ys H,Pv xs.length ys H->Q (.ref D) H) :
  ∃W:Nat->Nat->Hp->Prop,(∃m,W 0 m (upd H D (.lst [])))/\∀i m H2,W i m H2->
   ((Itl K a).stop i H2/\Q (.ref D) H2)\/((Itl K a).go i H2/\∃N:VK,(∀y H5,N y H5->∃xs,H5 D=some (.lst xs)/\xs.length<sizeLine/\∃m',m'<m/\W (i+1) m' (upd H5 D (.lst (xs++[y]))))/\
    ∀x H3,(Itl K a).yld i H2 x H3->g x σ₀ H3 λσ4 H4=>A3c σ₀ σ4/\te σ4 H4 N):=by
 refine ⟨λi m H=>m=xs.length-i/\i<=xs.length/\∃ys,Pv i ys H,⟨xs.length,by simp,Z1e _,[],h0⟩,?_⟩;rintro i m H2 ⟨rfl,hi,ys,p⟩;have q:=hl i ys H2 p;by_cases hlt:i<xs.length
 ·refine .inr ⟨⟨xs,xs[i],q,by simp [hlt]⟩,λy H5=>H5 D=some (.lst ys)/\ys.length<sizeLine/\Pv (i+1) (ys++[y]) (upd H5 D (.lst (ys++[y]))),λy H5 n=>⟨ys,n.1,n.2.1,xs.length-(i+1),by lia,rfl,hlt,_,n.2.2⟩,λx H3 z=> ?_⟩;obtain ⟨e,z⟩:=z;subst e;exact hs i x ys _ (z xs q) p
 ·have e:i=xs.length:=by lia
  subst e;exact .inl ⟨⟨xs,q,Z09 _⟩,hd ys H2 p⟩
theorem D0h (Pv:Nat->List V->Hp->Prop) (h0:Pv 0 [] (upd H D (.lst []))) (hl:∀i ys H,Pv i ys H->SqT K H a xs)
  (hs:∀i x ys H,xs[i]? =some x->Pv i ys H->g x σ₀ H λσ4 H4=>A3c σ₀ σ4/\te σ4 H4 λy H5=>H5 D=some (.lst ys)/\ys.length<sizeLine/\Pv (i+1) (ys++[y]) (upd H5 D (.lst (ys++[y])))) (hd:∀ys H,Pv xs.length ys H->Q (.ref D) H) :
  ∃W:Nat->Nat->Hp->Prop,(∃m,W 0 m (upd H D (.lst [])))/\∀i m H2,W i m H2->
   ((Itt K a).stop i H2/\Q (.ref D) H2)\/((Itt K a).go i H2/\∃N:VK,(∀y H5,N y H5->∃xs,H5 D=some (.lst xs)/\xs.length<sizeLine/\∃m',m'<m/\W (i+1) m' (upd H5 D (.lst (xs++[y]))))/\
    ∀x H3,(Itt K a).yld i H2 x H3->g x σ₀ H3 λσ4 H4=>A3c σ₀ σ4/\te σ4 H4 N):=by
 refine ⟨λi m H=>m=xs.length-i/\i<=xs.length/\∃ys,Pv i ys H,⟨xs.length,by simp,Z1e _,[],h0⟩,?_⟩;rintro i m H2 ⟨rfl,hi,ys,p⟩;have q:=hl i ys H2 p;by_cases hlt:i<xs.length
 ·refine .inr ⟨⟨xs,xs[i],q,by simp [hlt]⟩,λy H5=>H5 D=some (.lst ys)/\ys.length<sizeLine/\Pv (i+1) (ys++[y]) (upd H5 D (.lst (ys++[y]))),λy H5 n=>⟨ys,n.1,n.2.1,xs.length-(i+1),by lia,rfl,hlt,_,n.2.2⟩,λx H3 z=> ?_⟩;obtain ⟨e,z⟩:=z;subst e;exact hs i x ys _ (z xs q) p
 ·have e:i=xs.length:=by lia
  subst e;exact .inl ⟨⟨xs,q,Z09 _⟩,hd ys H2 p⟩
end
abbrev TJ:=St->Hp->Str->(Str->Hp->Prop)->Prop
def PJ (X:Cx) (es:List Expr) (t:TJ):Prop :=
 ∀(pins:List (Addr×Obj)) (s:Shared) (σ:St) (H:Hp) (out:Str) (Q:Str->Hp->Prop),Inv X pins σ H s->t σ H out Q->wpAny (model X.prog X.w) X.A (joinParts out (evalEach es X.env)) (EP X pins σ λv H'=>∃z,v= .str z/\Q z H') X.xe s
def FmtV (x:V) (y:Str):Prop:=(x= .str y/\y.length<=sizeLine)\/∃i:Int,x= .int i/\i.natAbs.log2<1920/\y=(toString i:Str)
def E1f:TJ:=λ_ H out Q=>out.length<=sizeLine/\Q out H
def D9r (te:TE) (tr:TJ):TJ:=λσ H out Q=>te σ H λx H1=>∃y,FmtV x y/\(out++y).length<=sizeLine/\tr σ H1 (out++y) Q
def E2t (x:Str) (tr:TJ):TJ:=λσ H out Q=>(out++x).length<=sizeLine/\tr σ H (out++x) Q
section
variable {X:Cx} {e:Expr} {es:List Expr} {te:TE} {tr:TJ} {pos p2:Pos}
theorem A6c:PJ X [] E1f:=λpins s σ H out Q I h=>joinParts_nil ⟨.str out,H,I.tok _,⟨_,rfl⟩,out,rfl,h.2⟩ h.1
theorem D3e (he:PE X e te) (hr:PJ X es tr) (hs:evalEach (.FormattedValue e (-1) none pos::es) X.env=eval (.FormattedValue e (-1) none pos) X.env::evalEach es X.env:=by rfl):PJ X (.FormattedValue e (-1) none pos::es) (D9r te tr):=by
 intro pins s σ H out Q I h;rw [hs];refine joinParts_cons (FormattedValue_plain (thn (he pins s σ H _ I h) ?_));rintro v s1 ⟨x,H1,I1,rx,y,f,hz,q⟩;rcases f with ⟨rfl,hy⟩ | ⟨i,rfl,hi,rfl⟩
 ·obtain ⟨t,rfl⟩:=(show∃t,v=Value.str y t from rx);exact formatField_str (λt' tk=>⟨hz,hr pins _ σ H1 _ Q (I1.tok tk) q⟩) hy
 ·obtain ⟨t,rfl⟩:=(show∃t,v=Value.int i t from rx);exact formatField_int_small hi ⟨hz,hr pins _ σ H1 _ Q (I1.tok _) q⟩
theorem A3t {x:Str} {j:Nat} (hr:PJ X es tr) (hs:evalEach (.Constant (.str x) j pos::es) X.env=eval (.Constant (.str x) j pos) X.env::evalEach es X.env:=by rfl):PJ X (.Constant (.str x) j pos::es) (E2t x tr):=by
 intro pins s σ H out Q I h;rw [hs];refine joinParts_cons (thn (A1w pins s σ H (λv H'=>v= .str x/\H'=H) I ⟨rfl,rfl⟩) ?_);rintro v s1 ⟨y,H1,I1,rx,ey,eH⟩;subst ey eH;obtain ⟨t,rfl⟩:=(show∃t,v=Value.str x t from rx);exact ⟨h.1,hr pins s1 σ H1 _ Q I1 h.2⟩
def E1s (tj:TJ):TE:=λσ H Q=>tj σ H Str.empty λz H'=>Q (.str z) H'
theorem A4j {a b:Expr} {tj:TJ} (h:PJ X (a::b::es) tj) (hs:evalEach (a::b::es) X.env=eval a X.env::eval b X.env::evalEach es X.env:=by rfl):PE X (.JoinedStr (a::b::es) pos) (E1s tj):=by
 intro pins s σ H Q I hq;refine JoinedStr_many ?_;rw [<-hs];exact thn (h pins s σ H _ _ I hq) (by rintro u s1 ⟨v,H1,I1,rv,z,ez,q⟩;subst ez;exact ⟨.str z,H1,I1,rv,q⟩)
end
theorem B2c {x:Str} {k:NameKind}:∀{l:List (Str×NameKind)},l.lookup x=some k->(x,k)∈l
 | [],q=>by cases q
 | (n,k')::r,q=>by
  rw [Z28] at q;split at q
  ·rename_i hb;have hb':x=n:=by simpa using hb
   cases q
   subst hb';exact .head _
  ·exact .tail _ (B2c q)
theorem A5h {X:Cx} {scope:Scope} {x:Str} {c:Addr} (he:closureFor scope X.env=pure [(x,c)]) (hc:X.env.cells.lookup x=some c) (hk:scope.kind= .function) (hn:∀y∈scope.names,y.2≠.cell/\(y.2= .free->y.1=x))
  (hl:∀y∈scope.names,y.2= .local->scope.names.lookup y.1=some .local):C8p X scope [(x,c)] where
 eq:=he
 sub:=λy d h=>by
  rw [Z28] at h;split at h
  ·rename_i hb;have hb':y=x:=by simpa using hb
   cases h
   subst hb';exact hc
  ·cases h
 has:=λy h=>by
  have key:y=x:=by
   have m:∃k,(y,k)∈(relabel scope X.env).names/\(k= .cell\/k= .free):=h.elim (λz=>⟨_,B2c z,.inl rfl⟩) λz=>⟨_,B2c z,.inr rfl⟩;obtain ⟨k,hm,hk⟩:=m;obtain ⟨⟨n,k0⟩,h0,e⟩:=Z2c.mp hm;dsimp only at e;by_cases hf:k0= .free
   ·have en:n=y:=by
     split at e
     ·exact congrArg Prod.fst e
     ·exact congrArg Prod.fst e
    rw [<-en];exact (hn _ h0).2 hf
   ·have hb:(k0 == NameKind.free)=false:=by simpa using hf
    simp only [hb,Bool.false_and,Bool.false_eq_true,if_false] at e;have e2:k0=k:=congrArg Prod.snd e;subst e2;rcases hk with hk | hk
    ·exact absurd hk (hn _ h0).1
    ·exact absurd hk hf
  subst key;exact ⟨c,by simp [Z28]⟩
 kind:=hk
 ncell:=λy hy=>(hn y hy).1
 names:=hl
theorem A4g {X:Cx} {N0:List Str} {x:Str} {scope:Scope} {j:Nat} (hN:X.N[j]? =some x) (h1:X.env.scope.names.lookup x=some .cell\/X.env.scope.names.lookup x=some .free)
  (h2:(relabel scope X.env).names.lookup x=some .cell\/(relabel scope X.env).names.lookup x=some .free):C8y X (N0++[x]) scope (List.replicate N0.length none++[some j]):=by
 refine ⟨by simp,λi k e=> ?_⟩;by_cases hi:i<N0.length
 ·rw [Z26 (by simpa using hi),List.getElem?_replicate] at e;split at e <;> cases e
 ·have hi':i=N0.length:=by
   have:=(Z03.mp e).1;simp at this
   lia
  subst hi';rw [Z1l (by simp)] at e;have ek:j=k:=by simpa using e
  subst ek;exact ⟨x,by simp,hN,h1,h2⟩
theorem A0u {H H':Hp} {l:Addr} {o:HO} (s:A0p H H') (hl:H l=none):A0p H (upd H' l o):=λb u e=>by
 rw [A0j (A0g e hl)];exact s b u e
theorem A0f {H:Hp} {l:Addr} {o:HO} (hl:H l=none):A0p H (upd H l o):=A0u (A0p.refl H) hl
theorem C8j {H:Hp} {x dx:Addr} {o u v:HO} (hx:H x=none) (hd:H dx=none):A0p H (upd (upd (upd H dx o) x u) x v):=A0u (A0u (A0f hd) hx) hx
theorem A0o {n:Nat} (h:n<=1000000):n<=sizeLine:=by rw [sizeLine_eq];lia
theorem A1j {n:Nat} (h:n<=1000000):n<sizeLine:=by rw [sizeLine_eq];lia
theorem Paired.snoc {α β:Type} {F:α->β->Prop} {a:α} {b:β} (h:F a b):∀{xs:List α} {ys:List β},Paired F xs ys->Paired F (xs++[a]) (ys++[b])
 | _,_,.nil=> .cons h .nil
 | _,_,.cons r t=> .cons r (Paired.snoc h t)
noncomputable def A2h (S:Addr->Prop) (H:Hp):Hp:=λa=> @ite _ (S a) (Classical.propDecidable _) (H a) none
theorem C2k {S:Addr->Prop} {H:Hp} {a:Addr} (h:S a):A2h S H a=H a:=by unfold A2h;rw [Z12 h]
theorem C6j {S:Addr->Prop} {H:Hp} {a:Addr} (h:¬S a):A2h S H a=none:=by unfold A2h;rw [Z0t h]
theorem A1a {S:Addr->Prop} {H:Hp} {a:Addr} {o:HO} (h:A2h S H a=some o):S a/\H a=some o:=by
 by_cases hs:S a
 ·rw [C2k hs] at h;exact ⟨hs,h⟩
 ·rw [C6j hs] at h;cases h
theorem A1e {S:Addr->Prop} {H:Hp} {a:Addr} {o:HO} (hs:S a) (h:H a=some o):A2h S H a=some o:=by rw [C2k hs];exact h
theorem A1l {S:Addr->Prop} {H:Hp}:A0p (A2h S H) H:=λ_ _ e=>(A1a e).2
theorem A0w {S:Addr->Prop} {H H':Hp} (s:A0p H H'):A0p (A2h S H) (A2h S H'):=λb o e=>A1e (A1a e).1 (s _ _ (A1a e).2)
theorem A8c {S S':Addr->Prop} {H H':Hp} (s:A0p H H') (h:∀a o,H a=some o->S a->S' a):A0p (A2h S H) (A2h S' H'):=λb o e=>A1e (h _ _ (A1a e).2 (A1a e).1) (s _ _ (A1a e).2)
theorem A5o {S:Addr->Prop} {H H':Hp} {l:Addr} {o:HO} (s:A0p (A2h S H) (A2h S H')) (h:¬S l):A0p (A2h S H) (A2h S (upd H' l o)):=λb u e=>by
 have q:=A1a (s _ _ e);have hne:b≠l:=λz=>h (by rw [<-z];exact q.1);exact A1e q.1 (by rw [A0j hne];exact q.2)
def Fr (S:Addr->Prop) (H:Hp):Prop:=∀a,H a=none->S a
mutual
theorem Rep.imp2 {H H':Hp} (f:∀p xs,H p=some (.lst xs)->H' p=some (.lst xs)) (g:∀p xs,H p=some (.tup xs)->H' p=some (.tup xs)):∀{v:V} {d:PyData},Rep H v d->Rep H' v d
 | _,_,.non=> .non
 | _,_,.bl b=> .bl b
 | _,_,.int i=> .int i
 | _,_,.str x=> .str x
 | _,_,.lst e r=> .lst (f _ _ e) (A5j.imp2 f g r)
 | _,_,.tup e r=> .tup (g _ _ e) (A5j.imp2 f g r)
theorem A5j.imp2 {H H':Hp} (f:∀p xs,H p=some (.lst xs)->H' p=some (.lst xs)) (g:∀p xs,H p=some (.tup xs)->H' p=some (.tup xs)):∀{vs:List V} {ds:List PyData},A5j H vs ds->A5j H' vs ds
 | _,_,.nil=> .nil
 | _,_,.cons a r=> .cons (Rep.imp2 f g a) (A5j.imp2 f g r)
end
theorem Rep.ins {H:Hp} {v:V} {d:PyData} {p C dx:Addr} {fs:List (Str×V)} {o:HO} (h:Rep H v d) (e:H p=some (.ins C dx fs)):Rep (upd H p o) v d :=
 h.imp2 (λq xs z=>by rw [A0j (A2n z e (by intro w;cases w))];exact z) (λq xs z=>by rw [A0j (A2n z e (by intro w;cases w))];exact z)
section
variable {G:Hp} {v:V} {vs:List V} {d:PyData} {ds:List PyData}
theorem D6c (h:Rep G v (.tuple ds)):∃p xs,v= .ref p/\G p=some (.tup xs)/\A5j G xs ds:=by
 cases h with
 | tup e r=>exact ⟨_,_,rfl,e,r⟩
theorem A5b (h:Rep G v (.list ds)):∃p xs,v= .ref p/\G p=some (.lst xs)/\A5j G xs ds:=by
 cases h with
 | lst e r=>exact ⟨_,_,rfl,e,r⟩
theorem D3k {x:Str} (h:Rep G v (.str x)):v= .str x:=by cases h;rfl
theorem D5y {x:Int} (h:Rep G v (.int x)):v= .int x:=by cases h;rfl
theorem B9p (h:A5j G vs (d::ds)):∃u r,vs=u::r/\Rep G u d/\A5j G r ds:=by
 cases h with
 | cons a r=>exact ⟨_,_,rfl,a,r⟩
theorem D0v (h:A5j G vs []):vs=[]:=by cases h;rfl
end
mutual
def cnt:PyData->Nat
 | .none=>1
 | .bool _=>1
 | .int _=>1
 | .str _=>1
 | .list xs=>A4e xs+1
 | .tuple xs=>A4e xs+1
 | .dict _=>1
def A4e:List PyData->Nat
 | []=>0
 | x::xs=>cnt x+A4e xs
end
theorem D5s (d:PyData):1<=cnt d:=by cases d <;> simp [cnt]
theorem C1r:∀ds:List PyData,ds.length<=A4e ds
 | []=>by simp [A4e]
 | d::r=>by
  have:=C1r r;have:=D5s d;simp only [A4e,Z0y]
  lia
theorem C6w:∀{ds:List PyData} {i:Nat} {d:PyData},ds[i]? =some d->cnt d<=A4e ds/\PyData.depth d<=PyData.depthAll ds
 | [],_,_,e=>by simp at e
 | d::r,0,_,e=>by
  simp at e;subst e;simp only [A4e,PyData.depthAll]
  lia
 | x::r,i+1,d,e=>by
  have:=C6w (ds:=r) (i:=i) (d:=d) (by simpa using e);simp only [A4e,PyData.depthAll]
  lia
theorem A5j.get2 {H:Hp}:∀{vs:List V} {ds:List PyData} {i:Nat} {v:V},A5j H vs ds->vs[i]? =some v->∃d,ds[i]? =some d/\Rep H v d
 | _,_,_,_,.nil,e=>by simp at e
 | _,_,0,_,.cons a _,e=>by simp at e;subst e;exact ⟨_,rfl,a⟩
 | _,_,i+1,v,.cons _ r,e=>by
  obtain ⟨d,h1,h2⟩:=A5j.get2 (i:=i) (v:=v) r (by simpa using e);exact ⟨d,by simpa using h1,h2⟩
theorem lk0 {k:Str} {v:V} {r:List (Str×V)}:List.lookup k ((k,v)::r)=some v:=by simp [Z28]
theorem lk1 {k j:Str} {v:V} {r:List (Str×V)} {o:Option V} (h:(k == j)=false) (e:List.lookup k r=o):List.lookup k ((j,v)::r)=o:=by
 rw [Z28,h];exact e
theorem A1t {f:Str} {v:V}:A5y f v []=[(f,v)]:=rfl
theorem A1q {f g:Str} {v x:V} {r:List (Str×V)} (h:¬g=f):A5y f v ((g,x)::r)=(g,x)::A5y f v r:=by rw [A5y,Z0t h]
theorem A9m {c A B:Prop} [Decidable c] (h1:c->A) (h2:¬c->B):if decide c=true then A else B :=
 E1r (λh=>h1 (of_decide_eq_true h)) (λh=>h2 λhc=>h (Z20 hc))
theorem A8n {c A B:Prop} [Decidable c] (h1:¬c->A) (h2:c->B):if (!decide c)=true then A else B :=
 E1r (λh=>h1 λhc=>by rw [Z20 hc] at h;cases h) (λh=>h2 (by
  by_cases hc:c
  ·exact hc
  ·rw [Z1j hc] at h;exact absurd rfl h))
section
variable {X:Cx}
theorem B5t {tg l:Expr} {tl:TE} (hl:PE X l tl):PI X tg l (λσ H R=>E0j X.K tl σ H R\/E3a X.K tl σ H R):=λpins s σ H R I h=>h.elim (A1b hl pins s σ H R I) (D7o hl pins s σ H R I)
end
theorem C0b {α:Type} {f:α->V} {xs:List α} {i:Int} (h0:0<=i) (h1:i<xs.length):∃x,xs[i.toNat]? =some x/\atI (xs.map f) i=some (f x):=by
 obtain ⟨n,rfl⟩:=Int.eq_ofNat_of_zero_le h0;have hn:n<xs.length:=by lia
 exact ⟨xs[n],by simp [hn],A4c (by simp [hn])⟩
section
variable {K:Frag} {a D:Addr} {xs:List V} {g:TG} {te:TE} {QD:Hp->Prop} {σ₀:St} {H:Hp}
theorem A2l (Pv:Nat->List V->Hp->Prop) (h0:Pv 0 [] (upd H D (.lst []))) (hl:∀i ys H,Pv i ys H->SqL K H a xs)
  (hs:∀i x ys H,xs[i]? =some x->Pv i ys H->g x σ₀ H λσ4 H4=>A3c σ₀ σ4/\te σ4 H4 λy H5=>H5 D=some (.lst ys)/\ys.length<sizeLine/\Pv (i+1) (ys++[y]) (upd H5 D (.lst (ys++[y])))) (hd:∀ys H,Pv xs.length ys H->QD H) :
  ∃W:Nat->Nat->Hp->Prop,(∃m,W 0 m (upd H D (.lst [])))/\∀i m H2,W i m H2->
   ((Itl K a).stop i H2/\QD H2)\/((Itl K a).go i H2/\∃N:VK,(∀y H5,N y H5->∃xs,H5 D=some (.lst xs)/\xs.length<sizeLine/\∃m',m'<m/\W (i+1) m' (upd H5 D (.lst (xs++[y]))))/\
    ∀x H3,(Itl K a).yld i H2 x H3->g x σ₀ H3 λσ4 H4=>A3c σ₀ σ4/\te σ4 H4 N):=C6f (Q:=λ_ H=>QD H) Pv h0 hl hs hd
theorem C6d (Pv:Nat->List V->Hp->Prop) (h0:Pv 0 [] (upd H D (.lst []))) (hl:∀i ys H,Pv i ys H->SqT K H a xs)
  (hs:∀i x ys H,xs[i]? =some x->Pv i ys H->g x σ₀ H λσ4 H4=>A3c σ₀ σ4/\te σ4 H4 λy H5=>H5 D=some (.lst ys)/\ys.length<sizeLine/\Pv (i+1) (ys++[y]) (upd H5 D (.lst (ys++[y])))) (hd:∀ys H,Pv xs.length ys H->QD H) :
  ∃W:Nat->Nat->Hp->Prop,(∃m,W 0 m (upd H D (.lst [])))/\∀i m H2,W i m H2->
   ((Itt K a).stop i H2/\QD H2)\/((Itt K a).go i H2/\∃N:VK,(∀y H5,N y H5->∃xs,H5 D=some (.lst xs)/\xs.length<sizeLine/\∃m',m'<m/\W (i+1) m' (upd H5 D (.lst (xs++[y]))))/\
    ∀x H3,(Itt K a).yld i H2 x H3->g x σ₀ H3 λσ4 H4=>A3c σ₀ σ4/\te σ4 H4 N):=D0h (Q:=λ_ H=>QD H) Pv h0 hl hs hd
end
theorem A6v {K:Frag} {C D:Addr} (h1:isClsIn K D=true) (h2:typeIn K (.ref D)=some (.type "type")) (h3:mroIn K C (.ref D)=some true):kitOne K (.ref C) (.ref D)=some true:=by
 unfold kitOne;split
 ·rfl
 ·show (if ((clsIn K D).isSome&&typeIn K (.ref D) == some (.type "type"))=true then subIn K (.ref C) (.ref D) else none)=some true;have h1':(clsIn K D).isSome=true:=h1;rw [Z12 (by rw [h1',h2];rfl)];exact h3
theorem A0y {K:Frag} {C D:Addr} (h0:(Value.ref C == Value.ref D)=false) (h1:isClsIn K D=true) (h2:typeIn K (.ref D)=some (.type "type")) (h3:mroIn K C (.ref D)=some false):kitOne K (.ref C) (.ref D)=some false:=by
 unfold kitOne;rw [Z0t (by rw [h0];exact Z0v)];show (if ((clsIn K D).isSome&&typeIn K (.ref D) == some (.type "type"))=true then subIn K (.ref C) (.ref D) else none)=some false;have h1':(clsIn K D).isSome=true:=h1;rw [Z12 (by rw [h1',h2];rfl)];exact h3
section
variable {X:Cx}
theorem Inv.frozen {pins:List (Addr×Obj)} {σ:St} {H:Hp} {s:Shared} {a:Addr} {o:Obj} {kvs:List (Key×V)} (I:Inv X pins σ H s) (ha:H a=some (.dK kvs)) (ho:s.heap.get? a=some o):Inv X pins σ (upd H a (.frz o (.dK kvs))) s :=
 I.write (t':=s.toks) (h':=s.heap) (e:=a) (by rw [ha];trivial) (.inl rfl) (λ_ _ _ e=>e) ⟨o,ho⟩ ⟨ho,(show A2a X.prog X.w H s.heap a (.dK kvs) from I.hok a _ ha)⟩
theorem Inv.thaw {pins:List (Addr×Obj)} {σ:St} {H:Hp} {s:Shared} {a:Addr} {o:Obj} {u:HO} (I:Inv X pins σ H s) (ha:H a=some (.frz o u)) (hu:∃kvs,u= .dK kvs) (h0:∀o' u',X.H₀ a≠some (.frz o' u')):Inv X pins σ (upd H a u) s:=by
 have nf:∀b,H b=none->upd H a u b=none:=λb e=>by rw [A0j (λz=>by subst z;rw [ha] at e;cases e)];exact e
 obtain ⟨kvs,rfl⟩:=hu
 refine ⟨I.ok,I.os,I.bare,⟨I.base.keep,I.base.slot,λb ob e n hx=>nf b (I.base.free b ob e n hx),I.base.there,λb xs e=> ?_,λb ob u' e=> ?_,λb ps e=> ?_⟩,I.loc,I.cell,nf _ I.free,λx c e=>nf _ (I.freeC x c e),
  λp hp=>⟨(I.pin p hp).1,nf _ (I.pin p hp).2.1,(I.pin p hp).2.2⟩,λb v e=> ?_,I.len⟩
 ·have q:=I.base.tups b xs e;rw [A0j (A2n q ha (by intro z;cases z))];exact q
 ·have q:=I.base.frzs b ob u' e;rw [A0j (λz=>by subst z;exact h0 _ _ e)];exact q
 ·obtain ⟨more,q⟩:=I.base.tbls b ps e;exact ⟨more,by rw [A0j (A2n q ha (by intro z;cases z))];exact q⟩
 ·by_cases hb:b=a
  ·subst hb;rw [A0b] at e;cases e;obtain ⟨_,q⟩:=(show A2a X.prog X.w H s.heap b (.frz o (.dK kvs)) from I.hok b _ ha);exact q
  ·rw [A0j hb] at e;exact (I.hok b v e).stay (λ_ _ _ q=>q) (λc q=>by rw [A0j (A2n q ha (by intro z;cases z))];exact q) λc xs q=>by rw [A0j (A2n q ha (by intro z;cases z))];exact q
def E1k (X:Cx) (t:TS):TS:=λD σ H=>∃a o kvs,H a=some (.frz o (.dK kvs))/\(∀o' u',X.H₀ a≠some (.frz o' u'))/\t D σ (upd H a (.dK kvs))
theorem C9w {sts:List Stmt} {t:TS} (h:PSs X sts t):PSs X sts (E1k X t):=by
 intro pins s σ H D I hw;obtain ⟨a,o,kvs,ha,h0,q⟩:=hw;exact h pins s σ _ D (I.thaw ha ⟨kvs,rfl⟩ h0) q
theorem KV.at {kvs:List (Key×V)} {vs:List (Key×Value)}:KV kvs vs->∀{i:Nat} {k:Key} {v:V},kvs[i]? =some (k,v)->∃u,vs[i]? =some (k,u)/\A3d v u:=by
 intro r;unfold KV at r
 induction r with
 | nil=>intro i k v e;simp at e
 | @cons p q ps qs h t ih =>
  intro i k v e
  cases i with
  | zero =>
   simp at e;subst e;obtain ⟨h1,h2⟩:=h;obtain ⟨q1,q2⟩:=q;cases h1;exact ⟨q2,rfl,h2⟩
  | succ j =>
   obtain ⟨u,e1,e2⟩:=ih (i:=j) (by simpa using e);exact ⟨u,by simpa using e1,e2⟩
end
theorem C7d {P:Program} {w:World} {H:Hp} {h:Heap} {a:Addr} {o:Obj} {kvs:List (Key×V)} {es:Array DictEntry} {ep:Nat} (ok:HOk P w H h) (ha:H a=some (.frz o (.dK kvs))) (ho:o.data= .dict es ep) :
  (a == sysModules)=false/\∃vs,KV kvs vs/\h.DictAt (A2e P w) a vs ep:=by
 obtain ⟨e1,hz,hs,vs,rel,o',es',ep',e2,c,d,r⟩:=(show A2a P w H h a (.frz o (.dK kvs)) from ok a _ ha);rw [e1] at e2;cases e2;rw [ho] at d;cases d;exact ⟨hs,vs,rel,o,es,e1,c,ho,r⟩
section
variable {X:Cx}
def C5p (ix:List (Option Nat)) (wi:TI) (g:TG) (tc:TT) (te:TE):TE:=λσ H Q=>wi σ H λJ H1=>∀D,H1 D=none->∃W:Nat->Nat->Hp->Prop,(∃m,W 0 m (upd H1 D (.lst [])))/\∀i m H2,W i m H2->
 (J.stop i H2/\Q (.ref D) H2)\/(J.go i H2/\∃(N:VK) (M:Hp->Prop),(∀y H5,N y H5->∃xs,H5 D=some (.lst xs)/\xs.length<sizeLine/\∃m',m'<m/\W (i+1) m' (upd H5 D (.lst (xs++[y]))))/\(∀H5,M H5->∃m',m'<m/\W (i+1) m' H5)/\∀x H3,J.yld i H2 x H3->g x (A6e ix σ) H3 λσ4 H4=>A3c (A6e ix σ) σ4/\tc σ4 H4 λb H5=>if b=true then te σ4 H5 N else M H5)
def PTs (X:Cx) (cs:List Expr) (t:TT):Prop :=
 ∀(pins:List (Addr×Obj)) (s:Shared) (σ:St) (H:Hp) (Q:Bool->Hp->Prop),Inv X pins σ H s->t σ H Q->wpAny (model X.prog X.w) X.A (forIn cs true λc r=>if r=true then do let ok<-isTrue c X.env (eval c X.env);pure (ForInStep.yield ok) else pure (ForInStep.yield r)) (TP X pins σ Q) X.xe s
theorem C2h {elt iter tg:Expr} {cs:List Expr} {scope:Scope} {pos:Pos} {N':List Str} {ix:List (Option Nat)} {cl:List (Str×Addr)} {wi:TI} {g:TG} {tc:TT} {te:TE} (hc:X.calm=true) (ck:C8p X scope cl) (io:C8y X N' scope ix) (hi:PI X tg iter wi)
  (hg:∀C s₀ H₀ fp,PG (blk X N' scope cl C s₀ H₀ fp) tg g) (ht:∀C s₀ H₀ fp,PTs (blk X N' scope cl C s₀ H₀ fp) cs tc) (he:∀C s₀ H₀ fp,PE (blk X N' scope cl C s₀ H₀ fp) elt te) (R:VK->St->It->Hp->Prop) (hR:∀Q σ J H1,R Q σ J H1->∀D,H1 D=none->∃W:Nat->Nat->Hp->Prop,(∃m,W 0 m (upd H1 D (.lst [])))/\∀i m H2,W i m H2->
 (J.stop i H2/\Q (.ref D) H2)\/(J.go i H2/\∃(N:VK) (M:Hp->Prop),(∀y H5,N y H5->∃xs,H5 D=some (.lst xs)/\xs.length<sizeLine/\∃m',m'<m/\W (i+1) m' (upd H5 D (.lst (xs++[y]))))/\(∀H5,M H5->∃m',m'<m/\W (i+1) m' H5)/\∀x H3,J.yld i H2 x H3->g x (A6e ix σ) H3 λσ4 H4=>A3c (A6e ix σ) σ4/\tc σ4 H4 λb H5=>if b=true then te σ4 H5 N else M H5)) (hs:∀x,foldedSetIterable iter X.env x=pure x:=by intro _;rfl) :
  PE X (.ListComp elt [⟨tg,iter,cs,0⟩] scope pos) (λσ H Q=>wi σ H (R Q σ)):=by
 intro pins s σ H Q I h;rw [eval_ListComp];refine wpAny_comprehension_free (use:=none) rfl hs ck.eq ck.kind ck.names (thn (hi pins s σ H _ I h) λxv s1 h1=>thn h1 λitv s2 h2=> ?_);obtain ⟨it,fp,tn,J,H1,rfl,I1,T,st1,f1,R1⟩:=h2;refine Z16 ?_;have hD:H1 s2.heap.objs.size=none:=I1.hok.fresh (Z09 _);obtain ⟨W,⟨m0,w0⟩,turn⟩:=hR _ _ _ _ R1 _ hD;have hfD:∀b∈fp,b<s2.heap.objs.size:=λb hb=>let ⟨o,e,_⟩:=T.obj _ _ st1 b hb;Z0a e;have I2:Inv X pins σ (upd H1 s2.heap.objs.size (.lst [])) { s2 with heap:=s2.heap.push { cls:= .type "list",data:= .seq ([]:List Value).toArray },toks:=s2.toks }:=I1.lnew (its:=[]) .nil (Z1e _);have f2:∀b∈fp,B4x X pins (upd H1 s2.heap.objs.size (.lst [])) b:=λb hb=>⟨by rw [A0j (Z0h (hfD b hb))];exact (f1 b hb).1,(f1 b hb).2⟩
 have lt2:∀b∈fp,b<(s2.heap.push { cls:= .type "list",data:= .seq ([]:List Value).toArray }).objs.size:=λb hb=>by rw [Z1s];exact Nat.lt_succ_of_lt (hfD b hb)
 refine wpAny_newFunctionEnv ck.ncell (by intro y hy;simp at hy) (λh3 hns sb3=> ?_) ck.kind;dsimp only at hns sb3⊢;have k3:∀b o,(s2.heap.push { cls:= .type "list",data:= .seq ([]:List Value).toArray }).get? b=some o->h3.get? b=some o:=λb o e=>(sb3.2 b (Z0h (Z0a e))).trans (Z01 _ e);generalize hs2:({ s2 with heap:=s2.heap.push { cls:= .type "list",data:= .seq ([]:List Value).toArray },toks:=s2.toks }:Shared)=s3 at I2;have e3:s2.heap.push { cls:= .type "list",data:= .seq ([]:List Value).toArray }=s3.heap:=by rw [<-hs2]
 rw [e3] at hns k3 lt2;have I3:=B8d (N':=N') (ix:=ix) I2 ck io f2 lt2 (h':=h3) (t':=s2.toks+([]:List (Str×Value)).length) hns k3;have e4:({ s3 with heap:=h3,toks:=s2.toks+([]:List (Str×Value)).length }:Shared)={ s2 with heap:=h3,toks:=s2.toks+([]:List (Str×Value)).length }:=by rw [<-hs2]
 rw [e4] at I3;have st3:tn 0 h3:=T.keep _ _ _ st1 λb hb o e=>k3 b o (by rw [<-e3];exact Z01 _ e)
 have loop:∀s4:Shared,s4={ s2 with heap:=h3,toks:=s2.toks+([]:List (Str×Value)).length }->
   codeAny (model X.prog X.w) X.A (.compLoop (.ListComp elt [⟨tg,iter,cs,0⟩] scope pos) 0 (.ref it) (.ref s2.heap.objs.size) (compEnvC scope cl s3.heap.objs.size X.env))
    (compPost (model X.prog X.w) X.A X.xe none (EP X pins σ Q) (.ref s2.heap.objs.size) s3.heap.objs.size) s4:=by
  rintro s4 rfl
  have stat:∀{H':Hp},(∀b∈fp,H' b=none)->∀b∈fp,B4x (blk X N' scope cl s3.heap.objs.size s3 (upd H1 s2.heap.objs.size (.lst [])) fp) [] H' b:=λhn b hb =>
   ⟨hn b hb,Z0h (lt2 b hb),λhs=>I3.ok.exfs b hb hs,.inl hb,λx c e=>(f2 b hb).2.2.2.2.1 x c (ck.sub x c e),(λp hp=>by cases hp)⟩
  refine codeAny_loop rfl (λn s'=>∃i σ' H',Inv (blk X N' scope cl s3.heap.objs.size s3 (upd H1 s2.heap.objs.size (.lst [])) fp) [] σ' H' s'/\(∀(j:Nat) v,(A6e ix σ)[j]? =some (some v)->σ'[j]? =some (some v))/\tn i s'.heap/\(∀b∈fp,H' b=none)/\W i n H')
   (λn s' hI=> ?_) m0 ⟨0,_,_,I3,λ_ _ z=>z,st3,λb hb=>(f2 b hb).1,w0⟩
  obtain ⟨i,σ5,H5,I5,wk,st5,fr5,w5⟩:=hI;show wpAny _ _ ((compTurn (.ListComp elt [⟨tg,iter,cs,0⟩] scope pos) 0 (.ref it) (.ref s2.heap.objs.size) (compEnvC scope cl s3.heap.objs.size X.env)).onRaise (λx=>do noteFrame x (compEnvC scope cl s3.heap.objs.size X.env);theTreesLotGoes x)) _ _ s';refine wpAny_noted ?_;rw [compTurn_list];refine Z00 (Z1y ?_);rcases turn i n H5 w5 with ⟨stop,qn⟩ | ⟨go,NN,MM,hNN,hMM,step⟩
  ·refine Z00 (Z10 (T.done (blk X N' scope cl s3.heap.objs.size s3 (upd H1 s2.heap.objs.size (.lst [])) fp) rfl rfl rfl hc i [] s' σ5 H5 (λ_ _=>False) I5 (stat fr5) st5 stop) (λr s6 h6=> ?_) λ_ _ z=>z.elim);obtain ⟨rfl,I6⟩:=h6;refine Z04 ?_;obtain ⟨mm,hm,_⟩:=id I6.loc;exact ⟨mm,hm,λh' sb=>⟨.ref s2.heap.objs.size,H5,C6o I2 f2 I6 sb,rfl,qn⟩⟩
  ·refine Z00 (Z10 (T.item (blk X N' scope cl s3.heap.objs.size s3 (upd H1 s2.heap.objs.size (.lst [])) fp) rfl rfl rfl hc i [] s' σ5 H5 (λ_ _=>False) I5 (stat fr5) st5 go) (λr s6 h6=> ?_) λ_ _ z=>z.elim);obtain ⟨u,rfl,h6⟩:=h6;refine Z00 (Z10 h6 (λ_ s7 h7=> ?_) λ_ _ z=>z.elim);obtain ⟨x,H7,I7,r7,y7,st7,fr7⟩:=h7;have I7w:Inv (blk X N' scope cl s3.heap.objs.size s3 (upd H1 s2.heap.objs.size (.lst [])) fp) [] (A6e ix σ) H7 s7:=I7.weak (by rw [I7.len];unfold A6e;rw [Z08];exact io.1) wk;have I7p:=I7w.pinned (stat fr7) (T.obj _ _ st7);refine Z00 (Z10 (hg _ _ _ _ _ s7 _ H7 x u _ I7p r7 (step x H7 y7)) (λ_ s8 h8=> ?_) λ_ _ z=>z.elim);obtain ⟨σ8,H8,I8,kp8,q8⟩:=h8
   have back:∀{s10:Shared} {σ10:St} {H10:Hp} {m':Nat},Inv (blk X N' scope cl s3.heap.objs.size s3 (upd H1 s2.heap.objs.size (.lst [])) fp) ([]++B3u fp s7.heap) σ10 H10 s10->(∀(j:Nat) v,(A6e ix σ)[j]? =some (some v)->σ10[j]? =some (some v))->W (i+1) m' H10->
     ∃i σ' H',Inv (blk X N' scope cl s3.heap.objs.size s3 (upd H1 s2.heap.objs.size (.lst [])) fp) [] σ' H' s10/\(∀(j:Nat) v,(A6e ix σ)[j]? =some (some v)->σ'[j]? =some (some v))/\tn i s10.heap/\(∀b∈fp,H' b=none)/\W i m' H':=by
    intro s10 σ10 H10 m' I10 kk w10;refine ⟨i+1,σ10,H10,I10.unpinned,kk,T.keep _ _ _ st7 λb hb o e=>(I10.pin (b,o) (Z02 _ (Z02 _ (A3x hb e)))).1,λb hb=> ?_,w10⟩;obtain ⟨o,e,d⟩:=T.obj _ _ st7 b hb;exact (I10.pin (b,o) (Z02 _ (Z02 _ (A3x hb e)))).2.1
   refine Z00 (Z10 (ht _ _ _ _ _ s8 σ8 H8 _ I8 q8) (λok s9' h9'=> ?_) λ_ _ z=>z.elim);obtain ⟨H9',I9',q9'⟩:=h9'
   cases ok with
   | false =>
    have q9'':MM H9':=by simpa using q9'
    obtain ⟨m',hm',w9⟩:=hMM _ q9'';exact Z00 (Z04 (Z04 ⟨rfl,m',hm',back I9' kp8.get w9⟩))
   | true =>
    have q9'':te σ8 H9' NN:=by simpa using q9'
    refine Z00 (Z00 (Z10 (he _ _ _ _ _ s9' σ8 H9' _ I9' q9'') (λyv s9 h9=> ?_) λ_ _ z=>z.elim));obtain ⟨y,H9,I9,r9,n9⟩:=h9;obtain ⟨xs,hx9,hz9,m',hm',w9⟩:=hNN _ _ n9;refine Z00 (Z10 (A3i (X:=blk X N' scope cl s3.heap.objs.size s3 (upd H1 s2.heap.objs.size (.lst [])) fp) _ s9 σ8 H9 (.ref s2.heap.objs.size) [y] (.ref s2.heap.objs.size) [yv] (λ_ H'=>W (i+1) m' H') I9 rfl (.cons r9 .nil) ⟨_,xs,y,rfl,rfl,hx9,hz9,w9⟩) (λ_ s10 h10=> ?_) λ_ _ z=>z.elim);obtain ⟨_,H10,I10,_,w10⟩:=h10;exact Z04 (Z04 ⟨rfl,m',hm',back I10 kp8.get w10⟩)
 have e5:s3.heap.objs.size=(s2.heap.push { cls:= .type "list",data:= .seq ([]:List Value).toArray }).objs.size:=by rw [e3]
 rw [e5] at loop;exact codeAny_compStart_list (loop _ rfl) (T.self X.A 0 _ _ _ st3 (loop _ rfl))
theorem C7g {elt iter tg c:Expr} {scope:Scope} {pos:Pos} {N':List Str} {ix:List (Option Nat)} {cl:List (Str×Addr)} {wi:TI} {g:TG} {tc:TT} {te:TE} (hc:X.calm=true) (ck:C8p X scope cl) (io:C8y X N' scope ix) (hi:PI X tg iter wi)
  (hg:∀C s₀ H₀ fp,PG (blk X N' scope cl C s₀ H₀ fp) tg g) (ht:∀C s₀ H₀ fp,PT (blk X N' scope cl C s₀ H₀ fp) c tc) (he:∀C s₀ H₀ fp,PE (blk X N' scope cl C s₀ H₀ fp) elt te) (hs:∀x,foldedSetIterable iter X.env x=pure x:=by intro _;rfl) :
  PE X (.ListComp elt [⟨tg,iter,[c],0⟩] scope pos) (C5p ix wi g tc te) :=
 C2h hc ck io hi hg (λC s₀ H₀ fp pins s σ H Q I h=>wpAny_tests_one (ht C s₀ H₀ fp pins s σ H Q I h)) he _ (λ_ _ _ _ R=>R) hs
theorem A3s {elt iter tg:Expr} {scope:Scope} {pos:Pos} {N':List Str} {ix:List (Option Nat)} {cl:List (Str×Addr)} {wi:TI} {g:TG} {te:TE} (hc:X.calm=true) (ck:C8p X scope cl) (io:C8y X N' scope ix) (hi:PI X tg iter wi)
  (hg:∀C s₀ H₀ fp,PG (blk X N' scope cl C s₀ H₀ fp) tg g) (he:∀C s₀ H₀ fp,PE (blk X N' scope cl C s₀ H₀ fp) elt te) (hs:∀x,foldedSetIterable iter X.env x=pure x:=by intro _;rfl) :
  PE X (.ListComp elt [⟨tg,iter,[],0⟩] scope pos) (D8c ix wi g te) :=
 C2h (tc:=λ_ H Q=>Q true H) hc ck io hi hg (λ_ _ _ _ _ _ _ _ _ I h=>wpAny_tests_nil ⟨_,I,h⟩) he _ (λ_ _ _ _ R D2 hD=>by
  obtain ⟨W,w0,turn⟩:=R D2 hD;refine ⟨W,w0,λi m H2 w=>(turn i m H2 w).imp id λ⟨go,N,hN,step⟩=>⟨go,N,λ_=>False,hN,λ_ z=>z.elim,?_⟩⟩
  simpa using step) hs
end
section
variable {K:Frag} {a D:Addr} {xs:List V} {g:TG} {tc:TT} {te:TE} {QD:Hp->Prop} {σ₀:St} {H:Hp}
theorem B3q (Pv:Nat->List V->Hp->Prop) (h0:Pv 0 [] (upd H D (.lst []))) (hl:∀i ys H,Pv i ys H->SqL K H a xs)
  (hs:∀i x ys H,xs[i]? =some x->Pv i ys H->g x σ₀ H λσ4 H4=>A3c σ₀ σ4/\tc σ4 H4 λb H5=>if b=true then te σ4 H5 (λy H5=>H5 D=some (.lst ys)/\ys.length<sizeLine/\Pv (i+1) (ys++[y]) (upd H5 D (.lst (ys++[y])))) else Pv (i+1) ys H5) (hd:∀ys H,Pv xs.length ys H->QD H) :
  ∃W:Nat->Nat->Hp->Prop,(∃m,W 0 m (upd H D (.lst [])))/\∀i m H2,W i m H2->
   ((Itl K a).stop i H2/\QD H2)\/((Itl K a).go i H2/\∃(N:VK) (M:Hp->Prop),(∀y H5,N y H5->∃xs,H5 D=some (.lst xs)/\xs.length<sizeLine/\∃m',m'<m/\W (i+1) m' (upd H5 D (.lst (xs++[y]))))/\(∀H5,M H5->∃m',m'<m/\W (i+1) m' H5)/\
    ∀x H3,(Itl K a).yld i H2 x H3->g x σ₀ H3 λσ4 H4=>A3c σ₀ σ4/\tc σ4 H4 λb H5=>if b=true then te σ4 H5 N else M H5):=by
 refine ⟨λi m H=>m=xs.length-i/\i<=xs.length/\∃ys,Pv i ys H,⟨xs.length,by simp,Z1e _,[],h0⟩,?_⟩;rintro i m H2 ⟨rfl,hi,ys,p⟩;have q:=hl i ys H2 p;by_cases hlt:i<xs.length
 ·refine .inr ⟨⟨xs,xs[i],q,by simp [hlt]⟩,λy H5=>H5 D=some (.lst ys)/\ys.length<sizeLine/\Pv (i+1) (ys++[y]) (upd H5 D (.lst (ys++[y]))),λH5=>Pv (i+1) ys H5,λy H5 n=>⟨ys,n.1,n.2.1,xs.length-(i+1),by lia,rfl,hlt,_,n.2.2⟩,λH5 n=>⟨xs.length-(i+1),by lia,rfl,hlt,_,n⟩,λx H3 z=> ?_⟩;obtain ⟨e,z⟩:=z;subst e;exact hs i x ys _ (z xs q) p
 ·have e:i=xs.length:=by lia
  subst e;exact .inl ⟨⟨xs,q,Z09 _⟩,hd ys H2 p⟩
end
section
variable {prog:Program} {w:World} {A:Around} {E:Value->Shared->Prop} {s:Shared}
end
section
variable {X:Cx}
theorem B8z {α β:Type} {F:α->β->Prop}:∀{l:List α} {m:List β},Paired F l m->∀{i:Nat} {y:β},m[i]? =some y->∃x,l[i]? =some x/\F x y
 | _,_,.nil,i,y,e=>by simp at e
 | _,_,.cons r t,0,y,e=>by simp at e;subst e;exact ⟨_,rfl,r⟩
 | _,_,.cons r t,i+1,y,e=>by
  obtain ⟨x,e1,e2⟩:=B8z t (i:=i) (by simpa using e);exact ⟨x,by simpa using e1,e2⟩
end
section
def Its (z:Str):It:=⟨λi _=>i<z.cps.size,λi H x H'=>H'=H/\∃c,z.cps[i]? =some c/\x= .str ⟨#[c]⟩,λi _=>i=z.cps.size⟩
theorem C2m {P:Program} {w:World} {K:Frag} {tg:Expr} {ty:String} (it:Addr) (z:Str) (t:Tok)
  (hty:["enumerate","zip","dict_itemiterator","dict_reverseitemiterator","odict_iterator","itertools.zip_longest","itertools.pairwise"].contains ty=false)
  (W:∀A':Around,A'.handled=none->Walks P w A' it [it] [it] z.cps.size (SignAt z) (λi h=>h.IsStrIter it ty z t i))
  (Wi:∀(A:Around) (i:Nat) (s:Shared) (Q:Value->Shared->Prop) (E:Value->Shared->Prop),s.heap.IsStrIter it ty z t i->Q (.ref it) s->wpAny (model P w) A (pyIter (.ref it)) Q E s) :
  D1n P w K tg (Its z) [it] it (λi h=>h.IsStrIter it ty z t i) where
 mem:=by simp
 obj:=λi h st b hb=>by
  have e:b=it:=by simpa using hb
  subst e;obtain ⟨ob,e,_,d⟩:=st;exact ⟨ob,e,λv z=>by rw [d] at z;cases z⟩
 keep:=λi h h' st k=>let ⟨o,ho,r⟩:=st;⟨o,k it (by simp) o ho,r⟩
 item:=by
  intro X hP hw hK hc i pins s σ H E I hf st hg;subst hP hw hK;obtain ⟨f0,f1,f2,f3,f4,f5⟩:=hf it (by simp);refine (W _ (I.ok.hd hc)).item i s _ E hg st λv h' tk hv hst kp=> ?_;obtain ⟨c,u,hc1,rfl⟩:=hv;have I1:Inv X pins σ H { s with heap:=h',toks:=tk }:=I.turned (t':=tk) (λb ob hb e=>kp b ob (by simpa using hb) e) f0 f1 f3 f4 f5
  obtain ⟨ob,e,c',d⟩:=id hst;exact ⟨_,rfl,C3q (s:={ s with heap:=h',toks:=tk }) e c' d hty ⟨.str ⟨#[c]⟩,H,I1,⟨u,rfl⟩,⟨rfl,c,hc1,rfl⟩,hst,λb hb=>(hf b hb).1⟩⟩
 done:=by
  intro X hP hw hK hc i pins s σ H E I hf st hg;subst hP hw hK;obtain ⟨f0,f1,f2,f3,f4,f5⟩:=hf it (by simp);cases (show i=z.cps.size from hg);exact (W _ (I.ok.hd hc)).done s _ E st λh' tk kp=>⟨rfl,I.turned (t':=tk) (λb ob hb e=>kp b ob (by simpa using hb) e) f0 f1 f3 f4 f5⟩
 self:=λA i s Q E st h=>Wi A i s Q E st h
def iStr (tl:TE):TI:=λσ H R=>tl σ H λx H1=>∃z,x= .str z/\R (Its z) H1
theorem D7k {X:Cx} {tg l:Expr} {tl:TE} (hl:PE X l tl):PI X tg l (iStr tl):=by
 intro pins s σ H R I h;refine thn (hl pins s σ H _ I h) ?_;rintro y s1 ⟨x,H1,I1,rx,z,ex,q⟩;subst ex;obtain ⟨t,rfl⟩:=(show∃t,y=Value.str z t from rx)
 have fp:∀b∈[s1.heap.objs.size],B4x X pins H1 b:=λb hb=>by
  have e:b=s1.heap.objs.size:=by simpa using hb
  subst e;exact I1.fpOk (Z09 _) (I1.hok.fresh (Z09 _))
 cases ha:z.cps.all (· <128)
 ·refine wpAny_pyIter_wide ha ?_;have I2:Inv X pins σ H1 { s1 with heap:=s1.heap.push { cls:= .type "str_iterator",data:= .fields #[.str z t,.int 0 0] },toks:=s1.toks }:=I1.kept λb ob e=>Z01 _ e
  exact ⟨_,[s1.heap.objs.size],_,_,_,rfl,I2,C2m _ z t (by decide) (λA' hA=>Walks.strWide hA _ z t) (λ_ _ _ _ _ st h=>wpAny_pyIter_striter_wide st h),⟨_,Z0c _ rfl,rfl,rfl⟩,fp,q⟩
 ·refine wpAny_pyIter_ascii ha ?_;have I2:Inv X pins σ H1 { s1 with heap:=s1.heap.push { cls:= .type "str_ascii_iterator",data:= .fields #[.str z t,.int 0 0] },toks:=s1.toks }:=I1.kept λb ob e=>Z01 _ e
  exact ⟨_,[s1.heap.objs.size],_,_,_,rfl,I2,C2m _ z t (by decide) (λA' hA=>Walks.strAscii hA _ z t) (λ_ _ _ _ _ st h=>wpAny_pyIter_striter_ascii st h),⟨_,Z0c _ rfl,rfl,rfl⟩,fp,q⟩
end
theorem C6n:typeLookup (.type "list") "keys"=pure none:=by rw [typeLookup_type,builtinLookup_eq_fast];kernel_rfl
theorem A4o:entryFor table "dict.update.loop"=some Builtin.«dict.update.loop»:=entryFor_of_tree (by kernel_rfl)
theorem A2f:plainId "dict.update.loop"=true:=by decide +kernel
theorem C6z {prog:Program} {w:World} {A:Around} {E:Value->Shared->Prop} {s:Shared} {a:Addr} {o:Obj} {xs:Array Value} {k:Nat} {Q:Option Value->Shared->Prop}
  (hx:s.heap.get? a=some o) (hc:o.cls= .type "list") (hdat:o.data= .seq xs k) (hd:o.dict=none) (hA:A.handled=none)
  (h:∀h' tk,(∀b ob,s.heap.get? b=some ob->h'.get? b=some ob)->Q none { s with heap:=h',toks:=tk }):wpAny (model prog w) A (getAttr? (.ref a) "keys") Q E s:=by
 obtain ⟨c,dct,dat,sl⟩:=o;simp only at hc hdat hd;subst hc hdat hd;obtain ⟨hp,g,d,tk,os⟩:=s;have hT:∀tk',(⟨hp,g,d,tk',os⟩:Shared).TypeIs (.ref a) "list":=λ_=>⟨_,hx,rfl⟩;have f1:=sub_AttributeError;have f3:=F.slot_list_getattribute.lookup;have f4:=F.slot_list_getattribute.bind (.ref a);have f5:=am_list_getattr_none;unfold getAttr? getAttrBy? getAttrBy
 repeat (any_goals (first | assumption | exact hT _ | ((with_reducible show wpAny _ _ (call (Value.builtin "list.__getattribute__") _ _) _ _ _);refine call_meets F.slot_list_getattribute (hT _) am_entry_list_getattribute (F.args_list_getattribute_2 _ _) (meets_getattribute_miss_list a xs k sl "keys" _ C6n (by decide) (by decide)) ⟨hx,hA,λh' tk' e hx'=> ?_⟩) | wp_step))
 obtain ⟨t',u',he⟩:=hx'.there;show wpAny _ _ (getattributeRaised _ _ _ _ _ _ _) _ _ _;unfold getattributeRaised
 repeat (any_goals (first | assumption | wp_step))
 all_goals exact h _ _ hx'.1
section
variable {prog:Program} {w:World} {K:Type} [DecidableEq K] {knd:KeyKind prog w K} {A:Around} {R:Result->Shared->Prop} {I l d:Addr} {items:Array Value} {rs:List (K×Value)} {h₀:Heap} {g:Array GenState} {dr:Drawn} {os:OsState}
def D5j (knd:KeyKind prog w K) (h:Heap) (I d:Addr) (items:Array Value) (rs:List (K×Value)):Prop:=items.size=rs.length/\∀(i:Nat) (v:Value) (k:K) (u:Value),items[i]? =some v->rs[i]? =some (k,u)->
 ∃(b:Addr) (o:Obj) (n:Nat) (kv:Value),v= .ref b/\b≠I/\b≠d/\h.get? b=some o/\o.cls= .type "tuple"/\o.data= .seq #[kv,u] n/\knd.is k kv=true
theorem D1g (hh:A.handled=none) (hne:l≠I) (hdI:d≠I) (hdl:d≠l) (hsz:rs.length<=sizeLine) (pa:D5j knd h₀ I d items rs) (hl:h₀.IsList l items)
  (fin:∀h' tk,h'.DictOf knd d (merged [] rs)->(∀b o,b≠I->b≠d->h₀.get? b=some o->h'.get? b=some o)->R (.ok (.ret .none)) ⟨h',g,dr,tk,os⟩) :
  ∀(k i:Nat) (h:Heap) (tk:Nat),rs.length-i=k->i<=rs.length->h.IsListIter I l i->(∀b o,b≠I->b≠d->h₀.get? b=some o->h.get? b=some o)->h.DictOf knd d (merged [] (rs.take i))->
   codeAny (model prog w) A (.builtin "dict.update.loop" ⟨[.ref d,.ref I,rawInt i,.none],[]⟩) R ⟨h,g,dr,tk,os⟩:=by
 have W:=Walks.list (prog:=prog) (w:=w) (A:=A.in1) hh I l hne items;intro k
 induction k with
 | zero =>
  intro i h tk hk hi hit kp hD;have hin:i=items.size:=by have:=pa.1;lia
  have hin':i=rs.length:=by lia
  refine codeAny_builtin A4o ?_;rw [Around.under_plainId A2f _];show wpAny _ A.in1 (pyNext (.ref I) >>= _) _ _ _;refine Z00 (W.done ⟨h,g,dr,tk,os⟩ _ _ (by rw [<-hin];exact ⟨hit,hl.at λo e=>kp l o hne (Ne.symm hdl) e⟩) λh' tk' kp'=> ?_);show wpAny _ A.in1 (Builtin.Dict.addKeywords d [] >>= λ_=>ret Value.none) _ _ _;rw [hin',Z18] at hD;obtain ⟨od,es,ep,ho,r⟩:=hD;refine Z00 (Z04 (Z04 (fin h' tk' ⟨od,es,ep,kp' d od (by simpa using hdI) ho,r⟩ λb o h1 h2 e=>kp' b o (by simpa using h1) (kp b o h1 h2 e))))
 | succ k ih =>
  intro i h tk hk hi hit kp hD;have hlt:i<items.size:=by have:=pa.1;lia
  refine codeAny_builtin A4o ?_;rw [Around.under_plainId A2f _];show wpAny _ A.in1 (pyNext (.ref I) >>= _) _ _ _;refine Z00 (W.item i ⟨h,g,dr,tk,os⟩ _ _ hlt ⟨hit,hl.at λo e=>kp l o hne (Ne.symm hdl) e⟩ λv h' tk' hv hst' kp'=> ?_);obtain ⟨⟨k',u⟩,hku⟩:∃p,rs[i]? =some p:=⟨rs[i]'(by have:=pa.1;lia),Z0b _⟩;obtain ⟨b,o,n,kv,rfl,hbI,hbd,hb,hcl,hdat,his⟩:=pa.2 i v k' u hv hku;have hb':h'.get? b=some o:=kp' b o (by simpa using hbI) (kp b o hbI hbd hb);have hT:(⟨h',g,dr,tk',os⟩:Shared).TypeIs (.ref b) "tuple":=⟨_,hb',hcl⟩;show wpAny _ A.in1 (holding [Value.ref b] _ >>= _) _ _ _;refine Z00 (Z1w (Z00 (wpAny_tryCatch ?_)));unfold Builtin.Dict.pairItems;refine Z00 (wpAny_typeOf hT ?_);rw [Z12 (by decide)];refine Z00 (Z21 hb' hdat (Z04 ?_));show wpAny _ A.in1 (holding [kv,u] (dictSet d kv u)) _ _ _
  have hD':h'.DictOf knd d (merged [] (rs.take i)):=by
   obtain ⟨od,es,ep,ho,r⟩:=hD;exact ⟨od,es,ep,kp' d od (by simpa using hdI) ho,r⟩
  have hlen:(merged [] (rs.take i)).length<=sizeLine:=by
   have e1:=merged_length_le ([]:List (K×Value)) (rs.take i);have e2:(rs.take i).length<=rs.length:=by rw [Z0x];lia
   simp only [Z2g,Nat.zero_add] at e1
   lia
  refine Z1w (wpAny_dictSet_pairs (hsz:=hlen) (s:=⟨h',g,dr,tk',os⟩) his hD' λh2 hD2 sb=> ?_);rw [<-merged_take_succ [] rs i (k',u) hku] at hD2;refine Z04 ⟨plainId_quiet A2f _,ih (i+1) h2 _ (by lia) (by have:=pa.1;lia) ?_ ?_ hD2⟩
  ·exact hst'.1.at λo e=>(sb.2 I (Ne.symm hdI)).trans e
  ·intro c oc h1 h2' e;exact (sb.2 c h2').trans (kp' c oc (by simpa using h1) (kp c oc h1 h2' e))
end
abbrev PL (H:Hp) (xs:List V) (kvs:List (Key×V)):Prop:=Paired (λ(x:V) (p:Key×V)=>∃b,x= .ref b/\H b=some (.tup [kV p.1,p.2])) xs kvs
section
variable {X:Cx}
theorem D2j {pins:List (Addr×Obj)} {σ:St} {H:Hp} {s:Shared} (I:Inv X pins σ H s):∀{xs:List V} {kvs:List (Key×V)} {its:List Value},PL H xs kvs->A2t xs its->
  ∃rs,KV kvs rs/\Paired (λ(v:Value) (p:Key×Value)=>∃(b:Addr) (o:Obj) (n:Nat) (kv:Value),v= .ref b/\s.heap.get? b=some o/\o.cls= .type "tuple"/\o.data= .seq #[kv,p.2] n/\(A2e X.prog X.w).is p.1 kv=true) its rs
 | _,_,_,.nil,.nil=>⟨[],.nil,.nil⟩
 | _,_,_,@Paired.cons _ _ _ x p _ _ ⟨b,e,hb⟩ t,.cons rv vs=>by
  obtain ⟨rs,h1,h2⟩:=D2j I t vs;subst e;cases rv;obtain ⟨_,its,r,o,g1,g2,n,g3⟩:=(show A2a X.prog X.w H s.heap b (.tup [kV p.1,p.2]) from I.hok b _ hb)
  cases r with
  | cons r1 r =>
   cases r with
   | cons r2 r =>
    cases r
    exact ⟨(p.1,_)::rs,.cons ⟨rfl,r2⟩ h1,.cons ⟨b,o,n,_,rfl,g1,g2,g3,C0a r1⟩ h2⟩
theorem B5w (hc:X.calm=true):B2b X (.type "dict") (λvs H Q=>∃a xs kvs,vs=[V.ref a]/\H a=some (.lst xs)/\PL H xs kvs/\∀p,H p=none->Q (.ref p) (upd H p (.dK (A1c [] kvs)))):=by
 intro pins s σ H vs us Q I r h;obtain ⟨a,xs,kvs,rfl,ha,pl,q⟩:=h;obtain ⟨u,rfl,ru⟩:=B5f r;cases ru;obtain ⟨z,its,n,rv,hl,e⟩:=I.lstM ha;obtain ⟨rs,kv,rp⟩:=D2j I pl rv;have hh:X.A.handled=none:=I.ok.hd hc;have lk:kvs.length=xs.length:=(Paired.length pl).symm;have lr:rs.length=kvs.length:=kv.length.symm;have hn:=I.hok.fresh (Z09 s.heap.objs.size);refine callType_codes (Q₁:=λobj s₁=>obj= .ref s.heap.objs.size/\s₁={ s with heap:=s.heap.push { cls:= .type "dict",data:= .dict #[] } }) F.kt_called_dict (F.kt_typeCall_dict_1 _) F.entry_dict_init (kt_code_dict_new _ ⟨rfl,rfl⟩) ?_;rintro obj s₁ ⟨rfl,rfl⟩;have hnew:(s.heap.push { cls:= .type "dict",data:= .dict #[] }).DictOf (A2e X.prog X.w) s.heap.objs.size []:=Heap.DictOf.new s.heap;have e1:(s.heap.push { cls:= .type "dict",data:= .dict #[] }).get? a=some { cls:= .type "list",data:= .seq its.toArray n }:=Z01 _ e;have hTl:Shared.TypeIs { s with heap:=s.heap.push { cls:= .type "dict",data:= .dict #[] } } (.ref a) "list":=⟨_,e1,rfl⟩;refine ⟨hnew.typeIs,F.args_dict_init_2 _ _,?_⟩;unfold Builtin.«dict.__init__»;refine Z00 ?_;unfold Builtin.Dict.selfAndRest;refine Z00 (wpAny_notOrdered_dict hnew.typeIs ?_);show wpAny _ _ (pure (s.heap.objs.size,[Value.ref a])) _ _ _;refine Z04 ?_;show wpAny _ _ (Builtin.Dict.updateFrom "dict.__init__" s.heap.objs.size (.ref a) [] .none) _ _ _;unfold Builtin.Dict.updateFrom;refine Z00 (wpAny_typeOf hTl ?_);rw [Z12 (by decide)];refine Z00 (C6z (o:={ cls:= .type "list",data:= .seq its.toArray n }) e1 rfl rfl rfl (by simpa using hh) λh1 tk1 kp1=> ?_)
 rw [Z12 (show (none:Option Value).isNone=true from rfl)];refine Z00 (wpAny_rule ?_);have hl1:h1.IsList a its.toArray:=⟨_,kp1 _ _ e1,rfl,n,rfl⟩;refine Z00 (wpAny_pyIter_list (s:={ s with heap:=h1,toks:=tk1 }) hl1 ?_);have la:a<h1.objs.size:=Z0a (kp1 _ _ e1);have ld:s.heap.objs.size<h1.objs.size:=let ⟨_,_,_,g,_⟩:=hnew;Z0a (kp1 _ _ g);have las:a<s.heap.objs.size:=Z0a e;refine Z04 ⟨plainId_quiet A2f _,D1g (knd:=A2e X.prog X.w) (rs:=rs) (l:=a) (items:=its.toArray) (h₀:=h1.push { cls:= .type "list_iterator",data:= .fields #[.ref a,.int 0 0] }) (by simpa using hh) (Z0h la) (Z0h ld) (Z1q las) (by lia) ?_ (hl1.push _) ?_ rs.length 0 _ _ (by lia) (Z1e _) ⟨_,Z0c _ rfl,rfl,rfl⟩ (λ_ _ _ _ z=>z) ?_⟩
 ·refine ⟨by simp;lia,λi v k u hv hku=> ?_⟩;obtain ⟨x,hx,b,o,m,kv,ev,g1,g2,g3,g4⟩:=B8z rp hku
  have ex:x=v:=by
   have hv:its[i]? =some v:=by simpa using hv
   rw [hx] at hv;exact Z1a hv
  subst ex;have lb:=Z0a g1;exact ⟨b,o,m,kv,ev,Z0h (Nat.lt_trans lb ld),Z0h lb,Z01 _ (kp1 _ _ (Z01 _ g1)),g2,g3,g4⟩
 ·intro h' tk dd kp;refine ⟨rfl,.ref s.heap.objs.size,_,I.laid (t':=tk) (o:= .dK (A1c [] kvs)) (λb u eb=>kp b u (Z0h (Nat.lt_trans (Z0a eb) ld)) (Z0h (Z0a eb)) (Z01 _ (kp1 _ _ (Z01 _ eb)))) (Z09 _) ⟨?_,?_,_,KV.merge kv .nil,dd⟩,rfl,q _ hn⟩
  ·have:=A2y kvs [];simp only [Z2g] at this
   lia
  ·have:=I.big;have hne:s.heap.objs.size≠sysModules:=Z1q this
   simpa using hne
 ·obtain ⟨od,es,ep,g,r⟩:=hnew;exact ⟨od,es,ep,Z01 _ (kp1 _ _ g),r⟩
end
section
variable {D:Addr} {g:TG} {te:TE} {QD:Hp->Prop} {σ₀:St} {H:Hp}
theorem B1c {J:It} (n:Nat) (Pv:Nat->List V->Hp->Prop) (h0:Pv 0 [] (upd H D (.lst []))) (hgo:∀i ys H,i<n->Pv i ys H->J.go i H) (hst:∀ys H,Pv n ys H->J.stop n H)
  (hs:∀i ys H,i<n->Pv i ys H->∀x H3,J.yld i H x H3->g x σ₀ H3 λσ4 H4=>A3c σ₀ σ4/\te σ4 H4 λy H5=>H5 D=some (.lst ys)/\ys.length<sizeLine/\Pv (i+1) (ys++[y]) (upd H5 D (.lst (ys++[y])))) (hd:∀ys H,Pv n ys H->QD H) :
  ∃W:Nat->Nat->Hp->Prop,(∃m,W 0 m (upd H D (.lst [])))/\∀i m H2,W i m H2->
   (J.stop i H2/\QD H2)\/(J.go i H2/\∃N:VK,(∀y H5,N y H5->∃xs,H5 D=some (.lst xs)/\xs.length<sizeLine/\∃m',m'<m/\W (i+1) m' (upd H5 D (.lst (xs++[y]))))/\
    ∀x H3,J.yld i H2 x H3->g x σ₀ H3 λσ4 H4=>A3c σ₀ σ4/\te σ4 H4 N):=by
 refine ⟨λi m H=>m=n-i/\i<=n/\∃ys,Pv i ys H,⟨n,by simp,Z1e _,[],h0⟩,?_⟩;rintro i m H2 ⟨rfl,hi,ys,p⟩;by_cases hlt:i<n
 ·exact .inr ⟨hgo i ys H2 hlt p,λy H5=>H5 D=some (.lst ys)/\ys.length<sizeLine/\Pv (i+1) (ys++[y]) (upd H5 D (.lst (ys++[y]))),λy H5 z=>⟨ys,z.1,z.2.1,n-(i+1),by lia,rfl,hlt,_,z.2.2⟩,λx H3 z=>hs i ys H2 hlt p x H3 z⟩
 ·have e:i=n:=by lia
  subst e;exact .inl ⟨hst ys H2 p,hd ys H2 p⟩
end
theorem A9x {X:Cx} {K:Frag} (h:X.K=K):IxR X (E3e K):=h▸B5y
theorem C2r {K:Frag} {C:Addr} {U:String} {b:Bool} (h:mroIn K C (.type U)=some b) (hm:PySem.W.kitMeta U=true):∀u,A3d (.ty U) u->kitOne K (.ref C) u=some b:=by
 intro u z;cases (show u=Value.type U from z);unfold kitOne;rw [Z0t (show¬(Value.ref C == Value.type U)=true from Z0v)];show (if PySem.W.kitMeta U=true then subIn K (.ref C) (.type U) else none)=some b;rw [Z12 hm];exact h
theorem A4m.or {P:Program} {w:World} {K:Frag} {mg:Str->Option Value} {base:Heap} {CX:CXT} {k:Nat} {f:Addr} {fd:FuncData} {ps:List Str} {sp sp':Sp} (F:A4m P w K mg base CX k f fd ps sp) (F':A4m P w K mg base CX k f fd ps sp') :
  A4m P w K mg base CX k f fd ps (λvs H Q E=>sp vs H Q E\/sp' vs H Q E) :=
 ⟨λvs H Q E q=>q.elim (F.len vs H Q E) (F'.len vs H Q E),λA outer s H args us vs Q E hr he hb hv q=>q.elim (F.run A outer s H args us vs Q E hr he hb hv) (F'.run A outer s H args us vs Q E hr he hb hv)⟩
theorem B3k (acc ws:List (Key×V)) (w:Key×V):A1c acc (ws++[w])=A9e (A1c acc ws) w.1 w.2:=by unfold A1c;rw [List.foldl_append];rfl
section
variable {X:Cx}
theorem C2q {i₀:Nat} {x₀:Str} {pos₀ spos:Pos} {elt iter tg:Expr} {cs:List Expr} {scope:Scope} {pos:Pos} {N':List Str} {ix:List (Option Nat)} {cl:List (Str×Addr)} {wi:TI} {g:TG} {tc:TT} {te:TE} (hN₀:X.N.Nodup) (hi₀:X.N[i₀]? =some x₀) (hx₀:Loc X.env.scope x₀) (hc:X.calm=true) (ck:C8p X scope cl) (io:C8y X N' scope ix) (hi:PI X tg iter wi)
  (hg:∀C s₀ H₀ fp,PG (blk X N' scope cl C s₀ H₀ fp) tg g) (ht:∀C s₀ H₀ fp,PTs (blk X N' scope cl C s₀ H₀ fp) cs tc) (he:∀C s₀ H₀ fp,PE (blk X N' scope cl C s₀ H₀ fp) elt te) (R:B5v->St->It->Hp->Prop) (hR:∀D σ J H1,R D σ J H1->∀D2,H1 D2=none->∃W:Nat->Nat->Hp->Prop,(∃m,W 0 m (upd H1 D2 (.lst [])))/\∀i m H2,W i m H2->
   (J.stop i H2/\D.nx (σ.set i₀ (some (.ref D2))) H2)\/(J.go i H2/\∃(N:VK) (M:Hp->Prop),(∀y H5,N y H5->∃xs,H5 D2=some (.lst xs)/\xs.length<sizeLine/\∃m',m'<m/\W (i+1) m' (upd H5 D2 (.lst (xs++[y]))))/\(∀H5,M H5->∃m',m'<m/\W (i+1) m' H5)/\∀x H3,J.yld i H2 x H3->g x (A6e ix σ) H3 λσ4 H4=>A3c (A6e ix σ) σ4/\tc σ4 H4 λb H5=>if b=true then te σ4 H5 N else M H5)) (hs:∀x,foldedSetIterable iter X.env x=pure x:=by intro _;rfl)
  (hsw:swapsWith (.ListComp elt [⟨tg,iter,cs,0⟩] scope pos) (some (.Name x₀ pos₀)) spos.line X.env=pure true:=by rfl) (hf₀:X.fn x₀=true\/X.env.scope.names.lookup x₀=some .local:=by first | exact .inl rfl | exact .inr rfl | assumption) :
  PS X (.Assign [.Name x₀ pos₀] (.ListComp elt [⟨tg,iter,cs,0⟩] scope pos) spos) (λD σ H=>wi σ H (R D σ)):=by
 intro pins s σ H D₀ I h;rw [exec_Assign_Name_used _ _ _ _ hsw];refine Z00 (Z1y (Z00 ?_));show wpAny _ X.A (do let _<-comprehension (.ListComp elt [⟨tg,iter,cs,0⟩] scope pos) scope X.env _ (newList []) false (eval iter X.env) (some (assign (.Name x₀ pos₀) X.env))) _ _ s;refine Z00 (Z10 (wpAny_comprehension_free (use:=some (assign (.Name x₀ pos₀) X.env)) (Q:=λ_ s'=>∃σ' H',Inv X pins σ' H' s'/\D₀.nx σ' H') rfl hs ck.eq ck.kind ck.names (thn (hi pins s σ H _ I h) λxv s1 h1=>thn h1 λitv s2 h2=> ?_)) (λ_ s' hq=>Z04 (Z04 hq)) λ_ _ e=>e);obtain ⟨it,fp,tn,J,H1,rfl,I1,T,st1,f1,R1⟩:=h2;refine Z16 ?_;have hD:H1 s2.heap.objs.size=none:=I1.hok.fresh (Z09 _);obtain ⟨W,⟨m0,w0⟩,turn⟩:=hR _ _ _ _ R1 _ hD;have hfD:∀b∈fp,b<s2.heap.objs.size:=λb hb=>let ⟨o,e,_⟩:=T.obj _ _ st1 b hb;Z0a e;have I2:Inv X pins σ (upd H1 s2.heap.objs.size (.lst [])) { s2 with heap:=s2.heap.push { cls:= .type "list",data:= .seq ([]:List Value).toArray },toks:=s2.toks }:=I1.lnew (its:=[]) .nil (Z1e _);have f2:∀b∈fp,B4x X pins (upd H1 s2.heap.objs.size (.lst [])) b:=λb hb=>⟨by rw [A0j (Z0h (hfD b hb))];exact (f1 b hb).1,(f1 b hb).2⟩
 have lt2:∀b∈fp,b<(s2.heap.push { cls:= .type "list",data:= .seq ([]:List Value).toArray }).objs.size:=λb hb=>by rw [Z1s];exact Nat.lt_succ_of_lt (hfD b hb)
 refine wpAny_newFunctionEnv ck.ncell (by intro y hy;simp at hy) (λh3 hns sb3=> ?_) ck.kind;dsimp only at hns sb3⊢;have k3:∀b o,(s2.heap.push { cls:= .type "list",data:= .seq ([]:List Value).toArray }).get? b=some o->h3.get? b=some o:=λb o e=>(sb3.2 b (Z0h (Z0a e))).trans (Z01 _ e);generalize hs2:({ s2 with heap:=s2.heap.push { cls:= .type "list",data:= .seq ([]:List Value).toArray },toks:=s2.toks }:Shared)=s3 at I2;have e3:s2.heap.push { cls:= .type "list",data:= .seq ([]:List Value).toArray }=s3.heap:=by rw [<-hs2]
 rw [e3] at hns k3 lt2;have I3:=B8d (N':=N') (ix:=ix) I2 ck io f2 lt2 (h':=h3) (t':=s2.toks+([]:List (Str×Value)).length) hns k3;have e4:({ s3 with heap:=h3,toks:=s2.toks+([]:List (Str×Value)).length }:Shared)={ s2 with heap:=h3,toks:=s2.toks+([]:List (Str×Value)).length }:=by rw [<-hs2]
 rw [e4] at I3;have st3:tn 0 h3:=T.keep _ _ _ st1 λb hb o e=>k3 b o (by rw [<-e3];exact Z01 _ e)
 have loop:∀s4:Shared,s4={ s2 with heap:=h3,toks:=s2.toks+([]:List (Str×Value)).length }->
   codeAny (model X.prog X.w) X.A (.compLoop (.ListComp elt [⟨tg,iter,cs,0⟩] scope pos) 0 (.ref it) (.ref s2.heap.objs.size) (compEnvC scope cl s3.heap.objs.size X.env))
    (compPost (model X.prog X.w) X.A X.xe (some (assign (.Name x₀ pos₀) X.env)) (λ_ s'=>∃σ' H',Inv X pins σ' H' s'/\D₀.nx σ' H') (.ref s2.heap.objs.size) s3.heap.objs.size) s4:=by
  rintro s4 rfl
  have stat:∀{H':Hp},(∀b∈fp,H' b=none)->∀b∈fp,B4x (blk X N' scope cl s3.heap.objs.size s3 (upd H1 s2.heap.objs.size (.lst [])) fp) [] H' b:=λhn b hb =>
   ⟨hn b hb,Z0h (lt2 b hb),λhs=>I3.ok.exfs b hb hs,.inl hb,λx c e=>(f2 b hb).2.2.2.2.1 x c (ck.sub x c e),(λp hp=>by cases hp)⟩
  refine codeAny_loop rfl (λn s'=>∃i σ' H',Inv (blk X N' scope cl s3.heap.objs.size s3 (upd H1 s2.heap.objs.size (.lst [])) fp) [] σ' H' s'/\(∀(j:Nat) v,(A6e ix σ)[j]? =some (some v)->σ'[j]? =some (some v))/\tn i s'.heap/\(∀b∈fp,H' b=none)/\W i n H')
   (λn s' hI=> ?_) m0 ⟨0,_,_,I3,λ_ _ z=>z,st3,λb hb=>(f2 b hb).1,w0⟩
  obtain ⟨i,σ5,H5,I5,wk,st5,fr5,w5⟩:=hI;show wpAny _ _ ((compTurn (.ListComp elt [⟨tg,iter,cs,0⟩] scope pos) 0 (.ref it) (.ref s2.heap.objs.size) (compEnvC scope cl s3.heap.objs.size X.env)).onRaise (λx=>do noteFrame x (compEnvC scope cl s3.heap.objs.size X.env);theTreesLotGoes x)) _ _ s';refine wpAny_noted ?_;rw [compTurn_list];refine Z00 (Z1y ?_);rcases turn i n H5 w5 with ⟨stop,qn⟩ | ⟨go,NN,MM,hNN,hMM,step⟩
  ·refine Z00 (Z10 (T.done (blk X N' scope cl s3.heap.objs.size s3 (upd H1 s2.heap.objs.size (.lst [])) fp) rfl rfl rfl hc i [] s' σ5 H5 (λ_ _=>False) I5 (stat fr5) st5 stop) (λr s6 h6=> ?_) λ_ _ z=>z.elim);obtain ⟨rfl,I6⟩:=h6;refine Z04 ?_;obtain ⟨mm,hm,_⟩:=id I6.loc;have fC:B4x X pins H5 s3.heap.objs.size:=I2.fpOk (Z09 _) I6.free;have Io:Inv X pins σ H5 s6:=C6o I2 f2 I6 (Heap.SameBut.refl _ _);show wpAny _ X.A (assign (.Name x₀ pos₀) X.env (.ref s2.heap.objs.size)) _ _ s6;refine wpAny_assign_Name (B8b Io hN₀ hi₀ hx₀ (v:= .ref s2.heap.objs.size) rfl (λs7 I7 sb7=> ?_) hf₀);obtain ⟨a,sb,ha⟩:=sb7
   have ca:s3.heap.objs.size≠a:=by
    rcases ha with ha | ha
    ·rw [ha];exact fC.2.1
    ·exact λz=>fC.2.2.2.2.1 _ _ ha z.symm
   obtain ⟨oC,es,ep,ho,r⟩:=hm;exact ⟨mm,⟨oC,es,ep,(sb.2 _ ca).trans ho,r⟩,λh' sb'=>⟨_,H5,I7.turned (t':=s7.toks) (λb o hb e=>(sb'.2 b hb).trans e) fC.1 fC.2.1 fC.2.2.2.1 fC.2.2.2.2.1 fC.2.2.2.2.2,qn⟩⟩
  ·refine Z00 (Z10 (T.item (blk X N' scope cl s3.heap.objs.size s3 (upd H1 s2.heap.objs.size (.lst [])) fp) rfl rfl rfl hc i [] s' σ5 H5 (λ_ _=>False) I5 (stat fr5) st5 go) (λr s6 h6=> ?_) λ_ _ z=>z.elim);obtain ⟨u,rfl,h6⟩:=h6;refine Z00 (Z10 h6 (λ_ s7 h7=> ?_) λ_ _ z=>z.elim);obtain ⟨x,H7,I7,r7,y7,st7,fr7⟩:=h7;have I7w:Inv (blk X N' scope cl s3.heap.objs.size s3 (upd H1 s2.heap.objs.size (.lst [])) fp) [] (A6e ix σ) H7 s7:=I7.weak (by rw [I7.len];unfold A6e;rw [Z08];exact io.1) wk;have I7p:=I7w.pinned (stat fr7) (T.obj _ _ st7);refine Z00 (Z10 (hg _ _ _ _ _ s7 _ H7 x u _ I7p r7 (step x H7 y7)) (λ_ s8 h8=> ?_) λ_ _ z=>z.elim);obtain ⟨σ8,H8,I8,kp8,q8⟩:=h8
   have back:∀{s10:Shared} {σ10:St} {H10:Hp} {m':Nat},Inv (blk X N' scope cl s3.heap.objs.size s3 (upd H1 s2.heap.objs.size (.lst [])) fp) ([]++B3u fp s7.heap) σ10 H10 s10->(∀(j:Nat) v,(A6e ix σ)[j]? =some (some v)->σ10[j]? =some (some v))->W (i+1) m' H10->
     ∃i σ' H',Inv (blk X N' scope cl s3.heap.objs.size s3 (upd H1 s2.heap.objs.size (.lst [])) fp) [] σ' H' s10/\(∀(j:Nat) v,(A6e ix σ)[j]? =some (some v)->σ'[j]? =some (some v))/\tn i s10.heap/\(∀b∈fp,H' b=none)/\W i m' H':=by
    intro s10 σ10 H10 m' I10 kk w10;refine ⟨i+1,σ10,H10,I10.unpinned,kk,T.keep _ _ _ st7 λb hb o e=>(I10.pin (b,o) (Z02 _ (Z02 _ (A3x hb e)))).1,λb hb=> ?_,w10⟩;obtain ⟨o,e,d⟩:=T.obj _ _ st7 b hb;exact (I10.pin (b,o) (Z02 _ (Z02 _ (A3x hb e)))).2.1
   refine Z00 (Z10 (ht _ _ _ _ _ s8 σ8 H8 _ I8 q8) (λok s9' h9'=> ?_) λ_ _ z=>z.elim);obtain ⟨H9',I9',q9'⟩:=h9'
   cases ok with
   | false =>
    have q9'':MM H9':=by simpa using q9'
    obtain ⟨m',hm',w9⟩:=hMM _ q9'';exact Z00 (Z04 (Z04 ⟨rfl,m',hm',back I9' kp8.get w9⟩))
   | true =>
    have q9'':te σ8 H9' NN:=by simpa using q9'
    refine Z00 (Z00 (Z10 (he _ _ _ _ _ s9' σ8 H9' _ I9' q9'') (λyv s9 h9=> ?_) λ_ _ z=>z.elim));obtain ⟨y,H9,I9,r9,n9⟩:=h9;obtain ⟨xs,hx9,hz9,m',hm',w9⟩:=hNN _ _ n9;refine Z00 (Z10 (A3i (X:=blk X N' scope cl s3.heap.objs.size s3 (upd H1 s2.heap.objs.size (.lst [])) fp) _ s9 σ8 H9 (.ref s2.heap.objs.size) [y] (.ref s2.heap.objs.size) [yv] (λ_ H'=>W (i+1) m' H') I9 rfl (.cons r9 .nil) ⟨_,xs,y,rfl,rfl,hx9,hz9,w9⟩) (λ_ s10 h10=> ?_) λ_ _ z=>z.elim);obtain ⟨_,H10,I10,_,w10⟩:=h10;exact Z04 (Z04 ⟨rfl,m',hm',back I10 kp8.get w10⟩)
 have e5:s3.heap.objs.size=(s2.heap.push { cls:= .type "list",data:= .seq ([]:List Value).toArray }).objs.size:=by rw [e3]
 rw [e5] at loop;exact codeAny_compStart_list (loop _ rfl) (T.self X.A 0 _ _ _ st3 (loop _ rfl))
theorem B6v {i₀:Nat} {x₀:Str} {pos₀ spos:Pos} {elt iter tg:Expr} {scope:Scope} {pos:Pos} {N':List Str} {ix:List (Option Nat)} {cl:List (Str×Addr)} {wi:TI} {g:TG} {te:TE} (hN₀:X.N.Nodup) (hi₀:X.N[i₀]? =some x₀) (hx₀:Loc X.env.scope x₀) (hc:X.calm=true) (ck:C8p X scope cl) (io:C8y X N' scope ix) (hi:PI X tg iter wi)
  (hg:∀C s₀ H₀ fp,PG (blk X N' scope cl C s₀ H₀ fp) tg g) (he:∀C s₀ H₀ fp,PE (blk X N' scope cl C s₀ H₀ fp) elt te) (hs:∀x,foldedSetIterable iter X.env x=pure x:=by intro _;rfl)
  (hsw:swapsWith (.ListComp elt [⟨tg,iter,[],0⟩] scope pos) (some (.Name x₀ pos₀)) spos.line X.env=pure true:=by rfl) (hf₀:X.fn x₀=true\/X.env.scope.names.lookup x₀=some .local:=by first | exact .inl rfl | exact .inr rfl | assumption) :
  PS X (.Assign [.Name x₀ pos₀] (.ListComp elt [⟨tg,iter,[],0⟩] scope pos) spos) (E0r (D8c ix wi g te) (A6m i₀)) :=
 C2q (tc:=λ_ H Q=>Q true H) hN₀ hi₀ hx₀ hc ck io hi hg (λ_ _ _ _ _ _ _ _ _ I h=>wpAny_tests_nil ⟨_,I,h⟩) he _ (λ_ _ _ _ R D2 hD=>by
  obtain ⟨W,w0,turn⟩:=R D2 hD;refine ⟨W,w0,λi m H2 w=>(turn i m H2 w).imp id λ⟨go,N,hN,step⟩=>⟨go,N,λ_=>False,hN,λ_ z=>z.elim,?_⟩⟩
  simpa using step) hs hsw hf₀
theorem C7v {i₀:Nat} {x₀:Str} {pos₀ spos:Pos} {elt iter tg c:Expr} {scope:Scope} {pos:Pos} {N':List Str} {ix:List (Option Nat)} {cl:List (Str×Addr)} {wi:TI} {g:TG} {tc:TT} {te:TE} (hN₀:X.N.Nodup) (hi₀:X.N[i₀]? =some x₀) (hx₀:Loc X.env.scope x₀) (hc:X.calm=true) (ck:C8p X scope cl) (io:C8y X N' scope ix) (hi:PI X tg iter wi)
  (hg:∀C s₀ H₀ fp,PG (blk X N' scope cl C s₀ H₀ fp) tg g) (ht:∀C s₀ H₀ fp,PT (blk X N' scope cl C s₀ H₀ fp) c tc) (he:∀C s₀ H₀ fp,PE (blk X N' scope cl C s₀ H₀ fp) elt te) (hs:∀x,foldedSetIterable iter X.env x=pure x:=by intro _;rfl)
  (hsw:swapsWith (.ListComp elt [⟨tg,iter,[c],0⟩] scope pos) (some (.Name x₀ pos₀)) spos.line X.env=pure true:=by rfl) (hf₀:X.fn x₀=true\/X.env.scope.names.lookup x₀=some .local:=by first | exact .inl rfl | exact .inr rfl | assumption) :
  PS X (.Assign [.Name x₀ pos₀] (.ListComp elt [⟨tg,iter,[c],0⟩] scope pos) spos) (E0r (C5p ix wi g tc te) (A6m i₀)) :=
 C2q hN₀ hi₀ hx₀ hc ck io hi hg (λC s₀ H₀ fp pins s σ H Q I h=>wpAny_tests_one (ht C s₀ H₀ fp pins s σ H Q I h)) he _ (λ_ _ _ _ R=>R) hs hsw hf₀
end
theorem A2a.at18 {P:Program} {w:World} {H:Hp} {h:Heap} {a:Addr} {o:HO} (x:A2a P w H h a o):∃u,h.get? a=some u:=by
 cases o with
 | lst xs=>obtain ⟨_,_,_,_,e⟩:=x;exact ⟨_,e⟩
 | tup xs=>obtain ⟨_,_,_,o,e,_⟩:=x;exact ⟨_,e⟩
 | dK kvs=>obtain ⟨_,_,_,_,o,_,_,e,_⟩:=x;exact ⟨_,e⟩
 | dT kvs=>obtain ⟨_,_,_,_,o,_,_,e,_⟩:=x;exact ⟨_,e⟩
 | set S n=>obtain ⟨o,_,_,_,e,_⟩:=x;exact ⟨_,e⟩
 | ins C dx fs=>obtain ⟨_,_,_,e,_⟩:=x;exact ⟨_,e⟩
 | own y=>obtain ⟨_,e⟩:=x;exact ⟨_,e⟩
 | xd fs=>obtain ⟨_,⟨_,_,_,e,_⟩,_⟩:=x;exact ⟨_,e⟩
 | rng lo hi=>obtain ⟨_,_,_,e⟩:=x;exact ⟨_,e⟩
 | frz ob u=>obtain ⟨e,_⟩:=x;exact ⟨_,e⟩
 | tbl ps=>exact ⟨_,(show h.get? a=some _ from x)⟩
 | met f y=>exact ⟨_,(show h.get? a=some _ from x)⟩
 | ext φ=>obtain ⟨_,⟨_,e⟩,_⟩:=x;exact ⟨_,e⟩
section
variable {X:Cx} {pins:List (Addr×Obj)} {σ:St} {H1 H':Hp} {s1:Shared} {B h1 h':Heap}
theorem D2b (I:Inv X pins σ H1 s1) (hx:X.ex=[]) (u:Un (frs X.stack) [] H1 H' s1.heap h1) (hb1:∀b o,s1.heap.get? b=some o->b∉frs X.stack->∃o',B.get? b=some o') (hst:B.StaysIn h1) (hst':B.StaysIn h') (up:h1.UpToSlots h') :
  Un X.fs [] X.H₀ H' X.s₀.heap h'/\∀b o,X.s₀.heap.get? b=some o->b∉X.fs->∃o',B.get? b=some o':=by
 have a:Un X.fs [] X.H₀ H1 X.s₀.heap s1.heap:=by
  have z:=I.base;rw [hx] at z;exact z
 have no:∀b:Addr,b∉([]:List Addr):=λb=>by simp
 have nst:∀b o,X.s₀.heap.get? b=some o->b∉X.fs->b∉frs X.stack:=λb o e hb m =>
  (Z0e.mp (I.stkSub b m)).elim (Z0h (Z0q (Z0a e) I.ok.above)) hb
 have B1:∀b o,X.s₀.heap.get? b=some o->b∉X.fs->∃o',B.get? b=some o':=λb o e hb=>by
  obtain ⟨o1,e1⟩:=a.there b o e (no b);exact hb1 b o1 e1 (nst b o e hb)
 have slot:∀b o,X.s₀.heap.get? b=some o->X.H₀ b=none->b∈X.fs->∃sl,h'.get? b=some { o with slots:=sl }:=λb o e n hb=>by
  obtain ⟨sl,e1⟩:=a.slot b o e n hb (no b);obtain ⟨sl2,e2⟩:=u.any e1 (a.free b o e n (no b)) (no b);obtain ⟨_,of,ho,hd⟩:=I.ok.funs.mem hb;rw [e] at ho;cases ho;obtain ⟨sl3,e3⟩:=up b _ e2 hd;exact ⟨sl3,e3⟩
 refine ⟨⟨λb o e n hb _=> ?_,λb o e n hb _=>slot b o e n hb,λb o e n _=> ?_,λb o e _=> ?_,λb xs e=>u.tups b xs (a.tups b xs e),λb o v e=>u.frzs b o v (a.frzs b o v e),λb ps e=> ?_⟩,B1⟩
 ·have e2:=u.keep b o (a.keep b o e n hb (no b)) (a.free b o e n (no b)) (nst b o e hb) (no b);obtain ⟨o',eB⟩:=B1 b o e hb;have e3:=hst b o' eB;rw [e2] at e3;cases e3;exact hst' b o eB
 ·obtain ⟨o1,e1⟩:=a.there b o e (no b);exact u.free b o1 e1 (a.free b o e n (no b)) (no b)
 ·by_cases hb:b∈X.fs
  ·obtain ⟨sl,q⟩:=slot b o e (I.ok.frf b hb) hb;exact ⟨_,q⟩
  ·obtain ⟨o',eB⟩:=B1 b o e hb;exact ⟨o',hst' b o' eB⟩
 ·obtain ⟨m1,e1⟩:=a.tbls b ps e;obtain ⟨m2,e2⟩:=u.tbls b _ e1;exact ⟨m1++m2,by rw [e2,Array.append_assoc]⟩
theorem C2i {P:Program} {w:World} (ok:HOk P w H' h1) (b2:∀b o,H' b=some o->∃o',B.get? b=some o') (hst:B.StaysIn h1) (hst':B.StaysIn h'):HOk P w H' h':=λa o e =>
 (ok a o e).stay (λb u hb q=>by
  have:∃o',B.get? b=some o':=by
   rcases hb with rfl | hb
   ·exact b2 _ _ e
   ·exact b2 _ _ hb
  obtain ⟨o',eB⟩:=this;have z:=hst b o' eB;rw [q] at z;cases z
  exact hst' b u eB) (λ_ q=>q) λ_ _ q=>q
end
section
variable {P:Program} {w:World} {K:Frag} {mg:Str->Option Value} {base:Heap} {N:List Str} {qual:Str} {scope:Scope} {f:Addr} {cd:Value} {A:Around} {outer:List Env} {s:Shared} {H:Hp} {E:XK}
def D1v (X:Cx) (C:Addr) (E:XK):Prop:=∀(pins:List (Addr×Obj)) (σ:St) (H:Hp) (s:Shared) (h':Heap) (e:Addr) (vs:List Value),Inv X pins σ H s->Heap.MadeExcOf s.heap h' e (.ref C) vs->E (.ref C) none H->X.xe (.ref e) { s with heap:=h' }
end
theorem D5c {K:Frag} {h:Heap} {C:Addr} {bmB:List Value} {newId:String} (X:K.In h) (q:excIn K C bmB newId=true) :
  ∃(nm qn:Str) (N:Addr) (bs bm:List Value) (hdct:Bool) (sn:List Str) (sub:List Value) (ab:Bool) (col:Option Bool) (dd:Option Addr) (k0 k1 k2 k3 k5:Option Value) (mN:Str->Option Value),
   h.get? C=some (excClassObj nm qn C N bs bm hdct sn sub ab col dd k0 k1 k2 k3 k5 newId)/\h.Ns N mN/\mN "__init__"=none/\OwnTail h bmB bm:=by
 cases lk:K.lookup C with
 | none=>simp [excIn,lk] at q
 | some ob =>
  have there:=X _ _ lk;unfold excIn at q;rw [lk] at q;split at q
  case h_2=>cases q
  case h_1 dct cls parts same =>
   injection same with same;subst same;split at q
   case h_2=>cases q
   case h_1 own tl p0 p1 p2 p3 made p5 along row =>
    repeat rw [Z1x] at q
    have w1:own=C:=beq_iff_eq.mp q.1.1.1.1.1;have w2:made=newId:=beq_iff_eq.mp q.1.1.1.1.2;have w3:cls.hasDel=false:=by simpa using q.1.1.1.2
    have w4:=beq_iff_eq.mp q.2;subst w1 w2;have sl:parts= #[p0,p1,p2,p3,some (.builtin made),p5]:=Array.toList_inj.mp row;rw [sl] at there;cases cls;dsimp only at along w3 w4 q;rw [along,w3] at there;exact ⟨_,_,_,_,tl,_,_,_,_,_,dct,p0,p1,p2,p3,p5,_,there,Heap.Ns.of_isNs (PySem.W.isNs_of_in X q.1.2),PySem.W.nsMap_none_of_in X q.1.2 w4,PySem.W.tail_of_in X q.1.1.2⟩
abbrev D1z:List Value:=[.type "ValueError",.type "Exception",.type "BaseException",.type "object"]
def D8k (C:Addr) (E:XK) (t:TA):TS:=λ_ σ H=>t σ H λvs H1=>vs.length<=sizeLine/\E (.ref C) none H1
theorem A2x {X:Cx} {C:Addr} {E:XK} {x:Str} {np cpos pos:Pos} {e:Expr} {es:List Expr} {t:TA} (hT:D1v X C E) (q:excIn X.K C D1z "ValueError.__new__"=true) (hg:Gl X x) (hm:X.mg x=some (.ref C)) (hc:X.calm=true)
  (ha:PA X (e::es) t) (hdb:(x == ("__debug__":Str))=false:=by decide) (he:starEach (e::es) X.env=(false,eval e X.env)::starEach es X.env:=by rfl) (hpl:(backTo cpos (starEach es X.env)).any (·.1)=false:=by rfl) :
  PS X (.Raise (some (.Call (.Name x np) (e::es) [] cpos)) none pos) (D8k C E t):=by
 intro pins s σ H D I h;obtain ⟨nm,qn,N,bs,bm,hdct,sn,sub,ab,col,dd,k0,k1,k2,k3,k5,mN,hC,hN,hni,T⟩:=D5c I.mod.kin q;have kb:∀{s2:Shared} {σ2:St} {H2:Hp},Inv X pins σ2 H2 s2->∀b o,X.base.get? b=some o->s2.heap.get? b=some o:=λI2=>I2.bk
 have hpl':(backTo cpos (starEach (e::es) X.env)).any (·.1)=false:=by
  rw [he];exact hpl
 refine wpAny_Raise_call_subU (C:=C) (nm:=nm) (q:=qn) (N:=N) (bs:=bs) (bm:=bm) (hdct:=hdct) (sn:=sn) (sub:=sub) (ab:=ab) (col:=col) (dd:=dd) (k0:=k0) (k1:=k1) (k2:=k2) (k3:=k3) (k5:=k5) (mN:=mN) (bmB:=D1z)
  PySem.F.excBase_ValueError (by decide +kernel) PySem.F.excBase_ValueError (T.hasType (by decide +kernel)) (I.ok.hd hc) hpl' hni ?_
 refine A5w I hg hm ⟨rfl,?_⟩ hdb
 have hA:=thn (ha cpos pins s σ H _ I h) (Q':=λus s2=>us.length<=sizeLine/\s2.heap.get? C=some (excClassObj nm qn C N bs bm hdct sn sub ab col dd k0 k1 k2 k3 k5 "ValueError.__new__")/\s2.heap.Ns N mN/\OwnTail s2.heap D1z bm/\
    ∀h' e,Heap.MadeExcOf s2.heap h' e (.ref C) us->X.xe (.ref e) { s2 with heap:=h' }) λus s2 ⟨vs,H2,I2,r,hl,hE⟩ =>
  ⟨r.length▸hl,kb I2 _ _ hC,hN.keeps (kb I2),T.keeps (kb I2),λh' e hx=>hT pins σ H2 s2 h' e us I2 hx hE⟩
 rw [he] at hA⊢;exact Calls.evalArgs_plain (thn hA (by rintro us s2 ⟨a,b,c,d,k⟩;exact ⟨rfl,a,b,c,d,k⟩))
abbrev Cx.held (X:Cx) (ea:Addr):Cx:={ X with A:=X.A.mark (some (.ref ea)),calm:=false,xe:=λ_ _=>False }
theorem Cx.Ok.held {X:Cx} (ok:X.Ok) (ea:Addr):(X.held ea).Ok :=
 ⟨ok.mod,ok.kind,ok.glob,ok.blt,ok.above,ok.inj,ok.has,ok.cab,λz=>(by cases z),ok.frames,ok.stk,ok.exf,ok.bs,ok.bsz,ok.noex,ok.exfs,ok.funs,ok.frf⟩
section
variable {X:Cx} {pins:List (Addr×Obj)} {σ:St} {H H1:Hp} {s s1:Shared} {ea C:Addr} {a0:Value} {B:Heap}
theorem Inv.held (I:Inv X pins σ H s) (ea:Addr):Inv (X.held ea) pins σ H s:=⟨I.ok.held ea,I.os,I.bare,I.base,I.loc,I.cell,I.free,I.freeC,I.pin,I.hok,I.len⟩
theorem Inv.unheld (I:Inv (X.held ea) pins σ H s) (ok:X.Ok):Inv X pins σ H s:=⟨ok,I.os,I.bare,I.base,I.loc,I.cell,I.free,I.freeC,I.pin,I.hok,I.len⟩
theorem A4s {M:Model} {A:Around} {E:Value->Shared->Prop} {i:Nat} {x:Str} {pos:Pos} {Q:Unit->Shared->Prop} (I:Inv X pins σ H s) (hN:X.N.Nodup) (hi:X.N[i]? =some x) (hx:X.env.scope.names.lookup x=some .local)
  (h:∀s',Inv X pins (σ.set i none) H s'->Q () s'):wpAny M A (do bindName X.env x .none;unbindBehindTheSuite X.env x pos) Q E s:=by
 refine Z00 (wpAny_bindName (A8t (v:= .non) (u:= .none) I hN hi (.inl hx) rfl (λs1 I1=> ?_) (.inr hx)));unfold unbindBehindTheSuite;refine wpAny_onRaise ?_;obtain ⟨m,hn,hl⟩:=id I1.loc;have hcls:(X.env.scope.kind == .class||(X.env.scope.kind == .module&&X.env.locals != X.env.globals))=false:=by rw [I1.ok.kind];rfl
 have hiσ:i<σ.length:=by rw [I.len];exact (Z03.mp hi).1
 have cne:=I1.cne;have hk:X.env.kindOf x=some .local:=hx;obtain ⟨u,ru,hu⟩:=hl i x .non hi (Z23 hiσ) (.inl hx)
 have hm:m x=some u:=by
  rcases hu with ⟨_,e⟩ | ⟨k,_⟩
  ·exact e
  ·rw [hk] at k;rcases k with k | k <;> cases k
 refine wpAny_unbindName_local hk hn hm hcls λh' v hn' hs=> ?_;obtain ⟨oL,_,_,hoL,_⟩:=id hn;refine h _ ⟨I1.ok,I1.os,I1.bare,⟨λb o e n hb hx=> ?_,λb o e n hb hx=> ?_,I1.base.free,λb o e hx=> ?_,I1.base.tups,I1.base.frzs,I1.base.tbls⟩,⟨_,hn',λj y v' e1 e2 e3=> ?_⟩,λy c e=> ?_,I1.free,I1.freeC,λp hp=> ?_,λb ob e=> ?_,by simpa using I.len⟩
 ·exact (hs.2 b (Z0h (Z0q (Z0a e) I1.ok.above))).trans (I1.base.keep b o e n hb hx)
 ·obtain ⟨sl,e1⟩:=I1.base.slot b o e n hb hx;exact ⟨sl,(hs.2 b (Z0h (Z0q (Z0a e) I1.ok.above))).trans e1⟩
 ·obtain ⟨o',e1⟩:=I1.base.there b o e hx;exact ⟨o',(hs.2 b (Z0h (Z0q (Z0a e) I1.ok.above))).trans e1⟩
 ·by_cases hj:j=i
  ·subst hj;rw [Z23 hiσ] at e2;cases e2
  ·rw [Z2a (Ne.symm hj)] at e2;obtain ⟨u',r',q⟩:=hl j y v' e1 (by rw [Z2a (Ne.symm hj)];exact e2) e3;refine ⟨u',r',?_⟩;rcases q with ⟨k,e⟩ | ⟨k,c,e,z⟩
   ·refine .inl ⟨k,?_⟩;have:y≠x:=λe=>hj (B6q hN e1 (e▸hi));simp [this,e]
   ·exact .inr ⟨k,c,e,z.sameBut hs (cne y c e)⟩
 ·obtain ⟨w',z⟩:=I1.cell y c e;exact ⟨w',z.sameBut hs (cne y c e)⟩
 ·obtain ⟨e,n,ne,nf,d⟩:=I1.pin p hp;exact ⟨(hs.2 p.1 ne).trans e,n,ne,nf,d⟩
 ·refine (I1.hok b ob e).stay (λc w' hc q=>(hs.2 c ?_).trans q) (λ_ q=>q) λ_ _ q=>q;rintro rfl;rcases hc with rfl | hc
  ·rw [I1.free] at e;cases e
  ·rw [I1.free] at hc;cases hc
def xcF (ea C:Addr):Heap->Prop:=λh=>∃o vs,h.get? ea=some o/\o.cls= .ref C/\o.data= .fields vs
structure C6h (X:Cx) (pins:List (Addr×Obj)) (σ:St) (H1:Hp) (s1:Shared) (H:Hp) (B:Heap) (ea C:Addr) (a0:Value) (s:Shared):Prop where
 i1:Inv X pins σ H1 s1
 os:s.os=s1.os
 bare:AllBare s.gens
 un:Un (frs X.stack) [] H1 H s1.heap s.heap
 hok:HOk X.prog X.w H s.heap
 b1:∀b o,s1.heap.get? b=some o->b∉frs X.stack->∃o',B.get? b=some o'
 b2:∀b o,H b=some o->∃o',B.get? b=some o'
 fl:Heap.FlyingW B X.stack ea (.ref C) a0 s.heap
theorem C6h.new (F:C6h X pins σ H1 s1 H B ea C a0 s):s1.heap.get? ea=none:=by
 cases q:s1.heap.get? ea with
 | none=>rfl
 | some o =>
  by_cases hb:ea∈frs X.stack
  ·obtain ⟨sl,e1⟩:=F.un.slot ea o q (F.i1.stkFree ea hb) hb (by simp);obtain ⟨_,of,ho,hd⟩:=F.i1.stack.mem hb;rw [q] at ho;cases ho;obtain ⟨oe,vs,e2,_,e3,_⟩:=F.fl.first;rw [e1] at e2;cases e2;exact absurd e3 (hd vs)
  ·obtain ⟨o',eB⟩:=F.b1 ea o q hb;rw [F.fl.2.1] at eB;cases eB
theorem C6h.no (F:C6h X pins σ H1 s1 H B ea C a0 s):H ea=none:=by
 cases q:H ea with
 | none=>rfl
 | some o =>
  obtain ⟨o',eB⟩:=F.b2 ea o q;rw [F.fl.2.1] at eB;cases eB
end
section
variable {X:Cx} {C C':Addr} {y n:Str} {yp hpos:Pos} {b₀:Stmt} {suite:List Stmt} {rest:List ExceptHandler} {th:Addr->TS} {i:Nat}
theorem C8n {M:Model} {K:Frag} {h:Heap} {ea:Addr} {c:Value} {b:Bool} (X:K.In h) (hx:xcF ea C h) (e:exmOne K (.ref C) c=some b):PySem.W.Looks M h (excMatches (.ref ea) c) b:=by
 obtain ⟨o,vs,ho,hc,_⟩:=hx
 have LT:PySem.W.Looks M h (typeOf (.ref ea)) (.ref C):=by
  have z:PySem.W.Looks M h (typeOf (.ref ea)) o.cls:=(PySem.W.Looks.ld ho).andThen .now;rw [hc] at z;exact z
 exact PySem.W.exm_one X LT e
end
abbrev TX:=St->Hp->VK->XK->Prop
def D7v (sp:Sp) (t:TA):TX:=λσ H Q E=>t σ H λvs H1=>sp vs H1 Q E
section
variable {X:Cx} {k:Nat} {f:Addr} {fd:FuncData} {ps:List Str} {sp:Sp} {x:Str} {p pos:Pos} {e:Expr} {es:List Expr} {t:TA}
end
section
variable {X:Cx} {hs:List ExceptHandler} {h₀:ExceptHandler} {e:Expr} {tx:TX} {pos epos npos:Pos} {i:Nat} {n:Str}
end
section
variable {P:Program} {w:World} {K:Frag} {mg:Str->Option Value} {base:Heap}
end
theorem B0r {X:Cx} {x:Str} {v:V} {pos:Pos} (h:∃u,X.mg x=some u/\A3d v u) (hg:Gl X x) (hd:(x == ("__debug__":Str))=false:=by decide):PE X (.Name x pos) (tC v):=by
 obtain ⟨u,hm,r⟩:=h;exact λ_ _ _ H _ I q=>A5w I hg hm ⟨v,H,I,r,q⟩ hd
theorem B5k {K:Frag} {C D:Addr} {b:Bool} (hb:mroIn K D (.type "BaseException")=some true) (h1:isClsIn K D=true) (h2:typeIn K (.ref D)=some (.type "type")) (h3:mroIn K C (.ref D)=some b) :
  exmOne K (.ref C) (.ref D)=some b:=by
 unfold exmOne;have e:subIn K (.ref D) (.type "BaseException")=some true:=hb;have h1':(clsIn K D).isSome=true:=h1;rw [Z12 (by rw [e];rfl)];show (if ((clsIn K D).isSome&&typeIn K (.ref D) == some (.type "type"))=true then subIn K (.ref C) (.ref D) else none)=some b;rw [Z12 (by rw [h1',h2];rfl)];exact h3
theorem A4u {K:Frag} {t:Value}:∀{cs:List Addr},(∀c∈cs,kitOne K t (.ref c)=some false)->∀us,A2t (cs.map V.ref) us->kitAny K t us=some false
 | [],_,_,r=>by
  cases r
  rfl
 | c::cs,h,_,r=>by
  rw [Z0p] at r
  cases r with
  | cons a r =>
   cases a
   unfold kitAny;rw [h c (.head _)];exact A4u (λd hd=>h d (.tail _ hd)) _ r
end L2
namespace PySem.W
open PySem PySem.Spec PySem.Calls PyProof.Rows PySem.Builtin.ObjectAttr
structure XcIn (K:Frag) (C:Addr):Prop where
 ga:findIn K (.ref C) "__getattribute__"=some (some (.builtin "BaseException.__getattribute__"))
 gt:findIn K (.ref C) "__getattr__"=some none
 mB:mroIn K C (.type "BaseException")=some true
 mO:mroIn K C (.type "object")=some true
 cl:findIn K (.ref C) "__class__"=some (some (.builtin "object.__class__"))
 sp:specialIn K (.builtin "object.__class__") "__get__"=some (some (.builtin "getset_descriptor.__get__"))
 tk:takesIn K (.builtin "object.__class__")=some true
def KitE (a C:Addr) (h:Heap):Prop:=∃o,h.get? a=some o/\o.cls= .ref C
section
variable {prog:Program} {w:World} {A:Around} {E:Value->Shared->Prop} {h:Heap} {g:Array GenState} {d:Drawn} {t:Nat} {os:OsState} {a C:Addr} {o:Obj} {K:Frag} {name:Str}
theorem XcIn.cls (c:XcIn K C):∃cd,clsIn K C=some cd:=by
 obtain ⟨cd,h,_⟩:=Option.bind_eq_some_iff.mp c.mB;exact ⟨cd,h⟩
theorem KitE.type {M:Model} (p:KitE a C h):Looks M h (typeOf (.ref a)) (.ref C):=by
 obtain ⟨o,ho,hc⟩:=p;have z:Looks M h (typeOf (.ref a)) o.cls:=(Looks.ld ho).andThen .now
 rwa [hc] at z
theorem C2x {M:Model} {nv:Value} {Q:Unit->Shared->Prop} (X:K.In h) (c:XcIn K C) (ho:h.get? a=some o) (ok:o.cls= .ref C) (hq:Q () ⟨h,g,d,t,os⟩) :
  wpAny M A (checkBuiltinCall "BaseException.__getattribute__" ⟨[.ref a,nv],[]⟩) Q E ⟨h,g,d,t,os⟩:=by
 have sub:=looks_mroIn (M:=M) X c.mB;have ar:=F.args_bexc_ga (.ref a) nv;simp only [checkBuiltinCall,(by decide +kernel:builtinKind "BaseException.__getattribute__"=some .slot),(by decide +kernel:splitId "BaseException.__getattribute__"=some ("BaseException","__getattribute__"))];refine Z00 ?_;unfold isInstance
 repeat (first | (with_reducible refine Z1k ho ?_;rw [ok]) | (with_reducible refine sub.at ?_) | wp_step)
 exact hq
theorem D6i {M:Model} (X:K.In h) (c:XcIn K C):Looks M h (find (.ref a) (.ref C) "__class__") (.bind (.builtin "getset_descriptor.__get__") (.builtin "object.__class__")) :=
 (looks_findIn X c.cl).andThen ((show Looks M h (getOf (some (.builtin "object.__class__"))) (some (.builtin "getset_descriptor.__get__")) from looks_specialIn X c.sp).andThen
  ((show Looks M h (dataDescriptor? (some (.builtin "object.__class__")) (some (.builtin "getset_descriptor.__get__"))) (some (.builtin "getset_descriptor.__get__",.builtin "object.__class__")) from (looks_takesIn X c.tk).andThen .now).andThen (Looks.tag .now)))
theorem D8m {R:Result->Shared->Prop} (X:K.In h) (c:XcIn K C) (ho:h.get? a=some o) (ok:o.cls= .ref C) (hq:R (.ok (.ret (.ref C))) ⟨h,g,d,t,os⟩) :
  codeAny (model prog w) A (.call (.builtin "getset_descriptor.__get__") ⟨[.builtin "object.__class__",.ref a,.ref C],[]⟩) R ⟨h,g,d,t,os⟩:=by
 have ty:(⟨h,g,d,t,os⟩:Shared).TypeIs (.builtin "object.__class__") "getset_descriptor":=F.typeOf_object_class
 have sub:Looks (model prog w) h (isSubtype (.ref C) (.type (".".intercalate ("object.__class__".cutAt '.').dropLast))) true:=by
  rw [F.owner_object_class];exact looks_mroIn X c.mO
 refine codeAny_call_builtin F.slot_gs_get.plain F.entry_gs_get (F.slot_gs_get.check _ _ _ _ _ _ _ _ ty (F.args_gs_get _ _ _) ?_)
 repeat (any_goals (first | assumption | (with_reducible refine Z1k ho ?_;rw [ok]) | (with_reducible refine sub.at ?_) | wp_step))
 refine ⟨Code.quiet_builtin _ (by decide +kernel),codeAny_builtin F.entry_object_class ?_⟩
 repeat (any_goals (first | assumption | (with_reducible refine Z1k ho ?_;rw [ok]) | wp_step))
theorem D0w {tk:Tok} {Q:Fin->Shared->Prop} (X:K.In h) (c:XcIn K C) (ho:h.get? a=some o) (ok:o.cls= .ref C) (hq:Q (.done (.ret (.ref C))) ⟨h,g,d,t,os⟩) :
  wpAny (model prog w) A (Builtin.«object.__getattribute__» ⟨[.ref a,.str "__class__" tk],[]⟩) Q E ⟨h,g,d,t,os⟩:=by
 have L:=D6i (M:=model prog w) (a:=a) X c;unfold Builtin.«object.__getattribute__»
 repeat (any_goals (first | assumption | (with_reducible refine L.at ?_) | (with_reducible refine Z1k ho ?_;rw [ok]) | wp_step))
 refine D8m X c ho ok ?_
 repeat (any_goals (first | assumption | wp_step))
theorem D8s {tk:Tok} {fill expr:Bool} {v:Value} {Q:Value->Shared->Prop} (X:K.In h) (c:XcIn K C) (ho:h.get? a=some o) (ok:o.cls= .ref C)
  (hq:∀(A:Around) (R:Result->Shared->Prop),R (.ok (.ret v)) ⟨h,g,d,t,os⟩->codeAny (model prog w) A (.call (.builtin "BaseException.__getattribute__") ⟨[.ref a,.str name tk],[]⟩) R ⟨h,g,d,t,os⟩) (hh:handedIn v=true) (hQ:Q v ⟨h,g,d,t,os⟩) :
  wpAny (model prog w) A (getAttrBy (.ref a) (.str name tk) fill expr) Q E ⟨h,g,d,t,os⟩:=by
 have b:=F.attr_ValueError.ga.bind (.ref a);have L1:=looks_findIn (M:=model prog w) X c.ga;have L2:=looks_findIn (M:=model prog w) X c.gt;have n1:(Value.builtin "BaseException.__getattribute__" == Value.builtin "object.__getattribute__")=false:=by decide +kernel
 have n2:(onTheHeap (Value.ref C)&&Value.builtin "BaseException.__getattribute__" == Value.builtin "object.__getattribute__")=false:=by simp [n1]
 have n3:(expr&&onTheHeap (Value.builtin "BaseException.__getattribute__"))=false:=Bool.and_eq_false_iff.mpr (.inr rfl)
 repeat (any_goals (first | assumption | (with_reducible refine Z1k ho ?_;rw [ok]) | (with_reducible refine L1.at ?_) | (with_reducible refine L2.at ?_) | wp_step))
 refine hq _ _ ?_
 repeat (any_goals (first | assumption | wp_step))
 show wpAny _ _ (handedOut v) _ _ _;rw [handedOut_of hh];exact Z04 hQ
theorem C8s {Q:Option Value->Shared->Prop} {s:Shared} (X:K.In s.heap) (c:XcIn K C) (p:KitE a C s.heap) (hq:Q (some (.ref C)) { s with toks:=s.toks+1 }):wpAny (model prog w) A (getAttr? (.ref a) "__class__") Q E s:=by
 obtain ⟨o,ho,ok⟩:=p;obtain ⟨h,g,d,t,os⟩:=s;unfold getAttr? getAttrBy?
 have B:∀{A:Around} {E:Value->Shared->Prop} {Q:Value->Shared->Prop},Q (.ref C) ⟨h,g,d,t+1,os⟩->wpAny (model prog w) A (getAttrBy (.ref a) (.str "__class__" t) false) Q E ⟨h,g,d,t+1,os⟩:=λ{A E Q} hQ =>
  D8s X c ho ok (λA R hR=>codeAny_call_builtin F.attr_ValueError.ga.plain F.entry_bexc_ga (C2x X c ho ok (D0w X c ho ok hR))) rfl hQ
 repeat (any_goals (first | assumption | with_reducible apply B | wp_step))
theorem kitx_exc (c:XcIn K C):KitX K (.ref a) (.ref C) (KitE a C) where
 ty:=λ_ _ _ p=>p.type
 it:=λ_ _ X _=>by
  obtain ⟨cd,e⟩:=c.cls;intro A Q E s k q;unfold clsIn at e;split at e
  case h_1 there=>exact Z00 (wpAny_loadPart (k _ _ (X _ _ there)) (Z04 q))
  case h_2=>cases e
 ne:=λh tp dd its n sl X htp=>by
  obtain ⟨cd,e⟩:=c.cls;rw [Bool.eq_false_iff];intro q;cases beq_iff_eq.mp q;unfold clsIn at e;split at e
  case h_1 there=>cases (X _ _ there).symm.trans htp
  case h_2=>cases e
 ca:=λX p k=>C8s X c p k
end
end PySem.W
namespace L2
open PySem PySem.Spec PyProof.Rows
section
variable {X:Cx}
end
def D8b (K:Frag) (a:Addr):It :=
 ⟨λi H=>∃xs x,SqL K H a xs/\xs[i]? =some x,
  λi H v H'=>∃p,H p=none/\v= .ref p/\∃x,(∀xs,SqL K H a xs->xs[i]? =some x)/\H'=upd H p (.tup [.int (i:Nat),x]),
  λi H=>∃xs,SqL K H a xs/\xs.length<=i⟩
def EnSt (e it a:Addr) (i:Nat) (h:Heap):Prop:=(∃old,IsEnum h e it (i:Nat) old)/\h.IsListIter it a i
theorem C7e {P:Program} {w:World} {K:Frag} {elts:List Expr} {kk:Nat} {pos:Pos} {e it a:Addr} (ne:e≠it):D1n P w K (.Tuple elts kk pos) (D8b K a) [e,it] e (EnSt e it a) where
 mem:=by simp
 obj:=λi h st c hc=>by
  obtain ⟨⟨old,h1⟩,h2⟩:=st;simp only [Z0e,Z1i,or_false] at hc;rcases hc with rfl | rfl
  ·exact ⟨_,h1,λv z=>by cases (show Data.fields _=Data.cell v from z)⟩
  ·obtain ⟨o,ho,_,hd⟩:=h2;exact ⟨o,ho,λv z=>by rw [hd] at z;cases z⟩
 keep:=λi h h' st k=>by
  obtain ⟨⟨old,h1⟩,h2⟩:=st;exact ⟨⟨old,k e (by simp) _ h1⟩,h2.at λo z=>k it (by simp) o z⟩
 item:=by
  intro X hP hw hK hc i pins s σ H E I hf st hg;subst hP hw hK;obtain ⟨xs,x,hq,hx⟩:=hg;obtain ⟨its,rv,p1,_⟩:=I.list hq;obtain ⟨u,hu,ru⟩:=rv.get hx;obtain ⟨⟨old,h1⟩,h2⟩:=st;refine wpAny_pyNext_enum_item h1 h2 p1.isList (x:=u) (by simpa using hu) ne λh' z1 z2 z3 z4 kp=> ?_;refine ⟨_,rfl,wpAny_letOwnedTupleGo_enum (s:={ s with heap:=h',toks:=s.toks+1 }) z1 λg zg sb=> ?_⟩
  have nz:s.heap.objs.size≠e:=Z1q (Z0a h1);have n2:it<s.heap.objs.size:=let ⟨_,q,_⟩:=h2;Z0a q;have tq:g.get? s.heap.objs.size=some { cls:= .type "tuple",data:= .seq #[.int i s.toks,u] }:=sb.extBut _ _ nz z3
  have I1:Inv X pins σ (upd H s.heap.objs.size (.tup [.int (i:Nat),x])) { s with heap:=g,toks:=s.toks+1 }:=I.turnedNew (ts:=[e,it]) (λc o hc q=>by
   simp only [Z0e,Z1i,or_false,not_or] at hc
   exact sb.extBut _ _ hc.1 (kp c o hc.1 hc.2 q)) hf (Z09 _) ⟨by show 2<=sizeLine;decide,[.int i s.toks,u],.cons ⟨_,rfl⟩ (.cons ru .nil),⟨_,tq,rfl,_,rfl⟩⟩
  refine ⟨.ref s.heap.objs.size,_,I1,rfl,⟨_,I.hok.fresh (Z09 _),rfl,x,λzs hz=>by rw [I.list_inj hz hq];exact hx,rfl⟩,⟨⟨_,zg⟩,z2.at λo q=>sb.extBut _ _ ne.symm q⟩,λc hc=> ?_⟩
  have hcn:c≠s.heap.objs.size:=by
   simp only [Z0e,Z1i,or_false] at hc;rcases hc with rfl | rfl
   ·exact nz.symm
   ·exact Z0h n2
  rw [A0j hcn];exact (hf c hc).1
 done:=by
  intro X hP hw hK hc i pins s σ H E I hf st hg;subst hP hw hK;obtain ⟨xs,hq,hx⟩:=hg;obtain ⟨its,rv,p1,_⟩:=I.list hq;have e1:=rv.length;obtain ⟨⟨old,h1⟩,h2⟩:=st;refine wpAny_pyNext_enum_end (I.ok.hd hc) h1 h2 p1.isList (by simp;lia) λh' kp=>⟨rfl,?_⟩
  exact I.turnedL (t':=s.toks) (ts:=[e,it]) (λc o hc q=>by
   simp only [Z0e,Z1i,or_false,not_or] at hc
   exact kp c o hc.2 q) hf
 self:=λ_ _ _ _ _ st h=>by
  obtain ⟨⟨old,h1⟩,_⟩:=st;exact wpAny_pyIter_enum h1 h
def E1z (K:Frag) (ta:TA):TI:=λσ H R=>ta σ H λvs H1=>∃a xs,vs=[.ref a]/\SqL K H1 a xs/\R (D8b K a) H1
theorem C1e {X:Cx} {elts:List Expr} {kk:Nat} {tpos:Pos} {a:Expr} {ta:TA} {p pos:Pos} (hg:Gl X "enumerate") (hm:X.mg "enumerate"=none) (ha:PA X [a] ta) (hs:starEach [a] X.env=[(false,eval a X.env)]:=by rfl) :
  PI X (.Tuple elts kk tpos) (.Call (.Name "enumerate" p) [a] [] pos) (E1z X.K ta):=by
 intro pins s σ H R I h;refine Call_ (A9b I hg hm boot_enumerate (PyProof.Rows.callWith_type1 (thn (ha pos pins s σ H _ I h) ?_) (by rw [hs];rfl) (by rfl)));rintro us s1 ⟨vs,H1,I1,r1,q1⟩;obtain ⟨l,xs,e,hq,q⟩:=q1;subst e;obtain ⟨u,rfl,ru⟩:=B5f r1;cases ru;obtain ⟨its,rv,p1,_⟩:=I1.list hq;refine call_enumerate_list p1.isList λh' z1 z2 z3 kp=>wpAny_pyIter_enum z1 ?_;have I2:Inv X pins σ H1 { s1 with heap:=h' }:=I1.kept (t':=s1.toks) kp;refine ⟨_,[s1.heap.objs.size+1,s1.heap.objs.size],_,_,H1,rfl,I2,C7e (Z1q (Nat.lt_succ_self _)),⟨⟨_,z1⟩,z2⟩,λc hc=> ?_,q⟩
 have hle:s1.heap.objs.size<=c:=by
  simp only [Z0e,Z1i,or_false] at hc;rcases hc with rfl | rfl
  ·exact Nat.le_succ _
  ·exact Z09 _
 exact I1.fpOk hle (I1.hok.fresh hle)
theorem B6t {K:Frag} {a:Addr} {xs:List V} {g:TG} {tb:TS} {D:B5v} {σ:St} {H:Hp} (Pv:Nat->St->Hp->Prop) (h0:Pv 0 σ H) (hl:∀i σ H,Pv i σ H->SqL K H a xs)
  (hs:∀i x σ H p,xs[i]? =some x->Pv i σ H->H p=none->g (.ref p) σ (upd H p (.tup [.int (i:Nat),x])) λσ2 H2=>tb { D with nx:=Pv (i+1),ct:=Pv (i+1),bk:=D.nx } σ2 H2) (hd:∀σ H,Pv xs.length σ H->D.nx σ H) :
  ∃W:Nat->Nat->St->Hp->Prop,(∃m,W 0 m σ H)/\∀i m σ H,W i m σ H->
   ((D8b K a).stop i H/\D.nx σ H)\/((D8b K a).go i H/\∃N:St->Hp->Prop,(∀σ' H',N σ' H'->∃m',m'<m/\W (i+1) m' σ' H')/\∀x H',(D8b K a).yld i H x H'->g x σ H' λσ2 H2=>tb { D with nx:=N,ct:=N,bk:=D.nx } σ2 H2):=by
 refine ⟨λi m σ H=>m=xs.length-i/\i<=xs.length/\Pv i σ H,⟨xs.length,by simp,Z1e _,h0⟩,?_⟩;rintro i m σ H ⟨rfl,hi,p⟩;have q:=hl i σ H p;by_cases hlt:i<xs.length
 ·refine .inr ⟨⟨xs,_,q,Z0b hlt⟩,Pv (i+1),λσ' H' p'=>⟨xs.length-(i+1),by lia,rfl,hlt,p'⟩,λv H' y=> ?_⟩;obtain ⟨c,hc,rfl,x,f,rfl⟩:=y;exact hs i x σ H c (f xs q) p hc
 ·have e:i=xs.length:=by lia
  subst e;exact .inl ⟨⟨xs,q,Z09 _⟩,hd σ H p⟩
theorem B6l {X:Cx} (hc:X.calm=true):B2b X (.builtin "all") (λvs H Q=>∃(a:Addr) (bs:List Bool),vs=[V.ref a]/\SqL X.K H a (bs.map V.bl)/\Q (.bl (bs.all id)) H):=by
 intro pins s σ H vs us Q I r h;obtain ⟨a,bs,rfl,hq,q⟩:=h;obtain ⟨u,rfl,ru⟩:=B5f r;cases ru;obtain ⟨its,rv,p1,_⟩:=I.list hq;have la:a<s.heap.objs.size:=let ⟨_,e,_⟩:=p1.isList;Z0a e
 have el:bs.length=its.length:=by
  have:=rv.length
  simpa using this
 have ei:∀(i:Nat) (v:Value),its.toArray[i]? =some v->v= .bool ((bs[i]?).getD true):=λi v hv=>by
  have hi:i<bs.length:=by
   have:=(Z1m.mp hv).1
   simpa [el] using this
  obtain ⟨u,hu,ru⟩:=rv.get (i:=i) (x:= .bl bs[i]) (by simp [hi]);have e:some u=some v:=hu.symm.trans (by simpa using hv);cases e;rw [Z0b hi];exact ru
 refine call_all_walk ?_;refine wpAny_pyIter_list p1.isList ?_;refine ⟨s.heap.objs.size,_,_,_,_,_,λi=>(bs[i]?).getD true,rfl,Walks.list (A:=X.A.in1) (I.ok.hd hc) s.heap.objs.size a (Z0h la) its.toArray,⟨⟨_,Z0c _ rfl,rfl,rfl⟩,Heap.IsList.push p1.isList _⟩,λi v s2 Q2 E2 hv hQ=> ?_,λh' tk k=> ?_⟩
 ·rw [ei i v hv];exact Z04 hQ
 ·refine ⟨.bl (bs.all id),H,?_,?_,q⟩
  ·exact I.kept (t':=tk) λb o e=>k b o (λm=>absurd (Z0a e) (by
    rw [Z0w.mp m]
    exact Nat.lt_irrefl _)) (Z01 _ e)
  ·have z:((List.range its.toArray.size).all λi=>(bs[i]?).getD true)=bs.all id:=by
    have n:its.toArray.size=bs.length:=by simp [el]
    rw [n,Bool.eq_iff_iff,List.all_eq_true,List.all_eq_true];constructor
    ·intro h b hb;obtain ⟨i,hi,rfl⟩:=List.mem_iff_getElem.mp hb;have:=h i (List.mem_range.mpr hi)
     rwa [Z0b hi] at this
    ·intro h i hi;rw [Z0b (List.mem_range.mp hi)];exact h _ (List.getElem_mem _)
   show Value.bool _=Value.bool _;rw [z]
def B9s (v d:Addr):HO:= .ext λh=>h.IsValuesView v d
theorem C8v {P:Program} {w:World} {H:Hp} {h:Heap} {v d:Addr} (e:h.IsValuesView v d):A2a P w H h v (B9s v d) :=
 ⟨e,let ⟨o,e1,_⟩:=e;⟨o,e1⟩,(by rintro h1 h2 ⟨o,e1,e2⟩ k;exact ⟨o,k o e1,e2⟩)⟩
def D6b:V->List V->Hp->VK->Prop:=λx vs H Q=>∃a kvs,x= .ref a/\vs=[]/\H a=some (.dK kvs)/\∀p,H p=none->Q (.ref p) (upd H p (B9s p a))
theorem C6g {X:Cx}:MtR X "dict.values" D6b:=by
 intro pins s σ H x xs v us Q I rx rv h;obtain ⟨a,kvs,rfl,rfl,ha,q⟩:=h;cases rx;cases rv;obtain ⟨hz,hs,vs,rel,dof⟩:=(show A2a X.prog X.w H s.heap a (.dK kvs) from I.hok a _ ha);refine call_meetsIn PySem.F.slot_dict_values dof.typeIs PySem.F.entry_dict_values (PySem.F.args_dict_values_1 _) (meets_dict_values (A2e X.prog X.w) a hs) ⟨⟨vs,dof⟩,?_⟩;exact ⟨.ref s.heap.objs.size,_,I.laid (t':=s.toks) (o:=B9s s.heap.objs.size a) (λb u e=>Z01 _ e) (Z09 _) (C8v ⟨_,Z0c _ rfl,rfl,rfl⟩),rfl,q _ (I.hok.fresh (Z09 _))⟩
def E0l (a:Addr) (o:Obj) (kvs:List (Key×V)):It :=
 ⟨λi H=>H a=some (.frz o (.dK kvs))/\i<kvs.length,λi H x H'=>H'=H/\∃k,kvs[i]? =some (k,x),λi H=>H a=some (.frz o (.dK kvs))/\i=kvs.length⟩
theorem C1j {P:Program} {w:World} {K:Frag} {tg:Expr} (it a:Addr) (o:Obj) (kvs:List (Key×V)) (es:Array DictEntry) (ep:Nat) (ho:o.data= .dict es ep) :
  D1n P w K tg (E0l a o kvs) [it] it (λi h=>h.IsValIter it a i kvs.length ep) where
 mem:=by simp
 obj:=λi h st b hb=>by
  have e:b=it:=by simpa using hb
  subst e;obtain ⟨ob,e,_,d⟩:=st;exact ⟨ob,e,λv z=>by rw [d] at z;cases z⟩
 keep:=λi h h' st k=>st.at λob e=>k it (by simp) ob e
 item:=by
  intro X hP hw hK hc i pins s σ H E I hf st hg;subst hP hw hK;obtain ⟨ha,hi⟩:=hg;obtain ⟨f0,f1,f2,f3,f4,f5⟩:=hf it (by simp);obtain ⟨_,vs,rel,dd⟩:=C7d I.hok ha ho;have hl:=rel.length;obtain ⟨⟨k,v⟩,hkv⟩:∃p,kvs[i]? =some p:=⟨kvs[i],by simp [hi]⟩;obtain ⟨u,hu,ru⟩:=rel.at hkv;rw [hl] at st;refine wpAny_pyNext_values_item st dd hu λh' hit sb=> ?_;have I1:Inv X pins σ H { s with heap:=h',toks:=s.toks }:=I.turned (t':=s.toks) (λb ob hb e=>(sb.2 b hb).trans e) f0 f1 f3 f4 f5
  obtain ⟨ob,e,c,d⟩:=id hit;exact ⟨u,rfl,C3q (s:={ s with heap:=h' }) e c d (by decide) ⟨v,H,I1,ru,⟨rfl,k,hkv⟩,by rw [hl];exact hit,λb hb=>(hf b hb).1⟩⟩
 done:=by
  intro X hP hw hK hc i pins s σ H E I hf st hg;subst hP hw hK;obtain ⟨ha,hi⟩:=hg;obtain ⟨f0,f1,f2,f3,f4,f5⟩:=hf it (by simp);obtain ⟨_,vs,rel,dd⟩:=C7d I.hok ha ho;have hl:=rel.length;rw [hl] at st;exact wpAny_pyNext_values_end (I.ok.hd hc) st dd (by simp;lia) λh' eb=>⟨rfl,I.turned (t':=s.toks) (λb ob hb e=>eb b ob hb e) f0 f1 f3 f4 f5⟩
 self:=λ_ _ _ _ _ st h=>wpAny_pyIter_valiter st h
def D5q (tl:TE):TI:=λσ H R=>tl σ H λx H1=>∃v a kvs,x= .ref v/\H1 v=some (B9s v a)/\H1 a=some (.dK kvs)/\∀o,R (E0l a o kvs) (upd H1 a (.frz o (.dK kvs)))
theorem C7y {X:Cx} {tg l:Expr} {tl:TE} (hl:PE X l tl):PI X tg l (D5q tl):=by
 intro pins s σ H R I h;refine thn (hl pins s σ H _ I h) ?_;rintro u s1 ⟨x,H1,I1,rx,v,a,kvs,ex,hv,ha,q⟩;subst ex;cases rx;obtain ⟨vw,_⟩:=(show A2a X.prog X.w H1 s1.heap v (B9s v a) from I1.hok v _ hv);obtain ⟨hz,hs,vs,rel,o,es,ep,ho,hx,hd,r⟩:=D3v I1.hok ha;have dd:s1.heap.DictAt (A2e X.prog X.w) a vs ep:=⟨o,es,ho,hx,hd,r⟩;refine wpAny_pyIter_values vw dd ?_;have I2:Inv X pins σ H1 { s1 with heap:=s1.heap.push { cls:= .type "dict_valueiterator",data:= .fields #[.ref a,.int 0 0,.int vs.length 0,.int ep 0] },toks:=s1.toks }:=I1.kept λb ob e=>Z01 _ e
 have I3:=I2.frozen ha (Z01 _ ho);refine ⟨_,[s1.heap.objs.size],_,_,_,rfl,I3,C1j _ a o kvs es ep hd,?_,λb hb=> ?_,q o⟩
 ·rw [rel.length];exact ⟨_,Z0c _ rfl,rfl,rfl⟩
 ·have e:b=s1.heap.objs.size:=by simpa using hb
  subst e;refine I1.fpOk (Z09 _) ?_;rw [A0j (Z1q (I1.hok.lt ha))];exact I1.hok.fresh (Z09 _)
theorem C3t {a:Addr} {o:Obj} {kvs:List (Key×V)} {g:TG} {tb:TS} {D:B5v} {σ:St} {H:Hp} (Pv:Nat->St->Hp->Prop) (h0:Pv 0 σ H) (hl:∀i σ H,Pv i σ H->H a=some (.frz o (.dK kvs)))
  (hs:∀i k v σ H,kvs[i]? =some (k,v)->Pv i σ H->g v σ H λσ2 H2=>tb { D with nx:=Pv (i+1),ct:=Pv (i+1),bk:=D.nx } σ2 H2) (hd:∀σ H,Pv kvs.length σ H->D.nx σ H) :
  ∃W:Nat->Nat->St->Hp->Prop,(∃m,W 0 m σ H)/\∀i m σ H,W i m σ H->
   ((E0l a o kvs).stop i H/\D.nx σ H)\/((E0l a o kvs).go i H/\∃N:St->Hp->Prop,(∀σ' H',N σ' H'->∃m',m'<m/\W (i+1) m' σ' H')/\∀x H',(E0l a o kvs).yld i H x H'->g x σ H' λσ2 H2=>tb { D with nx:=N,ct:=N,bk:=D.nx } σ2 H2):=by
 refine ⟨λi m σ H=>m=kvs.length-i/\i<=kvs.length/\Pv i σ H,⟨kvs.length,by simp,Z1e _,h0⟩,?_⟩;rintro i m σ H ⟨rfl,hi,p⟩;by_cases hlt:i<kvs.length
 ·refine .inr ⟨⟨hl i σ H p,hlt⟩,Pv (i+1),λσ' H' p'=>⟨kvs.length-(i+1),by lia,rfl,hlt,p'⟩,λx H' y=> ?_⟩;obtain ⟨e,k,e1⟩:=y;subst e;exact hs i k x σ _ e1 p
 ·have e:i=kvs.length:=by lia
  subst e;exact .inl ⟨⟨hl _ σ H p,rfl⟩,hd σ H p⟩
theorem D5f {X:Cx} {K:Frag} {e:Expr} {f:Str} {pos:Pos} {ta:TE} (h:X.K=K) (he:PE X e ta) (hb:attributeBase e f X.env (eval e X.env)=eval e X.env):PE X (.Attribute e f pos) (E3c K ta f):=h▸A0t he hb
section
variable {X:Cx}
theorem D2u:OpR X (compareOp .LtE) (λx y H Q=>∃i j,x= .str i/\y= .str j/\Q (.bl (!(decide (j.cps.toList<i.cps.toList)))) H):=by
 intro pins s σ H x y v u Q I rx ry h;obtain ⟨i,j,rfl,rfl,q⟩:=h;obtain ⟨t,rfl⟩:=rx;obtain ⟨t',rfl⟩:=ry;exact P.le_str ⟨.bl _,H,I,rfl,q⟩
end
def D9u (K:Frag):List V->Hp->VK->Prop:=λxs H Q=>∃a C dx fs tp cs b,xs=[.ref a,.ref tp]/\H a=some (.ins C dx fs)/\Cls K C/\findIn K (.ref C) "__class__"=some (some (.builtin "object.__class__"))/\
 specialIn K (.builtin "object.__class__") "__get__"=some (some (.builtin "getset_descriptor.__get__"))/\takesIn K (.builtin "object.__class__")=some true/\mroIn K C (.type "object")=some true/\
 H tp=some (.tup cs)/\(∀us,A2t cs us->kitAny K (.ref C) us=some b)/\Q (.bl b) H
theorem C3s {X:Cx}:B2b X (.builtin "isinstance") (D9u X.K):=by
 intro pins s σ H xs us Q I r h;obtain ⟨a,C,dx,fs,tp,cs,b,rfl,ea,cl,ha,hn,htk,hm,ht,k,q⟩:=h;obtain ⟨u,w',rfl,ru,rw'⟩:=C0e r;cases ru;cases rw';obtain ⟨_,its,rv,ob,hob,hc,n,hd⟩:=(show A2a X.prog X.w H s.heap tp (.tup cs) from I.hok tp _ ht);obtain ⟨oc,od,oda,osl⟩:=ob;dsimp only at hc hd;subst hc hd;obtain ⟨mA,O,_⟩:=B4c I.hok ea;obtain ⟨od2,J,_⟩:=O.look;exact PySem.W.kia_tup (PySem.W.kitx_own (cl.get _) cl.hd ha hn htk hm) I.kIn J hob (k its rv) (λz=>nomatch z) λtk=>⟨.bl b,H,I.tok tk,rfl,q⟩
theorem C9q {K:Frag} {t:Value} {c:Addr} {cs:List Addr} (h:kitOne K t (.ref c)=some true):∀us,A2t ((c::cs).map V.ref) us->kitAny K t us=some true:=λus r=>by
 rw [Z0p] at r
 cases r with
 | cons a r =>
  cases a
  unfold kitAny;rw [h]
abbrev B3y (h:Heap) (z TI TO:Addr) (f0:Value) (b:Bool):Prop :=
 h.get? z=some { cls:= .type "zip",dict:=none,data:= .fields #[f0,.bool b,.bool false,.ref TI,.ref TO],slots:= #[] }
section
variable {prog:Program} {w:World} {A:Around} {E:Value->Shared->Prop} {s:Shared}
theorem C1q {a:Addr} {Q:Option Obj->Shared->Prop} (h:Q (s.heap.get? a) s):wpAny (model prog w) A (loadIfAlive a) Q E s:=λΓ p _=>by
 show PySem.Sem.wp _ Γ (.loadIfAlive a .pure) _ _ p s;rw [PySem.Sem.wp];exact h
theorem B3s {z TI TO p:Addr} {o:Obj} {b:Bool} {Q:Bool->Shared->Prop} (hz:B3y s.heap z TI TO (rawInt (p:Int)) b) (hp:s.heap.get? p=some o)
  (q:∀h',B3y h' z TI TO (rawInt (p:Int)) true->Heap.SameBut z s.heap h'->Q false { s with heap:=h' }):wpAny (model prog w) A (Builtin.SmallTypes.ownedTupleIsFree (.ref z)) Q E s:=by
 unfold Builtin.SmallTypes.ownedTupleIsFree;refine Z00 (Z11 hz rfl (x:=rawInt (p:Int)) rfl ?_);show wpAny _ _ (loadIfAlive (Int.toNat (p:Int)) >>= _) _ _ _;refine Z00 (C1q ?_);rw [Int.toNat_natCast,hp];show wpAny _ _ (field (.ref z) 1 >>= _) _ _ _;refine Z00 (Z11 hz rfl (x:= .bool b) rfl ?_)
 cases b with
 | true =>
  show wpAny _ _ (pure false) _ _ _;exact Z04 (q s.heap hz ⟨rfl,λ_ _=>rfl⟩)
 | false =>
  show wpAny _ _ (setField (.ref z) 1 (.bool true) >>= _) _ _ _;refine Z00 (Z1h hz (by simp) λg1 z1 b1=> ?_);exact Z04 (q g1 z1 b1)
end
section
variable {z TI TO i1 i2 l1 l2:Addr} {st1 st2:Nat->Heap->Prop} {src1 src2:Array Value->Heap->Prop} {prog:Program} {w:World} {A:Around} {E:Value->Shared->Prop} {s:Shared}
theorem C9m (N1:Nx i1 l1 st1 src1) (N2:Nx i2 l2 st2 src2) {k1 k2:Nat} {xs ys:Array Value} {x y:Value} {p:Addr} {o:Obj} {b:Bool} {Q:Option Value->Shared->Prop} (D:ZipApart z TI TO i1 i2 l1 l2)
  (hz:B3y s.heap z TI TO (rawInt (p:Int)) b) (hp:s.heap.get? p=some o) (hTI:IsPair s.heap TI (.ref i1) (.ref i2)) (h1:st1 k1 s.heap) (h2:st2 k2 s.heap) (hl1:src1 xs s.heap) (hl2:src2 ys s.heap) (hx:xs[k1]? =some x) (hy:ys[k2]? =some y)
  (hQ:∀h',B3y h' z TI TO (rawInt (p:Int)) true->st1 (k1+1) h'->st2 (k2+1) h'->IsPair h' s.heap.objs.size x y->
   (∀c o,c≠z->c≠i1->c≠i2->s.heap.get? c=some o->h'.get? c=some o)->Q (some (.ref s.heap.objs.size)) { s with heap:=h' }):wpAny (model prog w) A (pyNext (.ref z)) Q E s:=by
 have hT:s.TypeIs (.ref z) "zip":=⟨_,hz,rfl⟩;unfold pyNext;refine Z00 (wpAny_attempt (Z1b (name:=Str.ofString "__next__") hT F.slot_zip_next (Z1g F.slot_zip_next hT F.entry_zip_next ?_ (F.args_zip_next_1 _))));show wpAny _ _ (field (.ref z) 2 >>= _) _ _ _;refine Z00 (Z11 hz rfl (x:= .bool false) rfl ?_);show wpAny _ _ (field (.ref z) 3 >>= _) _ _ _;refine Z00 (Z11 hz rfl (x:= .ref TI) rfl ?_);refine Z00 (Z21 hTI rfl ?_);show wpAny _ _ (Builtin.SmallTypes.ownedTupleIsFree (.ref z) >>= _) _ _ _;refine Z00 (B3s hz hp λg1 z1 b1=> ?_);simp only [Bool.false_eq_true,if_false];refine Z00 ?_;simp only [<-Array.forIn_toList,List.forIn_cons,List.forIn_nil];refine Z00 (Z00 (Z1w ?_));show wpAny _ _ (Builtin.SmallTypes.nextOf (.ref i1) >>= _) _ _ _;refine Z00 (N1.item (N1.mv h1 λo e=>b1.extBut _ _ D.i1z e) (N1.mvS hl1 λo e=>b1.extBut _ _ D.l1z e) hx λg2 t2 b2=>Z04 (Z04 ?_));refine Z00 (Z00 (Z1w ?_));show wpAny _ _ (Builtin.SmallTypes.nextOf (.ref i2) >>= _) _ _ _;refine Z00 (N2.item (N2.mv h2 λo e=>b2.extBut _ _ D.i12.symm (b1.extBut _ _ D.i2z e)) (N2.mvS hl2 λo e=>b2.extBut _ _ D.l2i1 (b1.extBut _ _ D.l2z e)) hy λg3 t3 b3=>Z04 (Z04 (Z04 ?_)));have hsz:g3.objs.size=s.heap.objs.size:=by rw [b3.1,b2.1,b1.1]
 have zlt:z<g3.objs.size:=by rw [hsz];exact Z0a hz
 show wpAny _ _ (newTuple [x,y] >>= _) _ _ _;refine Z00 (wpAny_newTuple ?_);have z3:B3y g3 z TI TO (rawInt (p:Int)) true:=b3.extBut _ _ D.i2z.symm (b2.extBut _ _ D.i1z.symm z1);have k3:∀c o,c≠z->c≠i1->c≠i2->s.heap.get? c=some o->g3.get? c=some o:=λc o c1 c3 c4 e=>b3.extBut _ _ c4 (b2.extBut _ _ c3 (b1.extBut _ _ c1 e));have u1:st1 (k1+1) g3:=N1.mv t2 λo e=>b3.extBut _ _ D.i12 e;have pr:IsPair (g3.push { cls:= .type "tuple",data:= .seq #[x,y] }) g3.objs.size x y:=Z0c _ rfl;rw [hsz] at pr;refine Z04 ⟨_,rfl,Z04 ?_⟩;show Q (some (.ref g3.objs.size)) _;rw [hsz];exact hQ _ (Z01 _ z3) (N1.mv u1 λo e=>Z01 _ e) (N2.mv t3 λo e=>Z01 _ e) pr λc o c1 c3 c4 e=>Z01 _ (k3 c o c1 c3 c4 e)
theorem D5z (N1:Nx i1 l1 st1 src1) (N2:Nx i2 l2 st2 src2) {k1 k2:Nat} {xs ys:Array Value} {p:Addr} {o:Obj} {b:Bool} {Q:Option Value->Shared->Prop} (hh:A.handled=none) (D:ZipApart z TI TO i1 i2 l1 l2)
  (hz:B3y s.heap z TI TO (rawInt (p:Int)) b) (hp:s.heap.get? p=some o) (hTI:IsPair s.heap TI (.ref i1) (.ref i2)) (h1:st1 k1 s.heap) (h2:st2 k2 s.heap) (hl1:src1 xs s.heap) (hl2:src2 ys s.heap) (hend:xs[k1]? =none\/ys[k2]? =none)
  (hQ:∀h',(∀c o,c≠z->c≠i1->c≠i2->s.heap.get? c=some o->h'.get? c=some o)->Q none { s with heap:=h' }):wpAny (model prog w) A (pyNext (.ref z)) Q E s:=by
 have hT:s.TypeIs (.ref z) "zip":=⟨_,hz,rfl⟩;unfold pyNext
 have fin:∀(h':Heap) (e:Addr),(∀c o,c≠z->c≠i1->c≠i2->s.heap.get? c=some o->h'.get? c=some o)->(∃o,h'.get? e=some o/\o.cls= .type "StopIteration")->
   wpAny (model prog w) A (isInstance (.ref e) (.type "StopIteration") >>= λb=>if b=true then pure none else throw (.ref e)) Q E { s with heap:=h' }:=λh' e hk ⟨o,ho,hc⟩ =>
  Z00 (wpAny_isInstance (T:="StopIteration") (b:=true) ⟨o,ho,hc⟩ isSubtype_stop (Z04 (hQ _ hk)))
 refine Z00 (wpAny_attempt (Z1b (name:=Str.ofString "__next__") hT F.slot_zip_next (Z1g F.slot_zip_next hT F.entry_zip_next ?_ (F.args_zip_next_1 _))));show wpAny _ _ (field (.ref z) 2 >>= _) _ _ _;refine Z00 (Z11 hz rfl (x:= .bool false) rfl ?_);show wpAny _ _ (field (.ref z) 3 >>= _) _ _ _;refine Z00 (Z11 hz rfl (x:= .ref TI) rfl ?_);refine Z00 (Z21 hTI rfl ?_);show wpAny _ _ (Builtin.SmallTypes.ownedTupleIsFree (.ref z) >>= _) _ _ _;refine Z00 (B3s hz hp λg1 z1 b1=> ?_);simp only [Bool.false_eq_true,if_false];refine Z00 ?_;simp only [<-Array.forIn_toList,List.forIn_cons,List.forIn_nil];refine Z00 (Z00 (Z1w ?_));show wpAny _ _ (Builtin.SmallTypes.nextOf (.ref i1) >>= _) _ _ _;have u1:=N1.mv h1 λo e=>b1.extBut _ _ D.i1z e;have v1:=N1.mvS hl1 λo e=>b1.extBut _ _ D.l1z e
 cases hx:xs[k1]? with
 | none =>
  refine Z00 (N1.fin hh u1 v1 hx λg2 e b2 he=> ?_);exact fin g2 e (λc o c1 c3 _ x=>b2 _ _ c3 (b1.extBut _ _ c1 x)) he
 | some x =>
  have hy:ys[k2]? =none:=by
   rcases hend with h | h
   ·rw [hx] at h;cases h
   ·exact h
  refine Z00 (N1.item u1 v1 hx λg2 t2 b2=>Z04 (Z04 ?_));refine Z00 (Z00 (Z1w ?_));show wpAny _ _ (Builtin.SmallTypes.nextOf (.ref i2) >>= _) _ _ _;refine Z00 (N2.fin hh (N2.mv h2 λo e=>b2.extBut _ _ D.i12.symm (b1.extBut _ _ D.i2z e)) (N2.mvS hl2 λo e=>b2.extBut _ _ D.l2i1 (b1.extBut _ _ D.l2z e)) hy λg4 e b4 he=> ?_);exact fin g4 e (λc o c1 c3 c4 x=>b4 _ _ c4 (b2.extBut _ _ c3 (b1.extBut _ _ c1 x))) he
end
def ZS (z TI TO i1 i2 a b d:Addr) (i:Nat) (h:Heap):Prop:=IsPair h TI (.ref i1) (.ref i2)/\h.IsListIter i1 a i/\h.IsTupleIter i2 b i/\
 ((IsZip h z TI TO .none/\∃u v,IsPair h TO u v)\/∃(p:Addr) (o:Obj) (bb:Bool),B3y h z TI TO (rawInt (p:Int)) bb/\h.get? p=some o/\p≠z/\p≠i1/\p≠i2/\p≠d)
theorem ZS.at {z TI TO i1 i2 a b d:Addr} {i:Nat} {h h':Heap} (x:ZS z TI TO i1 i2 a b d i h) (nz:z≠d) (n1:TI≠d) (n2:TO≠d) (n3:i1≠d) (n4:i2≠d) (f:∀c o,c≠d->h.get? c=some o->h'.get? c=some o):ZS z TI TO i1 i2 a b d i h':=by
 obtain ⟨h1,h2,h3,h4⟩:=x;refine ⟨f _ _ n1 h1,(A8m i1 a).mv h2 λo e=>f _ _ n3 e,(A2b i2 b).mv h3 λo e=>f _ _ n4 e,?_⟩;rcases h4 with ⟨h4,u,v,h5⟩ | ⟨p,o,bb,h4,h5,m1,m2,m3,m4⟩
 ·exact .inl ⟨f _ _ nz h4,u,v,f _ _ n2 h5⟩
 ·exact .inr ⟨p,o,bb,f _ _ nz h4,f _ _ m4 h5,m1,m2,m3,m4⟩
section
variable {z TI TO i1 i2 a b d:Addr} {prog:Program} {w:World} {A:Around} {E:Value->Shared->Prop} {s:Shared}
theorem D3s {i:Nat} {xs ys:Array Value} {x y:Value} {Q:Option Value->Shared->Prop} (D:ZipApart z TI TO i1 i2 a b) (ld:d<s.heap.objs.size) (hz:ZS z TI TO i1 i2 a b d i s.heap) (hl:s.heap.IsList a xs) (ht:s.heap.IsTuple b ys) (hx:xs[i]? =some x) (hy:ys[i]? =some y)
  (hQ:∀h',ZS z TI TO i1 i2 a b d (i+1) h'->IsPair h' s.heap.objs.size x y->(∀c o,c≠z->c≠TO->c≠i1->c≠i2->s.heap.get? c=some o->h'.get? c=some o)->Q (some (.ref s.heap.objs.size)) { s with heap:=h' }) :
  wpAny (model prog w) A (pyNext (.ref z)) Q E s:=by
 obtain ⟨h1,h2,h3,h4⟩:=hz;have n4:i1<s.heap.objs.size:=let ⟨_,e,_⟩:=(A8m i1 a).ob h2;Z0a e;have n5:i2<s.heap.objs.size:=let ⟨_,e,_⟩:=(A2b i2 b).ob h3;Z0a e;rcases h4 with ⟨h4,u,v,h5⟩ | ⟨p,o,bb,h4,h5,m1,m2,m3,m4⟩
 ·have nz:z<s.heap.objs.size:=Z0a h4;refine B7b (A8m i1 a) (A2b i2 b) D h4 h1 h5 h2 h3 hl ht hx hy λh' z1 z2 z3 z4 z5 kp=> ?_;exact hQ h' ⟨kp _ _ D.TIz D.TITO D.TIi1 D.TIi2 h1,z3,z4,.inr ⟨s.heap.objs.size,_,false,z1,z5,Z1q nz,Z1q n4,Z1q n5,Z1q ld⟩⟩ z5 kp
 ·refine C9m (A8m i1 a) (A2b i2 b) D h4 h5 h1 h2 h3 hl ht hx hy λh' z1 z3 z4 z5 kp=> ?_;exact hQ h' ⟨kp _ _ D.TIz D.TIi1 D.TIi2 h1,z3,z4,.inr ⟨p,o,true,z1,kp _ _ m1 m2 m3 h5,m1,m2,m3,m4⟩⟩ z5 λc o c1 _ c3 c4 e=>kp c o c1 c3 c4 e
theorem D8x {i:Nat} {xs ys:Array Value} {Q:Option Value->Shared->Prop} (hh:A.handled=none) (D:ZipApart z TI TO i1 i2 a b) (hz:ZS z TI TO i1 i2 a b d i s.heap) (hl:s.heap.IsList a xs) (ht:s.heap.IsTuple b ys) (he:xs[i]? =none\/ys[i]? =none)
  (hQ:∀h',(∀c o,c≠z->c≠TO->c≠i1->c≠i2->s.heap.get? c=some o->h'.get? c=some o)->Q none { s with heap:=h' }):wpAny (model prog w) A (pyNext (.ref z)) Q E s:=by
 obtain ⟨h1,h2,h3,h4⟩:=hz;rcases h4 with ⟨h4,u,v,h5⟩ | ⟨p,o,bb,h4,h5,m1,m2,m3,m4⟩
 ·exact C6e (A8m i1 a) (A2b i2 b) hh D h4 h1 h5 h2 h3 hl ht he hQ
 ·exact D5z (A8m i1 a) (A2b i2 b) hh D h4 h5 h1 h2 h3 hl ht he λh' kp=>hQ h' λc o c1 _ c3 c4 e=>kp c o c1 c3 c4 e
end
section
variable {prog:Program} {w:World} {K:Type} [DecidableEq K] {knd:KeyKind prog w K} {A:Around} {R:Result->Shared->Prop} {z TI TO i1 i2 a b d:Addr} {xs ys:Array Value} {rs:List (K×Value)} {h₀:Heap} {g:Array GenState} {dr:Drawn} {os:OsState}
theorem C6i (hh:A.handled=none) (D:ZipApart z TI TO i1 i2 a b) (nz:z≠d) (n1:TI≠d) (n2:TO≠d) (n3:i1≠d) (n4:i2≠d) (na:a≠d) (nb:b≠d) (hsz:rs.length<=sizeLine)
  (pa:∀(i:Nat) (k:K) (u:Value),rs[i]? =some (k,u)->∃kv,xs[i]? =some kv/\ys[i]? =some u/\knd.is k kv=true) (he:xs[rs.length]? =none\/ys[rs.length]? =none) (hl:h₀.IsList a xs) (ht:h₀.IsTuple b ys) (aTO:a≠TO) (a1:a≠i1) (a2:a≠i2) (az:a≠z) (bTO:b≠TO) (b1:b≠i1) (b2:b≠i2) (bz:b≠z)
  (fin:∀h' tk,h'.DictOf knd d (merged [] rs)->(∀c o,c≠z->c≠TO->c≠i1->c≠i2->c≠d->h₀.get? c=some o->h'.get? c=some o)->R (.ok (.ret .none)) ⟨h',g,dr,tk,os⟩) :
  ∀(k i:Nat) (h:Heap) (tk:Nat),rs.length-i=k->i<=rs.length->ZS z TI TO i1 i2 a b d i h->(∀c o,c≠z->c≠TO->c≠i1->c≠i2->c≠d->h₀.get? c=some o->h.get? c=some o)->h.DictOf knd d (merged [] (rs.take i))->
   codeAny (model prog w) A (.builtin "dict.update.loop" ⟨[.ref d,.ref z,rawInt i,.none],[]⟩) R ⟨h,g,dr,tk,os⟩:=by
 intro k
 induction k with
 | zero =>
  intro i h tk hk hi hit kp hD;have hin':i=rs.length:=by lia
  refine codeAny_builtin A4o ?_;rw [Around.under_plainId A2f _];show wpAny _ A.in1 (pyNext (.ref z) >>= _) _ _ _;refine Z00 (D8x (s:=⟨h,g,dr,tk,os⟩) (by simpa using hh) D hit (hl.at λo e=>kp a o az aTO a1 a2 na e) (let ⟨o,e,r⟩:=ht;⟨o,kp b o bz bTO b1 b2 nb e,r⟩) (by rw [hin'];exact he) λh' kp'=> ?_);show wpAny _ A.in1 (Builtin.Dict.addKeywords d [] >>= λ_=>ret Value.none) _ _ _;rw [hin',Z18] at hD;obtain ⟨od,es,ep,ho,r⟩:=hD;exact Z00 (Z04 (Z04 (fin h' tk ⟨od,es,ep,kp' d od nz.symm n2.symm n3.symm n4.symm ho,r⟩ λc o c1 c2 c3 c4 c5 e=>kp' c o c1 c2 c3 c4 (kp c o c1 c2 c3 c4 c5 e))))
 | succ k ih =>
  intro i h tk hk hi hit kp hD;have hlt:i<rs.length:=by lia
  obtain ⟨⟨k',u⟩,hku⟩:∃p,rs[i]? =some p:=⟨rs[i],Z0b _⟩;obtain ⟨kv,hx,hy,his⟩:=pa i k' u hku;refine codeAny_builtin A4o ?_;rw [Around.under_plainId A2f _];show wpAny _ A.in1 (pyNext (.ref z) >>= _) _ _ _;have ld:d<h.objs.size:=let ⟨_,_,_,e,_⟩:=hD;Z0a e;refine Z00 (D3s (s:=⟨h,g,dr,tk,os⟩) D ld hit (hl.at λo e=>kp a o az aTO a1 a2 na e) (let ⟨o,e,r⟩:=ht;⟨o,kp b o bz bTO b1 b2 nb e,r⟩) hx hy λh' zs pr kp'=> ?_);have pr:IsPair h' h.objs.size kv u:=pr;have hT:(⟨h',g,dr,tk,os⟩:Shared).TypeIs (.ref h.objs.size) "tuple":=⟨_,pr,rfl⟩;show wpAny _ A.in1 (holding [Value.ref h.objs.size] _ >>= _) _ _ _;refine Z00 (Z1w (Z00 (wpAny_tryCatch ?_)));unfold Builtin.Dict.pairItems;refine Z00 (wpAny_typeOf hT ?_);rw [Z12 (by decide)];refine Z00 (Z21 pr rfl (Z04 ?_));show wpAny _ A.in1 (holding [kv,u] (dictSet d kv u)) _ _ _
  have hD':h'.DictOf knd d (merged [] (rs.take i)):=by
   obtain ⟨od,es,ep,ho,r⟩:=hD;exact ⟨od,es,ep,kp' d od nz.symm n2.symm n3.symm n4.symm ho,r⟩
  have hlen:(merged [] (rs.take i)).length<=sizeLine:=by
   have e1:=merged_length_le ([]:List (K×Value)) (rs.take i);have e2:(rs.take i).length<=rs.length:=by rw [Z0x];lia
   simp only [Z2g,Nat.zero_add] at e1
   lia
  refine Z1w (wpAny_dictSet_pairs (hsz:=hlen) (s:=⟨h',g,dr,tk,os⟩) his hD' λh2 hD2 sb=> ?_);rw [<-merged_take_succ [] rs i (k',u) hku] at hD2;refine Z04 ⟨plainId_quiet A2f _,ih (i+1) h2 _ (by lia) (by lia) (zs.at nz n1 n2 n3 n4 λc o hc e=>(sb.2 c hc).trans e) ?_ hD2⟩;intro c oc c1 c2 c3 c4 c5 e;exact (sb.2 c c5).trans (kp' c oc c1 c2 c3 c4 (kp c oc c1 c2 c3 c4 c5 e))
end
theorem A9p:typeLookup (.type "zip") "__getattr__"=pure none:=by rw [typeLookup_type,builtinLookup_eq_fast];kernel_rfl
theorem A6h:entryFor table "zip.__getattribute__"=some Builtin.«object.__getattribute__» :=
 entryFor_alias (id':="object.__getattribute__") (by kernel_rfl) (by decide +kernel) (by decide +kernel) (by kernel_rfl)
theorem C4q:typeLookup (.type "zip") "keys"=pure none:=by rw [typeLookup_type,builtinLookup_eq_fast];kernel_rfl
theorem B5d (a:Addr) (fs:Array Value) (sl:Array (Option Value)) (name:Str) (u:Tok) (hmiss:typeLookup (.type "zip") name=pure none) (hname:(["__module__","__name__","__qualname__","__doc__","__annotations__"]:List Str).contains name=false) (hsz:name.length+100<=sizeLine:=by size_fits) :
  Meets (Builtin.«object.__getattribute__» ⟨[.ref a,.str name u],[]⟩) (λA R s=>s.heap.get? a=some { cls:= .type "zip",dict:=none,data:= .fields fs,slots:=sl }/\raisesAttr (.ref a) name A R s) :=
 Meets.of_wp λprog w A R s hs=>by
  obtain ⟨hp,g,d,tk,os⟩:=s;obtain ⟨hx,hs⟩:=hs;have hT:(⟨hp,g,d,tk,os⟩:Shared).TypeIs (.ref a) "zip":=⟨_,hx,rfl⟩;unfold Builtin.«object.__getattribute__»
  repeat (any_goals (first | assumption | wp_step))
  simp only [hname,Bool.false_eq_true,if_false]
  repeat (any_goals (first | assumption | wp_step))
  exact wpAny_raiseAttrError hs.1 hs.2 (attrMsg_fits (by decide +kernel) hsz)
theorem C3x {prog:Program} {w:World} {A:Around} {E:Value->Shared->Prop} {s:Shared} {a:Addr} {fs:Array Value} {sl:Array (Option Value)} {Q:Option Value->Shared->Prop}
  (hx:s.heap.get? a=some { cls:= .type "zip",dict:=none,data:= .fields fs,slots:=sl }) (hA:A.handled=none)
  (h:∀h' tk,(∀b ob,s.heap.get? b=some ob->h'.get? b=some ob)->Q none { s with heap:=h',toks:=tk }):wpAny (model prog w) A (getAttr? (.ref a) "keys") Q E s:=by
 obtain ⟨hp,g,d,tk,os⟩:=s;have hT:∀tk',(⟨hp,g,d,tk',os⟩:Shared).TypeIs (.ref a) "zip":=λ_=>⟨_,hx,rfl⟩;have f1:=sub_AttributeError;have f3:=F.slot_zip_getattribute.lookup;have f4:=F.slot_zip_getattribute.bind (.ref a);have f5:=A9p;unfold getAttr? getAttrBy? getAttrBy
 repeat (any_goals (first | assumption | exact hT _ | ((with_reducible show wpAny _ _ (call (Value.builtin "zip.__getattribute__") _ _) _ _ _);refine call_meets F.slot_zip_getattribute (hT _) A6h (F.args_zip_getattribute_2 _ _) (B5d a fs sl "keys" _ C4q (by decide) (by decide)) ⟨hx,hA,λh' tk' e hx'=> ?_⟩) | wp_step))
 obtain ⟨t',u',he⟩:=hx'.there;show wpAny _ _ (getattributeRaised _ _ _ _ _ _ _) _ _ _;unfold getattributeRaised
 repeat (any_goals (first | assumption | wp_step))
 all_goals exact h _ _ hx'.1
def tDZ (K:Frag) (ta:TA):TE:=λσ H Q=>ta σ H λvs H1=>∃l t ks us,vs=[.ref l,.ref t]/\SqL K H1 l ((ks:List Key).map kV)/\SqT K H1 t us/\ks.length=us.length/\∀p,H1 p=none->Q (.ref p) (upd H1 p (.dK (A1c [] (ks.zip us))))
theorem D2n:∀{ks:List Key} {us:List V} {vs:List Value},ks.length=us.length->A2t us vs->KV (ks.zip us) (ks.zip vs)
 | [],[],_,_,.nil=> .nil
 | k::ks,u::us,_,h,.cons r t=> .cons ⟨rfl,r⟩ (D2n (by simpa using h) t)
theorem C2b {P:Program} {w:World}:∀{ks:List Key} {its:List Value},A2t (ks.map kV) its->∀{i:Nat} {k:Key},ks[i]? =some k->∃v,its[i]? =some v/\(A2e P w).is k v=true
 | [],_,.nil,i,k,h=>by simp at h
 | _::_,_,.cons r t,0,k,h=>by simp at h;subst h;exact ⟨_,rfl,C0a r⟩
 | _::_,_,.cons r t,i+1,k,h=>by
  obtain ⟨v,e1,e2⟩:=C2b (P:=P) (w:=w) t (i:=i) (k:=k) (by simpa using h);exact ⟨v,by simpa using e1,e2⟩
section
variable {X:Cx}
theorem C3j {a b:Expr} {ta:TA} {p1 p2 pos1 pos2:Pos} (hc:X.calm=true) (hgd:Gl X "dict") (hmd:X.mg "dict"=none) (hgz:Gl X "zip") (hmz:X.mg "zip"=none) (ha:PA X [a,b] ta)
  (hs0:starEach [.Call (.Name "zip" p2) [a,b] [] pos2] X.env=(false,eval (.Call (.Name "zip" p2) [a,b] [] pos2) X.env)::starEach [] X.env:=by rfl)
  (hs:starEach [a,b] X.env=[(false,eval a X.env),(false,eval b X.env)]:=by rfl) (hs2:starEach [b] X.env=[(false,eval b X.env)]:=by rfl) :
  PE X (.Call (.Name "dict" p1) [.Call (.Name "zip" p2) [a,b] [] pos2] [] pos1) (tDZ X.K ta):=by
 intro pins s σ H Q I h;have hh:X.A.handled=none:=I.ok.hd hc;refine wpAny_Call_Name_kw (A9b I hgd hmd boot_dict ?_);refine PyProof.Rows.callWith_type1 ?_ hs0 (by rfl);rw [hs0];show wpAny _ _ (spliced ((false,eval _ X.env)::backTo pos1 (starEach [] X.env))) _ _ s;refine Calls.spliced_cons ?_;refine Call_ (A9b I hgz hmz boot_zip (PyProof.Rows.callWith_type1 (thn (ha pos2 pins s σ H _ I h) ?_) (by rw [hs,hs2]) (by rw [hs2];rfl)));rintro us s1 ⟨vs,H1,I1,r1,q1⟩;obtain ⟨l1,l2,ks,ws,e,hq1,hq2,hle,q⟩:=q1;subst e;obtain ⟨u,u2,rfl,ru,ru2⟩:=C0e r1;cases ru;cases ru2;obtain ⟨its,rv,p1',zk⟩:=I1.list hq1;obtain ⟨its2,rv2,p2',_⟩:=I1.tuple hq2;have t1:l1<s1.heap.objs.size:=let ⟨_,e,_⟩:=p1'.isList;Z0a e;have t2:l2<s1.heap.objs.size:=p2'.lt;have e1:=rv.length;have e2:=rv2.length;rw [Z08] at e1;have hn:=I1.hok.fresh (Z09 s1.heap.objs.size);refine B9y p1'.isList (show s1.heap.IsTuple l2 its2.toArray from p2') λh' zs kp=>Calls.spliced_nil ?_;obtain ⟨hz,hTI,⟨tu,tv,hTO⟩,hi1,hi2⟩:=zs;have D:=zipApart_new t1 t2;have lz:s1.heap.objs.size+4<h'.objs.size:=Z0a hz;refine callType_codes (Q₁:=λobj s₁=>obj= .ref h'.objs.size/\s₁={ s1 with heap:=h'.push { cls:= .type "dict",data:= .dict #[] } }) F.kt_called_dict (F.kt_typeCall_dict_1 _) F.entry_dict_init (kt_code_dict_new (s:={ s1 with heap:=h' }) _ ⟨rfl,rfl⟩) ?_;rintro obj s₁ ⟨rfl,rfl⟩;have hnew:(h'.push { cls:= .type "dict",data:= .dict #[] }).DictOf (A2e X.prog X.w) h'.objs.size []:=Heap.DictOf.new h';have ez:(h'.push { cls:= .type "dict",data:= .dict #[] }).get? (s1.heap.objs.size+4)=some _:=Z01 _ hz;have hTz:Shared.TypeIs { s1 with heap:=h'.push { cls:= .type "dict",data:= .dict #[] } } (.ref (s1.heap.objs.size+4)) "zip":=⟨_,ez,rfl⟩;refine ⟨hnew.typeIs,F.args_dict_init_2 _ _,?_⟩;unfold Builtin.«dict.__init__»;refine Z00 ?_;unfold Builtin.Dict.selfAndRest;refine Z00 (wpAny_notOrdered_dict hnew.typeIs ?_);show wpAny _ _ (pure (h'.objs.size,[Value.ref (s1.heap.objs.size+4)])) _ _ _;refine Z04 ?_;show wpAny _ _ (Builtin.Dict.updateFrom "dict.__init__" h'.objs.size (.ref (s1.heap.objs.size+4)) [] .none) _ _ _;unfold Builtin.Dict.updateFrom;refine Z00 (wpAny_typeOf hTz ?_);rw [Z12 (by decide)];refine Z00 (C3x ez (by simpa using hh) λh1 tk1 kp1=> ?_)
 rw [Z12 (show (none:Option Value).isNone=true from rfl)];refine Z00 (wpAny_rule ?_);refine Z00 (wpAny_pyIter_zip (s:={ s1 with heap:=h1,toks:=tk1 }) (kp1 _ _ ez) ?_);have up:∀c o,h'.get? c=some o->h1.get? c=some o:=λc o e=>kp1 _ _ (Z01 _ e)
 have lr:(ks.zip its2).length=ks.length:=by rw [List.length_zip];lia
 have q1:∀i:Nat,i<=4->s1.heap.objs.size+i≠h'.objs.size:=λi hi z=>by lia
 have q2:∀c:Nat,c<s1.heap.objs.size->c≠h'.objs.size:=λc hc z=>by lia
 have q3:∀c i:Nat,c<s1.heap.objs.size->c≠s1.heap.objs.size+i:=λc i hc z=>by lia
 have le':s1.heap.objs.size<=h'.objs.size:=by lia
 have z1:ks.length<=sizeLine:=by rw [Z08] at zk;exact zk
 refine Z04 ⟨plainId_quiet A2f _,C6i (knd:=A2e X.prog X.w) (rs:=ks.zip its2) (xs:=its.toArray) (ys:=its2.toArray) (h₀:=h1) (by simpa using hh) D (q1 4 (by decide)) (q1 2 (by decide)) (q1 3 (by decide)) (q1 0 (by decide)) (q1 1 (by decide)) (q2 _ t1) (q2 _ t2) (by rw [lr];exact z1) (λi k u hr=> ?_) ?_ (p1'.isList.at λo e=>up _ _ (kp _ _ e)) (let ⟨o,e,r⟩:=p2';⟨o,up _ _ (kp _ _ e),r⟩) (q3 _ 3 t1) (q3 _ 0 t1) (q3 _ 1 t1) (q3 _ 4 t1) (q3 _ 3 t2) (q3 _ 0 t2) (q3 _ 1 t2) (q3 _ 4 t2) (λh2 tk dd kp2=> ?_) (ks.zip its2).length 0 h1 _ (by lia) (Z1e _) ⟨up _ _ hTI,(A8m _ l1).mv hi1 λo e=>up _ _ e,(A2b _ l2).mv hi2 λo e=>up _ _ e,.inl ⟨up _ _ hz,tu,tv,up _ _ hTO⟩⟩ (λ_ _ _ _ _ _ _ z=>z) ?_⟩
 ·obtain ⟨g1,g2⟩:=Z2m.mp hr;obtain ⟨kv,g3,g4⟩:=C2b (P:=X.prog) (w:=X.w) rv g1;exact ⟨kv,by simpa using g3,by simpa using g2,g4⟩
 ·left;rw [lr];simp
  lia
 ·have kv:=D2n hle rv2;refine ⟨rfl,.ref h'.objs.size,_,I1.laid (t':=tk) (o:= .dK (A1c [] (ks.zip ws))) (λb u eb=> ?_) le' ⟨?_,?_,_,KV.merge kv .nil,dd⟩,rfl,q _ (I1.hok.fresh le')⟩
  ·have lb:=Z0a eb;exact kp2 b u (q3 _ 4 lb) (q3 _ 3 lb) (q3 _ 0 lb) (q3 _ 1 lb) (q2 _ lb) (up _ _ (kp _ _ eb))
  ·have:=A2y (ks.zip ws) [];have lw:(ks.zip ws).length=ks.length:=by rw [List.length_zip];lia
   simp only [Z2g] at this
   lia
  ·have:=I1.big;have hne:h'.objs.size≠sysModules:=Z1q (Z0q this le')
   simpa using hne
 ·obtain ⟨od,es,ep,g,r⟩:=hnew;exact ⟨od,es,ep,kp1 _ _ g,r⟩
end
section
variable {prog:Program} {w:World} {A:Around} {E:Value->Shared->Prop} {h:Heap} {g:Array GenState} {d:Drawn} {t:Nat} {os:OsState}
variable {nm q:Str} {C N:Addr} {bs bm bmB:List Value} {hdct:Bool} {sn:List Str} {sub:List Value} {ab:Bool} {col:Option Bool} {dd:Option Addr} {k0 k1 k2 k3 k5:Option Value} {B Bn newId nid initId inN:String} {bmN:List Value}
theorem A9q (Fn:ExcBaseFacts Bn newId inN bmN) (hBn:bmB.contains (.type Bn)=true) (F:ExcBaseFacts B nid initId bmB) (T:OwnTail h bmB bm) {mN:Str->Option Value} {rest:List Value} {fI:Addr} {oI:Obj} {Q:Fin->Shared->Prop}
  (hC:h.get? C=some (excClassObj nm q C N bs bm hdct sn sub ab col dd k0 k1 k2 k3 k5 newId)) (hn:h.Ns N mN) (hi:mN "__init__"=some (.ref fI))
  (hfI:h.get? fI=some oI) (hfc:oI.cls= .type "function")
  (hq:∀h' e,Heap.MadeExcOf h h' e (.ref C) rest->
   wpAny (model prog w) A (call (.ref fI) (.ref e::rest)) (λr s'=>r= .none/\Q (.done (.ret (.ref e))) s') E ⟨h',g,d,t,os⟩) (hrest:rest.length<=sizeLine) :
  wpAny (model prog w) A (Builtin.«type.__call__» ⟨.ref C::rest,[]⟩) Q E ⟨h,g,d,t,os⟩:=by
 repeat (first | with_reducible refine Z1k hC ?_ | with_reducible refine wpAny_madeBy_exc hC ?_ | wp_step)
 refine codeAny_call_builtin_code (Code.quiet_builtin _ Fn.quiet) (wpAny_check_new_subU Fn hBn T hC ?_);refine codeAny_exc_new_subU Fn hBn F T hC ?_ hrest;show wpAny _ _ _ _ _ _
 have hC₁:=Z01 { cls:= .ref C,data:= .fields #[.ref h.objs.size,.none,.none,.none,.bool false,.none] }
  (Z01 { cls:= .type "tuple",data:= .seq rest.toArray } hC)
 have hfI₁:=Z01 { cls:= .ref C,data:= .fields #[.ref h.objs.size,.none,.none,.none,.bool false,.none] }
  (Z01 { cls:= .type "tuple",data:= .seq rest.toArray } hfI)
 have hn₁:((h.push { cls:= .type "tuple",data:= .seq rest.toArray }).push { cls:= .ref C,data:= .fields #[.ref h.objs.size,.none,.none,.none,.bool false,.none] }).Ns N mN :=
  let ⟨o,es,ep,e,r⟩:=hn;⟨o,es,ep,Z01 _ (Z01 _ e),r⟩
 have hget:((h.push { cls:= .type "tuple",data:= .seq rest.toArray }).push
   { cls:= .ref C,data:= .fields #[.ref h.objs.size,.none,.none,.none,.bool false,.none] }).get? (h.objs.size+1)=some
   { cls:= .ref C,data:= .fields #[.ref h.objs.size,.none,.none,.none,.bool false,.none] }:=by heap_get
 have hcC:(Value.ref C::bm).contains (.ref C)=true:=by simp
 have T₁:=T.keeps (h':=(h.push { cls:= .type "tuple",data:= .seq rest.toArray }).push { cls:= .ref C,data:= .fields #[.ref h.objs.size,.none,.none,.none,.bool false,.none] })
  λb o e=>Z01 _ (Z01 _ e)
 unfold isInstance
 repeat (first | with_reducible refine Z1k hget ?_ | (with_reducible refine wpAny_isSubtype_exc hC₁ ?_;rw [hcC]) | wp_step)
 show wpAny _ _ (typeLookup (.ref C) _) _ _ _;refine wpAny_typeLookup_tail hC₁ hn₁ T₁ F.mroIs F.init.lookup ?_;rw [hi];refine Z1w (Z00 ?_);unfold bindSpecial;refine Z00 (wpAny_typeOf (T:="function") ⟨_,hfI₁,hfc⟩ ?_);rw [Z12 (by decide)];refine Z04 (Z00 (Z10 (hq _ (h.objs.size+1) ⟨λb o hb=>Z01 _ (Z01 _ hb),Heap.get?_none_of_le (Nat.le_succ _),h.objs.size,hget,Heap.get?_none_of_le (Z09 _),?_⟩) (λr s' hr=> ?_) λ_ _ x=>x))
 ·exact Z01 _ (Heap.get?_push_at rfl rfl)
 ·obtain ⟨rfl,hQ⟩:=hr
  wp_walk
  exact hQ
theorem B5h (Fn:ExcBaseFacts Bn newId inN bmN) (hBn:bmB.contains (.type Bn)=true) (F:ExcBaseFacts B nid initId bmB) (T:OwnTail h bmB bm) {mN:Str->Option Value} {rest:List Value} {fI:Addr} {oI:Obj} {Q:Value->Shared->Prop}
  (hC:h.get? C=some (excClassObj nm q C N bs bm hdct sn sub ab col dd k0 k1 k2 k3 k5 newId)) (hn:h.Ns N mN) (hi:mN "__init__"=some (.ref fI))
  (hfI:h.get? fI=some oI) (hfc:oI.cls= .type "function")
  (hq:∀h' e,Heap.MadeExcOf h h' e (.ref C) rest->
   wpAny (model prog w) (A.under (.builtin "type.__call__" ⟨.ref C::rest,[]⟩)) (call (.ref fI) (.ref e::rest)) (λr s'=>r= .none/\Q (.ref e) s') E ⟨h',g,d,t,os⟩) (hrest:rest.length<=sizeLine) :
  wpAny (model prog w) A (call (.ref C) rest) Q E ⟨h,g,d,t,os⟩:=by
 have f1:=tc_lookup;have f2:=tc_bind (.ref C);have hT:(⟨h,g,d,t,os⟩:Shared).TypeIs (.ref C) "type":=⟨_,hC,rfl⟩;refine wpAny_call (codeAny_of_tree ?_);show wpAny _ _ (callAny (.ref C) _) _ _ _
 repeat (any_goals (first | assumption | with_reducible refine Z1k hC ?_ | wp_step))
 refine ⟨rfl,?_⟩;refine codeAny_call_builtin_at (Code.quiet_builtin _ (by decide +kernel)) entry_typeCall (wpAny_check_type_call_sub hC (A9q (hrest:=hrest) Fn hBn F T hC hn hi hfI hfc λh' e hm=> ?_));exact hq h' e hm
end
end L2
namespace PySem.W
open PySem PySem.Spec PySem.Calls PyProof.Rows PySem.Builtin.ObjectAttr PySem.Builtin
noncomputable def A9o:List Value->Bool
 | [.type a,.type b,.type c,.type d]=>a == "ValueError"&&b == "Exception"&&c == "BaseException"&&d == "object"
 | .ref _::r=>A9o r
 | _=>false
theorem C2j {l:List Value} (h:A9o l=true):l=[.type "ValueError",.type "Exception",.type "BaseException",.type "object"]\/∃c r,l= .ref c::r/\A9o r=true:=by
 unfold A9o at h;split at h
 ·simp only [Z1x,beq_iff_eq] at h;obtain ⟨⟨⟨rfl,rfl⟩,rfl⟩,rfl⟩:=h;exact .inl rfl
 ·exact .inr ⟨_,_,rfl,h⟩
 ·cases h
theorem C4j (self:Value) {l:List Value}:A9o l=true->refuseLoop self "__setattr__" l=pure ():=by
 induction l with
 | nil=>intro h;cases h
 | cons x r ih =>
  intro h;obtain z | ⟨c,r,z,h⟩:=C2j h
  ·rw [z];exact PySem.F.store_ValueError.passes self
  ·cases z;rw [refuseLoop_ref];exact ih h
theorem D5d {l:List Value}:A9o l=true->l.contains (.type "object")=true:=by
 induction l with
 | nil=>intro h;cases h
 | cons x r ih =>
  intro h;obtain z | ⟨c,r,z,h⟩:=C2j h
  ·rw [z];decide
  ·cases z;rw [List.contains_cons,ih h,Bool.or_true]
def excOver (K:Frag) (C:Addr):Bool:=(clsIn K C).any λcd=>A9o cd.mro
section
variable {prog:Program} {w:World} {A:Around} {R:Result->Shared->Prop} {s:Shared} {K:Frag} {x C:Addr}
theorem B9o {ox:Obj} {od:Option Obj} {name:Str} {tk:Tok} {v:Value} (X:K.In s.heap) (I:InstAt s.heap x ox C od) (hp:excOver K C=true) (ht:takerIn K C name=some none)
  (h:∀b,wpAny (model prog w) A.in1 (storeInOwnDict (.ref x) (.ref C) (.str name tk) name v b)
   (λfin s'=>match fin with | .done f=>R (.ok f) s' | .again c'=>c'.quiet=true/\codeAny (model prog w) A c' R s') (λe s'=>R (.error e) s') s) :
  codeAny (model prog w) A (.call (.builtin "object.__setattr__") ⟨[.ref x,.str name tk,v],[]⟩) R s:=by
 have SF:=PySem.F.store_object;obtain ⟨cd,hc,ho⟩:=any_some hp;have ne:cd.mro.isEmpty=false:=by cases q:cd.mro with | nil=>rw [q] at ho;cases ho | cons _ _=>rfl
 have sub:Looks (model prog w) s.heap (isInstance (.ref x) (.type "object")) true:=I.type.andThen (looks_mroIn X (by unfold mroIn;rw [hc,Option.bind_some,Z0t (by rw [ne];decide),D5d ho]));refine codeAny_call_builtin SF.slot.plain SF.entry (@check_slot (model prog w) _ _ s "object.__setattr__" "object" "__setattr__" (.ref x) [.str name tk,v] [] _ SF.kind SF.split sub (SF.args (.ref x) (.str name tk) v) ?_);obtain ⟨attr,ha,hr⟩:=Option.bind_eq_some_iff.mp ht;have hm:Looks (model prog w) s.heap (mroOf (.ref C)) cd.mro:=(looks_clsIn X hc).andThen .now
 have L3:Looks (model prog w) s.heap (storeTaker? attr) none:=by
  cases attr with
  | none=>cases hr;exact .now
  | some a =>
   obtain ⟨b,hb,e⟩:=Z0i.mp hr
   cases b with
   | true=>cases e
   | false=>exact (looks_takesIn X hb).andThen .now
 rw [osa_eq,refuse_eq];refine Z00 (Z00 (I.type.here (Z00 (hm.here ?_))));rw [C4j _ ho];refine Z04 (Z00 (I.type.here (Z00 ((looks_findIn X ha).here (Z00 (L3.here ?_))))));exact h _
theorem exc_setattr {E:Value->Shared->Prop} {ox:Obj} {vs:Array Value} {name:Str} {v:Value} {Q:Unit->Shared->Prop} (X:K.In s.heap) (hx:s.heap.get? x=some ox) (hcl:ox.cls= .ref C) (hdn:ox.dict=none) (hdt:ox.data= .fields vs)
  (hs:findIn K (.ref C) "__setattr__"=some (some (.builtin "object.__setattr__"))) (hp:excOver K C=true) (ht:takerIn K C name=some none) (hh:(clsIn K C).any (·.hasDict)=true)
  (h:∀h' tk,h'.get? x=some { ox with dict:=some s.heap.objs.size }->h'.Ns1 s.heap.objs.size (λy=>if y=name then some v else none)->(∀b o,b≠x->s.heap.get? b=some o->h'.get? b=some o)->Q () { s with heap:=h',toks:=tk }) :
  wpAny (model prog w) A (setAttr (.ref x) name v) Q E s:=by
 obtain ⟨hp0,g,d,t,os⟩:=s;dsimp only at X hx h;have I:InstAt hp0 x ox C none:=⟨hx,hcl,by obtain ⟨_,_,d,_⟩:=ox;cases hdt;rfl,by rw [hdn];exact True.intro⟩;refine set_plain X I hs (B9o (s:=⟨hp0,g,d,t+1,os⟩) X I hp ht λb=> ?_);obtain ⟨cd,hc,hd'⟩:=any_some hh;obtain ⟨oc,odi,oda,osl⟩:=ox;dsimp only at hcl hdn hdt;subst hcl hdn hdt;have L:=looks_clsIn (M:=model prog w) X hc;refine Z00 (Z04 (Z00 (Z00 (wpAny_loadPart hx (Z00 (Looks.here (s:=⟨hp0,g,d,t+1,os⟩) L ?_))))));rw [hd'];have hx₁:(hp0.push { cls:= .type "dict",data:= .dict #[] }).get? x=some { cls:= .ref C,data:= .fields vs,slots:=osl }:=Z01 _ hx;have hxs:x≠hp0.objs.size:=Z0h (Z0a hx);show wpAny _ _ (if (!true|| !typeHasDict (.ref C))=true then pure none else (alloc { cls:=Value.type "dict",data:=Data.dict #[] } >>= λd=>update x (λo=>{ cls:=o.cls,dict:=some d,data:=o.data,slots:=o.slots }) >>= λ_=>dictMade (.ref C) x d)) _ _ _;rw [Z0t (by simp [typeHasDict])];refine Z00 (wpAny_alloc' ?_);refine Z00 (wpAny_update' hx₁ ?_);refine Z04 ?_
 have hgd:((hp0.push { cls:= .type "dict",data:= .dict #[] }).update x λo=>{ cls:=o.cls,dict:=some hp0.objs.size,data:=o.data,slots:=o.slots }).get? hp0.objs.size
   = some { cls:= .type "dict",data:= .dict #[] } :=
  (Heap.get?_update_ne _ _ _ _ hxs.symm).trans (Heap.get?_push_at rfl rfl)
 have hnd:((hp0.push { cls:= .type "dict",data:= .dict #[] }).update x λo=>{ cls:=o.cls,dict:=some hp0.objs.size,data:=o.data,slots:=o.slots }).Ns hp0.objs.size (λ_=>none) :=
  ⟨_,#[],_,hgd,rfl,λe he=>absurd he (by simp),λ_=>rfl⟩
 show wpAny _ _ (storeInDict hp0.objs.size (.str name t) name v) _ _ _;unfold storeInDict newKeyGuard;refine Z00 (Z04 (Z00 (wpAny_nsSet1 (Heap.Ns1.of_empty hnd) λh' hn' hs=> ?_)));obtain ⟨oD,esD,epD,hoD,hdD,hcD⟩:=hn'.count (Within.cons name v Within.nil);refine Z00 (wpAny_lookBehind hoD (by rw [hdD];exact pastItsLine_dict (Z1n hcD (by rw [Z0y,Z2g,sizeLine_eq];lia))) ?_);refine Z04 ?_;refine h h' _ ((hs.2 x hxs).trans (Z1r _ hx₁ rfl)) hn' λb o hb e=> ?_;exact (hs.2 b (Z0h (Z0a e))).trans ((Heap.get?_update_ne _ _ _ _ hb).trans (Z01 _ e))
end
end PySem.W
namespace L2
open PySem PySem.Spec PyProof.Rows
section
variable {X:Cx} {pins:List (Addr×Obj)} {σ:St} {H H1:Hp} {s s1:Shared} {a:Addr} {o:HO}
theorem Inv.trackO (I1:Inv X pins σ H1 s1) (I:Inv X pins σ H s) (hn:s1.heap.get? a=none) (hH:H a=none) (new:A2a X.prog X.w (upd H a o) s.heap a o):Inv X pins σ (upd H a o) s:=by
 have ne1:∀b o,s1.heap.get? b=some o->b≠a:=λb o e z=>by
  rw [z,hn] at e;cases e
 have up:∀b u,H b=some u->upd H a o b=some u:=λb u e=>by
  rw [A0j (A0g e hH)];exact e
 refine ⟨I.ok,I.os,I.bare,⟨I.base.keep,I.base.slot,λb o e n hb=> ?_,I.base.there,λb xs e=>up _ _ (I.base.tups b xs e),λb o u e=>up _ _ (I.base.frzs b o u e),λb ps e=> ?_⟩,I.loc,I.cell,?_,λx c e=> ?_,λp hp=> ?_,λb u e=> ?_,I.len⟩
 ·obtain ⟨o1,e1⟩:=I1.base.there b o e hb;rw [A0j (ne1 b o1 e1)];exact I.base.free b o e n hb
 ·obtain ⟨m,q⟩:=I.base.tbls b ps e;exact ⟨m,up _ _ q⟩
 ·obtain ⟨m,⟨o,_,_,ho,_⟩,_⟩:=I1.loc;rw [A0j (ne1 _ o ho)];exact I.free
 ·obtain ⟨v,o,ho,_⟩:=I1.cell x c e;rw [A0j (ne1 _ o ho)];exact I.freeC x c e
 ·obtain ⟨e,n,r⟩:=I.pin p hp;have e1:=(I1.pin p hp).1;exact ⟨e,by rw [A0j (ne1 _ _ e1)];exact n,r⟩
 ·by_cases hb:b=a
  ·subst hb;rw [A0b] at e;cases e;exact new
  ·rw [A0j hb] at e;exact (I.hok b u e).stay (λ_ _ _ q=>q) (λc q=>up _ _ q) λc xs q=>up _ _ q
end
def B1t (C t:Addr) (d:Option Addr):Obj:={ cls:= .ref C,dict:=d,data:= .fields #[.ref t,.none,.none,.none,.bool false,.none] }
def xcN (e C t:Addr):HO:= .ext λh=>h.get? e=some (B1t C t none)
def xcD (e C t dx:Addr):HO:= .ext λh=>h.get? e=some (B1t C t (some dx))
theorem D7u {P:Program} {w:World} {H:Hp} {h:Heap} {e C t:Addr} (q:h.get? e=some (B1t C t none)):A2a P w H h e (xcN e C t):=⟨q,⟨_,q⟩,λh1 h2 p k=>k _ p⟩
theorem D7p {P:Program} {w:World} {H:Hp} {h:Heap} {e C t dx:Addr} (q:h.get? e=some (B1t C t (some dx))):A2a P w H h e (xcD e C t dx):=⟨q,⟨_,q⟩,λh1 h2 p k=>k _ p⟩
structure A9a (K:Frag) (C:Addr) (f:Str):Prop where
 sa:findIn K (.ref C) "__setattr__"=some (some (.builtin "object.__setattr__"))
 ov:PySem.W.excOver K C=true
 hd:(clsIn K C).any (·.hasDict)=true
 no:A1v K C f
def E1m (K:Frag) (ta tv:TE) (f:Str):TS:=λD σ H=>tv σ H λy H1=>ta σ H1 λx H2=>∃e C t,x= .ref e/\H2 e=some (xcN e C t)/\A9a K C f/\
 ∀dx,H2 dx=none->D.nx σ (upd (upd H2 e (xcD e C t dx)) dx (.xd [(f,y)]))
theorem C7z {X:Cx} {o value:Expr} {f:Str} {pos pos':Pos} {ta tv:TE} (ha:PE X o ta) (hv:PE X value tv) (hs:swapsWith value (some (.Attribute o f pos')) pos.line X.env=pure false):PS X (.Assign [.Attribute o f pos'] value pos) (E1m X.K ta tv f):=by
 intro pins s σ H D I h;refine plainObj_wpAny_Assign_Attribute (thn (hv pins s σ H _ I h) ?_) hs;rintro u s1 ⟨y,H1,I1,ry,q⟩;refine thn (ha pins s1 σ H1 _ I1 q) ?_;rintro ov s2 ⟨x,H2,I2,rx,e,C,t,ex,ee,xs,q2⟩;subst ex;obtain rfl:ov=Value.ref e:=rx;obtain ⟨he,_,_⟩:=(show A2a X.prog X.w H2 s2.heap e (xcN e C t) from I2.hok e _ ee);refine PySem.W.exc_setattr I2.kIn he rfl rfl rfl xs.sa xs.ov xs.no.taker xs.hd λh' tk q1 q3 q4=> ?_;have hn:H2 s2.heap.objs.size=none:=I2.hok.fresh (Z09 _);have ne:s2.heap.objs.size≠e:=(A0g ee hn).symm;have Ia:=I2.write (x:=e) (e:=e) (o:=xcD e C t s2.heap.objs.size) (h':=h') (t':=tk) (by rw [ee];exact True.intro) (.inl rfl) (λb u hb z=>q4 b u hb z) ⟨_,q1⟩ (D7p q1)
 have Ib:=I2.trackO (a:=s2.heap.objs.size) (o:= .xd [(f,y)]) Ia (Heap.get?_none_of_le (Z09 _)) (by rw [A0j ne];exact hn) ⟨_,q3,λg=>by
  by_cases z:g=f
  ·subst z;rw [Z12 rfl];show B6a (([(g,y)]:List (Str×V)).lookup g) (some u);simp [List.lookup];exact ry
  ·rw [Z0t z];show B6a (([(f,y)]:List (Str×V)).lookup g) none;have:(([(f,y)]:List (Str×V)).lookup g)=none:=by simp [List.lookup,Z22.mpr z]
   rw [this]
   exact True.intro⟩
 exact ⟨σ,_,Ib,q2 _ hn⟩
end L2
namespace PySem.W
open PySem PySem.Spec PySem.Calls PyProof.Rows
noncomputable def excInI (K:Frag) (C f:Addr) (bmB:List Value) (newId:String):Bool:=match K.lookup C with
 | some ⟨.type "type",_,.cls cd,sl⟩=>(match cd.mro,sl.toList with
  | .ref C'::bm,[_,_,_,_,some (.builtin n),_]=>C' == C&&n == newId&& !cd.hasDel&&tailIn K bmB bm&&nsOkIn K cd.ns&&nsIn K cd.ns "__init__" == some (some (.ref f))&&isFn K (.ref f)
  | _,_=>false)
 | _=>false
end PySem.W
namespace L2
open PySem PySem.Spec PyProof.Rows
theorem E0y {K:Frag} {h:Heap} {N:Addr} {m:Str->Option Value} {x:Str} {v:Value} (X:K.In h) (G:h.Ns N m) (e:nsIn K N x=some (some v)):m x=some v:=by
 obtain ⟨ob,row,_,at1,dict1,_,same⟩:=G;unfold nsIn at e;split at e
 case h_2=>cases e
 case h_1 _ _ row' _ _ lk =>
  have two:=X _ _ lk;rw [at1] at two;cases two;cases dict1;split at e
  case h_2=>split at e <;> cases e
  case h_1 en found =>
   cases e
   rw [<-same];unfold nsFind findBy;rw [<-Array.find?_toList,found];rfl
theorem E2f {K:Frag} {h:Heap} {f:Addr} (X:K.In h) (q:isFn K (.ref f)=true):∃o,h.get? f=some o/\o.cls= .type "function":=by
 have z:typeIn K (.ref f)=some (.type "function"):=beq_iff_eq.mp q
 cases lk:K.lookup f with
 | none=>simp [typeIn,lk] at z
 | some o=>exact ⟨o,X _ _ lk,by simpa [typeIn,lk] using z⟩
theorem C2d {K:Frag} {h:Heap} {C f:Addr} {bmB:List Value} {newId:String} (X:K.In h) (q:PySem.W.excInI K C f bmB newId=true) :
  ∃(nm qn:Str) (N:Addr) (bs bm:List Value) (hdct:Bool) (sn:List Str) (sub:List Value) (ab:Bool) (col:Option Bool) (dd:Option Addr) (k0 k1 k2 k3 k5:Option Value) (mN:Str->Option Value),
   h.get? C=some (excClassObj nm qn C N bs bm hdct sn sub ab col dd k0 k1 k2 k3 k5 newId)/\h.Ns N mN/\mN "__init__"=some (.ref f)/\OwnTail h bmB bm/\isFn K (.ref f)=true:=by
 cases lk:K.lookup C with
 | none=>simp [PySem.W.excInI,lk] at q
 | some ob =>
  have there:=X _ _ lk;unfold PySem.W.excInI at q;rw [lk] at q;split at q
  case h_2=>cases q
  case h_1 dct cls parts same =>
   injection same with same;subst same;split at q
   case h_2=>cases q
   case h_1 own tl p0 p1 p2 p3 made p5 along row =>
    repeat rw [Z1x] at q
    have w1:own=C:=beq_iff_eq.mp q.1.1.1.1.1.1;have w2:made=newId:=beq_iff_eq.mp q.1.1.1.1.1.2;have w3:cls.hasDel=false:=by simpa using q.1.1.1.1.2
    have w4:=beq_iff_eq.mp q.1.2;subst w1 w2;have sl:parts= #[p0,p1,p2,p3,some (.builtin made),p5]:=Array.toList_inj.mp row;rw [sl] at there;cases cls;dsimp only at along w3 w4 q;rw [along,w3] at there;have hN:=Heap.Ns.of_isNs (PySem.W.isNs_of_in X q.1.1.2);refine ⟨_,_,_,_,tl,_,_,_,_,_,dct,p0,p1,p2,p3,p5,_,there,hN,?_,PySem.W.tail_of_in X q.1.1.1.2,q.2⟩;exact E0y X hN w4
section
variable {X:Cx} {CX:CXT} {k:Nat} {f C:Addr} {fd:FuncData} {ps:List Str} {ds:List Value} {dvs:List V} {sp:Sp} {E:XK}
theorem C7h {pins:List (Addr×Obj)} {σ:St} {H:Hp} {s:Shared} {Q:Addr->Addr->Hp->Prop} {us:List Value} {vs:List V} (q:PySem.W.excInI X.K C f D1z "ValueError.__new__"=true)
  (F:A4m X.prog X.w X.K X.mg X.base CX k f fd ps sp) (hr:A7j (k+1) X.A) (hb:A8w X.K fd ps ds) (hd:A2t dvs ds) (hx:A9c CX X E) (I:Inv X pins σ H s) (r:A2t vs us) (hz:us.length<=sizeLine)
  (h:∀ea ta,H ea=none->sp (.ref ea::(vs++dvs)) (upd H ea (xcN ea C ta)) (λv H2=>v= .non/\Q ea ta H2) E) :
  wpAny (model X.prog X.w) X.A (call (.ref C) us) (λv s'=>∃ea ta H2,v= .ref ea/\Inv X pins σ H2 s'/\s.heap.get? ea=none/\Q ea ta H2) X.xe s:=by
 obtain ⟨nm,qn,N,bs,bm,hdct,sn,sub,ab,col,dd,k0,k1,k2,k3,k5,mN,hC,hN,hi,T,fn⟩:=C2d I.mod.kin q;obtain ⟨oI,hoI,hcI⟩:=E2f I.kIn fn;obtain ⟨hp,g,d,t,os⟩:=s;refine B5h PySem.F.excBase_ValueError (by decide +kernel) PySem.F.excBase_ValueError (T.keeps I.bk) (I.bk _ _ hC) (hN.keeps I.bk) hi hoI hcI (λh' e hm=> ?_) hz;obtain ⟨ta,he,_,_⟩:=hm.there
 have hH:H e=none:=by
  cases z:H e with
  | none=>rfl
  | some u =>
   obtain ⟨o,ho⟩:=(I.hok e u z).at18;have:=hm.new;rw [show hp.get? e=some o from ho] at this;cases this
 have I1:Inv X pins σ H ⟨h',g,d,t,os⟩:=I.kept (t':=t) (λb o z=>hm.keeps b o z);have I2:=I.trackO (a:=e) (o:=xcN e C ta) I1 hm.new hH (D7u he);have hq:=h e ta hH;have r2:A2t (V.ref e::(vs++dvs)) (Value.ref e::(us++ds)):= .cons rfl (r.append hd)
 have hl:(Value.ref e::us++ds).length=ps.length:=by
  have z:=r2.length;rw [F.len _ _ _ _ hq] at z;exact z.symm
 refine wpAny_call (codeAny_mono (F.run _ X.stack _ _ ⟨Value.ref e::us,[]⟩ (Value.ref e::(us++ds)) _ _ E (hr.make C us []) (I2.env0.make C us []) (hb _ (Value.ref e::us) I2.kIn hl) r2 hq) λr s' hq'=> ?_)
 cases r with
 | error e'=>exact hx pins σ _ _ e' s' I2 hq'
 | ok fl =>
  cases fl with
  | ret u =>
   obtain ⟨v,H',I3,rv,ev,q3⟩:=I2.after hq';subst ev;exact ⟨rv,e,ta,H',rfl,I3,hm.new,q3⟩
  | next=>exact False.elim hq'
  | brk=>exact False.elim hq'
  | cont=>exact False.elim hq'
end
def B0o (H:Hp) (a:Addr):Hp:=λb=>if b=a then none else H b
theorem B6m {H:Hp} {a b:Addr} (h:b≠a):B0o H a b=H b:=by unfold B0o;rw [Z0t h]
theorem B5n {H:Hp} {a b:Addr} {o:HO} (h:B0o H a b=some o):b≠a/\H b=some o:=by
 unfold B0o at h;by_cases z:b=a
 ·rw [Z12 z] at h;cases h
 ·rw [Z0t z] at h;exact ⟨z,h⟩
theorem A8v {H:Hp} {a b:Addr} (h:H b=none):B0o H a b=none:=by
 unfold B0o;split
 ·rfl
 ·exact h
section
variable {X:Cx} {pins:List (Addr×Obj)} {σ:St} {H:Hp} {s:Shared} {a:Addr} {φ:Heap->Prop}
theorem Inv.drop (I:Inv X pins σ H s) (e:H a=some (.ext φ)):Inv X pins σ (B0o H a) s:=by
 have up:∀b o,H b=some o->o≠.ext φ->B0o H a b=some o:=λb o q n=>by
  rw [B6m (A2n q e n)];exact q
 refine ⟨I.ok,I.os,I.bare,⟨I.base.keep,I.base.slot,λb o q n hb=>A8v (I.base.free b o q n hb),I.base.there,λb xs q=>up _ _ (I.base.tups b xs q) (λz=>nomatch z),λb o u q=>up _ _ (I.base.frzs b o u q) (λz=>nomatch z),λb ps q=> ?_⟩,I.loc,I.cell,A8v I.free,λx c q=>A8v (I.freeC x c q),λp hp=> ?_,λb o q=> ?_,I.len⟩
 ·obtain ⟨m,z⟩:=I.base.tbls b ps q;exact ⟨m,up _ _ z (λz=>nomatch z)⟩
 ·obtain ⟨q,n,r⟩:=I.pin p hp;exact ⟨q,A8v n,r⟩
 ·obtain ⟨_,z⟩:=B5n q;exact (I.hok b o z).stay (λ_ _ _ q=>q) (λc q=>up _ _ q (λz=>nomatch z)) λc xs q=>up _ _ q (λz=>nomatch z)
theorem D4t {B h':Heap} (I:Inv X pins σ H s) (hx:X.ex=[]) (B1:∀b o,X.s₀.heap.get? b=some o->b∉X.fs->∃o',B.get? b=some o') (hst:B.StaysIn s.heap) (hst':B.StaysIn h') (up:s.heap.UpToSlots h'):Un X.fs [] X.H₀ H X.s₀.heap h':=by
 have a:Un X.fs [] X.H₀ H X.s₀.heap s.heap:=by
  have z:=I.base;rw [hx] at z;exact z
 have no:∀b:Addr,b∉([]:List Addr):=λb=>by simp
 have slot:∀b o,X.s₀.heap.get? b=some o->X.H₀ b=none->b∈X.fs->∃sl,h'.get? b=some { o with slots:=sl }:=λb o e n hb=>by
  obtain ⟨sl,e1⟩:=a.slot b o e n hb (no b);obtain ⟨_,of,ho,hd⟩:=I.ok.funs.mem hb;rw [e] at ho;cases ho;obtain ⟨sl3,e3⟩:=up b _ e1 hd;exact ⟨sl3,e3⟩
 refine ⟨λb o e n hb _=> ?_,λb o e n hb _=>slot b o e n hb,λb o e n _=>a.free b o e n (no b),λb o e _=> ?_,λb xs e=>a.tups b xs e,λb o v e=>a.frzs b o v e,λb ps e=>a.tbls b ps e⟩
 ·have e2:=a.keep b o e n hb (no b);obtain ⟨o',eB⟩:=B1 b o e hb;have e3:=hst b o' eB;rw [e2] at e3;cases e3;exact hst' b o eB
 ·by_cases hb:b∈X.fs
  ·obtain ⟨sl,q⟩:=slot b o e (I.ok.frf b hb) hb;exact ⟨_,q⟩
  ·obtain ⟨o',eB⟩:=B1 b o e hb;exact ⟨o',hst' b o' eB⟩
end
section
variable {P:Program} {w:World} {K:Frag} {mg:Str->Option Value} {base:Heap} {N:List Str} {qual:Str} {scope:Scope} {f:Addr} {cd:Value} {A:Around} {outer:List Env} {s:Shared} {H:Hp} {E:XK}
end
section
variable {M:Model} {A:Around} {E:Value->Shared->Prop} {env:Env} {nm q:Str} {C N:Addr} {bs bm:List Value} {hdct:Bool} {sn:List Str} {sub:List Value} {ab:Bool} {col:Option Bool} {dd:Option Addr} {k0 k1 k2 k3 k5:Option Value} {newId:String}
theorem A7q {s:Shared} {x:Sem Value} {Q:Flow->Shared->Prop} (hbase:bm.contains (.type "BaseException")=true) (hh:A.handled=none)
  (h:wpAny M A x (λv s₁=>∃e t dx,v= .ref e/\s₁.heap.get? C=some (excClassObj nm q C N bs bm hdct sn sub ab col dd k0 k1 k2 k3 k5 newId)/\s₁.heap.get? e=some (B1t C t dx)/\E (.ref e) s₁) E s) :
  wpAny M A (raiseStmt env (some x) none) Q E s:=by
 have hcB:(Value.ref C::bm).contains (.type "BaseException")=true:=by rw [List.contains_cons,hbase,Bool.or_true]
 unfold raiseStmt;refine Z00 (Z10 h (λv s₁ h₁=> ?_) λ_ _ x=>x);obtain ⟨e,t,dx,rfl,hC,he,hE⟩:=h₁;obtain ⟨hp,g,d,tk,os⟩:=s₁;unfold B1t at he
 repeat (first | with_reducible refine Z1k he ?_ | with_reducible refine Z1k hC ?_ | (with_reducible refine wpAny_isSubtype_exc hC ?_;rw [hcB]) | wp_step)
 exact wpAny_raiseNew_none hh hE
end
structure MkX (K:Frag) (C f:Addr):Prop where
 xe:PySem.W.excInI K C f D1z "ValueError.__new__"=true
 kp:keepIn K (.ref C)=true
section
variable {X:Cx} {CX:CXT} {k:Nat} {f C:Addr} {fd:FuncData} {ps:List Str} {ds:List Value} {dvs:List V} {sp:Sp} {E E':XK}
end
def C2 (o o':Obj):Prop:=∀vs,o.data= .fields vs->∃vs',o'.data= .fields vs'/\vs'[2]? =vs[2]?
theorem C2.refl (o:Obj):C2 o o:=λvs e=>⟨vs,e,rfl⟩
theorem C2.trans {a b c:Obj} (x:C2 a b) (y:C2 b c):C2 a c:=λvs e=>by
 obtain ⟨v1,e1,q1⟩:=x vs e;obtain ⟨v2,e2,q2⟩:=y v1 e1;exact ⟨v2,e2,q2.trans q1⟩
def KD (h h':Heap):Prop:=∀b o,h.get? b=some o->∃o',h'.get? b=some o'/\o'.cls=o.cls/\o'.dict=o.dict/\C2 o o'
theorem KD.refl (h:Heap):KD h h:=λb o e=>⟨o,e,rfl,rfl,C2.refl o⟩
theorem KD.trans {h1 h2 h3:Heap} (a:KD h1 h2) (b:KD h2 h3):KD h1 h3:=λx o e=>by
 obtain ⟨o1,e1,c1,d1,f1⟩:=a x o e;obtain ⟨o2,e2,c2,d2,f2⟩:=b x o1 e1;exact ⟨o2,e2,c2.trans c1,d2.trans d1,f1.trans f2⟩
theorem KD.field {h:Heap} {T:Addr} {o:Obj} {ts:Array Value} (hT:h.get? T=some o) (hd:o.data= .fields ts) (f:Array Value->Array Value) (hf:∀a:Array Value,(f a)[2]? =a[2]?):KD h (h.update T (Obj.mapFields f)):=λb u e=>by
 by_cases z:b=T
 ·subst z;rw [hT] at e;cases e;exact ⟨_,Z1r _ hT (Obj.isFreed_of_fields (Obj.data_mapFields hd _)),Obj.cls_mapFields _ _,by obtain ⟨_,_,dd,_⟩:=o;cases hd;rfl,λvs ev=>⟨_,Obj.data_mapFields ev _,hf vs⟩⟩
 ·exact ⟨u,(Z1d _ _ (Ne.symm z)).trans e,rfl,rfl,C2.refl u⟩
def D0q (h B:Heap) (e:Addr) (cls a0:Value):Prop:=(∃oe vs,h.get? e=some oe/\(oe.cls=cls/\vs[0]? =some a0)/\oe.data= .fields vs/\vs[1]? =some .none)\/∃fl,h.TracedAtW B e cls a0 fl
section
variable {M:Model} {A:Around} {E:Value->Shared->Prop} {s:Shared} {B:Heap} {env:Env} {outer:List Env} {L e:Addr} {cls a0:Value} {Q:Unit->Shared->Prop}
theorem D2h {oe:Obj} {vs:Array Value} {hd:Value} {nx:Bool} (hfr:A.frames=some (env::outer)) (ff:s.heap.FunFrames B (env::outer)) (hf:env.frame=some L) (he:s.heap.get? e=some oe) (st:B.StaysIn s.heap) (hn:B.get? e=none) (hv:oe.data= .fields vs) (hz:1<vs.size) (h0:vs[0]? =some a0)
  (h:∀h',Heap.NotedW B (env::outer) e oe.cls a0 (rawInt L) s.heap h'->KD s.heap h'->Q () { s with heap:=h' }) :
  wpAny M A (do let a<-frameOf env;let pl<-entryPlaceOf L nx;let b<-EntryCells.newEntry hd a .none (rawInt L) .none pl;setField (.ref e) 1 b) Q E s:=by
 have nf:e∉(env::outer).filterMap (·.frame):=λm=>by
  obtain ⟨_,o,ho,hnf⟩:=ff.mem m;rw [he] at ho;cases ho;exact hnf vs hv
 refine Z00 (wpAny_frameOf_fun hfr ff hf λg sg=>Z00 (wpAny_entryPlaceOf λpl hpl=> ?_));unfold EntryCells.newEntry newFields;refine Z00 (Z16 ?_ (hpl.sizeOk5 _ _ _ _ _));have he1:g.get? e=some oe:=(sg.2.1 e nf).trans he;have st1:B.StaysIn g:=λb o hb=>(sg.2.1 b λm=>by rw [(ff.mem m).1] at hb;cases hb).trans (st b o hb);generalize hob:({ cls:= .type "traceback",dict:=none,data:= .fields ([hd,.ref L,.none,rawInt L,.none]++(if pl.isEmpty then List.replicate 6 Value.none else pl)).toArray }:Obj)=ob;have he2:=Z01 (h:=g) ob he1;have eb:({ cls:=Value.type "traceback",data:= .fields ([hd,.ref L,.none,rawInt L,.none]++(if pl.isEmpty then List.replicate 6 Value.none else pl)).toArray }:Obj)=ob:=hob;refine Z1t (by first | exact he2 | (rw [eb];exact he2)) hv hz ?_
 try rw [eb]
 have nTe:g.objs.size≠e:=Z1q (Z0a he1);have dm:=Obj.data_mapFields hv (·.setIfInBounds 1 (Value.ref g.objs.size));have he3:=Z1r (Obj.mapFields (·.setIfInBounds 1 (Value.ref g.objs.size))) he2 (Obj.isFreed_of_fields dm);have hT3:((g.push ob).update e (Obj.mapFields (·.setIfInBounds 1 (Value.ref g.objs.size)))).get? g.objs.size=some ob:=(Z1d _ _ (Ne.symm nTe)).trans (Z0c g (by rw [<-hob];rfl));have kp:∀b o,b≠e->g.get? b=some o->((g.push ob).update e (Obj.mapFields (·.setIfInBounds 1 (Value.ref g.objs.size)))).get? b=some o:=λb o ne hb=>(Z1d _ _ (Ne.symm ne)).trans (Z01 _ hb)
 have nr:∀b o,s.heap.get? b=some o->(∀vs,o.data≠.fields vs)->b≠e:=λb o hb hnf z=>by
  rw [z,he] at hb;cases hb;exact hnf vs hv
 refine h _ ⟨λb o hb=>kp b o (λz=>by rw [z,hn] at hb;cases hb) (st1 b o hb),ff.of_keeps λb o hb hnf=> ?_,?_,λb o hb hnf=> ?_⟩ λb o hb=> ?_
 ·obtain ⟨sl,hs⟩:=sg.2.2 b o hb;exact ⟨_,kp b _ (nr b o hb hnf) hs,rfl⟩
 ·refine ⟨_,_,g.objs.size,ob,_,he3,⟨Obj.cls_mapFields _ _,?_⟩,dm,by simp [hz],st1.fresh,nTe,hT3,by rw [<-hob],?_⟩
  ·rw [Z25 (by decide)];exact h0
  ·rcases hpl with rfl | ⟨_,_,_,_,_,_,_,rfl⟩ <;> simp
 ·obtain ⟨sl,hs⟩:=sg.2.2 b o hb;exact ⟨sl,kp b _ (nr b o hb hnf) hs⟩
 ·by_cases z:b=e
  ·subst z;rw [he] at hb;cases hb;exact ⟨_,he3,Obj.cls_mapFields _ _,by obtain ⟨_,_,dd,_⟩:=oe;cases hv;rfl,λws ew=>⟨_,Obj.data_mapFields ew _,Z25 (by decide)⟩⟩
  ·obtain ⟨sl,hs⟩:=sg.2.2 b o hb;exact ⟨_,kp b _ z hs,rfl,rfl,λws ew=>⟨ws,ew,rfl⟩⟩
theorem E0g (hfr:A.frames=some (env::outer)) (hf:env.frame=some L) (st:B.StaysIn s.heap) (hn:B.get? e=none) (ff:s.heap.FunFrames B (env::outer)) (ht:D0q s.heap B e cls a0)
  (hQ:∀h',Heap.HeldW B (env::outer) e cls a0 L h'->s.heap.UpToSlots h'->KD s.heap h'->Q () { s with heap:=h' }):wpAny M A (noteFrame (.ref e) env) Q E s:=by
 rcases ht with ⟨oe,vs,he,⟨hc,h0⟩,hv,h1⟩ | ⟨fl,ht⟩
 ·subst hc;unfold noteFrame;simp only [hf];refine Z00 (Z11 he hv h1 ?_);rw [Z0t (show¬((Value.none != Value.none)=true) by simp)];exact D2h hfr ff hf he st hn hv (Z1m.mp h1).1 h0 λh' N kd=>hQ h' ⟨N.1,hn,N.2.1,N.2.2.1⟩ N.2.2.2 kd
 ·by_cases hfl:(fl == rawInt L)=true
  ·have e1:fl=rawInt L:=beq_iff_eq.mp hfl;subst e1;exact wpAny_noteFrame_againW hf ht (hQ s.heap ⟨st,hn,ff,ht⟩ (Heap.UpToSlots.refl _) (KD.refl _))
  ·obtain ⟨oe,vs,T,oT,ts,he,⟨hcls,h0⟩,hd,h1,hnT,hTe,hT,hdT,h3⟩:=id ht;subst hcls;unfold noteFrame;simp only [hf];refine Z00 (Z11 he hd h1 ?_);rw [Z12 (show (Value.ref T != Value.none)=true by simp)];refine Z00 (Z11 hT hdT h3 ?_);rw [Z0t hfl];refine Z00 (Z1t hT hdT (Z1m.mp h3).1 ?_);have oth:∀b,b≠T->(s.heap.update T (Obj.mapFields (·.setIfInBounds 3 Value.none))).get? b=s.heap.get? b:=λb hb=>Z1d _ _ (Ne.symm hb)
   have nr:∀b o,s.heap.get? b=some o->(∀vs,o.data≠.fields vs)->b≠T:=λb o hb hnf q=>by
    rw [q,hT] at hb;cases hb;exact hnf ts hdT
   exact D2h hfr (ff.of_keeps λb o hb hnf=>⟨o,(oth b (nr b o hb hnf)).trans hb,rfl⟩) hf ((oth e (Ne.symm hTe)).trans he) (λb o hbo=>(oth b λq=>by rw [q,hnT] at hbo;cases hbo).trans (st b o hbo)) hn hd (Z1m.mp h1).1 h0
    λh' N kd=>hQ h' ⟨N.1,hn,N.2.1,N.2.2.1⟩ (λb o hb hnf=>N.2.2.2 b o ((oth b (nr b o hb hnf)).trans hb) hnf) ((KD.field hT hdT _ λ_=>Z25 (by decide)).trans kd)
theorem D5o {l:List Env} {fl:Value} {fr:Option Addr} (st:B.StaysIn s.heap) (ff:s.heap.FunFrames B l) (ht:s.heap.TracedAtW B e cls a0 fl)
  (hQ:∀h',B.StaysIn h'->h'.FunFrames B l->h'.TracedAtW B e cls a0 (fr.elim .none λf=>rawInt f)->s.heap.UpToSlots h'->KD s.heap h'->Q () { s with heap:=h' }):wpAny M A (setFlight (.ref e) fr) Q E s:=by
 obtain ⟨oe,vs,T,oT,ts,he,hcls,hd,h1,hnT,hTe,hT,hdT,h3⟩:=ht;have z3:3<ts.size:=(Z1m.mp h3).1;have oth:∀b,b≠T->(s.heap.update T (Obj.mapFields (·.setIfInBounds 3 (fr.elim Value.none λf=>rawInt f)))).get? b=s.heap.get? b:=λb hb=>Z1d _ _ (Ne.symm hb)
 have nr:∀b o,s.heap.get? b=some o->(∀vs,o.data≠.fields vs)->b≠T:=λb o hb hnf q=>by
  rw [q,hT] at hb;cases hb;exact hnf ts hdT
 unfold setFlight;refine Z00 (Z11 he hd h1 ?_);rw [Z12 (show (Value.ref T != Value.none)=true by simp)];refine Z1t hT hdT z3 (hQ _ (λb o hbo=>(oth b λq=>by rw [q,hnT] at hbo;cases hbo).trans (st b o hbo)) (ff.of_keeps λb o hb hnf=>⟨o,(oth b (nr b o hb hnf)).trans hb,rfl⟩) ?_ (λb o hb hnf=>⟨o.slots,(oth b (nr b o hb hnf)).trans hb⟩) (KD.field hT hdT _ λ_=>Z25 (by decide)));exact ⟨oe,vs,T,_,_,(oth e (Ne.symm hTe)).trans he,hcls,hd,h1,hnT,hTe,Z1r _ hT (Obj.isFreed_of_fields (Obj.data_mapFields hdT _)),Obj.data_mapFields hdT _,by simp [z3]⟩
theorem C8c (hfr:A.frames=some (env::outer)) (hf:env.frame=some L) (st:B.StaysIn s.heap) (hn:B.get? e=none) (ff:s.heap.FunFrames B (env::outer)) (ht:D0q s.heap B e cls a0)
  (hQ:∀h',Heap.FlyingW B outer e cls a0 h'->s.heap.UpToSlots h'->KD s.heap h'->Q () { s with heap:=h' }):wpAny M A (leaving env (.ref e)) Q E s:=by
 unfold leaving;refine Z00 (E0g hfr hf st hn ff ht λh1 held u1 k1=>D5o (s:={ s with heap:=h1 }) held.1 held.2.2.1 held.2.2.2 λh2 s2 f2 t2 u2 k2=> ?_)
 exact hQ h2 ⟨s2,hn,f2.2.2,t2⟩ (u1.trans u2) (k1.trans k2)
end
theorem FlyingW.exc {B h:Heap} {l:List Env} {e:Addr} {cls a0:Value} (f:Heap.FlyingW B l e cls a0 h):D0q h B e cls a0:= .inr ⟨.none,f.2.2.2⟩
def DictAt (h:Heap) (e:Addr) (od:Option Addr):Prop:=∃o vs,h.get? e=some o/\o.dict=od/\o.data= .fields vs/\vs[2]? =some .none
theorem DictAt.kd {h h':Heap} {e:Addr} {od:Option Addr} (d:DictAt h e od) (k:KD h h'):DictAt h' e od:=by
 obtain ⟨o,vs,e1,e2,e5,e6⟩:=d;obtain ⟨o',e3,_,e4,c2⟩:=k _ o e1;obtain ⟨vs',e7,e8⟩:=c2 vs e5;exact ⟨o',vs',e3,e4.trans e2,e7,e8.trans e6⟩
def CXD (P:Program) (w:World):CXT:=λouter H s E e s' =>
 ∃(ea C:Addr) (a0:Value) (od:Option Addr) (H':Hp) (B:Heap),e= .ref ea/\s'.os=s.os/\AllBare s'.gens/\Un (frs outer) [] H H' s.heap s'.heap/\HOk P w H' s'.heap/\
  (∀b o,s.heap.get? b=some o->b∉frs outer->∃o',B.get? b=some o')/\(∀b o,H' b=some o->∃o',B.get? b=some o')/\
  Heap.FlyingW B outer ea (.ref C) a0 s'.heap/\DictAt s'.heap ea od/\E (.ref C) od H'
section
variable {P:Program} {w:World} {K:Frag} {mg:Str->Option Value} {base:Heap} {N:List Str} {qual:Str} {scope:Scope} {f:Addr} {cd:Value} {A:Around} {outer:List Env} {s:Shared} {H:Hp} {E:XK}
theorem A8y:A9c (CXD P w) (C6m (CXD P w) P w K mg base N qual scope f cd A outer s H E) E:=by
 intro pins σ H1 s1 e s' I hcx;obtain ⟨ea,C,a0,od,H',B,rfl,os,bare,un,hok,b1,b2,fl,dd,q⟩:=hcx;refine C8c I.ok.frames rfl fl.1 fl.2.1 fl.2.2.1 (FlyingW.exc fl) λh' fl' up kd=> ?_;obtain ⟨un',b1'⟩:=D2b I rfl un b1 fl.1 fl'.1 up;exact ⟨ea,C,a0,od,H',B,rfl,os.trans I.os,bare,un',C2i hok b2 fl.1 fl'.1,b1',b2,fl',dd.kd kd,q⟩
theorem A5v {C:Addr}:D1v (C6m (CXD P w) P w K mg base N qual scope f cd A outer s H E) C E:=by
 intro pins σ H1 s1 h1 e vs I hx q;obtain ⟨t,he,htn,ht⟩:=hx.there;have kB:∀b o,s1.heap.get? b=some o->b∉frs (envOfC qual scope s.heap.objs.size f cd::outer)->(hideAll s1.heap (frs (envOfC qual scope s.heap.objs.size f cd::outer))).get? b=some o:=λb o e hb=>PySem.W.hideAll_get _ e hb
 have en:(hideAll s1.heap (frs (envOfC qual scope s.heap.objs.size f cd::outer))).get? e=none:=by
  cases z:(hideAll s1.heap (frs (envOfC qual scope s.heap.objs.size f cd::outer))).get? e with
  | none=>rfl
  | some o=>have:=PySem.W.of_hideAll _ z;rw [hx.new] at this;cases this
 have st1:(hideAll s1.heap (frs (envOfC qual scope s.heap.objs.size f cd::outer))).StaysIn h1:=λb o z=>hx.keeps b o (PySem.W.of_hideAll _ z)
 refine C8c (B:=hideAll s1.heap (frs (envOfC qual scope s.heap.objs.size f cd::outer))) (cls:= .ref C) (a0:= .ref t) I.ok.frames rfl st1 en
  ((PySem.W.funFrames_hide I.stack λenv he b hb=>List.mem_filterMap.mpr ⟨env,he,hb⟩).of_keeps λb o hb _=>⟨o,hx.keeps b o hb,rfl⟩) (.inl ⟨_,_,he,⟨rfl,rfl⟩,rfl,rfl⟩) λh' fl up kd=> ?_
 have b2:∀b o,H1 b=some o->∃o',(hideAll s1.heap (frs (envOfC qual scope s.heap.objs.size f cd::outer))).get? b=some o':=λb o z=>by
  obtain ⟨u,hu⟩:=(I.hok b o z).at18;refine ⟨u,kB b u hu λm=> ?_⟩;have:=I.stkFree b m;rw [z] at this;cases this
 obtain ⟨un',b1'⟩:=D2b (B:=hideAll s1.heap (frs (envOfC qual scope s.heap.objs.size f cd::outer))) I rfl (Un.kept hx.keeps) (λb o z hb=>⟨o,kB b o z hb⟩) st1 fl.1 up;exact ⟨e,C,.ref t,none,H1,_,rfl,I.os,I.bare,un',C2i (I.hok.kept hx.keeps) b2 st1 fl.1,b1',b2,fl,DictAt.kd (h:=h1) ⟨_,_,he,rfl,rfl,rfl⟩ kd,q⟩
def C8h (X:Cx) (C:Addr) (E:XK):Prop:=∀(pins:List (Addr×Obj)) (σ:St) (H:Hp) (s:Shared) (ea ta:Addr) (d:Option Addr),Inv X pins σ H s->H ea=some (.ext λh=>h.get? ea=some (B1t C ta d))->X.s₀.heap.get? ea=none->
 E (.ref C) d (B0o H ea)->X.xe (.ref ea) s
theorem C5o {C:Addr}:C8h (C6m (CXD P w) P w K mg base N qual scope f cd A outer s H E) C E:=by
 intro pins σ H2 s1 ea ta d I he h0 q;obtain ⟨hobj,_,_⟩:=(show A2a _ _ H2 s1.heap ea (.ext λh=>h.get? ea=some (B1t C ta d)) from I.hok ea _ he);have I':=I.drop he
 have kB:∀b o,s1.heap.get? b=some o->b≠ea->b∉frs (envOfC qual scope s.heap.objs.size f cd::outer)->(hideAll s1.heap (ea::frs (envOfC qual scope s.heap.objs.size f cd::outer))).get? b=some o:=λb o e ne hb =>
  PySem.W.hideAll_get _ e (λm=>(Z0e.mp m).elim ne hb)
 have b2:∀b o,B0o H2 ea b=some o->∃o',(hideAll s1.heap (ea::frs (envOfC qual scope s.heap.objs.size f cd::outer))).get? b=some o':=λb o z=>by
  obtain ⟨ne,z'⟩:=B5n z;obtain ⟨u,hu⟩:=(I.hok b o z').at18;refine ⟨u,kB b u hu ne λm=> ?_⟩;have:=I.stkFree b m;rw [z'] at this;cases this
 have nst:∀b o,s.heap.get? b=some o->b∉frs outer->b∉frs (envOfC qual scope s.heap.objs.size f cd::outer):=λb o e hb m=>by
  rcases Z0e.mp m with z | z
  ·exact absurd (Z0a e) (by rw [z];exact Nat.lt_irrefl _)
  ·exact hb z
 have b1:∀b o,s.heap.get? b=some o->b∉frs outer->∃o',(hideAll s1.heap (ea::frs (envOfC qual scope s.heap.objs.size f cd::outer))).get? b=some o':=λb o e hb=>by
  obtain ⟨o1,e1⟩:=I.base.there b o e (by show b∉([]:List Addr);simp);refine ⟨o1,kB b o1 e1 (λz=> ?_) (nst b o e hb)⟩;rw [z] at e;rw [show s.heap.get? ea=none from h0] at e;cases e
 have st1:(hideAll s1.heap (ea::frs (envOfC qual scope s.heap.objs.size f cd::outer))).StaysIn s1.heap:=λb o z=>PySem.W.of_hideAll _ z
 refine C8c (B:=hideAll s1.heap (ea::frs (envOfC qual scope s.heap.objs.size f cd::outer))) (cls:= .ref C) (a0:= .ref ta) I.ok.frames rfl st1 (PySem.W.hideAll_none _ Z27)
  (PySem.W.funFrames_hide I.stack λenv he b hb=>Z1f _ (List.mem_filterMap.mpr ⟨env,he,hb⟩)) (.inl ⟨_,_,hobj,⟨rfl,rfl⟩,rfl,rfl⟩) λh' fl up kd=> ?_
 exact ⟨ea,C,.ref ta,d,B0o H2 ea,_,rfl,I.os,I.bare,D4t I' rfl b1 st1 fl.1 up,C2i I'.hok b2 st1 fl.1,b1,b2,fl,DictAt.kd (h:=s1.heap) ⟨_,_,hobj,rfl,rfl,rfl⟩ kd,q⟩
theorem Fun.okD {x qual:Str} {st:Stmt} {f:Addr} {fd:FuncData} {N ps:List Str} {k:Nat} {sp:Sp} (F:Fun K x qual st f fd) (S:A0m N ps (A0i st)) (len:∀vs H Q E,sp vs H Q E->vs.length=ps.length)
  (hbody:∀(cdv:Value) (A:Around) (outer:List Env) (s:Shared) (H:Hp) (vs:List V) (Q:VK) (E:XK),A7j k (A.deeper (envOfC qual (A0i st) s.heap.objs.size f cdv))->sp vs H Q E->
   ∃t,PSs (C6m (CXD P w) P w K mg base N qual (A0i st) f cdv A outer s H E) (A6i st) t/\t { nx:=λ_ H'=>Q .non H',rt:=Q } (B2v N vs) H):A4m P w K mg base (CXD P w) (k+1) f fd ps sp:=by
 obtain ⟨oc,od,kV,doc,pm,an,cdv,ct,osl,rfl,lk,hcd⟩:=F.ex;exact E0i lk hcd S len λA outer s H vs Q E hr hsp=>hbody cdv A outer s H vs Q E hr hsp
end
def xcG (ea C:Addr) (od:Option Addr):Heap->Prop:=λh=>∃o vs,h.get? ea=some o/\o.cls= .ref C/\o.dict=od/\o.data= .fields vs/\vs[2]? =some .none
section
variable {X:Cx} {pins:List (Addr×Obj)} {σ:St} {H H1:Hp} {s s1:Shared} {ea C:Addr} {a0:Value} {B:Heap} {od:Option Addr}
theorem D8q {P:Program} {w:World} {H:Hp} {h:Heap} (q:xcG ea C od h):A2a P w H h ea (.ext (xcG ea C od)):=by
 obtain ⟨o,vs,r⟩:=id q;exact ⟨q,⟨o,r.1⟩,(by rintro h1 h2 ⟨o,vs,q1,q2⟩ k;exact ⟨o,vs,k o q1,q2⟩)⟩
structure C0r (X:Cx) (pins:List (Addr×Obj)) (σ:St) (H:Hp) (B:Heap) (ea C:Addr) (a0:Value) (od:Option Addr) (s:Shared):Prop where
 inv:Inv X pins σ H s
 fl:Heap.FlyingW B X.stack ea (.ref C) a0 s.heap
 d:DictAt s.heap ea od
 no:H ea=none
 go:∀h',B.StaysIn h'->s.heap.UpToSlots h'->xcG ea C od h'->Inv X pins σ H { s with heap:=h' }/\Inv X pins σ (upd H ea (.ext (xcG ea C od))) { s with heap:=h' }
theorem C7x (fl:Heap.FlyingW B X.stack ea (.ref C) a0 s.heap) (d:DictAt s.heap ea od):xcG ea C od s.heap:=by
 obtain ⟨oe,vs,e,c,dt,_⟩:=fl.first;obtain ⟨o,vs',e2,d2,d3,d4⟩:=d;rw [e] at e2;cases e2;exact ⟨oe,vs',e,c,d2,d3,d4⟩
theorem C0r.cls (F:C0r X pins σ H B ea C a0 od s):xcF ea C s.heap:=by
 obtain ⟨oe,vs,e,c,d,_⟩:=F.fl.first;exact ⟨oe,vs,e,c,d⟩
end
def PHD (X:Cx) (hs:List ExceptHandler) (C:Addr) (th:Option Addr->Addr->TS):Prop :=
 ∀(pins:List (Addr×Obj)) (σ:St) (H:Hp) (B:Heap) (ea:Addr) (a0:Value) (od:Option Addr) (s:Shared) (D:B5v),C0r X pins σ H B ea C a0 od s->th od ea D σ H->wpAny (model X.prog X.w) X.A (handleBy (.ref ea) X.env hs) (SP X pins D) X.xe s
section
variable {M:Model} {A:Around} {E:Value->Shared->Prop} {s:Shared} {B:Heap} {l:List Env} {e:Addr} {cls a0:Value} {Q:Unit->Shared->Prop}
theorem B2l (f:Heap.FlyingW B l e cls a0 s.heap) (hQ:∀h',Heap.FlyingW B l e cls a0 h'->s.heap.UpToSlots h'->KD s.heap h'->Q () { s with heap:=h' }):wpAny M A (setFlight (.ref e) none) Q E s :=
 D5o f.1 f.2.2.1 f.2.2.2 λh' s2 f2 t2 u2 k2=>hQ h' ⟨s2,f.2.1,f2,t2⟩ u2 k2
end
section
variable {X:Cx} {C C':Addr} {y n:Str} {yp hpos:Pos} {b₀:Stmt} {suite:List Stmt} {rest:List ExceptHandler} {i:Nat}
theorem B6b {th:Option Addr->Addr->TS} {nm:Option Str} (hg:Gl X y) (hm:X.mg y=some (.ref C')) (q:exmOne X.K (.ref C) (.ref C')=some false) (hr:PHD X rest C th) (hd:(y == ("__debug__":Str))=false:=by decide) :
  PHD X (.ExceptHandler (some (.Name y yp)) nm (b₀::suite) hpos::rest) C th:=by
 intro pins σ H B ea a0 od s D F h;refine wpAny_handleBy_cons (codeAny_handlers_test ?_) (by intro q;cases q);refine A5w (X:=X.held ea) (F.inv.held ea) hg hm ?_ hd;refine (C8n F.inv.kIn F.cls q).here ?_;exact hr pins σ H B ea a0 od s D F h
def E2k (i:Nat) (C:Addr) (ts:TS):Option Addr->Addr->TS:=λod ea D σ H=>ts { nx:=λσ' H'=>D.nx (σ'.set i none) H',rt:=D.rt,bk:=λσ' H'=>D.bk (σ'.set i none) H',ct:=λσ' H'=>D.ct (σ'.set i none) H' } (σ.set i (some (.ref ea))) (upd H ea (.ext (xcG ea C od)))
theorem D6l {ts:TS} (hg:Gl X y) (hm:X.mg y=some (.ref C')) (q:exmOne X.K (.ref C) (.ref C')=some true) (hN:X.N.Nodup) (hi:X.N[i]? =some n) (hx:X.env.scope.names.lookup n=some .local)
  (hs:∀ea,PSs (X.held ea) (b₀::suite) ts) (hd:(y == ("__debug__":Str))=false:=by decide) :
  PHD X (.ExceptHandler (some (.Name y yp)) (some n) (b₀::suite) hpos::rest) C (E2k i C ts):=by
 intro pins σ H B ea a0 od s D F h;refine wpAny_handleBy_cons (codeAny_handlers_test ?_) (by intro q;cases q);refine A5w (X:=X.held ea) (F.inv.held ea) hg hm ?_ hd;refine (C8n F.inv.kIn F.cls q).here (codeAny_handlers_suite_as ?_);refine B2l F.fl λh' fl' up kd=> ?_;have F':=(F.go h' fl'.1 up (C7x (s:={ s with heap:=h' }) fl' (F.d.kd kd))).2;refine A8t (X:=X.held ea) (v:= .ref ea) (F'.held ea) hN hi (.inl hx) rfl (λs2 I2=> ?_) (.inr hx)
 refine Z10 (hs ea pins s2 _ _ _ I2 h) (λf s3 hf=> ?_) λ_ _ z=>False.elim z;dsimp only
 cases f with
 | next =>
  obtain ⟨σ',H',I',r⟩:=hf;exact A4s (I'.unheld F.inv.ok) hN hi hx λs4 I4=>⟨_,H',I4,r⟩
 | brk =>
  obtain ⟨σ',H',I',r⟩:=hf;exact A4s (I'.unheld F.inv.ok) hN hi hx λs4 I4=>⟨_,H',I4,r⟩
 | cont =>
  obtain ⟨σ',H',I',r⟩:=hf;exact A4s (I'.unheld F.inv.ok) hN hi hx λs4 I4=>⟨_,H',I4,r⟩
 | ret u =>
  obtain ⟨v,σ',H',I',rv,r⟩:=hf;exact A4s (I'.unheld F.inv.ok) hN hi hx λs4 I4=>⟨v,_,H',I4,rv,r⟩
end
def Rsd (X:Cx) (pins:List (Addr×Obj)) (σ:St) (E:XK) (e:Value) (s':Shared):Prop:=∃(ea C:Addr) (a0:Value) (od:Option Addr) (H':Hp) (B:Heap),e= .ref ea/\B.StaysIn s'.heap/\B.get? ea=none/\s'.heap.FunFrames B X.stack/\D0q s'.heap B ea (.ref C) a0/\DictAt s'.heap ea od/\H' ea=none/\X.A.frames=some X.stack/\
 (∀h',B.StaysIn h'->s'.heap.UpToSlots h'->xcG ea C od h'->Inv X pins σ H' { s' with heap:=h' }/\Inv X pins σ (upd H' ea (.ext (xcG ea C od))) { s' with heap:=h' })/\E (.ref C) od H'
def D6p (X:Cx) (hs:List ExceptHandler) (D:B5v) (σ:St):XK:=λc od H2=>∃(C:Addr) (th:Option Addr->Addr->TS),c= .ref C/\PHD X hs C th/\∀ea,H2 ea=none->th od ea D σ H2
section
variable {X:Cx} {hs:List ExceptHandler} {h₀:ExceptHandler} {e:Expr} {pos epos npos:Pos} {i:Nat} {n:Str}
theorem C1n {pins:List (Addr×Obj)} {σ:St} {D:B5v} {s':Shared} {ev:Value} (hst:X.stack=X.env::X.outer/\X.env.frame=some X.env.locals) (hc:Rsd X pins σ (D6p X (h₀::hs) D σ) ev s') :
  wpAny (model X.prog X.w) X.A (noteFrame ev X.env) (λ_ s₂=>wpAny (model X.prog X.w) X.A (setFlight ev none) (λ_ s₃=>wpAny (model X.prog X.w) X.A (handleBy ev X.env (h₀::hs)) (SP X pins D) X.xe s₃) X.xe s₂) X.xe s':=by
 obtain ⟨ea,C,a0,od,H',B,rfl,st,en,ff,ex,dd,hno,hfr0,go,q⟩:=hc;obtain ⟨C',th,hC,hP,q⟩:=q;cases hC;have hfr:X.A.frames=some (X.env::X.outer):=by rw [<-hst.1];exact hfr0
 refine E0g hfr hst.2 st en (by rw [<-hst.1];exact ff) ex λh4 held up4 kd4=> ?_;refine D5o (s:={ s' with heap:=h4 }) held.1 held.2.2.1 held.2.2.2 λh5 st5 ff5 t5 up5 kd5=> ?_
 have fl5:Heap.FlyingW B X.stack ea (.ref C) a0 h5:=⟨st5,en,by rw [hst.1];exact ff5,t5⟩;have d5:=(dd.kd kd4).kd kd5;have up:=up4.trans up5;have x5:xcG ea C od h5:=C7x (X:=X) (s:={ s' with heap:=h5 }) fl5 d5;exact hP pins σ H' B ea a0 od _ D ⟨(go h5 st5 up x5).1,fl5,d5,hno,λh' s2 u2 x2=>go h' s2 (up.trans u2) x2⟩ (q ea hno)
def PXD (X:Cx) (e:Expr) (t:TX):Prop :=
 ∀(pins:List (Addr×Obj)) (s:Shared) (σ:St) (H:Hp) (Q:VK) (E:XK),Inv X pins σ H s->t σ H Q E->wpAny (model X.prog X.w) X.A (eval e X.env) (EP X pins σ Q) (Rsd X pins σ E) s
theorem Rsd.of_call {pins:List (Addr×Obj)} {σ:St} {H1:Hp} {s1 s':Shared} {E:XK} {ev:Value} (I1:Inv X pins σ H1 s1) (h:CXD X.prog X.w X.stack H1 s1 E ev s'):Rsd X pins σ E ev s':=by
 obtain ⟨ea,C,a0,od,H',B,rfl,os,bare,un,hok,b1,b2,fl,dd,q⟩:=h;have F:C6h X pins σ H1 s1 H' B ea C a0 s':=⟨I1,os,bare,un,hok,b1,b2,fl⟩;have no:∀b:Addr,b∉([]:List Addr):=λb=>by simp
 refine ⟨ea,C,a0,od,H',B,rfl,fl.1,fl.2.1,fl.2.2.1,FlyingW.exc fl,dd,F.no,I1.ok.frames,λh5 st5 up x5=> ?_,q⟩
 have slot:∀b o,s1.heap.get? b=some o->H1 b=none->b∈frs X.stack->∃sl,h5.get? b=some { o with slots:=sl }:=λb o e n hb=>by
  obtain ⟨sl,e1⟩:=un.slot b o e n hb (no b);obtain ⟨_,of,ho,hd⟩:=I1.stack.mem hb;rw [e] at ho;cases ho;obtain ⟨sl3,e3⟩:=up b _ e1 hd;exact ⟨sl3,e3⟩
 have u5:Un (frs X.stack) [] H1 H' s1.heap h5:=by
  refine ⟨λb o e n hb _=> ?_,λb o e n hb _=>slot b o e n hb,un.free,λb o e _=> ?_,un.tups,un.frzs,un.tbls⟩
  ·have e2:=un.keep b o e n hb (no b);obtain ⟨o',eB⟩:=b1 b o e hb;have e3:=fl.1 b o' eB;rw [e2] at e3;cases e3;exact st5 b o eB
  ·by_cases hb:b∈frs X.stack
   ·obtain ⟨sl,q⟩:=slot b o e (I1.stkFree b hb) hb;exact ⟨_,q⟩
   ·obtain ⟨o',eB⟩:=b1 b o e hb;exact ⟨o',st5 b o' eB⟩
 have I5:Inv X pins σ H' { s' with heap:=h5 }:=I1.call' (s':={ s' with heap:=h5 }) os u5 (C2i hok b2 fl.1 st5) bare (ch:=[]) (λb z=>absurd z (by simp))
 exact ⟨I5,I1.trackO I5 F.new F.no (D8q x5)⟩
theorem C9y {k:Nat} {f:Addr} {fd:FuncData} {ps:List Str} {sp:Sp} {x:Str} {p pos:Pos} {e:Expr} {es:List Expr} {t:TA} (F:A4m X.prog X.w X.K X.mg X.base (CXD X.prog X.w) k f fd ps sp) (hr:A7j k X.A) (hg:Gl X x) (hm:X.mg x=some (.ref f)) (hk:keepIn X.K (.ref f)=true) (hb:A8w X.K fd ps [])
  (ha:PA X.nox (e::es) t) (hdb:(x == ("__debug__":Str))=false:=by decide) (he:starEach (e::es) X.env=(false,eval e X.env)::starEach es X.env:=by rfl) (hpl:(backTo pos (starEach es X.env)).any (·.1)=false:=by rfl) :
  PXD X (.Call (.Name x p) (e::es) [] pos) (D7v sp t):=by
 intro pins s σ H Q E I h;refine wpAny_Call_Name_kw (A5w I hg hm ?_ hdb)
 have hA:wpAny (model X.prog X.w) X.A (spliced (backTo pos (starEach (e::es) X.env))) (AP X pins σ λvs H1=>sp vs H1 Q E) (Rsd X pins σ E) s :=
  Z10 (ha pos pins s σ H _ (I.wish _) h) (by rintro us s1 ⟨vs,H1,I1,r,q⟩;exact ⟨vs,H1,I1.unwish,r,q⟩) λ_ _ z=>False.elim z
 refine PySem.W.callWith_K (h₀:=X.base) I.ok.mod.kin hk (thn hA λus s1 ⟨vs,H1,I1,r,q⟩=>⟨I1.kIn,?_⟩) he hpl;have hl:us.length=ps.length:=by rw [<-r.length];exact F.len _ _ _ _ q
 have hb':=hb s1 us I1.kIn (by simpa using hl);rw [Z0u] at hb';refine wpAny_call (codeAny_mono (F.run X.A X.stack s1 H1 ⟨us,[]⟩ us vs Q E hr I1.env0 hb' r q) λr s' hq=> ?_)
 cases r with
 | error e=>exact Rsd.of_call I1 hq
 | ok fl =>
  cases fl with
  | ret u=>exact I1.after hq
  | next=>exact False.elim hq
  | brk=>exact False.elim hq
  | cont=>exact False.elim hq
def E0d (X:Cx) (hs:List ExceptHandler) (tx:TX) (i:Nat):TS:=λD σ H=>tx σ H (λv H1=>D.nx (σ.set i (some v)) H1) (D6p X hs D σ)
theorem D0z {tx:TX} (hst:X.stack=X.env::X.outer/\X.env.frame=some X.env.locals) (he:PXD X e tx) (hN:X.N.Nodup) (hi:X.N[i]? =some n) (hx:Loc X.env.scope n)
  (hs':swapsWith e (some (.Name n npos)) epos.line X.env=pure false:=by rfl) (hf:X.fn n=true\/X.env.scope.names.lookup n=some .local:=by first | exact .inl rfl | exact .inr rfl | assumption) :
  PS X (.Try [.Assign [.Name n npos] e epos] (h₀::hs) [] [] pos) (E0d X (h₀::hs) tx i):=by
 intro pins s σ H D I h;refine wpAny_Try_except (Z10 (Q:=λf s1=>f= .next/\∃σ' H',Inv X pins σ' H' s1/\D.nx σ' H') (E:=Rsd X pins σ (D6p X (h₀::hs) D σ)) ?_ (λf s1 q=> ?_) λev s1 hc=>C1n hst hc)
 ·refine wpAny_execs_cons (wpAny_Assign_Name (thn (he pins s σ H _ _ I h) ?_) hs');rintro v s1 ⟨y,H1,I1,r1,q1⟩;exact A8t I1 hN hi hx r1 (λs2 I2=>Z2b ⟨rfl,_,H1,I2,q1⟩) hf
 ·obtain ⟨rfl,q⟩:=q;exact Z2b q
end
end L2
namespace PySem.W
open PySem PySem.Spec PySem.Calls PyProof.Rows PySem.Builtin.ObjectAttr PySem.Builtin
section
variable {prog:Program} {w:World} {A:Around} {s:Shared} {K:Frag} {x C:Addr}
theorem exc_setattr2 {E:Value->Shared->Prop} {ox:Obj} {dx:Addr} {vs:Array Value} {m:Str->Option Value} {ks:List Str} {name:Str} {v:Value} {Q:Unit->Shared->Prop} (X:K.In s.heap) (hx:s.heap.get? x=some ox) (hcl:ox.cls= .ref C) (hdn:ox.dict=some dx) (hdt:ox.data= .fields vs)
  (hn:s.heap.Ns1 dx m) (wi:Within m ks) (hk:ks.length<=1000) (hs:findIn K (.ref C) "__setattr__"=some (some (.builtin "object.__setattr__"))) (hp:excOver K C=true) (ht:takerIn K C name=some none) (hh:(clsIn K C).any (·.hasDict)=true)
  (h:∀h' tk,h'.Ns1 dx (λy=>if y=name then some v else m y)->(∀b,b≠dx->h'.get? b=s.heap.get? b)->Q () { s with heap:=h',toks:=tk }) :
  wpAny (model prog w) A (setAttr (.ref x) name v) Q E s:=by
 obtain ⟨hp0,g,d,t,os⟩:=s;dsimp only at X hx h hn;obtain ⟨od,_,_,hod,_⟩:=id hn;have I:InstAt hp0 x ox C (some od):=⟨hx,hcl,by obtain ⟨_,_,d,_⟩:=ox;cases hdt;rfl,by rw [hdn];exact hod⟩;refine set_plain X I hs (B9o (s:=⟨hp0,g,d,t+1,os⟩) X I hp ht λb=> ?_);obtain ⟨cd,hc,hd'⟩:=any_some hh;obtain ⟨oc,odi,oda,osl⟩:=ox;dsimp only at hcl hdn hdt;subst hcl hdn hdt;have L:=looks_clsIn (M:=model prog w) X hc;refine Z00 (Z04 (Z00 (Z00 (wpAny_loadPart hx (Z00 (Looks.here (s:=⟨hp0,g,d,t+1,os⟩) L ?_))))));rw [hd'];refine Z04 (a:=some dx) ?_;show wpAny _ _ (storeInDict dx (.str name t) name v) _ _ _;unfold storeInDict newKeyGuard;refine Z00 (Z04 (Z00 (wpAny_nsSet1 (s:=⟨hp0,g,d,t+1,os⟩) hn λh' hn' hs=> ?_)));obtain ⟨oD,esD,epD,hoD,hdD,hcD⟩:=hn'.count (Within.cons name v wi);refine Z00 (wpAny_lookBehind hoD (by rw [hdD];exact pastItsLine_dict (Z1n hcD (by rw [Z0y,sizeLine_eq];lia))) ?_);refine Z04 ?_;exact h h' _ hn' λb hb=>hs.2 b hb
theorem D5u {M:Model} {h:Heap} {ox:Obj} {dx:Addr} {cd:ClassData} {m:Str->Option Value} {name:Str} (X:K.In h) (hx:h.get? x=some ox) (hcl:ox.cls= .ref C) (hdn:ox.dict=some dx) (no:notCls ox=true) (hc:clsIn K C=some cd) (hh:cd.hasDict=true) (hn:h.Ns dx m) :
  Looks M h (inOwnDict name (.ref x)) (m name):=by
 obtain ⟨o,es,ep,ho,hd,hr,same⟩:=hn
 have e:ownOf cd (some o) name=some (m name):=by
  unfold ownOf;rw [hh,Z12 rfl];unfold lookIn;dsimp only;rw [hd];dsimp only;rw [<-same name];unfold nsFind findBy;rw [<-Array.find?_toList]
  cases q:es.toList.find? (λe=>e.key.isStr name) with
  | some en=>rfl
  | none =>
   have:es.toList.any (·.refKey)=false:=by
    rw [List.any_eq_false];intro en hen;obtain ⟨n,t,ek⟩:=hr en (Array.mem_toList_iff.mp hen);simp [DictEntry.refKey,ek]
   rw [this];rfl
 exact looks_own X ⟨hx,hcl,no,by rw [hdn];exact ho⟩ hc e
theorem exc_get {E:Value->Shared->Prop} {ox:Obj} {dx:Addr} {vs:Array Value} {m:Str->Option Value} {name:Str} {v:Value} {b:Bool} {Q:Value->Shared->Prop} (X:K.In s.heap) (c:XcIn K C) (hx:s.heap.get? x=some ox) (hcl:ox.cls= .ref C) (hdn:ox.dict=some dx) (hdt:ox.data= .fields vs)
  (hh:(clsIn K C).any (·.hasDict)=true) (na:findIn K (.ref C) name=some none) (hn:s.heap.Ns dx m) (hm:m name=some v) (hv:handedIn v=true) (h:Q v { s with toks:=s.toks+1 }) :
  wpAny (model prog w) A (getAttr (.ref x) name b) Q E s:=by
 obtain ⟨h0,g,d,t,os⟩:=s;dsimp only at X hx hn;obtain ⟨cd,hc,hd'⟩:=any_some hh;have no:notCls ox=true:=by obtain ⟨_,_,d,_⟩:=ox;cases hdt;rfl
 have Lo:=D5u (M:=model prog w) (name:=name) X hx hcl hdn no hc hd' hn;rw [hm] at Lo;have Lf:Looks (model prog w) h0 (find (.ref x) (.ref C) name) (.value v):=(looks_findIn X na).andThen ((show Looks (model prog w) h0 (getOf none) none from .now).andThen ((show Looks (model prog w) h0 (dataDescriptor? none none) none from .now).andThen (Lo.andThen (Looks.tag .now))));unfold getAttr;refine Z00 (wpAny_mkText ?_);refine D8s X c hx hcl (λA R hR=>codeAny_call_builtin F.attr_ValueError.ga.plain F.entry_bexc_ga (C2x X c hx hcl ?_)) hv h;unfold Builtin.«object.__getattribute__»
 repeat (any_goals (first | assumption | (with_reducible refine Lf.at ?_) | (with_reducible refine Z1k hx ?_;rw [hcl]) | wp_step))
end
end PySem.W
namespace L2
open PySem PySem.Spec PyProof.Rows
def D8f (K:Frag) (ta tv:TE) (f:Str):TS:=λD σ H=>tv σ H λy H1=>ta σ H1 λx H2=>∃e C t dx fs,x= .ref e/\H2 e=some (xcD e C t dx)/\H2 dx=some (.xd fs)/\fs.length<=100/\fs.lookup f=none/\A9a K C f/\D.nx σ (upd H2 dx (.xd (fs++[(f,y)])))
theorem C8d {fs:List (Str×V)} {mA:Str->Option Value} (r:∀f,B6a (fs.lookup f) (mA f)):PySem.Within mA (fs.map (·.1)):=λg hg=>by
 have:=r g
 cases q:fs.lookup g with
 | none=>rw [q] at this;cases z:mA g with
  | none=>exact absurd z hg
  | some u=>rw [z] at this;exact this.elim
 | some v=>exact Z2c.mpr ⟨(g,v),PySem.mem_of_lookup q,rfl⟩
theorem C0l {fs:List (Str×V)} {f g:Str} {y:V} (h:fs.lookup f=none):(fs++[(f,y)]).lookup g=if g=f then some y else fs.lookup g:=by
 induction fs with
 | nil =>
  rw [List.nil_append,Z28,List.lookup_nil];by_cases z:g=f
  ·rw [Z12 z,z];simp
  ·rw [Z0t z,Z22.mpr z]
 | cons p r ih =>
  obtain ⟨k,v⟩:=p;rw [Z28] at h
  cases hk:(f == k) with
  | true=>rw [hk] at h;cases h
  | false =>
   rw [hk] at h;rw [List.cons_append,Z28,Z28]
   cases hg:(g == k) with
   | true =>
    have e1:g=k:=beq_iff_eq.mp hg;have e2:f≠k:=Z22.mp hk;rw [Z0t (λz=>e2 (Eq.trans z.symm e1))]
   | false=>exact ih h
section
variable {X:Cx} {pins:List (Addr×Obj)} {σ:St} {H:Hp} {s:Shared} {dx:Addr} {fs fs':List (Str×V)} {h':Heap} {t':Nat}
theorem Inv.xdput (I:Inv X pins σ H s) (ed:H dx=some (.xd fs)) (k:∀b u,b≠dx->s.heap.get? b=some u->h'.get? b=some u) (heo:∃u,h'.get? dx=some u) (new:A2a X.prog X.w (upd H dx (.xd fs')) h' dx (.xd fs')):Inv X pins σ (upd H dx (.xd fs')) { s with heap:=h',toks:=t' }:=by
 have hx:∀b,H b=none->b≠dx:=λb n z=>by rw [z,ed] at n;cases n
 have up:∀b o,H b=some o->(∀gs,o≠.xd gs)->upd H dx (.xd fs') b=some o:=λb o q n=>by
  rw [A0j (λz=>by rw [z,ed] at q;cases q;exact n _ rfl)];exact q
 refine I.un ⟨λb u q n _ _=>k b u (hx b n) q,λb u q n _ _=>⟨u.slots,k b u (hx b n) q⟩,λb u q n _=>by rw [A0j (hx b n)];exact n,λb u q _=> ?_,λb xs q=>up b _ q (λ_ z=>nomatch z),λb u xs q=>up b _ q (λ_ z=>nomatch z),λb ps q=>⟨#[],by rw [up b _ q (λ_ z=>nomatch z)];simp⟩⟩ λb u q=> ?_
 ·by_cases z:b=dx
  ·subst z;exact heo
  ·exact ⟨u,k b u z q⟩
 ·by_cases z:b=dx
  ·subst z;rw [A0b] at q;cases q;exact new
  ·rw [A0j z] at q;refine (I.hok b u q).stay (λc v hc e=>k c v (λzz=> ?_) e) (λc q=>up _ _ q (λ_ z=>nomatch z)) λc xs q=>up _ _ q (λ_ z=>nomatch z);rcases hc with hc | hc
   ·exact z (hc.symm.trans zz)
   ·rw [zz,ed] at hc;cases hc
end
theorem A8r {X:Cx} {o value:Expr} {f:Str} {pos pos':Pos} {ta tv:TE} (ha:PE X o ta) (hv:PE X value tv) (hs:swapsWith value (some (.Attribute o f pos')) pos.line X.env=pure false):PS X (.Assign [.Attribute o f pos'] value pos) (D8f X.K ta tv f):=by
 intro pins s σ H D I h;refine plainObj_wpAny_Assign_Attribute (thn (hv pins s σ H _ I h) ?_) hs;rintro u s1 ⟨y,H1,I1,ry,q⟩;refine thn (ha pins s1 σ H1 _ I1 q) ?_;rintro ov s2 ⟨x,H2,I2,rx,e,C,t,dx,fs,ex,ee,ed,lf,nf,xs,q2⟩;subst ex;obtain rfl:ov=Value.ref e:=rx;obtain ⟨he,_,_⟩:=(show A2a X.prog X.w H2 s2.heap e (xcD e C t dx) from I2.hok e _ ee);obtain ⟨mA,n1,r⟩:=(show A2a X.prog X.w H2 s2.heap dx (.xd fs) from I2.hok dx _ ed);refine PySem.W.exc_setattr2 I2.kIn he rfl rfl rfl n1 (C8d r) (by rw [Z08];lia) xs.sa xs.ov xs.no.taker xs.hd λh' tk q1 q3=> ?_;obtain ⟨o',_,_,ho',_⟩:=id q1;refine ⟨σ,_,I2.xdput (fs':=fs++[(f,y)]) (h':=h') (t':=tk) ed (λb u hb z=>(q3 b hb).trans z) ⟨_,ho'⟩ ⟨_,q1,λg=> ?_⟩,q2⟩;rw [C0l nf];by_cases z:g=f
 ·rw [Z12 z,Z12 z];exact ry
 ·rw [Z0t z,Z0t z];exact r g
structure C4g (K:Frag) (C:Addr) (f:Str):Prop where
 c:PySem.W.XcIn K C
 hd:(clsIn K C).any (·.hasDict)=true
 no:findIn K (.ref C) f=some none
def E1l (K:Frag) (ta:TE) (f:Str):TE:=λσ H Q=>ta σ H λx H1=>∃ea C dx fs v,x= .ref ea/\H1 ea=some (.ext (xcG ea C (some dx)))/\H1 dx=some (.xd fs)/\fs.lookup f=some v/\C4g K C f/\Q v H1
theorem B7f {X:Cx} {K:Frag} {e:Expr} {f:Str} {pos:Pos} {ta:TE} (hK:X.K=K) (he:PE X e ta) (hb:attributeBase e f X.env (eval e X.env)=eval e X.env):PE X (.Attribute e f pos) (E1l K ta f):=by
 intro pins s σ H Q I h;refine C8g hb (thn (he pins s σ H _ I h) ?_);rintro u s1 ⟨x,H1,I1,rx,ea,C,dx,fs,v,ex,ee,ed,l,g,q⟩;subst ex hK;obtain rfl:u=Value.ref ea:=rx;obtain ⟨⟨o,vs,ho,hc,hd,hv,_⟩,_,_⟩:=(show A2a X.prog X.w H1 s1.heap ea (.ext (xcG ea C (some dx))) from I1.hok ea _ ee);obtain ⟨mA,n1,r⟩:=(show A2a X.prog X.w H1 s1.heap dx (.xd fs) from I1.hok dx _ ed);obtain ⟨u,hu,ru⟩:=B6a.some_of (v:=v) (o:=mA f) (by rw [<-l];exact r f);exact PySem.W.exc_get I1.kIn g.c ho hc hd hv g.hd g.no n1.ns hu (B8y ru) ⟨v,H1,I1.tok _,ru,q⟩
theorem xcG.kit {ea C:Addr} {od:Option Addr} {h:Heap} (p:xcG ea C od h):PySem.W.KitE ea C h:=by
 obtain ⟨o,vs,ho,hc,_⟩:=p;exact ⟨o,ho,hc⟩
def E2s (K:Frag):List V->Hp->VK->Prop:=λxs H Q=>∃ea C od c b,xs=[.ref ea,c]/\H ea=some (.ext (xcG ea C od))/\PySem.W.XcIn K C/\(∀u,A3d c u->kitOne K (.ref C) u=some b)/\Q (.bl b) H
theorem B8n {X:Cx} {K:Frag} (hK:X.K=K):B2b X (.builtin "isinstance") (E2s K):=by
 subst hK;intro pins s σ H xs us Q I r h;obtain ⟨ea,C,od,c,b,rfl,he,xc,k,q⟩:=h;obtain ⟨u,w',rfl,ru,rw'⟩:=C0e r;cases ru;exact PySem.W.kia_one (PySem.W.kitx_exc xc) I.kIn (xcG.kit (I.hok ea _ he).1) (k w' rw') (λz=>nomatch z) λtk=>⟨.bl b,H,I.tok tk,rfl,q⟩
def D9q (K:Frag):List V->Hp->VK->Prop:=λxs H Q=>∃ea C od tp cs b,xs=[.ref ea,.ref tp]/\H ea=some (.ext (xcG ea C od))/\PySem.W.XcIn K C/\H tp=some (.tup cs)/\(∀us,A2t cs us->kitAny K (.ref C) us=some b)/\Q (.bl b) H
theorem B1y {X:Cx} {K:Frag} (hK:X.K=K):B2b X (.builtin "isinstance") (D9q K):=by
 subst hK;intro pins s σ H xs us Q I r h;obtain ⟨ea,C,od,tp,cs,b,rfl,he,xc,ht,k,q⟩:=h;obtain ⟨u,w',rfl,ru,rw'⟩:=C0e r;cases ru;cases rw';obtain ⟨_,its,rv,ob,hob,hc,n,hd⟩:=(show A2a X.prog X.w H s.heap tp (.tup cs) from I.hok tp _ ht);obtain ⟨oc,od',oda,osl⟩:=ob;dsimp only at hc hd;subst hc hd;exact PySem.W.kia_tup (PySem.W.kitx_exc xc) I.kIn (xcG.kit (I.hok ea _ he).1) hob (k its rv) (λz=>nomatch z) λtk=>⟨.bl b,H,I.tok tk,rfl,q⟩
def D5i (C:Addr) (sp:Sp) (dvs:List V) (E E':XK) (t:TA):TS:=λ_ σ H=>t σ H λvs H1=>vs.length<=sizeLine/\
 ∀ea ta,H1 ea=none->sp (.ref ea::(vs++dvs)) (upd H1 ea (xcN ea C ta)) (λv H2=>v= .non/\∃d,H2 ea=some (.ext λh=>h.get? ea=some (B1t C ta d))/\E (.ref C) d (B0o H2 ea)) E'
section
variable {X:Cx} {CX:CXT} {k:Nat} {f C:Addr} {fd:FuncData} {ps:List Str} {ds:List Value} {dvs:List V} {sp:Sp} {E E':XK}
theorem B8c {x:Str} {np cpos pos:Pos} {e:Expr} {es:List Expr} {t:TA} (hT:C8h X C E) (M:MkX X.K C f) (F:A4m X.prog X.w X.K X.mg X.base CX k f fd ps sp) (hr:A7j (k+1) X.A) (hg:Gl X x) (hm:X.mg x=some (.ref C)) (hb:A8w X.K fd ps ds) (hd:A2t dvs ds) (hx:A9c CX X E') (hc:X.calm=true)
  (hex:X.ex=[]) (ha:PA X (e::es) t) (hdb:(x == ("__debug__":Str))=false:=by decide) (he:starEach (e::es) X.env=(false,eval e X.env)::starEach es X.env:=by rfl) (hpl:(backTo cpos (starEach es X.env)).any (·.1)=false:=by rfl) :
  PS X (.Raise (some (.Call (.Name x np) (e::es) [] cpos)) none pos) (D5i C sp dvs E E' t):=by
 intro pins s σ H D I h;obtain ⟨nm,qn,N,bs,bm,hdct,sn,sub,ab,col,dd,k0,k1,k2,k3,k5,mN,hC,hN,hi,T,fn⟩:=C2d I.mod.kin M.xe
 have call:wpAny (model X.prog X.w) X.A (eval (.Call (.Name x np) (e::es) [] cpos) X.env) (λv s₁=>∃e t dx,v= .ref e/\s₁.heap.get? C=some (excClassObj nm qn C N bs bm hdct sn sub ab col dd k0 k1 k2 k3 k5 "ValueError.__new__")/\s₁.heap.get? e=some (B1t C t dx)/\X.xe (.ref e) s₁) X.xe s:=by
  refine wpAny_Call_Name_kw (A5w I hg hm ?_ hdb);refine PySem.W.callWith_K (h₀:=X.base) I.ok.mod.kin M.kp (thn (ha cpos pins s σ H _ I h) λus s1 ⟨vs,H1,I1,r,hl,q⟩=>⟨I1.kIn,?_⟩) he hpl;refine thn (C7h (Q:=λea ta H2=>∃d,H2 ea=some (.ext λh=>h.get? ea=some (B1t C ta d))/\E (.ref C) d (B0o H2 ea)) M.xe F hr hb hd hx I1 r (r.length▸hl) q) ?_;rintro v s2 ⟨ea,ta,H2,ev,I2,hn,d,hea,hE⟩;obtain ⟨hobj,_,_⟩:=(show A2a X.prog X.w H2 s2.heap ea (.ext λh=>h.get? ea=some (B1t C ta d)) from I2.hok ea _ hea)
  have h0:X.s₀.heap.get? ea=none:=by
   cases z:X.s₀.heap.get? ea with
   | none=>rfl
   | some o =>
    obtain ⟨o1,e1⟩:=I1.base.there ea o z (by rw [hex];simp);rw [hn] at e1;cases e1
  exact ⟨ea,ta,d,ev,I2.bk _ _ hC,hobj,hT pins σ H2 s2 ea ta d I2 hea h0 hE⟩
 rw [arm_exec_Raise]
 first
  | exact Z00 (Z1y (A7q (C:=C) (nm:=nm) (q:=qn) (N:=N) (bs:=bs) (bm:=bm) (hdct:=hdct) (sn:=sn) (sub:=sub) (ab:=ab) (col:=col) (dd:=dd) (k0:=k0) (k1:=k1) (k2:=k2) (k3:=k3) (k5:=k5) (newId:="ValueError.__new__") (T.hasType (by decide +kernel)) (I.ok.hd hc) (Z00 (Z10 call (λv s₃ h₃=>Z00 (Z1y (Z04 h₃))) λ_ _ x=>x))))
  | (simp only [evalOpt,Option.map];exact Z00 (Z1y (A7q (C:=C) (nm:=nm) (q:=qn) (N:=N) (bs:=bs) (bm:=bm) (hdct:=hdct) (sn:=sn) (sub:=sub) (ab:=ab) (col:=col) (dd:=dd) (k0:=k0) (k1:=k1) (k2:=k2) (k3:=k3) (k5:=k5) (newId:="ValueError.__new__") (T.hasType (by decide +kernel)) (I.ok.hd hc) (Z00 (Z10 call (λv s₃ h₃=>Z00 (Z1y (Z04 h₃))) λ_ _ x=>x)))))
end
section
variable {X:Cx} {CX:CXT} {k:Nat} {f C:Addr} {fd:FuncData} {ps:List Str} {sp:Sp}
end
abbrev C1l (A:Around):Around:={ A with handled:=none }
def B2a (k:Nat) (A:Around):Prop:=A7j k (C1l A)
theorem B2a.mono {j k:Nat} {A:Around} (r:B2a k A) (h:j<=k):B2a j A:=A7j.mono r h
theorem B2a.deeper {k:Nat} {A:Around} (r:B2a (k+1) A) (env:Env):B2a k (A.deeper env):=A7j.deeper r env
theorem B2a.depth {k:Nat} {A:Around} (r:B2a k A):A.depth<recursionLimit:=A7j.depth (A:=C1l A) r
theorem A7j.held {k:Nat} {A:Around} (r:A7j k A) (h:Option Value):B2a k (A.mark h):=⟨rfl,r.dp,r.un,r.gd⟩
noncomputable abbrev cxH (CX:CXT) (P:Program) (w:World) (K:Frag) (mg:Str->Option Value) (base:Heap) (N:List Str) (qual:Str) (scope:Scope) (f:Addr) (cd:Value) (A:Around) (outer:List Env) (s:Shared) (H:Hp) (E:XK):Cx :=
 { C6m CX P w K mg base N qual scope f cd A outer s H E with calm:=false }
theorem C4l {CX:CXT} {P:Program} {w:World} {K:Frag} {mg:Str->Option Value} {base:Heap} {N ps:List Str} {qual:Str} {scope:Scope} {f:Addr} {cd:Value} {A:Around} {outer:List Env} {s s1:Shared} {H:Hp} {E:XK} {us:List Value} {vs:List V}
  (S:A0m N ps scope) (e0:C8q P w K mg base A outer s H) (hl:vs.length=ps.length) (r:A2t vs us)
  (x:InCallC s s.heap.objs.size (bindL (envOfC qual scope s.heap.objs.size f cd).kindOf (ps.zip us) λ_=>none) (cellsFrom (s.heap.objs.size+1) scope.names []) (bindC (envOfC qual scope s.heap.objs.size f cd).kindOf (ps.zip us) λ_=>none) s1) :
  Inv (cxH CX P w K mg base N qual scope f cd A outer s H E) [] (B2v N vs) H s1:=by
 have e1:C8q P w K mg base (C1l A) outer s H:=⟨e0.frames,e0.mod,e0.bs,e0.bsz,e0.funs,e0.frf,e0.hok,e0.bare⟩;have I:=B9k (CX:=CX) (E:=E) S rfl e1 hl r x;have ok:=I.ok
 exact ⟨⟨ok.mod,ok.kind,ok.glob,ok.blt,ok.above,ok.inj,ok.has,ok.cab,(λz=>nomatch z),Around.frames_deeper e0.frames,ok.stk,ok.exf,ok.bs,ok.bsz,ok.noex,ok.exfs,ok.funs,ok.frf⟩,
  I.os,I.bare,I.base,I.loc,I.cell,I.free,I.freeC,I.pin,I.hok,I.len⟩
section
variable {P:Program} {w:World} {K:Frag} {mg:Str->Option Value} {base:Heap}
end
section
variable {X:Cx} {CX:CXT} {k:Nat} {f:Addr} {fd:FuncData} {ps:List Str} {sp:Sp} {dvs:List V} {ds:List Value} {E:XK} {x:Str} {p pos:Pos} {e:Expr} {es:List Expr} {t:TA}
end
section
variable {prog:Program} {w:World} {A:Around} {E:Value->Shared->Prop} {s:Shared}
theorem B7r:entryFor table "proto.unchain"=some Builtin.«proto.unchain»:=entryFor_of_fast (by kernel_rfl)
theorem B8r {e:Value} {h:Addr} {oh:Obj} {vs:Array Value} {Q:Value->Shared->Prop} (ho:s.heap.get? h=some oh) (hd:oh.data= .fields vs) (h2:vs[2]? =some .none) (hq:Q .none s) :
  wpAny (model prog w) A (runValue (.builtin "proto.unchain" ⟨[e,.ref h,.ref h,.bool false],[]⟩)) Q E s:=by
 refine runValue_entry B7r ?_;show wpAny _ _ (field (.ref h) 2 >>= _) _ _ s;refine Z00 (Z11 ho hd h2 ?_);exact Z04 ⟨_,rfl,hq⟩
theorem B0u {α:Type} {h e:Addr} {oh oe:Obj} {vs es:Array Value} {Q:α->Shared->Prop} (hh:A.handled=some (.ref h)) (ne:h≠e) (ho:s.heap.get? h=some oh) (hd:oh.data= .fields vs) (h2:vs[2]? =some .none) (he:s.heap.get? e=some oe) (hde:oe.data= .fields es) (hz:2<es.size)
  (hE:E (.ref e) { s with heap:=s.heap.update e (Obj.mapFields (·.setIfInBounds 2 (.ref h))) }):wpAny (model prog w) A (raiseNew (.ref e)) Q E s:=by
 simp only [raiseNew];refine Z00 (wpAny_handled ?_);rw [hh];have nb:(Value.ref h != Value.ref e)=true:=by simpa using ne
 dsimp only;rw [Z12 nb];refine Z00 (Z1w (B8r ho hd h2 ?_));refine Z00 (Z1t (x:= .ref h) he hde hz (wpAny_throw hE))
end
structure D7n (ok:Around->Prop) (P:Program) (w:World) (K:Frag) (tg:Expr) (J:It) (fp:List Addr) (it:Addr) (tn:Nat->Heap->Prop):Prop where
 mem:it∈fp
 obj:∀i h,tn i h->∀b∈fp,∃o,h.get? b=some o/\∀v,o.data≠.cell v
 keep:∀i h h',tn i h->(∀b∈fp,∀o,h.get? b=some o->h'.get? b=some o)->tn i h'
 item:∀(X:Cx),X.prog=P->X.w=w->X.K=K->ok X.A->∀(i:Nat) (pins:List (Addr×Obj)) (s:Shared) (σ:St) (H:Hp) (E:Value->Shared->Prop),Inv X pins σ H s->(∀b∈fp,B4x X pins H b)->tn i s.heap->J.go i H->
  wpAny (model P w) X.A (pyNext (.ref it)) (λr s1=>∃u,r=some u/\
   wpAny (model P w) X.A (letOwnedTupleGo tg (.ref it) u) (λ_ s2=>∃x H',Inv X pins σ H' s2/\A3d x u/\J.yld i H x H'/\tn (i+1) s2.heap/\∀b∈fp,H' b=none) E s1) E s
 done:∀(X:Cx),X.prog=P->X.w=w->X.K=K->ok X.A->∀(i:Nat) (pins:List (Addr×Obj)) (s:Shared) (σ:St) (H:Hp) (E:Value->Shared->Prop),Inv X pins σ H s->(∀b∈fp,B4x X pins H b)->tn i s.heap->J.stop i H->
  wpAny (model P w) X.A (pyNext (.ref it)) (λr s1=>r=none/\Inv X pins σ H s1) E s
 self:∀(A:Around) (i:Nat) (s:Shared) (Q:Value->Shared->Prop) (E:Value->Shared->Prop),tn i s.heap->Q (.ref it) s->wpAny (model P w) A (pyIter (.ref it)) Q E s
def PIEP (ok:Around->Prop) (X:Cx) (pins:List (Addr×Obj)) (σ:St) (tg:Expr) (R:It->Hp->Prop) (itv:Value) (s2:Shared):Prop :=
 ∃(it:Addr) (fp:List Addr) (tn:Nat->Heap->Prop) (J:It) (H':Hp),itv= .ref it/\Inv X pins σ H' s2/\D7n ok X.prog X.w X.K tg J fp it tn/\tn 0 s2.heap/\(∀b∈fp,B4x X pins H' b)/\R J H'
def PIP (ok:Around->Prop) (X:Cx) (tg iter:Expr) (wi:TI):Prop :=
 ∀(pins:List (Addr×Obj)) (s:Shared) (σ:St) (H:Hp) (R:It->Hp->Prop),Inv X pins σ H s->wi σ H R->
  wpAny (model X.prog X.w) X.A (eval iter X.env) (λv s1=>wpAny (model X.prog X.w) X.A (pyIter v) (PIEP ok X pins σ tg R) X.xe s1) X.xe s
section
variable {X:Cx}
end
abbrev B2f (ea:Addr):Around->Prop:=λA=>A.handled=some (.ref ea)
section
variable {X:Cx} {tg:Expr}
end
structure C8x (ea:Addr) (P:Program) (w:World) (K:Frag) (mg:Str->Option Value) (base:Heap) (CX:CXT) (k:Nat) (f:Addr) (fd:FuncData) (ps:List Str) (sp:Sp):Prop where
 len:∀vs H Q E,sp vs H Q E->vs.length=ps.length
 run:∀(A:Around) (outer:List Env) (s:Shared) (H:Hp) (args:Args) (us:List Value) (vs:List V) (Q:VK) (E:XK),B2a k A->A.handled=some (.ref ea)->C8q P w K mg base A outer s H->BindsTo s fd args (ps.zip us)->A2t vs us->sp vs H Q E->
  codeAny (model P w) A (.call (.ref f) args) (CR CX outer P w H s Q E) s
section
variable {P:Program} {w:World} {K:Frag} {mg:Str->Option Value} {base:Heap}
theorem Fun.okE {ea:Addr} {x qual:Str} {st:Stmt} {f:Addr} {fd:FuncData} {N ps:List Str} {k:Nat} {sp:Sp} (F:Fun K x qual st f fd) (S:A0m N ps (A0i st)) (len:∀vs H Q E,sp vs H Q E->vs.length=ps.length)
  (hbody:∀(cdv:Value) (A:Around) (outer:List Env) (s:Shared) (H:Hp) (vs:List V) (Q:VK) (E:XK),B2a k (A.deeper (envOfC qual (A0i st) s.heap.objs.size f cdv))->B2f ea (A.deeper (envOfC qual (A0i st) s.heap.objs.size f cdv))->sp vs H Q E->
   ∃t,PSs (cxH CX0 P w K mg base N qual (A0i st) f cdv A outer s H E).nox (A6i st) t/\t { nx:=λ_ H'=>Q .non H',rt:=Q } (B2v N vs) H):C8x ea P w K mg base CX0 (k+1) f fd ps sp:=by
 obtain ⟨oc,od,kV,doc,pm,an,cdv,ct,osl,rfl,lk,hcd⟩:=F.ex;refine ⟨len,λA outer s H args us vs Q E hr hh e0 hb r hsp=> ?_⟩;have stay:∀b o,base.get? b=some o->s.heap.get? b=some o:=λb o e=>(e0.bs b o e).1;have kin:=e0.mod.kin.keeps stay;have nl:=e0.mod.nolimit.keeps stay;have hl:vs.length=ps.length:=len _ _ _ _ hsp
 have kinds:∀y∈ps.zip us,(A0i st).names.lookup y.1=some .local\/((A0i st).names.lookup y.1=some .cell/\((cellsFrom (s.heap.objs.size+1) (A0i st).names []).lookup y.1).isSome=true):=by
  rintro ⟨n,v⟩ hy;exact (S.par n (List.of_mem_zip hy).1).imp id λq=>⟨q,PySem.W.cellsFrom_some _ _ _ (.inl q)⟩
 refine codeAny_call_function (B2a.depth hr) (kin _ _ lk) rfl S.co S.gen rfl
  (PySem.W.codeRec_of kin hcd) (hb _ _ _ _ (wpAny_newFunctionEnv_cells S.kind kinds λenv he s1 x=> ?_))
 cases he
 refine ⟨nl.keeps x.toInCall.keep,codeAny_func ?_⟩;obtain ⟨t,ht,hq⟩:=hbody cdv A outer s H vs Q E (hr.deeper _) hh hsp;have ht:=PSs.nox ht;have I:=C4l (CX:=CX0) (E:=E) S e0 hl r x;refine Z10 (ht [] s1 (B2v N vs) H _ I hq) (λfl s' hs=> ?_) λe s' hs=>hs
 cases fl with
 | ret u =>
  obtain ⟨v,σ',H',J,rv,q⟩:=hs;exact ⟨v,H',J.os,J.bare,J.base,J.hok,rv,q⟩
 | next =>
  obtain ⟨σ',H',J,q⟩:=hs;exact ⟨.non,H',J.os,J.bare,J.base,J.hok,rfl,q⟩
 | brk =>
  obtain ⟨_,_,_,q⟩:=hs;exact False.elim q
 | cont =>
  obtain ⟨_,_,_,q⟩:=hs;exact False.elim q
end
section
variable {X:Cx} {CX:CXT} {k:Nat} {f ea:Addr} {fd:FuncData} {ps:List Str} {sp:Sp} {dvs:List V} {ds:List Value} {E:XK} {x:Str} {p pos:Pos} {e:Expr} {es:List Expr} {t:TA}
theorem B3b (F:C8x ea X.prog X.w X.K X.mg X.base CX k f fd ps sp) (hr:B2a k X.A) (hh:B2f ea X.A) (hg:Gl X x) (hm:X.mg x=some (.ref f)) (hk:keepIn X.K (.ref f)=true) (hb:A8w X.K fd ps ds) (hd:A2t dvs ds) (hx:A9c CX X E)
  (ha:PA X (e::es) t) (hdb:(x == ("__debug__":Str))=false:=by decide) (he:starEach (e::es) X.env=(false,eval e X.env)::starEach es X.env:=by rfl) (hpl:(backTo pos (starEach es X.env)).any (·.1)=false:=by rfl) :
  PE X (.Call (.Name x p) (e::es) [] pos) (D6e sp dvs E t):=by
 intro pins s σ H Q I h;refine wpAny_Call_Name_kw (A5w I hg hm ?_ hdb);refine PySem.W.callWith_K (h₀:=X.base) I.ok.mod.kin hk (thn (ha pos pins s σ H _ I h) λus s1 ⟨vs,H1,I1,r,q⟩=>⟨I1.kIn,?_⟩) he hpl;have r2:=r.append hd;have hl:(us++ds).length=ps.length:=by rw [<-r2.length];exact F.len _ _ _ _ q
 refine wpAny_call (codeAny_mono (F.run X.A X.stack s1 H1 ⟨us,[]⟩ (us++ds) (vs++dvs) Q E hr hh I1.env0 (hb s1 us I1.kIn hl) r2 q) λr s' hq=> ?_);rcases r with e | fl
 ·exact hx pins σ H1 s1 e s' I1 hq
 ·cases fl with
  | ret u=>exact I1.after hq
  | _=>exact False.elim hq
end
section
variable {X:Cx} {C C':Addr} {y n:Str} {yp hpos:Pos} {b₀:Stmt} {suite:List Stmt} {rest:List ExceptHandler} {i:Nat}
def E0c (i:Nat) (C:Addr) (ts:Addr->TS):Option Addr->Addr->TS:=λod ea D σ H=>ts ea { nx:=λσ' H'=>D.nx (σ'.set i none) H',rt:=D.rt,bk:=λσ' H'=>D.bk (σ'.set i none) H',ct:=λσ' H'=>D.ct (σ'.set i none) H' } (σ.set i (some (.ref ea))) (upd H ea (.ext (xcG ea C od)))
theorem C2w {ts:Addr->TS} (hg:Gl X y) (hm:X.mg y=some (.ref C')) (q:exmOne X.K (.ref C) (.ref C')=some true) (hN:X.N.Nodup) (hi:X.N[i]? =some n) (hx:X.env.scope.names.lookup n=some .local)
  (hs:∀ea,PSs (X.held ea) (b₀::suite) (ts ea)) (hd:(y == ("__debug__":Str))=false:=by decide) :
  PHD X (.ExceptHandler (some (.Name y yp)) (some n) (b₀::suite) hpos::rest) C (E0c i C ts):=by
 intro pins σ H B ea a0 od s D F h;refine wpAny_handleBy_cons (codeAny_handlers_test ?_) (by intro q;cases q);refine A5w (X:=X.held ea) (F.inv.held ea) hg hm ?_ hd;refine (C8n F.inv.kIn F.cls q).here (codeAny_handlers_suite_as ?_);refine B2l F.fl λh' fl' up kd=> ?_;have F':=(F.go h' fl'.1 up (C7x (s:={ s with heap:=h' }) fl' (F.d.kd kd))).2;refine A8t (X:=X.held ea) (v:= .ref ea) (F'.held ea) hN hi (.inl hx) rfl (λs2 I2=> ?_) (.inr hx)
 refine Z10 (hs ea pins s2 _ _ _ I2 h) (λf s3 hf=> ?_) λ_ _ z=>False.elim z;dsimp only
 cases f with
 | next =>
  obtain ⟨σ',H',I',r⟩:=hf;exact A4s (I'.unheld F.inv.ok) hN hi hx λs4 I4=>⟨_,H',I4,r⟩
 | brk =>
  obtain ⟨σ',H',I',r⟩:=hf;exact A4s (I'.unheld F.inv.ok) hN hi hx λs4 I4=>⟨_,H',I4,r⟩
 | cont =>
  obtain ⟨σ',H',I',r⟩:=hf;exact A4s (I'.unheld F.inv.ok) hN hi hx λs4 I4=>⟨_,H',I4,r⟩
 | ret u =>
  obtain ⟨v,σ',H',I',rv,r⟩:=hf;exact A4s (I'.unheld F.inv.ok) hN hi hx λs4 I4=>⟨v,_,H',I4,rv,r⟩
end
theorem B7n {y:Str} (h:PyData.strOk y=true):(reprText y).length<=10*y.length+2:=by
 refine StrLaws.reprText_len y λc hc=> ?_;have h2:∀(i:Nat) (x:i<y.cps.size),y.cps[i]<1114112:=by simpa [PyData.strOk] using h
 obtain ⟨i,hi,e⟩:=List.mem_iff_getElem.mp hc;have:=h2 i (by simpa using hi);rw [<-e];exact Z0q (by simpa using this) (by decide)
def D8g (te:TE) (tr:TJ):TJ:=λσ H out Q=>te σ H λx H1=>∃y:Str,x= .str y/\PyData.strOk y=true/\out.length+10*y.length+2<=sizeLine/\∀z:Str,z.length<=10*y.length+2->tr σ H1 (out++z) Q
def B1o (ys:List Str):Nat:=(ys.map λy=>10*y.length+4).sum+3
def D3l (te:TE) (tr:TJ):TJ:=λσ H out Q=>te σ H λx H1=>∃(a:Addr) (ys:List Str),x= .ref a/\H1 a=some (.lst (ys.map V.str))/\ys≠[]/\(∀y∈ys,PyData.strOk y=true)/\out.length+B1o ys<=sizeLine/\∀z:Str,z.length<=B1o ys->tr σ H1 (out++z) Q
section
variable {X:Cx} {e:Expr} {es:List Expr} {te:TE} {tr:TJ} {pos p2:Pos}
theorem A4y (he:PE X e te) (hr:PJ X es tr) (hs:evalEach (.FormattedValue e 114 none pos::es) X.env=eval (.FormattedValue e 114 none pos) X.env::evalEach es X.env:=by rfl):PJ X (.FormattedValue e 114 none pos::es) (D8g te tr):=by
 intro pins s σ H out Q I h;rw [hs];refine joinParts_cons (wpAny_FormattedValue_repr (thn (he pins s σ H _ I h) ?_));rintro v s1 ⟨x,H1,I1,rx,y,ex,oky,hz,q⟩;subst ex;obtain ⟨t,rfl⟩:=(show∃t,v=Value.str y t from rx);have hl:=B7n oky;refine pyReprObj_str ?_ (by lia);refine formatField_str (λt' tk=>⟨?_,hr pins _ σ H1 _ Q ((I1.tok _).tok tk) (q _ hl)⟩) (by lia);rw [strLen_append];lia
theorem C2n:∀{ys:List Str},(∀y∈ys,PyData.strOk y=true)->((ys.map reprText).map (·.length)).sum+2*(ys.map reprText).length<=(ys.map λy=>10*y.length+4).sum
 | [],_=>by simp
 | y::r,h=>by
  have h1:=B7n (h y (.head _));have h2:=C2n (ys:=r) λz hz=>h z (.tail _ hz);simp only [Z0p,List.sum_cons,Z0y] at h2⊢
  lia
theorem D2q {y:Str}:∀{ys:List Str},y∈ys->10*y.length+4<=(ys.map λy=>10*y.length+4).sum
 | _::r,.head _=>by simp only [Z0p,List.sum_cons];lia
 | z::r,.tail _ h=>by
  have:=D2q h;simp only [Z0p,List.sum_cons];lia
theorem C8z (hg:X.A.guards=some []) (hu:X.A.units<cLine) (he:PE X e te) (hr:PJ X es tr) (hs:evalEach (.FormattedValue e 114 none pos::es) X.env=eval (.FormattedValue e 114 none pos) X.env::evalEach es X.env:=by rfl):PJ X (.FormattedValue e 114 none pos::es) (D3l te tr):=by
 intro pins s σ H out Q I h;rw [hs];refine joinParts_cons (wpAny_FormattedValue_repr (thn (he pins s σ H _ I h) ?_));rintro v s1 ⟨x,H1,I1,rx,a,ys,ex,ha,ne,ok,hz,q⟩;subst ex;cases rx;obtain ⟨z,its,n,r,hl,eo⟩:=I1.lstM ha;have lt:=Z1n (listText_len_le (ys.map reprText)) (Nat.add_le_add_right (C2n ok) 3);have lt:(listText (ys.map reprText)).length<=B1o ys:=lt
 cases its with
 | nil =>
  rw [Z08] at hl;exact absurd (List.eq_nil_of_length_eq_zero hl) ne
 | cons u us =>
  refine wpAny_pyReprObj_list (x:=u) (l:=us) (ts:=ys.map reprText) ⟨_,eo,rfl⟩ hg (λv rest kw hm=>by cases hm) hu eo rfl ?_ (λi y hi=> ?_) (λh' t tk hk=> ?_) (by lia)
  ·rw [Z08,Z0g,<-hl,Z08]
  ·have hi:(u::us)[i]? =some y:=by simpa using hi
   have hil:i<ys.length:=by
    have h1:=(Z03.mp hi).1;rw [<-hl,Z08] at h1;exact h1
   have hy0:ys[i]? =some ys[i]:=Z0b hil;generalize ys[i]=y0 at hy0;obtain ⟨w,hw,rw'⟩:=r.get (i:=i) (x:=V.str y0) (by rw [Z1z,hy0];rfl);rw [hi] at hw;cases hw;obtain ⟨t,rfl⟩:=(show∃t,y=Value.str y0 t from rw');have hm:=Z13 hy0;have h1:=B7n (ok y0 hm);have h2:=D2q hm;exact ⟨reprText y0,by rw [Z1z,hy0];rfl,ReprIs.str y0 t (by unfold B1o at hz;lia)⟩
  ·have I2:Inv X pins σ H1 { s1 with heap:=h',toks:=tk }:=I1.kept λb o e=>hk b o e
   refine formatField_str (λt' tk'=>⟨?_,hr pins _ σ H1 _ Q (I2.tok tk') (q _ lt)⟩) (by lia);rw [strLen_append];lia
end
abbrev C2z:= @C1h false true
abbrev D0n:= @C1h false false
abbrev D4d:=C1u false false
abbrev B6r:= @B4k false false
abbrev C6c {K:Frag} {a b:Addr} {xs ys:List V} {g:TG} {tb:TS} {D:B5v} {σ:St} {H:Hp} (Pv:Nat->St->Hp->Prop) (h0:Pv 0 σ H) (hl:∀i σ H,Pv i σ H->SqT K H a xs/\SqL K H b ys) (hlen:xs.length=ys.length):=B6g (k1:=false) (k2:=true) (g:=g) (tb:=tb) (D:=D) Pv h0 hl (Nat.le_of_eq hlen)
section
variable {X:Cx} {tg:Expr}
theorem D6g {ok:Around->Prop} {iter:Expr} {body:List Stmt} {wi:TI} {g:TG} {tb:TS} {pos:Pos} (hp:PassesOwn (model X.prog X.w) X.A X.env X.xe) (hc:ok X.A) (hi:PIP ok X tg iter wi) (hg:PG X tg g) (hb:PSs X body tb)
  (hs:∀x,foldedSetIterable iter X.env x=pure x:=by intro _;rfl):PS X (.For tg iter body [] pos) (E3b wi g tb):=by
 intro pins s σ H D I h;refine wpAny_For (thn (hi pins s σ H _ I h) λv s1 h1=>thn h1 λitv s2 h2=> ?_) hs;obtain ⟨it,fp,tn,J,H2,e,I2,T,st2,f2,W,⟨m0,w0⟩,turn⟩:=h2;subst e;have stat:∀{H':Hp},(∀b∈fp,H' b=none)->∀b∈fp,B4x X pins H' b:=λhn b hb=>⟨hn b hb,(f2 b hb).2⟩;refine codeAny_forLoop_any (λn s'=>∃i σ' H',Inv X pins σ' H' s'/\tn i s'.heap/\(∀b∈fp,H' b=none)/\W i n σ' H') ?_ m0 ⟨0,σ,H2,I2,st2,λb hb=>(f2 b hb).1,w0⟩;rintro n s3 ⟨i,σ3,H3,I3,st3,fr3,w3⟩;rcases turn i n σ3 H3 w3 with ⟨stop,qn⟩ | ⟨go,N,hN,step⟩
 ·refine wpAny_passesOwn hp (thn (T.done X rfl rfl rfl hc i pins s3 σ3 H3 X.xe I3 (stat fr3) st3 stop) ?_);rintro r s4 ⟨hr,I4⟩;subst hr;exact Z2b ⟨σ3,H3,I4,qn⟩
 ·refine wpAny_passesOwn hp (thn (T.item X rfl rfl rfl hc i pins s3 σ3 H3 X.xe I3 (stat fr3) st3 go) ?_);rintro r s4 ⟨u,hr,h4⟩;subst hr;refine wpAny_passesOwn hp (thn h4 ?_);rintro _ s5 ⟨x,H5,I5,r5,y5,st5,fr5⟩;have I5':=I5.pinned (stat fr5) (T.obj _ _ st5);refine wpAny_passesOwn hp (thn (hg _ s5 σ3 H5 x u _ I5' r5 (step x H5 y5)) ?_);rintro _ s6 ⟨σ6,H6,I6,q6⟩;refine wpAny_passesOwn hp (thn (hb _ s6 σ6 H6 _ I6 q6) λf s7 q7=> ?_)
  have again:∀{σ7:St} {H7:Hp},Inv X (pins++B3u fp s5.heap) σ7 H7 s7->N σ7 H7->∃m,m<n/\∃i σ' H',Inv X pins σ' H' s7/\tn i s7.heap/\(∀b∈fp,H' b=none)/\W i m σ' H':=λ{σ7 H7} I7 n7=>by
   obtain ⟨m',hm,w7⟩:=hN σ7 H7 n7;refine ⟨m',hm,i+1,σ7,H7,I7.unpinned,T.keep _ _ _ st5 λb hb o e=>(I7.pin (b,o) (Z02 _ (Z02 _ (A3x hb e)))).1,λb hb=> ?_,w7⟩;obtain ⟨o,e,d⟩:=T.obj _ _ st5 b hb;exact (I7.pin (b,o) (Z02 _ (Z02 _ (A3x hb e)))).2.1
  cases f with
  | next=>obtain ⟨σ7,H7,I7,n7⟩:=q7;exact again I7 n7
  | cont=>obtain ⟨σ7,H7,I7,n7⟩:=q7;exact again I7 n7
  | brk=>obtain ⟨σ7,H7,I7,q7⟩:=q7;exact ⟨σ7,H7,I7.unpinned,q7⟩
  | ret v=>obtain ⟨x7,σ7,H7,I7,r7,q7⟩:=q7;exact ⟨x7,σ7,H7,I7.unpinned,r7,q7⟩
end
def D2g (h:Addr) (g:Heap):Prop:=∃oh vs,g.get? h=some oh/\oh.data= .fields vs/\vs[2]? =some .none
theorem D2g.at {h:Addr} {g g':Heap} (k:D2g h g) (f:∀o,g.get? h=some o->g'.get? h=some o):D2g h g':=let ⟨oh,vs,e,d,z⟩:=k;⟨oh,vs,f _ e,d,z⟩
section
variable {prog:Program} {w:World} {A:Around} {E:Value->Shared->Prop} {s:Shared}
theorem A6k {h:Addr} {it l:Addr} {k:Nat} {xs:Array Value} {Q:Value->Shared->Prop} (hh:A.handled=some (.ref h)) (hk:D2g h s.heap) (hit:h≠it) (hi:s.heap.IsTupleIter it l k) (hl:s.heap.IsTuple l xs) (hx:xs[k]? =none)
  (hE:∀h' e,Heap.ExtBut it s.heap h'->(∃o,h'.get? e=some o/\o.cls= .type "StopIteration")->E (.ref e) { s with heap:=h' }):wpAny (model prog w) A (Builtin.SmallTypes.nextOf (.ref it)) Q E s:=by
 obtain ⟨o,ho,hc,hd⟩:=id hi;obtain ⟨ol,hol,_,nl,hdl⟩:=hl;unfold Builtin.SmallTypes.nextOf;refine Z00 (Z1b (name:=Str.ofString "__next__") hi.typeIs F.slot_tuple_iterator_next (Z1g F.slot_tuple_iterator_next hi.typeIs F.entry_tuple_iterator_next ?_ (F.args_tuple_iterator_next_1 _)));show wpAny _ _ (field (.ref it) 0 >>= _) _ _ s;refine Z00 (Z11 ho hd (x:= .ref l) rfl ?_);show wpAny _ _ (if (Value.ref l == Value.none)=true then _ else _) _ _ s;rw [Z0t (show¬((Value.ref l == Value.none)=true) from Z0v)];show wpAny _ _ (field (.ref it) 1 >>= _) _ _ s;refine Z00 (Z11 ho hd (x:= .int k 0) rfl ?_);show wpAny _ _ (seqItems? (.ref l) >>= _) _ _ s;refine Z00 (Z21 hol hdl ?_);simp only [Int.toNat_natCast,hx];refine Z00 (wpAny_rule (Z00 (Z1t ho hd (by simp) ?_)));show wpAny _ _ (newExc (.type "StopIteration") [] >>= _) _ _ _;refine Z00 ?_;simp only [newExc,newTuple];refine Z00 (Z16 ?_ (by size_fits));refine Z00 (m:=firstArgMember _ _) (wpAny_of_eq (a:=Value.none) (by first | rfl | (simp only [firstArgMember];rfl)) ?_);refine Z16 ?_ (by size_fits);obtain ⟨oh,vs,eh,dh,z2⟩:=hk;have lt:h<s.heap.objs.size:=Z0a eh;have eh':=(Heap.SameBut.update (a:=it) (h:=s.heap) (Obj.mapFields (·.setIfInBounds 0 .none))).extBut h oh hit eh;refine B0u (h:=h) hh ?_ (Z01 _ (Z01 _ eh')) dh z2 (Z0c _ rfl) rfl (by simp;lia) ?_
 ·exact Z0h (by rw [Z1s];exact Nat.lt_succ_of_lt (Z0a eh'))
 refine hE _ _ (λb o nb eb=> ?_) ⟨_,Z1r _ (Z0c _ rfl) rfl,rfl⟩;have eb':=(Heap.SameBut.update (a:=it) (h:=s.heap) (Obj.mapFields (·.setIfInBounds 0 .none))).extBut b o nb eb;exact (Z1d _ _ (Z1q (by rw [Z1s];exact Nat.lt_succ_of_lt (Z0a eb')))).trans (Z01 _ (Z01 _ eb'))
end
section
variable {z TI TO i1 i2 l1 l2:Addr} {prog:Program} {w:World} {A:Around} {E:Value->Shared->Prop} {s:Shared}
theorem C6u {h:Addr} {k1 k2:Nat} {xs ys:Array Value} {a b:Value} {Q:Option Value->Shared->Prop} (hh:A.handled=some (.ref h)) (hk:D2g h s.heap) (nz:h≠z) (nO:h≠TO) (n1:h≠i1) (n2:h≠i2) (D:ZipApart z TI TO i1 i2 l1 l2)
  (hz:IsZip s.heap z TI TO .none) (hTI:IsPair s.heap TI (.ref i1) (.ref i2)) (hTO:IsPair s.heap TO a b) (h1:s.heap.IsTupleIter i1 l1 k1) (h2:s.heap.IsTupleIter i2 l2 k2) (hl1:s.heap.IsTuple l1 xs) (hl2:s.heap.IsTuple l2 ys) (hend:xs[k1]? =none\/ys[k2]? =none)
  (hQ:∀h',(∀c o,c≠z->c≠TO->c≠i1->c≠i2->s.heap.get? c=some o->h'.get? c=some o)->Q none { s with heap:=h' }):wpAny (model prog w) A (pyNext (.ref z)) Q E s:=by
 have hT:s.TypeIs (.ref z) "zip":=⟨_,hz,rfl⟩;have N1:=A2b i1 l1;have N2:=A2b i2 l2;unfold pyNext
 have fin:∀(h':Heap) (e:Addr),(∀c o,c≠z->c≠TO->c≠i1->c≠i2->s.heap.get? c=some o->h'.get? c=some o)->(∃o,h'.get? e=some o/\o.cls= .type "StopIteration")->
   wpAny (model prog w) A (isInstance (.ref e) (.type "StopIteration") >>= λb=>if b=true then pure none else throw (.ref e)) Q E { s with heap:=h' }:=λh' e hk ⟨o,ho,hc⟩ =>
  Z00 (wpAny_isInstance (T:="StopIteration") (b:=true) ⟨o,ho,hc⟩ isSubtype_stop (Z04 (hQ _ hk)))
 refine Z00 (wpAny_attempt (Z1b (name:=Str.ofString "__next__") hT F.slot_zip_next (Z1g F.slot_zip_next hT F.entry_zip_next ?_ (F.args_zip_next_1 _))));show wpAny _ _ (field (.ref z) 2 >>= _) _ _ _;refine Z00 (Z11 hz rfl (x:= .bool false) rfl ?_);show wpAny _ _ (field (.ref z) 3 >>= _) _ _ _;refine Z00 (Z11 hz rfl (x:= .ref TI) rfl ?_);refine Z00 (Z21 hTI rfl ?_);show wpAny _ _ (Builtin.SmallTypes.ownedTupleIsFree (.ref z) >>= _) _ _ _;refine Z00 ?_;unfold Builtin.SmallTypes.ownedTupleIsFree;refine Z00 (Z11 hz rfl (x:= .none) rfl (Z04 ?_));simp only [if_true];refine Z00 (wpAny_rule ?_);refine Z00 (Z11 hz rfl (x:= .ref TO) rfl ?_);refine Z00 (Z1h hz (by simp) λg1 z1 b1=> ?_)
 replace z1:IsZip g1 z TI TO .ellipsis:=z1
 refine Z00 ?_;simp only [List.zipIdx_cons,List.zipIdx_nil,List.forIn_cons,List.forIn_nil];refine Z00 (Z00 (wpAny_onRaise ?_));show wpAny _ _ (Builtin.SmallTypes.nextOf (.ref i1) >>= _) _ _ _;have u1:=N1.mv h1 λo e=>b1.extBut _ _ D.i1z e;have v1:=N1.mvS hl1 λo e=>b1.extBut _ _ D.l1z e
 cases hx:xs[k1]? with
 | none =>
  refine Z00 (A6k hh (hk.at λo e=>b1.extBut _ _ nz e) n1 u1 v1 hx λg2 e b2 he=> ?_);obtain ⟨oe,hoe,hce⟩:=he;have z2:IsZip g2 z TI TO .ellipsis:=b2 _ _ D.i1z.symm z1;have ez:e≠z:=λx=>by subst x;rw [z2] at hoe;cases hoe;simp at hce
  exact Z1h z2 (by simp) λg3 _ b3=>fin g3 e (λc o c1 _ c3 _ x=>b3.extBut _ _ c1 (b2 _ _ c3 (b1.extBut _ _ c1 x))) ⟨oe,b3.extBut _ _ ez hoe,hce⟩
 | some x =>
  have hy:ys[k2]? =none:=by
   rcases hend with h | h
   ·rw [hx] at h;cases h
   ·exact h
  refine Z00 (N1.item u1 v1 hx λg2 t2 b2=>Z04 ?_);have p2:IsPair g2 TO a b:=b2.extBut _ _ D.TOi1 (b1.extBut _ _ D.TOz hTO);refine Z00 (Z21 p2 rfl ?_);refine Z00 (wpAny_updateSeq_pair p2 λg3 p3 b3=> ?_);refine Z00 (wpAny_letGo (Z04 ?_));refine Z00 (Z00 (wpAny_onRaise ?_));show wpAny _ _ (Builtin.SmallTypes.nextOf (.ref i2) >>= _) _ _ _;refine Z00 (A6k hh (hk.at λo e=>b3.extBut _ _ nO (b2.extBut _ _ n1 (b1.extBut _ _ nz e))) n2 (N2.mv h2 λo e=>b3.extBut _ _ D.TOi2.symm (b2.extBut _ _ D.i12.symm (b1.extBut _ _ D.i2z e))) (N2.mvS hl2 λo e=>b3.extBut _ _ D.l2TO (b2.extBut _ _ D.l2i1 (b1.extBut _ _ D.l2z e))) hy λg4 e b4 he=> ?_);obtain ⟨oe,hoe,hce⟩:=he;have z4:IsZip g4 z TI TO .ellipsis:=b4 _ _ D.i2z.symm (b3.extBut _ _ D.TOz.symm (b2.extBut _ _ D.i1z.symm z1));have ez:e≠z:=λx=>by subst x;rw [z4] at hoe;cases hoe;simp at hce
  exact Z1h z4 (by simp) λg5 _ b5=>fin g5 e (λc o c1 c2 c3 c4 x=>b5.extBut _ _ c1 (b4 _ _ c4 (b3.extBut _ _ c2 (b2.extBut _ _ c3 (b1.extBut _ _ c1 x))))) ⟨oe,b5.extBut _ _ ez hoe,hce⟩
end
def B7v (ea:Addr) (K:Frag) (a b:Addr):It :=
 ⟨λi H=>∃xs ys x y,SqT K H a xs/\SqT K H b ys/\xs[i]? =some x/\ys[i]? =some y,
  λi H v H'=>∃p,H p=none/\v= .ref p/\∃x y,(∀xs,SqT K H a xs->xs[i]? =some x)/\(∀ys,SqT K H b ys->ys[i]? =some y)/\H'=upd H p (.tup [x,y]),
  λi H=>∃xs ys,SqT K H a xs/\SqT K H b ys/\(xs.length<=i\/ys.length<=i)/\∃C od,H ea=some (.ext (xcG ea C od))⟩
theorem C0n {ea:Addr} {P:Program} {w:World} {K:Frag} {elts:List Expr} {kk:Nat} {pos:Pos} {z TI TO i1 i2 a b:Addr} (D:ZipApart z TI TO i1 i2 a b) :
  D7n (B2f ea) P w K (.Tuple elts kk pos) (B7v ea K a b) [z,TI,TO,i1,i2] z (D4d z TI TO i1 i2 a b) where
 mem:=by simp
 obj:=λi h st c hc=>by
  obtain ⟨h1,h2,⟨u,v,h3⟩,h4,h5⟩:=st;simp only [Z0e,Z1i,or_false] at hc;rcases hc with rfl | rfl | rfl | rfl | rfl
  ·exact ⟨_,h1,λv z=>by cases (show Data.fields _=Data.cell v from z)⟩
  ·exact ⟨_,h2,λv z=>by cases (show Data.seq _ _=Data.cell v from z)⟩
  ·exact ⟨_,h3,λv z=>by cases (show Data.seq _ _=Data.cell v from z)⟩
  ·exact (A2b _ a).ob h4
  ·exact (A2b _ b).ob h5
 keep:=λi h h' st k=>by
  obtain ⟨h1,h2,⟨u,v,h3⟩,h4,h5⟩:=st;exact ⟨k z (by simp) _ h1,k TI (by simp) _ h2,⟨u,v,k TO (by simp) _ h3⟩,(A2b i1 a).mv h4 λo e=>k i1 (by simp) o e,(A2b i2 b).mv h5 λo e=>k i2 (by simp) o e⟩
 item:=by
  intro X hP hw hK hc i pins s σ H E I hf st hg;subst hP hw hK;obtain ⟨xs,ys,x,y,hq1,hq2,hx,hy⟩:=hg;obtain ⟨its,rv,p1,_⟩:=I.tuple hq1;obtain ⟨its2,rv2,p2,_⟩:=I.tuple hq2;obtain ⟨u,hu,ru⟩:=rv.get hx;obtain ⟨u2,hu2,ru2⟩:=rv2.get hy;obtain ⟨h1,h2,⟨o1,o2,h3⟩,h4,h5⟩:=st;refine B7b (A2b i1 a) (A2b i2 b) D h1 h2 h3 h4 h5 (show s.heap.IsTuple a its.toArray from p1) (show s.heap.IsTuple b its2.toArray from p2) (x:=u) (by simpa using hu) (y:=u2) (by simpa using hu2) λh' z1 z2 z3 z4 z5 kp=> ?_;refine ⟨_,rfl,wpAny_letOwnedTupleGo_zip (s:={ s with heap:=h' }) z1 λg zg sb=> ?_⟩
  have nz:s.heap.objs.size≠z:=Z1q (Z0a h1);have n2:TI<s.heap.objs.size:=Z0a h2;have n3:TO<s.heap.objs.size:=Z0a h3;have n4:i1<s.heap.objs.size:=let ⟨_,e,_⟩:=(A2b i1 a).ob h4;Z0a e;have n5:i2<s.heap.objs.size:=let ⟨_,e,_⟩:=(A2b i2 b).ob h5;Z0a e;have zq:IsPair g s.heap.objs.size u u2:=sb.extBut _ _ nz z5
  have I1:Inv X pins σ (upd H s.heap.objs.size (.tup [x,y])) { s with heap:=g,toks:=s.toks }:=I.turnedNew (ts:=[z,TI,TO,i1,i2]) (λc o hc e=>by
   simp only [Z0e,Z1i,or_false,not_or] at hc
   exact sb.extBut _ _ hc.1 (kp c o hc.1 hc.2.2.1 hc.2.2.2.1 hc.2.2.2.2 e)) hf (Z09 _) ⟨by show 2<=sizeLine;decide,[u,u2],.cons ru (.cons ru2 .nil),⟨_,zq,rfl,_,rfl⟩⟩
  refine ⟨.ref s.heap.objs.size,_,I1,rfl,⟨_,I.hok.fresh (Z09 _),rfl,x,y,λzs hz=>by rw [I.tuple_inj hz hq1];exact hx,λzs hz=>by rw [I.tuple_inj hz hq2];exact hy,rfl⟩,
   ⟨zg,sb.extBut _ _ D.TIz (kp _ _ D.TIz D.TITO D.TIi1 D.TIi2 h2),⟨_,_,sb.extBut _ _ D.TOz z2⟩,(A2b i1 a).mv z3 λo e=>sb.extBut _ _ D.i1z e,(A2b i2 b).mv z4 λo e=>sb.extBut _ _ D.i2z e⟩,λc hc=> ?_⟩
  have hcn:c≠s.heap.objs.size:=by
   simp only [Z0e,Z1i,or_false] at hc;rcases hc with rfl | rfl | rfl | rfl | rfl
   ·exact nz.symm
   ·exact Z0h n2
   ·exact Z0h n3
   ·exact Z0h n4
   ·exact Z0h n5
  rw [A0j hcn];exact (hf c hc).1
 done:=by
  intro X hP hw hK hc i pins s σ H E I hf st hg;subst hP hw hK;obtain ⟨xs,ys,hq1,hq2,hx,C,od,he⟩:=hg;obtain ⟨⟨oe,vs,hoe,_,_,hv,hv2⟩,_,_⟩:=(show A2a X.prog X.w H s.heap ea (.ext (xcG ea C od)) from I.hok ea _ he);have nf:∀c∈[z,TI,TO,i1,i2],ea≠c:=λc hc y=>by subst y;rw [(hf _ hc).1] at he;cases he
  obtain ⟨its,rv,p1,_⟩:=I.tuple hq1;obtain ⟨its2,rv2,p2,_⟩:=I.tuple hq2;have e1:=rv.length;have e2:=rv2.length;obtain ⟨h1,h2,⟨o1,o2,h3⟩,h4,h5⟩:=st;refine C6u hc ⟨oe,vs,hoe,hv,hv2⟩ (nf z (by simp)) (nf TO (by simp)) (nf i1 (by simp)) (nf i2 (by simp)) D h1 h2 h3 h4 h5 (show s.heap.IsTuple a its.toArray from p1) (show s.heap.IsTuple b its2.toArray from p2) (by simp;lia) λh' kp=>⟨rfl,?_⟩
  exact I.turnedL (t':=s.toks) (ts:=[z,TI,TO,i1,i2]) (λc o hc e=>by
   simp only [Z0e,Z1i,or_false,not_or] at hc
   exact kp c o hc.1 hc.2.2.1 hc.2.2.2.1 hc.2.2.2.2 e) hf
 self:=λ_ _ _ _ _ st h=>wpAny_pyIter_zip st.1 h
def D4b (ea:Addr) (K:Frag) (ta:TA):TI:=λσ H R=>ta σ H λvs H1=>∃a b xs ys,vs=[.ref a,.ref b]/\SqT K H1 a xs/\SqT K H1 b ys/\R (B7v ea K a b) H1
theorem C8f {ea:Addr} {X:Cx} {elts:List Expr} {kk:Nat} {tpos:Pos} {a b:Expr} {ta:TA} {p pos:Pos} (hg:Gl X "zip") (hm:X.mg "zip"=none) (ha:PA X [a,b] ta) (hs:starEach [a,b] X.env=[(false,eval a X.env),(false,eval b X.env)]:=by rfl) (hs2:starEach [b] X.env=[(false,eval b X.env)]:=by rfl) :
  PIP (B2f ea) X (.Tuple elts kk tpos) (.Call (.Name "zip" p) [a,b] [] pos) (D4b ea X.K ta):=by
 intro pins s σ H R I h;refine Call_ (A9b I hg hm boot_zip (PyProof.Rows.callWith_type1 (thn (ha pos pins s σ H _ I h) ?_) (by rw [hs,hs2]) (by rw [hs2];rfl)));rintro us s1 ⟨vs,H1,I1,r1,q1⟩;obtain ⟨l1,l2,xs,ys,e,hq1,hq2,q⟩:=q1;subst e;obtain ⟨u,u2,rfl,ru,ru2⟩:=C0e r1;cases ru;cases ru2;obtain ⟨its,rv,p1,_⟩:=I1.tuple hq1;obtain ⟨its2,rv2,p2,_⟩:=I1.tuple hq2;have t1:l1<s1.heap.objs.size:=p1.lt;have t2:l2<s1.heap.objs.size:=p2.lt;refine B6r (show s1.heap.IsTuple l1 its.toArray from p1) (show s1.heap.IsTuple l2 its2.toArray from p2) λh' zs kp=>wpAny_pyIter_zip zs.1 ?_;have I2:Inv X pins σ H1 { s1 with heap:=h' }:=I1.kept (t':=s1.toks) kp;refine ⟨_,[s1.heap.objs.size+4,s1.heap.objs.size+2,s1.heap.objs.size+3,s1.heap.objs.size,s1.heap.objs.size+1],_,_,H1,rfl,I2,C0n (zipApart_new t1 t2),zs,λc hc=> ?_,q⟩
 have hle:s1.heap.objs.size<=c:=by
  simp only [Z0e,Z1i,or_false] at hc;rcases hc with rfl | rfl | rfl | rfl | rfl
  ·exact Nat.le_add_right _ _
  ·exact Nat.le_add_right _ _
  ·exact Nat.le_add_right _ _
  ·exact Z09 _
  ·exact Nat.le_add_right _ _
 exact I1.fpOk hle (I1.hok.fresh hle)
theorem C4m {ea:Addr} {K:Frag} {a b:Addr} {xs ys:List V} {g:TG} {tb:TS} {D:B5v} {σ:St} {H:Hp} (Pv:Nat->St->Hp->Prop) (h0:Pv 0 σ H) (hl:∀i σ H,Pv i σ H->SqT K H a xs/\SqT K H b ys/\∃C od,H ea=some (.ext (xcG ea C od))) (hlen:xs.length=ys.length)
  (hs:∀i x y σ H p,xs[i]? =some x->ys[i]? =some y->Pv i σ H->H p=none->g (.ref p) σ (upd H p (.tup [x,y])) λσ2 H2=>tb { D with nx:=Pv (i+1),ct:=Pv (i+1),bk:=D.nx } σ2 H2) (hd:∀σ H,Pv xs.length σ H->D.nx σ H) :
  ∃W:Nat->Nat->St->Hp->Prop,(∃m,W 0 m σ H)/\∀i m σ H,W i m σ H->
   ((B7v ea K a b).stop i H/\D.nx σ H)\/((B7v ea K a b).go i H/\∃N:St->Hp->Prop,(∀σ' H',N σ' H'->∃m',m'<m/\W (i+1) m' σ' H')/\∀x H',(B7v ea K a b).yld i H x H'->g x σ H' λσ2 H2=>tb { D with nx:=N,ct:=N,bk:=D.nx } σ2 H2):=by
 refine ⟨λi m σ H=>m=xs.length-i/\i<=xs.length/\Pv i σ H,⟨xs.length,by simp,Z1e _,h0⟩,?_⟩;rintro i m σ H ⟨rfl,hi,p⟩;obtain ⟨q1,q2,q3⟩:=hl i σ H p;by_cases hlt:i<xs.length
 ·have e1:xs[i]? =some xs[i]:=Z0b hlt;have e2:ys[i]? =some (ys[i]'(by lia)):=Z0b _;refine .inr ⟨⟨xs,ys,_,_,q1,q2,e1,e2⟩,Pv (i+1),λσ' H' p'=>⟨xs.length-(i+1),by lia,rfl,hlt,p'⟩,λv H' y=> ?_⟩;obtain ⟨c,hc,rfl,x,z,f1,f2,rfl⟩:=y;exact hs i x z σ H c (f1 xs q1) (f2 ys q2) p hc
 ·have e:i=xs.length:=by lia
  subst e;exact .inl ⟨⟨xs,ys,q1,q2,.inl (Z09 _),q3⟩,hd σ H p⟩
section
variable {prog:Program} {w:World} {A:Around} {E:Value->Shared->Prop} {s:Shared}
theorem B3t {it t h:Addr} {i:Nat} {items:Array Value} {Q:Option Value->Shared->Prop} (hh:A.handled=some (.ref h)) (hk:D2g h s.heap) (hne:h≠it) (hit:IsTupIter s.heap it t i) (ht:IsTup s.heap t items) (hx:items[i]? =none)
  (hQ:∀h',Heap.ExtBut it s.heap h'->Q none { s with heap:=h' }):wpAny (model prog w) A (pyNext (.ref it)) Q E s:=by
 obtain ⟨o,ho,hc,hd⟩:=id hit;obtain ⟨ol,hol,_,nl,hdl⟩:=ht;obtain ⟨oh,vs,eh,dh,z2⟩:=hk;unfold pyNext;refine Z00 (wpAny_attempt (Z1b (name:=Str.ofString "__next__") hit.typeIs slot_tupleiter_next (Z1g slot_tupleiter_next hit.typeIs entry_tupleiter_next ?_ (args_tupleiter_next _))));show wpAny _ _ (field (.ref it) 0 >>= _) _ _ s;refine Z00 (Z11 ho hd (x:= .ref t) rfl ?_);show wpAny _ _ (if (Value.ref t == Value.none)=true then _ else _) _ _ s;rw [Z0t (show¬((Value.ref t == Value.none)=true) from Z0v)];show wpAny _ _ (field (.ref it) 1 >>= _) _ _ s;refine Z00 (Z11 ho hd (x:= .int i 0) rfl ?_);show wpAny _ _ (seqItems? (.ref t) >>= _) _ _ s;refine Z00 (Z21 hol hdl ?_);simp only [Int.toNat_natCast,hx];refine Z00 (wpAny_rule (Z00 (Z1t ho hd (by simp) ?_)));show wpAny _ _ (newExc (.type "StopIteration") [] >>= _) _ _ _;refine Z00 ?_;simp only [newExc,newTuple];refine Z00 (Z16 ?_ (by size_fits));refine Z00 (m:=firstArgMember _ _) (wpAny_of_eq (a:=Value.none) (by first | rfl | (simp only [firstArgMember];rfl)) ?_);refine Z16 ?_ (by size_fits);have eh':=(Heap.SameBut.update (a:=it) (h:=s.heap) (Obj.mapFields (·.setIfInBounds 0 .none))).extBut h oh hne eh;refine B0u (h:=h) hh ?_ (Z01 _ (Z01 _ eh')) dh z2 (Z0c _ rfl) rfl (by simp;lia) ?_
 ·exact Z0h (by rw [Z1s];exact Nat.lt_succ_of_lt (Z0a eh'))
 refine Z00 (wpAny_isInstance (T:="StopIteration") (b:=true) ⟨_,Z1r _ (Z0c _ rfl) rfl,rfl⟩ isSubtype_stop ?_);refine Z04 (hQ _ λb o nb eb=> ?_);have eb':=(Heap.SameBut.update (a:=it) (h:=s.heap) (Obj.mapFields (·.setIfInBounds 0 .none))).extBut b o nb eb;exact (Z1d _ _ (Z1q (by rw [Z1s];exact Nat.lt_succ_of_lt (Z0a eb')))).trans (Z01 _ (Z01 _ eb'))
theorem B7j {h t:Addr} {items:Array Value} {targets:List (Bool×(Value->Sem Unit))} {Q:Unit->Shared->Prop} (hh:A.handled=some (.ref h)) (hk:D2g h s.heap) (ht:IsTup s.heap t items) (hn:targets.length=items.size) (hstar:targets.findIdx? (·.1)=none)
  (hw:∀h',Heap.ExtBut s.heap.objs.size s.heap h'->wpAny (model prog w) A (assignInOrder (targets.map (·.2)) items.toList) Q E { s with heap:=h' }):wpAny (model prog w) A (unpack (.ref t) targets) Q E s:=by
 have hlt:t≠s.heap.objs.size:=by obtain ⟨o,ho,_⟩:=ht;exact Z0h (Z0a ho)
 have hlh:h≠s.heap.objs.size:=by obtain ⟨o,_,ho,_⟩:=hk;exact Z0h (Z0a ho)
 unfold unpack;rw [hn,hstar];refine Z00 (Z1w ?_);unfold unpackItems;refine Z00 ?_;unfold notIterableAtAll;refine Z00 (wpAny_specialOf ht.typeIs slot_tuple_iter.lookup ?_);refine Z04 ?_;simp only [Bool.false_eq_true,if_false];refine Z00 (Z1w (iter_tuple ht ?_));refine Z00 (Z1w (draw_tuple hlt items.size 0 _ _ ⟨_,Z0c _ rfl,rfl,rfl⟩ (ht.push _) (by lia) λh₁ hit₁ hs₁=> ?_))
 have hall:List.take items.size (List.drop 0 items.toList)=items.toList:=by
  rw [Z2r];exact Z2l (by simp)
 rw [hall];rw [Z0t (by simp)];have ht₁:IsTup h₁ t items:=(ht.push _).extBut hs₁.extBut hlt;have hk₁:D2g h h₁:=hk.at λo e=>hs₁.extBut h o hlh (Z01 _ e);refine Z00 (Z1w (B3t hh hk₁ hlh hit₁ ht₁ (by simp) λh₂ he₂=> ?_));simp only [Option.isSome_none,Bool.false_eq_true,if_false];refine Z04 ?_;exact hw h₂ λb o hb e=>he₂ b o hb (hs₁.extBut b o hb (Z01 _ e))
end
def E1e (ea:Addr) (K:Frag) (n:Nat) (t:TGs):TG:=λv σ H Q=>∃a xs,v= .ref a/\SqT K H a xs/\xs.length=n/\(∃C od,H ea=some (.ext (xcG ea C od)))/\t xs σ H Q
theorem D4v {X:Cx} {pos:Pos} {ea:Addr} {es:List Expr} {k:Nat} {t:TGs} {n:Nat} (hc:B2f ea X.A) (h:PGs X es t)
  (hn:(assignEach es X.env).length=n:=by rfl) (hst:(assignEach es X.env).findIdx? (·.1)=none:=by rfl):PG X (.Tuple es k pos) (E1e ea X.K n t):=by
 intro pins s σ H v u Q I r hw;obtain ⟨a,xs,e1,hq,hl,⟨C,od,he⟩,hw⟩:=hw;subst e1;cases r;obtain ⟨its,rv,ht,hz⟩:=I.tuple hq;obtain ⟨⟨oe,vs,hoe,_,_,hv,hv2⟩,_,_⟩:=(show A2a X.prog X.w H s.heap ea (.ext (xcG ea C od)) from I.hok ea _ he);rw [assign_Tuple];refine Z00 (Z1y (B7j hc ⟨oe,vs,hoe,hv,hv2⟩ ht (by simp [hn,<-hl,rv.length]) hst λh' hx=> ?_));have I1:Inv X pins σ H { s with heap:=h' }:=I.kept (t':=s.toks) λb o e=>hx b o (Z0h (Z0a e)) e
 exact h pins _ σ H xs _ Q I1 (by simpa using rv) hw
end L2
namespace HT
open PySem PySem.Spec PyProof.Rows L2
section
variable {prog:Program} {w:World} {A:Around} {E:Value->Shared->Prop} {s:Shared}
theorem getItem_tuple_all {t sl:Addr} {items:Array Value} {vl vu:Value} {lo hi:Option Int} {Q:Value->Shared->Prop} (ht:IsTup s.heap t items) (hs:s.heap.IsSliceOf sl vl vu .none) (pl:IsPart vl lo) (pu:IsPart vu hi)
  (hw:sIx items.size 0 lo=0/\sIx items.size items.size hi=items.size) (h:Q (.ref t) s):wpAny (model prog w) A (getItem (.ref t) (.ref sl)) Q E s:=by
 obtain ⟨os,hos,hcs,hds⟩:=id hs;have hTs:s.TypeIs (.ref sl) "slice":=⟨os,hos,hcs⟩;unfold getItem
 try with_reducible refine Z1w ?_
 first | refine Z00 (Z04 ?_) | skip
 refine Z00 (wpAny_sequenceKey ht.typeIs (by decide) ?_)
 refine Z00 (Z1b (name:=Str.ofString "__getitem__") ht.typeIs Z2k
  (Z1g Z2k ht.typeIs entry_tuple_getitem ?_ (args_tuple_getitem _ _)))
 show wpAny _ _ (Builtin.Tuple.tupleItemsOf (.ref t) >>= _) _ _ s;refine Z00 (tupleItemsOf_ ht ?_);refine Z00 (wpAny_typeOf hTs ?_);rw [Z12 (by decide)];refine Z00 (A7n hs pl pu ?_)
 have hyes:(((sIx items.size 0 lo:Nat):Int) == 0&&(1:Int) == 1&&(sIx items.size items.size hi-sIx items.size 0 lo) == items.size)=true:=by
  rw [hw.1,hw.2];simp
 show wpAny _ _ (if (((sIx items.size 0 lo:Nat):Int) == 0&&(1:Int) == 1&&(sIx items.size items.size hi-sIx items.size 0 lo) == items.size)=true then _ else _) _ _ s;rw [Z12 hyes];refine Z00 ?_;unfold Builtin.Tuple.tupleIsExact;refine Z00 (wpAny_typeOf ht.typeIs (Z04 ?_));rw [Z12 (by decide)]
 first
  | exact Z00 (wpAny_rule (Z04 ⟨_,rfl,Z04 h⟩))
  | exact Z00 (Z04 (Z04 ⟨_,rfl,Z04 h⟩))
  | exact Z04 ⟨_,rfl,Z04 h⟩
  | skip
 done
end
end HT
namespace L2
open PySem PySem.Spec PyProof.Rows
section
variable {X:Cx}
theorem C9x {xs:List V} {lo hi:Option Int} (h:HT.sIx xs.length 0 lo=0/\HT.sIx xs.length xs.length hi=xs.length):B7s xs lo hi=xs:=by
 unfold B7s;rw [h.1,h.2,Z2r,Nat.sub_zero,Z18]
def rSlA:V->Option Int->Option Int->Hp->VK->Prop:=λx lo hi H Q=>∃a xs,x= .ref a/\H a=some (.tup xs)/\∀p H',A0p H H'->H' p=some (.tup (B7s xs lo hi))->Q (.ref p) H'
theorem D6o:SlR X rSlA:=by
 intro pins s σ H x v vl vu lo hi sl Q I rx hs pl pu h;obtain ⟨a,xs,rfl,hx,q⟩:=h;cases rx;obtain ⟨its,r,ht,hz⟩:=I.tuple (SqT.of hx);have hlen:its.toArray.size=xs.length:=by rw [Z0g];exact r.length.symm
 refine ⟨"tuple",_,Z2k.lookup,ht.typeIs,?_⟩;by_cases hw:HT.sIx xs.length 0 lo=0/\HT.sIx xs.length xs.length hi=xs.length
 ·refine HT.getItem_tuple_all ht hs pl pu (by rw [hlen];exact hw) ?_;exact ⟨.ref a,H,I,rfl,q a H (A0p.refl _) (by rw [C9x hw];exact hx)⟩
 ·refine HT.getItem_tuple_cut ht hs pl pu (by rw [hlen];exact hw) ?_ (by rw [hlen];exact hz);rw [hlen];have fr:=I.hok.fresh (Z09 _);refine ⟨.ref s.heap.objs.size,_,I.laid (t':=s.toks) (o:= .tup (B7s xs lo hi)) (λb ob q=>Z01 _ q) (Z09 _) ?_,rfl,q _ _ (A0f fr) A0b⟩;exact ⟨Z1n (B4l xs lo hi) hz,_,(r.drop (HT.sIx xs.length 0 lo)).take (HT.sIx xs.length xs.length hi-HT.sIx xs.length 0 lo),IsTup.new _ _⟩
theorem B1w {α:Type} {f:α->V} {ys:List α} {i:Nat}:B7s (ys.map f) none (some (i:Int))=(ys.take i).map f:=by
 unfold B7s;have e1:HT.sIx (ys.map f).length 0 none=0:=rfl;have e2:HT.sIx (ys.map f).length (ys.map f).length (some (i:Int))=min i (ys.map f).length:=HT.sIx_nat _ _ _;rw [e1,e2,Z2r,Nat.sub_zero,List.map_take];by_cases h:i<=(ys.map f).length
 ·rw [Nat.min_eq_left h]
 ·rw [Nat.min_eq_right (by lia),Z2l (Z09 _),Z2l (by lia)]
end
abbrev C1f {K:Frag} {a b:Addr} {xs ys:List V} {g:TG} {tb:TS} {D:B5v} {σ:St} {H:Hp} (Pv:Nat->St->Hp->Prop) (h0:Pv 0 σ H) (hl:∀i σ H,Pv i σ H->SqT K H a xs/\SqT K H b ys) (hlen:xs.length<=ys.length):=B6g (k1:=false) (k2:=false) (g:=g) (tb:=tb) (D:=D) Pv h0 hl hlen
theorem C3k {t u:TS} {D:B5v} {σ:St} {H:Hp} (h:∀M:St->Hp->Prop,(∀σ' H',u D σ' H'->M σ' H')->t { D with nx:=M } σ H):E3l t u D σ H:=h (u D) λ_ _ z=>z
theorem gN {i:Nat} {x:V} {σ:St} {H:Hp} {k:St->Hp->Prop} (h:k (σ.set i (some x)) H):A6m i x σ H k:=h
end L2
namespace My
open PySem L2
inductive Op3 | plus | minus | times
inductive Tm
 | num (z:Int) | place (x:Str) | read (a:Str) (ix:List (Str×Int)) | sum (x:Str) (b:Tm) | pair (k:Op3) (l r:Tm) | guard (x:Str) (lo hi:Int) (l r:Tm)
def B7u (e:Str×Int):PyData:= .tuple [.str e.1,.int e.2]
def A6p (ix:List (Str×Int)):PyData:= .list (ix.map B7u)
def dep:Tm->Nat
 | .sum _ b=>dep b+1
 | .pair _ l r=>max (dep l) (dep r)+1
 | .guard _ _ _ l r=>max (dep l) (dep r)+1
 | _=>1
def nod:Tm->Nat
 | .sum _ b=>nod b+1
 | .pair _ l r=>nod l+nod r+1
 | .guard _ _ _ l r=>nod l+nod r+1
 | _=>1
def Sm (z:Int):Prop:=z.natAbs<=10^32
theorem C0o:∀t:Tm,1<=dep t
 | .num z=>by simp [dep]
 | .place x=>by simp [dep]
 | .read a ix=>by simp [dep]
 | .sum x b=>by simp [dep]
 | .pair k l r=>by simp [dep]
 | .guard x lo hi l r=>by simp [dep]
theorem C7t {n:Nat} (h:n<10^33):(Str.ofString (Nat.repr n)).length<=33:=by
 rw [PyProof.Rows.ofString_len]
 simpa [Nat.repr] using PySem.toDigits_len_pow (b:=10) (k:=33) (by decide) (by decide) h
theorem D4y (a b:String):Str.ofString (a++b)=Str.ofString a++Str.ofString b:=by
 rw [Str.ofString_eq_toList,Str.ofString_eq_toList,Str.ofString_eq_toList];apply Str.ext';simp [Str.cps_append,String.toList_append]
theorem C8b {z:Int} (h:Sm z):(toString z:Str).length<=34:=by
 unfold Sm at h
 cases z with
 | ofNat m =>
  have hm:m<10^33:=Z2d (show m<=10^32 from h) (by decide);exact Nat.le_succ_of_le (C7t hm)
 | negSucc m =>
  have hm:m+1<10^33:=Z2d (show m+1<=10^32 from h) (by decide);have e:(toString (Int.negSucc m):Str)=Str.ofString "-"++Str.ofString (Nat.repr (m+1)):=D4y "-" (Nat.repr (m+1));rw [e,Str.length_append];have h1:=C7t hm;have h2:(Str.ofString "-").length=1:=by decide +kernel
  lia
theorem D1x {z:Int} (h:Sm z):z.natAbs.log2<1920:=by
 by_cases h0:z.natAbs=0
 ·rw [h0];decide
 ·exact (Nat.log2_lt h0).mpr (Z2d h (Z0q (show 10^32<2^110 by decide) (Nat.pow_le_pow_right (by decide) (by decide))))
theorem C9d {ix:List (Str×Int)}:PyData.depth (A6p ix)<=2:=by
 have h:∀l:List (Str×Int),PyData.depthAll (l.map B7u)<=1:=by
  intro l
  induction l with
  | nil=>simp [PyData.depthAll]
  | cons e r ih=>simp [B7u,PyData.depthAll,PyData.depth] at *;lia
 have:=h ix;simp only [A6p,PyData.depth]
 lia
theorem D2r {ix:List (Str×Int)}:cnt (A6p ix)<=1+3*ix.length:=by
 have h:∀l:List (Str×Int),A4e (l.map B7u)<=3*l.length:=by
  intro l
  induction l with
  | nil=>simp [A4e]
  | cons e r ih=>simp only [B7u,A4e,cnt,Z0p,Z0y] at *;lia
 have:=h ix;simp only [A6p,cnt]
 lia
section
variable {G:Hp} {v:V}
theorem D7l {e:Str×Int} (h:Rep G v (B7u e)):∃p,v= .ref p/\G p=some (.tup [.str e.1,.int e.2]):=by
 obtain ⟨p,xs,rfl,q,r⟩:=D6c (show Rep G v (.tuple [.str e.1,.int e.2]) from h);obtain ⟨a,r1,rfl,ha,r⟩:=B9p r;obtain ⟨b,r2,rfl,hb,r⟩:=B9p r;cases D0v r;cases D3k ha;cases D5y hb;exact ⟨p,rfl,q⟩
end
noncomputable def B3j (cs:List (List Int)) (n:Int):List (List Int):=cs.flatMap λc=>(List.range n.toNat).map λ(k:Nat)=>c++[(k:Int)]
def A3o (ls:List Int):List (List Int):=ls.foldl B3j [[]]
def A5t (ls:List Int):Int:=ls.foldl (· * ·) 1
theorem A9y (ls:List Int) (n:Int):A3o (ls++[n])=B3j (A3o ls) n:=by
 unfold A3o;rw [List.foldl_append];rfl
theorem C3p (ls:List Int) (n:Int):A5t (ls++[n])=A5t ls*n:=by
 unfold A5t;rw [List.foldl_append];rfl
theorem A9l (cs:List (List Int)) (n:Int):(B3j cs n).length=cs.length*n.toNat:=by
 induction cs with
 | nil=>simp [B3j]
 | cons c r ih =>
  have:B3j (c::r) n=((List.range n.toNat).map λ(k:Nat)=>c++[(k:Int)])++B3j r n:=by simp [B3j]
  rw [this,Z06,ih,Z08,List.length_range,Z0y,Nat.succ_mul];lia
def Within (c ls:List Int):Prop:=c.length=ls.length/\∀(k:Nat) (x n:Int),c[k]? =some x->ls[k]? =some n->0<=x/\x<n
theorem Within.snoc {c ls:List Int} {n:Int} {k:Nat} (h:Within c ls) (hk:(k:Int)<n):Within (c++[(k:Int)]) (ls++[n]):=by
 obtain ⟨hl,hw⟩:=h;refine ⟨by simp [hl],λi x m hx hm=> ?_⟩;by_cases hi:i<c.length
 ·rw [Z26 hi] at hx;rw [Z26 (by lia)] at hm;exact hw i x m hx hm
 ·have:i=c.length:=by
   have:=(Z03.mp hx).1;simp at this;lia
  subst this;rw [Z1l (Z09 _)] at hx;rw [hl,Z1l (Z09 _)] at hm;simp at hx hm
  lia
theorem D1s {cs:List (List Int)} {n:Int} {c:List Int} (h:c∈B3j cs n):∃b∈cs,∃k:Nat,k<n.toNat/\c=b++[(k:Int)]:=by
 unfold B3j at h;obtain ⟨b,hb,h2⟩:=List.mem_flatMap.mp h;obtain ⟨k,hk,e⟩:=Z2c.mp h2;exact ⟨b,hb,k,List.mem_range.mp hk,e.symm⟩
theorem A4r:∀(ls:List Int),∀c∈A3o ls,Within c ls:=by
 intro ls
 have key:∀(m:Nat) (ls:List Int),ls.length=m->∀c∈A3o ls,Within c ls:=by
  intro m
  induction m with
  | zero =>
   intro ls hl c hc;have:ls=[]:=Z2n.mp hl;subst this;have:c=[]:=by simpa [A3o] using hc
   subst this;exact ⟨rfl,λk x n hx _=>by simp at hx⟩
  | succ m ih =>
   intro ls hl c hc;obtain ⟨init,n,rfl⟩:∃init n,ls=init++[n]:=⟨ls.dropLast,ls.getLast (by intro e;simp [e] at hl),(List.dropLast_concat_getLast _).symm⟩;rw [A9y] at hc;obtain ⟨b,hb,k,hk,rfl⟩:=D1s hc;exact (ih init (by simp at hl;lia) b hb).snoc (by lia)
 exact key _ ls rfl
theorem A3w (ls:List Int) (h:∀n∈ls,1<=n):((A3o ls).length:Int)=A5t ls/\1<=A5t ls:=by
 have key:∀(m:Nat) (ls:List Int),ls.length=m->(∀n∈ls,1<=n)->((A3o ls).length:Int)=A5t ls/\1<=A5t ls:=by
  intro m
  induction m with
  | zero =>
   intro ls hl _;have:ls=[]:=Z2n.mp hl;subst this;simp [A3o,A5t]
  | succ m ih =>
   intro ls hl hp;obtain ⟨init,n,rfl⟩:∃init n,ls=init++[n]:=⟨ls.dropLast,ls.getLast (by intro e;simp [e] at hl),(List.dropLast_concat_getLast _).symm⟩;obtain ⟨h1,h2⟩:=ih init (by simp at hl;lia) λn hn=>hp n (by simp [hn]);have h3:1<=n:=hp n (by simp);rw [A9y,C3p,A9l];have e:((n.toNat:Nat):Int)=n:=by lia
   refine ⟨by rw [Int.natCast_mul,h1,e],?_⟩;have:=Int.mul_le_mul h2 h3 (by lia) (by lia)
   simpa using this
 exact key _ ls rfl h
structure C0q (ls:List Int):Prop where
 pos:∀n∈ls,1<=n/\n<=60
 few:ls.length<=8
 most:A5t ls<=4000
theorem B2j (ls:List Int) (h:∀n∈ls,1<=n) (i:Nat):1<=A5t (ls.take i)/\A5t (ls.take i)<=A5t ls:=by
 have a:=(A3w (ls.take i) λn hn=>h n (Z2p hn)).2;refine ⟨a,?_⟩;have b:=(A3w (ls.drop i) λn hn=>h n (List.mem_of_mem_drop hn)).2
 have gen:∀(ys:List Int) (x:Int),ys.foldl (· * ·) x=x*A5t ys:=by
  intro ys
  induction ys with
  | nil=>intro x;simp [A5t]
  | cons y r ih=>intro x;simp only [A5t,List.foldl_cons] at ih⊢;rw [ih,ih (1*y),Int.one_mul,Int.mul_assoc]
 have e:A5t ls=A5t (ls.take i)*A5t (ls.drop i):=by
  have:=gen (ls.drop i) (A5t (ls.take i));rw [<-this];unfold A5t;rw [<-List.foldl_append,Z2e]
 rw [e];have:=Z29 b (show (0:Int)<=A5t (ls.take i) by lia)
 simpa using this
theorem A7l {ls:List Int} {i:Nat} {n:Int} (h:ls[i]? =some n):A3o (ls.take (i+1))=B3j (A3o (ls.take i)) n:=by
 rw [Z14,h];exact A9y _ _
def A8x (f:Str->Int) (ix:List (Str×Int)):List Int:=ix.map λ(e:Str×Int)=>if e.1=("":Str) then e.2 else f e.1+e.2
def ai (kvs:List (Key×V)) (x:Str):Int:=match A4x kvs (Sum.inr x) with | some (.int i)=>i | _=>0
def top (i:Nat):Stmt:=PySem.Challenge.pw_arrayloom_k16_not_yet.main.body.getD i (.Pass ⟨0,0,0,0⟩)
abbrev A5a:Stmt:=A4l (top 6) 0
abbrev A7b:Stmt:=A4l (top 7) 0
abbrev B6s:Stmt:=top 9
abbrev A6x:Stmt:=A4l (top 13) 0
abbrev B2m:Stmt:=A4l (top 14) 0
abbrev A9j:Stmt:=A4l (top 15) 0
abbrev A6f:Stmt:=A4l (top 15) 1
abbrev B1l:Stmt:=top 16
abbrev A9u:Stmt:=A4l (top 17) 0
abbrev B1z:Stmt:=A4l (top 19) 0
abbrev A8d:Stmt:=A4l (top 21) 0
abbrev A5l:Stmt:=A4l (top 21) 1
abbrev A9n:Stmt:=A4l (top 23) 0
abbrev B2e:Stmt:=top 24
abbrev A7u:Stmt:=top 25
abbrev A3r:Stmt:=top 26
abbrev A7g:Stmt:=top 27
abbrev B1q:Stmt:=top 29
abbrev A7w:Stmt:=top 30
abbrev B1i:Stmt:=A4l (top 32) 0
abbrev A6g:Stmt:=A4l (top 33) 0
abbrev A7t:Stmt:=top 34
abbrev A6u:Stmt:=top 35
abbrev A7a:Stmt:=top 36
abbrev A8i:Stmt:=top 37
abbrev B0a:Stmt:=top 38
abbrev A5u:Stmt:=top 39
abbrev A6t:Stmt:=top 40
abbrev A7o:Stmt:=top 45
abbrev A4k:Stmt:=top 46
abbrev B3e:Stmt:=top 47
abbrev A5p:Stmt:=top 48
abbrev B0g:Stmt:=top 49
abbrev B0b:Stmt:=top 50
abbrev A8q:Stmt:=top 51
abbrev B0c:Stmt:=top 52
abbrev A7r:Stmt:=top 53
abbrev B1s:Stmt:=top 54
abbrev A9k:Stmt:=top 55
abbrev A5s:Stmt:=top 56
abbrev B4j:Stmt:=top 57
abbrev A8a:Stmt:=top 58
abbrev C8l:Stmt:=top 61
abbrev A9t:Stmt:=top 62
abbrev A8f:Stmt:=top 63
abbrev A8l:Stmt:=top 64
abbrev B2d:Stmt:=top 65
abbrev A7x:Stmt:=top 66
abbrev A9g:Stmt:=top 67
abbrev A9h:Stmt:=top 68
abbrev A7y:Stmt:=top 69
abbrev B6d:Stmt:=top 71
abbrev B0e:Stmt:=top 72
abbrev B1j:Stmt:=top 73
abbrev A9z:Stmt:=top 74
abbrev B1m:Stmt:=top 75
abbrev A9d:Stmt:=top 76
abbrev B3i:Stmt:=top 77
abbrev B4h:Stmt:=top 78
abbrev C0s:Stmt:=top 79
abbrev B1k:Stmt:=top 80
abbrev B7d:Stmt:=top 81
abbrev B3p:Stmt:=top 82
abbrev A9r:Stmt:=top 83
abbrev A7c:Stmt:=top 84
abbrev B3w:Stmt:=top 85
abbrev C0z:Stmt:=top 86
abbrev B4g:Stmt:=top 87
abbrev A6y:Stmt:=top 88
abbrev B7p:Stmt:=top 89
abbrev D0a:Stmt:=top 90
structure TyC (K:Frag) (C:Addr):Prop where
 ha:findIn K (.ref C) "__class__"=some (some (.builtin "object.__class__"))
 hn:specialIn K (.builtin "object.__class__") "__get__"=some (some (.builtin "getset_descriptor.__get__"))
 htk:takesIn K (.builtin "object.__class__")=some true
 hm:mroIn K C (.type "object")=some true
abbrev D7d:List Str:=["self","name","array","spot","cell"]
abbrev E2r:List Str:=["self","array","indexes"]
abbrev D6z:List Str:=["self","at"]
abbrev E2c:List Str:=["axis","shift","at"]
abbrev E2j:List Str:=["self","left","right"]
abbrev E2d:List Str:=["self","axis","body"]
abbrev E1w:List Str:=["self","axis","low","high","inner","outer"]
abbrev E2b:List Str:=["self","term","sums","guards"]
abbrev E2u:List Str:=["self","name","axes","term"]
abbrev E1g:List Str:=["self","wheel","axes","tables","lets","outs"]
abbrev A2z:List Str:=["program"]
abbrev B7k:List Str:=["axes","lengths"]
abbrev D1u:List Str:=["part","let","arrays","known"]
abbrev D0l:List Str:=["axis","bound"]
abbrev D1i:List Str:=["axis","bound","known"]
abbrev C9s:List Str:=["read","bound","arrays"]
abbrev D0c:List Str:=["let","part","lengths","axes"]
abbrev D1h:List Str:=["let","read","leads","lengths"]
abbrev C9v:List Str:=["let","read","leads"]
abbrev D5p:List Str:=["_law_rest","_law_own","_law_bound","_law_shape","_law_lengths","_law_itself"]
abbrev D3h:List Str:=["_law_rest","_law_bound","_law_indexes_here","_law_sizes"]
abbrev D5r:List Str:=["_law_read","_law_guards_here"]
abbrev D6j:List Str:=["_law_spots","_law_length"]
abbrev D4m:List Str:=["_law_cell_here","_law_sizes"]
abbrev D6k:List Str:=["_law_cell_here","_law_spot"]
abbrev D4j:List Str:=["_law_names","_law_lengths","_law_guards_here","_law_indexes_here"]
abbrev D5w:List Str:=["_law_leads_here","_law_array","_law_sizes"]
abbrev D0e:List Str:=["_law_found","_law_due_here"]
abbrev C9g:List Str:=["_law_e","_law_due_here"]
abbrev D3t:List Str:=["_law_program","_law_due_here"]
abbrev D3w:List Str:=["_law_cell_here","_law_names"]
abbrev D4g:List Str:=["_law_own","_law_sums","_law_shape","_law_lengths"]
abbrev D4u:List Str:=["_law_cell_here","_law_array","_law_names","_law_bound"]
abbrev D6m:List Str:=["_law_rest","_law_names","_law_own","_law_sums","_law_shape","_law_lengths"]
abbrev D3z:List Str:=["_law_cell_here","_law_bound"]
abbrev D3i:List Str:=["_law_reads","_law_joint_here","_law_bound","_law_lengths"]
abbrev D4o:List Str:=["_law_reads","_law_joint_here","_law_sums"]
set_option genInjectivity false in
set_option genSizeOf false in
structure Adr where
 dv:Addr
 ir:Addr
 iu:Addr
 al:Addr
 aa:Addr
 af:Addr
 we:Addr
 ak:Addr
 aj:Addr
 ah:Addr
 j9:Addr
 be:Addr
 bp:Addr
 ae:Addr
 bh:Addr
 cj:Addr
 ag:Addr
 de:Addr
 iy:Addr
 p_:FuncData
 m5:Addr
 tK:FuncData
 kc:Addr
 jz:FuncData
 l_:Addr
 tO:FuncData
 n8:Addr
 ut:FuncData
 qi:Addr
 uE:FuncData
 jg:Addr
 t8:FuncData
 uZ:Addr
 v5:FuncData
 qm:Addr
 uA:FuncData
 sv:Addr
 uU:FuncData
 pb:Addr
 uj:FuncData
 jf:Addr
 qz:FuncData
 qj:Addr
 uC:FuncData
 v9:Addr
 uT:FuncData
 fb:Addr
 fc:FuncData
 jw:Addr
 jt:FuncData
 tL:Addr
 tM:FuncData
 u_:Addr
 uW:FuncData
 ug:Addr
 t_:FuncData
 sw:Addr
 uY:FuncData
 jn:Addr
 r_:FuncData
 uh:Addr
 um:FuncData
 tw:Addr
 tG:FuncData
 tU:Addr
 tH:FuncData
 u8:Addr
 ur:FuncData
 uH:Addr
 uP:FuncData
 rb:Addr
 rc:FuncData
 tQ:Addr
 tP:FuncData
 nj:Addr
 nu:FuncData
 ge:Addr
 gr:FuncData
 vh:Addr
 vv:FuncData
 ri:Addr
 rh:FuncData
 qv:Addr
 qk:FuncData
 qu:Addr
 qh:FuncData
 nn:Addr
 pd:FuncData
 qy:Addr
 qf:FuncData
 nh:Addr
 mx:FuncData
 sy:Addr
 tf:FuncData
 qp:Addr
 qt:FuncData
 jc:Addr
 jb:FuncData
 vp:Addr
 vB:FuncData
 ua:Addr
 uc:FuncData
 vI:Addr
 vM:FuncData
 qo:Addr
 qx:FuncData
 oi:Addr
 n_:FuncData
 oa:Addr
 nc:FuncData
 vf:Addr
 v7:FuncData
 ul:Addr
 uf:FuncData
 qw:Addr
 qg:FuncData
 uI:Addr
 uR:FuncData
 oz:Addr
 ot:FuncData
 vF:Addr
 vJ:FuncData
 uD:Addr
 uS:FuncData
 uX:Addr
 v6:FuncData
 uB:Addr
 uG:FuncData
 ve:Addr
 vc:FuncData
 uQ:Addr
 uJ:FuncData
 vA:Addr
 vj:FuncData
 vm:Addr
 vy:FuncData
 vT:Addr
 vR:FuncData
 sj:Addr
 rn:FuncData
 uF:Addr
 uK:FuncData
 vx:Addr
 vD:FuncData
 uM:Addr
 uL:FuncData
 tT:Addr
 tJ:FuncData
 vq:Addr
 vz:FuncData
 vS:Addr
 vV:FuncData
 vn:Addr
 vC:FuncData
 tN:Addr
 tS:FuncData
 vN:Addr
 vL:FuncData
 wb:Addr
 w6:FuncData
structure FQ (K:Frag) (mg:Str->Option Value) (x q:Str) (st:Stmt) (f:Addr) (fd:FuncData) (ps:List Str):Prop where
 F:Fun K x q st f fd
 m:mg x=some (.ref f)
 b:A8w K fd ps []
structure FM (K:Frag) (x q:Str) (st:Stmt) (f:Addr) (fd:FuncData) (ps:List Str):Prop where
 F:Fun K x q st f fd
 b:A8w K fd ps []
structure Txt (K:Frag) (mg:Str->Option Value) (t:Adr):Prop where
 df:FM K "__init__" "BeyondRim.__init__" A5a t.iy t.p_ D7d
 ia:FM K "__init__" "NotYet.__init__" A7b t.m5 t.tK D7d
 ay:FQ K mg "copied" "copied" B6s t.kc t.jz ["value"]
 di:FM K "__init__" "Number.__init__" A6x t.l_ t.tO ["self","number"]
 vP:FM K "__init__" "Place.__init__" B2m t.n8 t.ut ["self","axis"]
 j_:FM K "__init__" "Read.__init__" A9j t.qi t.uE E2r
 fz:FM K "cell_at" "Read.cell_at" A6f t.jg t.t8 D6z
 mf:FQ K mg "index_at" "index_at" B1l t.uZ t.v5 E2c
 kf:FM K "__init__" "Pair.__init__" A9u t.qm t.uA E2j
 ja:FM K "__init__" "Sum.__init__" B1z t.sv t.uU E2d
 cz:FM K "__init__" "Guard.__init__" A8d t.pb t.uj E1w
 e_:FM K "lets_in" "Guard.lets_in" A5l t.jf t.qz D6z
 b_:FM K "__init__" "Part.__init__" A9n t.qj t.uC E2b
 f_:FQ K mg "parts_of" "parts_of" B2e t.v9 t.uT ["term"]
 j0:FQ K mg "parts_from" "parts_from" A7u t.fb t.fc ["part"]
 cg:FQ K mg "parts_right_within" "parts_right_within" A3r t.jw t.jt ["part"]
 h_:FQ K mg "sums_at_top" "sums_at_top" A7g t.tL t.tM ["term"]
 ma:FQ K mg "cells_of" "cells_of" B1q t.u_ t.uW ["lengths"]
 i_:FQ K mg "lengthened" "lengthened" A7w t.ug t.t_ ["cells","length"]
 mq:FM K "__init__" "Let.__init__" B1i t.sw t.uY E2u
 g9:FM K "__init__" "Program.__init__" A6g t.jn t.r_ E1g
 cy:FQ K mg "axis_names" "axis_names" A7t t.uh t.um A2z
 g_:FQ K mg "table_names" "table_names" A6u t.tw t.tG A2z
 dg:FQ K mg "array_names" "array_names" A7a t.tU t.tH A2z
 fk:FQ K mg "lengths_of" "lengths_of" A8i t.u8 t.ur A2z
 gj:FQ K mg "arrays_of" "arrays_of" B0a t.uH t.uP A2z
 c7:FQ K mg "lengths_along" "lengths_along" A5u t.rb t.rc B7k
 ig:FQ K mg "cells_along" "cells_along" A6t t.tQ t.tP B7k
 fh:FQ K mg "look_names" "look_names" A7o t.nj t.nu A2z
 c9:FQ K mg "look_told_names" "look_told_names" A4k t.ge t.gr ["names"]
 qa:FQ K mg "is_name" "is_name" B3e t.vh t.vv ["text"]
 e9:FQ K mg "is_of_letters" "is_of_letters" A5p t.ri t.rh ["text"]
 gx:FQ K mg "look_outs" "look_outs" B0g t.qv t.qk ["outs","names"]
 gb:FQ K mg "look_axes" "look_axes" B0b t.qu t.qh ["axes","known"]
 fe:FQ K mg "look_terms" "look_terms" A8q t.nn t.pd A2z
 gc:FQ K mg "look_part" "look_part" B0c t.qy t.qf D1u
 c6:FQ K mg "look_bound" "look_bound" A7r t.nh t.mx D0l
 j3:FQ K mg "look_sum" "look_sum" B1s t.sy t.tf D1i
 gh:FQ K mg "look_read" "look_read" A9k t.qp t.qt C9s
 cn:FQ K mg "look_own_read" "look_own_read" A5s t.jc t.jb ["part","let"]
 qc:FQ K mg "work_of" "work_of" B4j t.vp t.vB A2z
 fg:FQ K mg "cell_count" "cell_count" A8a t.ua t.uc B7k
 u9:FQ K mg "look" "look" C8l t.vI t.vM A2z
 gw:FQ K mg "look_work" "look_work" A9t t.qo t.qx A2z
 fi:FQ K mg "look_reads" "look_reads" A8f t.oi t.n_ A2z
 fj:FQ K mg "look_spots" "look_spots" A8l t.oa t.nc D0c
 mj:FQ K mg "leads_of" "leads_of" B2d t.vf t.v7 ["let","part","lengths"]
 j8:FQ K mg "is_reached" "is_reached" A7x t.ul t.uf ["guards","at"]
 gy:FQ K mg "look_rims" "look_rims" A9g t.qw t.qg D1h
 jk:FQ K mg "is_within" "is_within" A9h t.uI t.uR ["cell","lengths"]
 fm:FQ K mg "look_ahead" "look_ahead" A7y t.oz t.ot C9v
 cm:FQ K mg "_law_cell" "_law_cell" B6d t.vF t.vJ ["_law_rest"]
 jq:FQ K mg "_law_indexes" "_law_indexes" B0e t.uD t.uS D5p
 mn:FQ K mg "_law_guards" "_law_guards" B1j t.uX t.v6 D3h
 jy:FQ K mg "_law_guarded" "_law_guarded" A9z t.uB t.uG D5r
 md:FQ K mg "_law_longer" "_law_longer" B1m t.ve t.vc D6j
 kg:FQ K mg "_law_outside" "_law_outside" A9d t.uQ t.uJ D4m
 py:FQ K mg "_law_ahead" "_law_ahead" B3i t.vA t.vj D6k
 pf:FQ K mg "_law_leads" "_law_leads" B4h t.vm t.vy D4j
 u6:FQ K mg "_law_due" "_law_due" C0s t.vT t.vR D5w
 cu:FQ K mg "_law_wholes" "_law_wholes" B1k t.sj t.rn D0e
 g0:FQ K mg "_law_told" "_law_told" B7d t.uF t.uK C9g
 kx:FQ K mg "_law_holds" "_law_holds" B3p t.vx t.vD D3t
 jx:FQ K mg "_law_axes_by" "_law_axes_by" A9r t.uM t.uL D3w
 i7:FQ K mg "_law_head_work" "_law_head_work" A7c t.tT t.tJ D4g
 qe:FQ K mg "_law_inner" "_law_inner" B3w t.vq t.vz D4u
 ue:FQ K mg "_law_two" "_law_two" C0z t.vS t.vV D6m
 ph:FQ K mg "_law_joint" "_law_joint" B4g t.vn t.vC D3z
 ib:FQ K mg "_law_reads_due" "_law_reads_due" A6y t.tN t.tS D3i
 sr:FQ K mg "_law_term" "_law_term" B7p t.vN t.vL D4o
 vW:FQ K mg "law" "law" D0a t.wb t.w6 ["_law_script"]
 q_:∃u,mg "MOST_LETTERS"=some u/\A3d (.int (8)) u
 u7:∃u,mg "MOST_AXES"=some u/\A3d (.int (3)) u
 o0:∃u,mg "WORDS_OF_TERMS"=some u/\A3d (.ref t.de) u
 mw:∃(o:Obj) (its:Array Value) (n:Nat),K.lookup t.de=some o/\o.cls= .type "tuple"/\o.data= .seq its n/\its.size<=sizeLine/\A2t [(.str "if"),(.str "sum")] its.toList
 my:∃u,mg "MOST_WORK"=some u/\A3d (.int (4000)) u
 dq:mg "BeyondRim"=some (.ref t.aa)
 uN:mg "LoomError"=some (.ref t.dv)
 ik:mg "NoName"=some (.ref t.ir)
 cv:mg "NoShape"=some (.ref t.iu)
 oq:mg "NotYet"=some (.ref t.af)
 ft:mg "TooMuch"=some (.ref t.al)
 uk:MkX K t.aa t.iy
 oj:A9a K t.aa "name"
 mh:A9a K t.aa "array"
 oy:A9a K t.aa "spot"
 p9:A9a K t.aa "cell"
 vE:MkX K t.af t.m5
 tm:A9a K t.af "name"
 r8:A9a K t.af "array"
 su:A9a K t.af "spot"
 t7:A9a K t.af "cell"
 nw:C4g K t.aa "name"
 ml:C4g K t.aa "array"
 ni:C4g K t.aa "spot"
 o_:C4g K t.aa "cell"
 so:C4g K t.af "name"
 rj:C4g K t.af "array"
 s_:C4g K t.af "spot"
 sk:C4g K t.af "cell"
 ip:mroIn K t.aa (.type "ValueError")=some true
 ka:mroIn K t.af (.type "ValueError")=some true
 fq:excIn K t.ir D1z "ValueError.__new__"=true
 cb:excIn K t.iu D1z "ValueError.__new__"=true
 v8:excIn K t.al D1z "ValueError.__new__"=true
 vb:PySem.W.XcIn K t.al
 jo:kitOne K (.ref t.al) (.ref t.aa)=some false
 mt:kitOne K (.ref t.al) (.ref t.af)=some false
 p7:PySem.W.XcIn K t.aa
 jp:kitOne K (.ref t.aa) (.ref t.al)=some false
 kz:kitOne K (.ref t.aa) (.ref t.af)=some false
 iz:kitOne K (.ref t.aa) (.ref t.dv)=some true
 tX:PySem.W.XcIn K t.af
 og:kitOne K (.ref t.af) (.ref t.al)=some false
 k_:kitOne K (.ref t.af) (.ref t.aa)=some false
 lu:kitOne K (.ref t.af) (.ref t.dv)=some true
 me:exmOne K (.ref t.al) (.ref t.al)=some true
 jh:exmOne K (.ref t.aa) (.ref t.al)=some false
 j6:exmOne K (.ref t.aa) (.ref t.aa)=some true
 mr:exmOne K (.ref t.af) (.ref t.al)=some false
 lh:exmOne K (.ref t.af) (.ref t.aa)=some false
 pq:exmOne K (.ref t.af) (.ref t.af)=some true
 ux:mg "Number"=some (.ref t.ak)
 vQ:mg "Place"=some (.ref t.aj)
 vd:mg "Read"=some (.ref t.ah)
 vZ:mg "Pair"=some (.ref t.j9)
 vU:mg "Minus"=some (.ref t.be)
 uz:mg "Sum"=some (.ref t.bp)
 m_:mg "Guard"=some (.ref t.ae)
 qb:mg "Part"=some (.ref t.bh)
 w8:mg "Let"=some (.ref t.cj)
 vi:mg "Program"=some (.ref t.ag)
 bc:Cls K t.ae
 t6:Mk K t.ae t.pb
 ie:A1v K t.ae "axis"
 ng:A1v K t.ae "low"
 m8:A1v K t.ae "high"
 jm:A1v K t.ae "inner"
 kh:A1v K t.ae "outer"
 pw:E0o K t.ae "lets_in" t.jf
 av:TyC K t.ae
 jr:kitOne K (.ref t.ae) (.ref t.ae)=some true
 tV:kitOne K (.ref t.ae) (.ref t.j9)=some false
 m6:kitOne K (.ref t.ae) (.ref t.ah)=some false
 j4:kitOne K (.ref t.ae) (.ref t.bp)=some false
 rm:kitOne K (.ref t.ae) (.ref t.aj)=some false
 bq:Cls K t.cj
 vX:Mk K t.cj t.sw
 bv:A1v K t.cj "name"
 cf:A1v K t.cj "axes"
 dz:A1v K t.cj "term"
 uv:TyC K t.cj
 uO:mroIn K t.cj (.type "list")=some false
 ub:mroIn K t.cj (.type "tuple")=some false
 uw:mroIn K t.cj (.type "dict")=some false
 fw:Cls K t.be
 vH:Mk K t.be t.qm
 dk:A1v K t.be "left"
 cx:A1v K t.be "right"
 bo:TyC K t.be
 fv:kitOne K (.ref t.be) (.ref t.ae)=some false
 ij:kitOne K (.ref t.be) (.ref t.j9)=some true
 c8:kitOne K (.ref t.be) (.ref t.ah)=some false
 ci:kitOne K (.ref t.be) (.ref t.bp)=some false
 g6:kitOne K (.ref t.be) (.ref t.aj)=some false
 c_:Cls K t.ak
 tZ:Mk K t.ak t.l_
 iq:A1v K t.ak "number"
 am:TyC K t.ak
 je:kitOne K (.ref t.ak) (.ref t.ae)=some false
 t9:kitOne K (.ref t.ak) (.ref t.j9)=some false
 ju:kitOne K (.ref t.ak) (.ref t.ah)=some false
 ii:kitOne K (.ref t.ak) (.ref t.bp)=some false
 rf:kitOne K (.ref t.ak) (.ref t.aj)=some false
 ap:Cls K t.bh
 ky:Mk K t.bh t.qj
 a_:A1v K t.bh "term"
 ba:A1v K t.bh "sums"
 bj:A1v K t.bh "guards"
 wc:TyC K t.bh
 iw:Cls K t.aj
 wa:Mk K t.aj t.n8
 tR:A1v K t.aj "axis"
 au:TyC K t.aj
 se:kitOne K (.ref t.aj) (.ref t.ae)=some false
 tW:kitOne K (.ref t.aj) (.ref t.j9)=some false
 m9:kitOne K (.ref t.aj) (.ref t.ah)=some false
 j5:kitOne K (.ref t.aj) (.ref t.bp)=some false
 sf:kitOne K (.ref t.aj) (.ref t.aj)=some true
 ao:Cls K t.ag
 uV:Mk K t.ag t.jn
 pi:A1v K t.ag "wheel"
 eu:A1v K t.ag "axes"
 bt:A1v K t.ag "tables"
 br:A1v K t.ag "lets"
 jd:A1v K t.ag "outs"
 v_:TyC K t.ag
 bu:Cls K t.ah
 vO:Mk K t.ah t.qi
 bw:A1v K t.ah "array"
 cr:A1v K t.ah "indexes"
 rg:E0o K t.ah "cell_at" t.jg
 bf:TyC K t.ah
 m7:kitOne K (.ref t.ah) (.ref t.ae)=some false
 uq:kitOne K (.ref t.ah) (.ref t.j9)=some false
 pe:kitOne K (.ref t.ah) (.ref t.ah)=some true
 kj:kitOne K (.ref t.ah) (.ref t.bp)=some false
 tI:kitOne K (.ref t.ah) (.ref t.aj)=some false
 d_:Cls K t.bp
 vG:Mk K t.bp t.sv
 dw:A1v K t.bp "axis"
 gu:A1v K t.bp "body"
 bx:TyC K t.bp
 ui:kitOne K (.ref t.bp) (.ref t.ae)=some false
 uy:kitOne K (.ref t.bp) (.ref t.j9)=some false
 qr:kitOne K (.ref t.bp) (.ref t.ah)=some false
 mo:kitOne K (.ref t.bp) (.ref t.bp)=some true
 ud:kitOne K (.ref t.bp) (.ref t.aj)=some false
 ac:mg "isinstance"=none
 sx:mg "list"=none
 fo:mg "tuple"=none
 q9:mg "dict"=none
 ku:mg "range"=none
 jj:mg "enumerate"=none
 cw:mg "len"=none
 vK:mg "all"=none
 tY:mg "zip"=none
 vg:mg "int"=none
 j7:mg "reversed"=none
 vY:mg "bool"=none
 uo:mg "ValueError"=none
abbrev FO (P:Program) (w:World) (base:Heap) {K:Frag} {mg:Str->Option Value} {x q:Str} {st:Stmt} {f:Addr} {fd:FuncData} {ps:List Str} (_:FQ K mg x q st f fd ps) (n:Nat) (sp:Sp):Prop:=A4m P w K mg base CX0 n f fd ps sp
abbrev FP (P:Program) (w:World) (mg:Str->Option Value) (base:Heap) {K:Frag} {x q:Str} {st:Stmt} {f:Addr} {fd:FuncData} {ps:List Str} (_:FM K x q st f fd ps) (n:Nat) (sp:Sp):Prop:=A4m P w K mg base CX0 n f fd ps sp
theorem pcl {X:Cx} {k k2:Nat} {f:Addr} {fd:FuncData} {ps:List Str} {sp:Sp} {x q:Str} {st:Stmt} {e:Expr} {es:List Expr} {t:TA} {p pos:Pos} (F:A4m X.prog X.w X.K X.mg X.base CX0 k f fd ps sp) (hr:A7j k2 X.A) (Z:FQ X.K X.mg x q st f fd ps) (ha:PA X (e::es) t) (hk:k<=k2:=by lia) (hg:Gl X x:=by rfl) (hdb:(x == ("__debug__":Str))=false:=by decide) (he:starEach (e::es) X.env=(false,eval e X.env)::starEach es X.env:=by rfl) (hpl:(backTo pos (starEach es X.env)).any (·.1)=false:=by rfl):PE X (.Call (.Name x p) (e::es) [] pos) (D6e sp [] E0 t):=A3g F (hr.mono hk) hg Z.m Z.F.kp Z.b .nil B4r ha hdb he hpl
theorem pmk {X:Cx} {C:Addr} {k k2:Nat} {f:Addr} {fd:FuncData} {ps:List Str} {sp:Sp} {x:Str} {e:Expr} {es:List Expr} {t:TA} {p pos:Pos} (M:Mk X.K C f) (F:A4m X.prog X.w X.K X.mg X.base CX0 k f fd ps sp) (hr:A7j k2 X.A) (hm:X.mg x=some (.ref C)) (hb:A8w X.K fd ps []) (ha:PA X (e::es) t) (hk:k+1<=k2:=by lia) (hg:Gl X x:=by rfl) (hdb:(x == ("__debug__":Str))=false:=by decide) (he:starEach (e::es) X.env=(false,eval e X.env)::starEach es X.env:=by rfl) (hpl:(backTo pos (starEach es X.env)).any (·.1)=false:=by rfl):PE X (.Call (.Name x p) (e::es) [] pos) (D9e C sp [] E0 t):=D3q M F (hr.mono hk) hg hm hb .nil B4r ha hdb he hpl
theorem A0q {n:Nat} (h:Nat.ble n 1000000=true):n<=sizeLine:=A0o (Nat.le_of_ble_eq_true h)
theorem D9g:(0:Int)<16:=by decide
theorem E3f:(0:Int)<2:=by decide
theorem E0w:(0:Int)<3:=by decide
theorem D3c:(0:Int)<4:=by decide
theorem D7c:(0:Int)<5:=by decide
theorem z_60:(0:Int)<6:=by decide
theorem z_80:(0:Int)<8:=by decide
theorem nH {H:Hp} {x:Addr} {o:HO} (h:H x=none):∃H',A0p H H'/\H' x=some o/\upd H x o=H':=⟨_,A0f h,A0b,rfl⟩
abbrev Sro (a:Addr):Option V:=some (.ref a)
abbrev Sio (a:Int):Option V:=some (.int a)
abbrev Sso (a:Str):Option V:=some (.str a)
abbrev Sbo (a:Bool):Option V:=some (.bl a)
local macro_rules | `(tactic| walk_at "ix") => `(tactic| first | exact Or.inl rfl | exact Or.inr rfl | (simp [relabel]; rfl) | (with_unfolding_all exact Or.inl rfl) | (with_unfolding_all exact Or.inr rfl) | (with_unfolding_all decide))
local macro_rules | `(tactic| walk_at "sc") => `(tactic| exact ⟨rfl, rfl, rfl, by decide +kernel, rfl, by decide +kernel, by decide +kernel⟩)
local macro_rules | `(tactic| walk_at "ln") => `(tactic| (intro _ _ _ _ h; (repeat (obtain ⟨_, h⟩ := h)); subst_vars; rfl))
theorem B1u:A0m D7d ["self","name","array","spot","cell"] (A0i A5a):=by walk_at "sc"
theorem B4z:A0m D7d ["self","name","array","spot","cell"] (A0i A7b):=by walk_at "sc"
theorem B4m:A0m ["value"] ["value"] (A0i B6s):=by walk_at "sc"
theorem B4v:A0m ["self","number"] ["self","number"] (A0i A6x):=by walk_at "sc"
theorem B8t:A0m E2r ["self","array","indexes"] (A0i A9j):=by walk_at "sc"
theorem B4f:A0m D6z ["self","at"] (A0i A6f):=by walk_at "sc"
theorem C0y:A0m E2c ["axis","shift","at"] (A0i B1l):=by walk_at "sc"
theorem B9j:A0m E2j ["self","left","right"] (A0i A9u):=by walk_at "sc"
theorem C1b:A0m E2d ["self","axis","body"] (A0i B1z):=by walk_at "sc"
theorem B7q:A0m E1w ["self","axis","low","high","inner","outer"] (A0i A8d):=by walk_at "sc"
theorem B2w:A0m D6z ["self","at"] (A0i A5l):=by walk_at "sc"
theorem B9d:A0m E2b ["self","term","sums","guards"] (A0i A9n):=by walk_at "sc"
theorem C0u:A0m ["term"] ["term"] (A0i B2e):=by walk_at "sc"
theorem A7h:A0m ["part","parts","inner"] ["part"] (A0i A7u):=by walk_at "sc"
theorem A2m:A0m ["part","term","inner","outer"] ["part"] (A0i A3r):=by walk_at "sc"
theorem A4p:A0m ["term","axes","rest"] ["term"] (A0i A7g):=by walk_at "sc"
theorem A6z:A0m ["lengths","cells","length"] ["lengths"] (A0i B1q):=by walk_at "sc"
theorem A5d:A0m ["cells","length","longer","cell","number"] ["cells","length"] (A0i A7w):=by walk_at "sc"
theorem C1c:A0m E2u ["self","name","axes","term"] (A0i B1i):=by walk_at "sc"
theorem B3m:A0m E1g ["self","wheel","axes","tables","lets","outs"] (A0i A6g):=by walk_at "sc"
theorem B7g:A0m A2z ["program"] (A0i A7t):=by walk_at "sc"
theorem B5c:A0m A2z ["program"] (A0i A6u):=by walk_at "sc"
theorem B5e:A0m A2z ["program"] (A0i A7a):=by walk_at "sc"
theorem B7c:A0m A2z ["program"] (A0i A8i):=by walk_at "sc"
theorem A4q:A0m ["program","arrays","name","axes","let"] A2z (A0i B0a):=by walk_at "sc"
theorem B2y:A0m B7k ["axes","lengths"] (A0i A5u):=by walk_at "sc"
theorem B4y:A0m B7k ["axes","lengths"] (A0i A6t):=by walk_at "sc"
theorem B0z:A0m ["program","axes"] A2z (A0i A7o):=by walk_at "sc"
theorem A4h:A0m ["names","place","name"] ["names"] (A0i A4k):=by walk_at "sc"
theorem C4r:A0m ["text"] ["text"] (A0i B3e):=by walk_at "sc"
theorem B2x:A0m ["text"] ["text"] (A0i A5p):=by walk_at "sc"
theorem A8p:A0m ["outs","names","place","out"] ["outs","names"] (A0i B0g):=by walk_at "sc"
theorem A8b:A0m ["axes","known","place","axis"] ["axes","known"] (A0i B0b):=by walk_at "sc"
theorem A4d:A0m ["program","known","arrays","let","part"] A2z (A0i A8q):=by walk_at "sc"
theorem A8j:A0m ["part","let","arrays","known","term","bound"] D1u (A0i B0c):=by walk_at "sc"
theorem B6f:A0m D0l ["axis","bound"] (A0i A7r):=by walk_at "sc"
theorem C0h:A0m D1i ["axis","bound","known"] (A0i B1s):=by walk_at "sc"
theorem A6d:A0m ["read","bound","arrays","name","axis","shift"] C9s (A0i A9k):=by walk_at "sc"
theorem A7k:A0m ["part","let","name"] ["part","let"] (A0i A5s):=by walk_at "sc"
theorem A3l:A0m ["program","lengths","work","name","axes","let","part"] A2z (A0i B4j):=by walk_at "sc"
theorem A5f:A0m ["axes","lengths","count","length"] B7k (A0i A8a):=by walk_at "sc"
theorem D6f:A0m A2z ["program"] (A0i C8l):=by walk_at "sc"
theorem B2g:A0m ["program","work"] A2z (A0i A9t):=by walk_at "sc"
theorem A4i:A0m ["program","lengths","arrays","let","part"] A2z (A0i A8f):=by walk_at "sc"
theorem B0j:A0m ["let","part","lengths","axes","leads"] D0c (A0i A8l):=by walk_at "sc"
theorem A5q:A0m ["let","part","lengths","axes","leads","spot","at"] ["let","part","lengths"] (A0i B2d):=by walk_at "sc"
theorem B6y:A0m ["guards","at"] ["guards","at"] (A0i A7x):=by walk_at "sc"
theorem A8g:A0m ["let","read","leads","lengths","spot","cell"] D1h (A0i A9g):=by walk_at "sc"
theorem B8o:A0m ["cell","lengths"] ["cell","lengths"] (A0i A9h):=by walk_at "sc"
theorem A5g:A0m ["let","read","leads","spot","cell","told"] C9v (A0i A7y):=by walk_at "sc"
theorem C5f:A0m ["_law_rest"] ["_law_rest"] (A0i B6d):=by walk_at "sc"
theorem A1x:A0m ["_law_rest","_law_own","_law_bound","_law_shape","_law_lengths","_law_itself","_law_some","_law_indexes_here","_law_k","_law_cell_here","_law_axis","_law_shift"] D5p (A0i B0e):=by walk_at "sc"
theorem A2c:A0m ["_law_rest","_law_bound","_law_indexes_here","_law_sizes","_law_guards_here","_law_k","_law_cell_here","_law_axis","_law_low","_law_high","_law_inside"] D3h (A0i B1j):=by walk_at "sc"
theorem A2v:A0m ["_law_read","_law_guards_here","_law_term_here","_law_axis","_law_low","_law_high","_law_inside"] D5r (A0i A9z):=by walk_at "sc"
theorem A7i:A0m ["_law_spots","_law_length","_law_longer_here","_law_spot","_law_number"] D6j (A0i B1m):=by walk_at "sc"
theorem A7v:A0m ["_law_cell_here","_law_sizes","_law_number","_law_size"] D4m (A0i A9d):=by walk_at "sc"
theorem B1p:A0m ["_law_cell_here","_law_spot","_law_number","_law_other"] D6k (A0i B3i):=by walk_at "sc"
theorem A1u:A0m ["_law_names","_law_lengths","_law_guards_here","_law_indexes_here","_law_spots","_law_name","_law_leads_here","_law_spot","_law_at","_law_number","_law_reached","_law_axis","_law_low","_law_high","_law_inside"] D4j (A0i B4h):=by walk_at "sc"
theorem B1d:A0m ["_law_leads_here","_law_array","_law_sizes","_law_spot","_law_cell_here"] D5w (A0i C0s):=by walk_at "sc"
theorem A9i:A0m ["_law_found","_law_due_here","_law_one","_law_other"] D0e (A0i B1k):=by walk_at "sc"
theorem C7l:A0m C9g ["_law_e","_law_due_here"] (A0i B7d):=by walk_at "sc"
theorem A5k:A0m ["_law_program","_law_due_here","_law_found","_law_e"] D3t (A0i B3p):=by walk_at "sc"
theorem A6b:A0m ["_law_cell_here","_law_names","_law_own","_law_sums"] D3w (A0i A9r):=by walk_at "sc"
theorem A1o:A0m ["_law_own","_law_sums","_law_shape","_law_lengths","_law_work","_law_name","_law_turns"] D4g (A0i A7c):=by walk_at "sc"
theorem B5z:A0m ["_law_cell_here","_law_array","_law_names","_law_bound","_law_free"] D4u (A0i B3w):=by walk_at "sc"
theorem A3n:A0m ["_law_rest","_law_names","_law_own","_law_sums","_law_shape","_law_lengths","_law_reads","_law_bound","_law_k","_law_cell_here","_law_itself","_law_array","_law_axes","_law_inner_here","_law_sizes","_law_indexes_here","_law_guards_here"] D6m (A0i C0z):=by walk_at "sc"
theorem B5p:A0m ["_law_cell_here","_law_bound","_law_low"] D3z (A0i B4g):=by walk_at "sc"
theorem A1p:A0m ["_law_reads","_law_joint_here","_law_bound","_law_lengths","_law_due_here","_law_k","_law_array","_law_sizes","_law_indexes_here","_law_guards_here","_law_inner_here","_law_more"] D3i (A0i A6y):=by walk_at "sc"
theorem A1z:A0m ["_law_reads","_law_joint_here","_law_sums","_law_terms","_law_array","_law_sizes","_law_indexes_here","_law_guards_here","_law_inner_here","_law_term_here","_law_name","_law_whole","_law_axis","_law_low","_law_high"] D4o (A0i B7p):=by walk_at "sc"
theorem A2u:A0m ["_law_script","_law_rest","_law_names","_law_lengths","_law_name","_law_own","_law_sums","_law_shape","_law_work","_law_turns","_law_reads","_law_array","_law_sizes","_law_indexes_here","_law_guards_here","_law_inner_here","_law_parts","_law_joint_here","_law_due_here","_law_axes","_law_lets","_law_program"] ["_law_script"] (A0i D0a):=by walk_at "sc"
theorem A6q:(["member"]:List Str).Nodup:=by decide +kernel
theorem B8q:(["axis","shift","at"]:List Str).Nodup:=by decide +kernel
theorem B8m:(["name","length"]:List Str).Nodup:=by decide +kernel
theorem B8h:(["name","axes"]:List Str).Nodup:=by decide +kernel
theorem C4z:(["let"]:List Str).Nodup:=by decide +kernel
theorem C8m:(["axis","lengths"]:List Str).Nodup:=by decide +kernel
theorem C7n:(["sign"]:List Str).Nodup:=by decide +kernel
theorem B9q:(["guard","inner","at"]:List Str).Nodup:=by decide +kernel
theorem B8f:(["number","length"]:List Str).Nodup:=by decide +kernel
theorem B9c:(["_law_axis","_law_shift","_law_at"]:List Str).Nodup:=by decide +kernel
theorem C3d:(["_law_name"]:List Str).Nodup:=by decide +kernel
theorem C3v:(["_law_name","_law_own"]:List Str).Nodup:=by decide +kernel
theorem C3o:(["_law_name","_law_bound"]:List Str).Nodup:=by decide +kernel
theorem C4c:(["_law_name","_law_lengths"]:List Str).Nodup:=by decide +kernel
theorem B1x:(["_law_axis","_law_low","_law_high","_law_k"]:List Str).Nodup:=by decide +kernel
theorem C3n:(["_law_cell_here"]:List Str).Nodup:=by decide +kernel
theorem C3r:(["_law_name","_law_lengths"]:List Str).Nodup:=by decide +kernel
theorem A4m.none {P:Program} {w:World} {K:Frag} {mg:Str->Option Value} {base:Heap} {CX:CXT} {k:Nat} {f:Addr} {fd:FuncData} {ps:List Str} {sp:Sp} (h:∀vs H Q E,¬sp vs H Q E):A4m P w K mg base CX k f fd ps sp :=
 ⟨λvs H Q E q=>(h vs H Q E q).elim,λ_ _ _ H _ _ vs Q E _ _ _ _ q=>(h vs H Q E q).elim⟩
def C1t (e:Str×List Str):PyData:= .tuple [.str e.1,.list (e.2.map PyData.str)]
def B4p (ts:List (Str×List Str)):PyData:= .list (ts.map C1t)
def C4t (xs:List Str):PyData:= .list (xs.map PyData.str)
theorem C1p:∀xs:List Str,PyData.depthAll (xs.map PyData.str)=0/\A4e (xs.map PyData.str)=xs.length
 | []=>⟨rfl,rfl⟩
 | x::r=>by
  obtain ⟨h2,h3⟩:=C1p r;refine ⟨?_,?_⟩
  ·simp [PyData.depthAll,PyData.depth,h2]
  ·simp [A4e,cnt,h3];lia
theorem C5n (xs:List Str):(C4t xs).depth<=1/\cnt (C4t xs)<=1+xs.length:=by
 obtain ⟨h2,h3⟩:=C1p xs;refine ⟨?_,?_⟩
 ·simp [C4t,PyData.depth,h2]
 ·simp only [C4t,cnt,h3];lia
theorem D8h {n:Nat}:∀ts:List (Str×List Str),(∀e∈ts,e.2.length<=n)->PyData.depthAll (ts.map C1t)<=2/\A4e (ts.map C1t)<=ts.length*(n+4)
 | [],_=>⟨by simp [PyData.depthAll],by simp [A4e]⟩
 | e::r,h=>by
  obtain ⟨h2,h3⟩:=D8h r λx hx=>h x (.tail _ hx);obtain ⟨g2,g3⟩:=C1p e.2;have hl:=h e (.head _);refine ⟨?_,?_⟩
  ·simp only [Z0p,C1t,PyData.depthAll,PyData.depth,g2]
   lia
  ·simp only [Z0p,C1t,A4e,cnt,g3,Z0y,Nat.add_mul,Nat.one_mul]
   lia
theorem D1f {n:Nat} (ts:List (Str×List Str)) (h:∀e∈ts,e.2.length<=n):(B4p ts).depth<=3/\cnt (B4p ts)<=1+ts.length*(n+4):=by
 obtain ⟨h2,h3⟩:=D8h ts h;refine ⟨?_,?_⟩
 ·simp only [B4p,PyData.depth];lia
 ·simp only [B4p,cnt];lia
theorem D9i:∀ts:List (Str×Int),PyData.depthAll (ts.map B7u)<=1
 | []=>by simp [PyData.depthAll]
 | e::r=>by
  have h2:=D9i r;simp only [Z0p,B7u,PyData.depthAll,PyData.depth];lia
theorem D0k (ts:List (Str×Int)):(A6p ts).depth<=2:=by
 have h2:=D9i ts;simp only [A6p,PyData.depth];lia
theorem B9a {H:Hp}:∀{ys:List Str} {xs:List V},A5j H xs (ys.map PyData.str)->xs=ys.map V.str
 | [],_,r=>by cases r;rfl
 | y::ys,_,r=>by
  rw [Z0p] at r
  cases r with
  | cons a r =>
   cases a
   rw [Z0p,B9a r]
theorem D0t {H:Hp} {v:V} {ys:List Str} (h:Rep H v (C4t ys)):∃p,v= .ref p/\H p=some (.lst (ys.map V.str)):=by
 obtain ⟨p,xs,rfl,e,r⟩:=A5b (show Rep H v (.list (ys.map PyData.str)) from h);rw [B9a r] at e;exact ⟨p,rfl,e⟩
theorem D6r {H:Hp} {p:Addr} {ys:List Str} (e:H p=some (.lst (ys.map V.str))):Rep H (.ref p) (C4t ys):= .lst e (A5j.strs ys)
theorem D0g {H:Hp} {v:V} {e:Str×List Str} (h:Rep H v (C1t e)):∃b c,v= .ref b/\H b=some (.tup [.str e.1,.ref c])/\H c=some (.lst (e.2.map V.str)):=by
 unfold C1t at h
 cases h with
 | @tup b xs _ eb r =>
  cases r with
  | cons a r =>
   cases r with
   | cons a2 r =>
    cases r
    cases a
    obtain ⟨c,rfl,ec⟩:=D0t a2;exact ⟨b,c,rfl,eb,ec⟩
theorem E2q {H:Hp} {b c:Addr} {e:Str×List Str} (eb:H b=some (.tup [.str e.1,.ref c])) (ec:H c=some (.lst (e.2.map V.str))):Rep H (.ref b) (C1t e):= .tup eb (.cons (.str _) (.cons (D6r ec) .nil))
theorem D5n {H:Hp} {v:V} {e:Str×Int} (h:Rep H v (B7u e)):∃b,v= .ref b/\H b=some (.tup [.str e.1,.int e.2]):=by
 unfold B7u at h
 cases h with
 | @tup b xs _ eb r =>
  cases r with
  | cons a r =>
   cases r with
   | cons a2 r =>
    cases r
    cases a
    cases a2
    exact ⟨b,rfl,eb⟩
theorem B3z {α:Type} {H:Hp} {f:α->PyData} {ts:List α} {xs:List V} (r:A5j H xs (ts.map f)) {i:Nat} {x:V} (hx:xs[i]? =some x):∃e,ts[i]? =some e/\Rep H x (f e):=by
 obtain ⟨d,hd,rx⟩:=r.get2 hx;rw [Z1z] at hd;obtain ⟨e,he,rfl⟩:=Z0i.mp hd;exact ⟨e,he,rx⟩
def B1e (A:Adr):Op3->Addr
 | .plus=>A.be
 | .minus=>A.be
 | .times=>A.be
inductive Ob (A:Adr) (H:Hp):V->Tm->Prop
 | num {a dx:Addr} {z:Int}:H a=some (.ins A.ak dx [("number",.int z)])->Ob A H (.ref a) (.num z)
 | place {a dx:Addr} {x:Str}:H a=some (.ins A.aj dx [("axis",.str x)])->Ob A H (.ref a) (.place x)
 | read {a dx l:Addr} {x:Str} {ix:List (Str×Int)}:H a=some (.ins A.ah dx [("array",.str x),("indexes",.ref l)])->Rep H (.ref l) (A6p ix)->Ob A H (.ref a) (.read x ix)
 | sum {a dx:Addr} {x:Str} {u:V} {b:Tm}:H a=some (.ins A.bp dx [("axis",.str x),("body",u)])->Ob A H u b->Ob A H (.ref a) (.sum x b)
 | pair {a dx:Addr} {k:Op3} {u w:V} {l r:Tm}:H a=some (.ins (B1e A k) dx [("left",u),("right",w)])->Ob A H u l->Ob A H w r->Ob A H (.ref a) (.pair k l r)
 | guard {a dx:Addr} {x:Str} {lo hi:Int} {u w:V} {l r:Tm}:H a=some (.ins A.ae dx [("axis",.str x),("low",.int lo),("high",.int hi),("inner",u),("outer",w)])->Ob A H u l->Ob A H w r->Ob A H (.ref a) (.guard x lo hi l r)
theorem Ob.imp {A:Adr} {H H':Hp} (f:A0p H H') {v:V} {t:Tm} (h:Ob A H v t):Ob A H' v t:=by
 induction h with
 | num e=>exact .num (f _ _ e)
 | place e=>exact .place (f _ _ e)
 | read e r=>exact .read (f _ _ e) (r.same f)
 | sum e _ ih=>exact .sum (f _ _ e) ih
 | pair e _ _ i1 i2=>exact .pair (f _ _ e) i1 i2
 | guard e _ _ i1 i2=>exact .guard (f _ _ e) i1 i2
abbrev Lt:=Str×List Str×Tm
def B2z (A:Adr) (S:Addr->Prop) (H:Hp) (v:V) (e:Lt):Prop:=∃(a dx c:Addr) (n:V) (dn:Unit),v= .ref a/\H a=some (.ins A.cj dx [("name",.str e.1),("axes",.ref c),("term",n)])/\S c/\H c=some (.lst (e.2.1.map V.str))/\Ob A H n e.2.2
abbrev D8y (A:Adr) (S:Addr->Prop) (H:Hp) (xs:List V) (ls:List Lt):Prop:=Paired (B2z A S H) xs ls
theorem B2z.same {A:Adr} {S:Addr->Prop} {H H':Hp} {v:V} {e:Lt} (h:B2z A S H v e) (s:A0p H H'):B2z A S H' v e:=by
 obtain ⟨a,dx,c,n,dn,rfl,e1,s1,e2,e3⟩:=h;exact ⟨a,dx,c,n,dn,rfl,s _ _ e1,s1,s _ _ e2,e3.imp s⟩
structure B9v (A:Adr) (H:Hp) (p:Addr) (wh:Int) (ax:List (Str×Int)) (tb:List (Str×List Str)) (ls:List Lt) (os:List Str):Prop where
 ob:∃dx a t l o,H p=some (.ins A.ag dx [("wheel",.int wh),("axes",.ref a),("tables",.ref t),("lets",.ref l),("outs",.ref o)])/\Rep H (.ref a) (A6p ax)/\Rep H (.ref t) (B4p tb)/\(∃xs,H l=some (.lst xs)/\D8y A (λ_=>True) H xs ls)/\Rep H (.ref o) (C4t os)
theorem B9v.same {A:Adr} {H H':Hp} {p:Addr} {wh:Int} {ax:List (Str×Int)} {tb:List (Str×List Str)} {ls:List Lt} {os:List Str} (h:B9v A H p wh ax tb ls os) (s:A0p H H'):B9v A H' p wh ax tb ls os:=by
 obtain ⟨dx,a,t,l,o,e,r1,r2,⟨xs,e2,r3⟩,r4⟩:=h.ob;exact ⟨dx,a,t,l,o,s _ _ e,r1.same s,r2.same s,⟨xs,s _ _ e2,Paired.mapP r3 λ_ _ z=>z.same s⟩,r4.same s⟩
abbrev Gd:=Str×Int×Int×Bool
abbrev PT:=Tm×List Str×List Gd
noncomputable def prT:Tm->List Str->List Gd->List PT
 | .sum x b,s,g=>(.sum x b,s,g)::prT b (s++[x]) g
 | .pair k l r,s,g=>(.pair k l r,s,g)::(prT l s g++prT r s g)
 | .guard x lo hi l r,s,g=>(.guard x lo hi l r,s,g)::(prT l s (g++[(x,lo,hi,true)])++prT r s (g++[(x,lo,hi,false)]))
 | .num z,s,g=>[(.num z,s,g)]
 | .place x,s,g=>[(.place x,s,g)]
 | .read a i,s,g=>[(.read a i,s,g)]
noncomputable def B9e:Tm->List Str->List Gd->List PT
 | .sum x b,s,g=>[(b,s++[x],g)]
 | .pair _ l r,s,g=>[(l,s,g),(r,s,g)]
 | .guard x lo hi l r,s,g=>[(l,s,g++[(x,lo,hi,true)]),(r,s,g++[(x,lo,hi,false)])]
 | _,_,_=>[]
theorem C3a:∀(u:Tm) (s:List Str) (g:List Gd),prT u s g=(u,s,g)::(B9e u s g).flatMap λk=>prT k.1 k.2.1 k.2.2
 | .num _,_,_=>rfl
 | .place _,_,_=>rfl
 | .read _ _,_,_=>rfl
 | .sum x b,s,g=>by simp [prT,B9e]
 | .pair k l r,s,g=>by simp [prT,B9e]
 | .guard x lo hi l r,s,g=>by simp [prT,B9e]
theorem D1c {u:Tm} {s:List Str} {g:List Gd} {k:PT} (h:k∈B9e u s g):dep k.1+1<=dep u:=by
 cases u with
 | num z=>cases h
 | place x=>cases h
 | read a ix=>cases h
 | sum x b=>rw [Z0w.mp h];simp [dep]
 | pair o l r =>
  simp only [B9e,Z0e,Z1i,or_false] at h;rcases h with rfl | rfl <;> simp only [dep] <;> lia
 | guard x lo hi l r =>
  simp only [B9e,Z0e,Z1i,or_false] at h;rcases h with rfl | rfl <;> simp only [dep] <;> lia
theorem A8h:∀(u:Tm) (s:List Str) (g:List Gd),(prT u s g).length=nod u
 | .num _,_,_=>rfl
 | .place _,_,_=>rfl
 | .read _ _,_,_=>rfl
 | .sum x b,s,g=>by simp [prT,nod,A8h b]
 | .pair k l r,s,g=>by simp [prT,nod,A8h l,A8h r]
 | .guard x lo hi l r,s,g=>by simp [prT,nod,A8h l,A8h r]
def D9t (A:Adr) (H:Hp) (v:V) (g:Gd):Prop:=∃(tp go dx:Addr) (u w:V),v= .ref tp/\H tp=some (.tup [.ref go,.bl g.2.2.2])/\H go=some (.ins A.ae dx [("axis",.str g.1),("low",.int g.2.1),("high",.int g.2.2.1),("inner",u),("outer",w)])
theorem D9t.same {A:Adr} {H H':Hp} {v:V} {g:Gd} (h:D9t A H v g) (s:A0p H H'):D9t A H' v g:=by
 obtain ⟨tp,go,dx,u,w,rfl,e1,e2⟩:=h;exact ⟨tp,go,dx,u,w,rfl,s _ _ e1,s _ _ e2⟩
def A4v (A:Adr) (H:Hp) (v:V) (e:PT):Prop:=∃a dx tv sl gl gs,v= .ref a/\H a=some (.ins A.bh dx [("term",tv),("sums",.ref sl),("guards",.ref gl)])/\Ob A H tv e.1/\H sl=some (.lst (e.2.1.map V.str))/\H gl=some (.lst gs)/\gs.length+dep e.1<=100/\e.2.1.length+dep e.1<=100/\Paired (D9t A H) gs e.2.2
theorem A4v.same {A:Adr} {H H':Hp} {v:V} {e:PT} (h:A4v A H v e) (s:A0p H H'):A4v A H' v e:=by
 obtain ⟨a,dx,tv,sl,gl,gs,rfl,e1,o,e2,e3,r1,r2,r3⟩:=h;exact ⟨a,dx,tv,sl,gl,gs,rfl,s _ _ e1,o.imp s,s _ _ e2,s _ _ e3,r1,r2,Paired.mapP r3 λ_ _ z=>z.same s⟩
local macro_rules | `(tactic| walk_at "lk") => `(tactic| first | with_reducible exact lk0 | (refine lk1 (by decide +kernel) ?_; walk_at "lk") | rfl)
def D0j (K:Frag) (f:Str):Sp:=λvs H Q _=>∃(p C dx:Addr) (v:V),vs=[.ref p,v]/\H p=some (.ins C dx [])/\Cls K C/\A1v K C f/\Q .non (upd H p (.ins C dx [(f,v)]))
def C7i (n:Nat):Sp:=λvs H Q _=>∃(v:V) (d:PyData),vs=[v]/\Rep H v d/\PyData.depth d<=n/\cnt d<=100000/\∀(v':V) (H':Hp),A0p H H'->Rep (A2h (λa=>H a=none) H') v' d->Q v' H'
def D8r (A:Adr):Sp:=λvs H Q _=>∃(a dx:Addr) (fs:List (Str×V)),vs=[.ref a]/\H a=some (.ins A.cj dx fs)/\Q (.ref a) H
def D2o (A:Adr):Sp:=λvs H Q _=>∃(p:Addr) (xs:List V),vs=[.ref p]/\H p=some (.lst xs)/\xs.length<=1000/\(∀x∈xs,∃a dx fs,x= .ref a/\H a=some (.ins A.cj dx fs))/\∀(D:Addr) (H':Hp),H D=none->A0p H H'->H' D=some (.lst xs)->Q (.ref D) H'
def C2e (K:Frag) (f g:Str):Sp:=λvs H Q _=>∃(p C dx:Addr) (v u:V),vs=[.ref p,v,u]/\H p=some (.ins C dx [])/\Cls K C/\A1v K C f/\A1v K C g/\Q .non (upd H p (.ins C dx [(f,v),(g,u)]))
def D1q (A:Adr):Sp:=λvs H Q _=>∃(p dx:Addr) (a b c d e:V),vs=[.ref p,a,b,c,d,e]/\H p=some (.ins A.ae dx [])/\Q .non (upd H p (.ins A.ae dx [("axis",a),("low",b),("high",c),("inner",d),("outer",e)]))
def D0r (A:Adr):Sp:=λvs H Q _=>∃(p dx l:Addr) (x:Str) (ix:List (Str×Int)),vs=[.ref p,.str x,.ref l]/\H p=some (.ins A.ah dx [])/\Rep H (.ref l) (A6p ix)/\ix.length<=1000/\
 ∀(l':Addr) (H':Hp),H' p=some (.ins A.ah dx [("array",.str x),("indexes",.ref l')])->Rep (A2h (λb=>H b=none) H') (.ref l') (A6p ix)->(∀b o,b≠p->H b=some o->H' b=some o)->Q .non H'
def C9c (A:Adr):Sp:=λvs H Q _=>∃(p dx l:Addr) (n:V) (x:Str) (ys:List Str),vs=[.ref p,.str x,.ref l,n]/\H p=some (.ins A.cj dx [])/\H l=some (.lst (ys.map V.str))/\ys.length<=1000/\
 ∀(c:Addr) (H':Hp),H c=none->H' p=some (.ins A.cj dx [("name",.str x),("axes",.ref c),("term",n)])->H' c=some (.lst (ys.map V.str))->(∀b o,b≠p->H b=some o->H' b=some o)->Q .non H'
def D1m (A:Adr):Sp:=λvs H Q _=>∃(p dx a t l o:Addr) (wh:Int) (ax:List (Str×Int)) (tb:List (Str×List Str)) (xs:List V) (os:List Str),vs=[.ref p,.int wh,.ref a,.ref t,.ref l,.ref o]/\H p=some (.ins A.ag dx [])/\
 Rep H (.ref a) (A6p ax)/\ax.length<=1000/\Rep H (.ref t) (B4p tb)/\tb.length<=1000/\(∀e∈tb,e.2.length<=10)/\H l=some (.lst xs)/\xs.length<=1000/\(∀x∈xs,∃a dx fs,x= .ref a/\a≠p/\H a=some (.ins A.cj dx fs))/\Rep H (.ref o) (C4t os)/\os.length<=1000/\
 ∀(a' t' l' o':Addr) (H':Hp),H' p=some (.ins A.ag dx [("wheel",.int wh),("axes",.ref a'),("tables",.ref t'),("lets",.ref l'),("outs",.ref o')])->Rep (A2h (λb=>H b=none) H') (.ref a') (A6p ax)->Rep (A2h (λb=>H b=none) H') (.ref t') (B4p tb)->H l'=none->H' l'=some (.lst xs)->Rep (A2h (λb=>H b=none) H') (.ref o') (C4t os)->(∀b o,b≠p->H b=some o->H' b=some o)->Q .non H'
variable {P:Program} {w:World} {K:Frag} {mg:Str->Option Value} {base:Heap} {t:Adr}
theorem B5i (T:Txt K mg t):FP P w mg base T.di 1 (D0j K "number"):=by
 refine T.di.F.ok B4v (by walk_at "ln") λ_ A _ s H _ Q E hr h=> ?_
 ·obtain ⟨p,C,dx,v,rfl,hp,cl,na,k⟩:=h;exact ⟨_,(A0e (A3k (pv 0) (pv 1) rfl)),_,rfl,_,rfl,p,C,dx,[],rfl,hp,cl,na,(by decide),k⟩
theorem B9m (T:Txt K mg t):FP P w mg base T.kf 1 (C2e K "left" "right"):=by
 refine T.kf.F.ok B9j (by walk_at "ln") λ_ A _ s H _ Q E hr h=> ?_
 ·obtain ⟨p,C,dx,v,u,rfl,hp,cl,n1,n2,k⟩:=h
  refine ⟨_,(A0c (A3k (pv 0) (pv 1) rfl)
   (A0e (A3k (pv 0) (pv 2) rfl))),_,rfl,_,rfl,p,C,dx,[],rfl,hp,cl,n1,(by decide),_,rfl,_,rfl,p,C,dx,_,rfl,A0b,cl,n2,(by show 1<1000;decide),?_⟩
  show Q V.non (upd (upd H p _) p (.ins C dx (A5y "right" u (A5y "left" v []))));rw [A6w,A1t,A1q (by decide +kernel),A1t];exact k
theorem C0p (T:Txt K mg t):FP P w mg base T.ja 1 (C2e K "axis" "body"):=by
 refine T.ja.F.ok C1b (by walk_at "ln") λ_ A _ s H _ Q E hr h=> ?_
 ·obtain ⟨p,C,dx,v,u,rfl,hp,cl,n1,n2,k⟩:=h
  refine ⟨_,(A0c (A3k (pv 0) (pv 1) rfl)
   (A0e (A3k (pv 0) (pv 2) rfl))),_,rfl,_,rfl,p,C,dx,[],rfl,hp,cl,n1,(by decide),_,rfl,_,rfl,p,C,dx,_,rfl,A0b,cl,n2,(by show 1<1000;decide),?_⟩
  show Q V.non (upd (upd H p _) p (.ins C dx (A5y "body" u (A5y "axis" v []))));rw [A6w,A1t,A1q (by decide +kernel),A1t];exact k
theorem B0s (T:Txt K mg t):FP P w mg base T.cz 1 (D1q t):=by
 refine T.cz.F.ok B7q (by walk_at "ln") λ_ A _ s H _ Q E hr h=> ?_
 ·obtain ⟨p,dx,a,b,c,d,e,rfl,hp,k⟩:=h;have e1:A5y "low" b (A5y "axis" a [])=([("axis",a),("low",b)]:List (Str×V)):=by rw [A1t,A1q (by decide +kernel),A1t]
  have e2:A5y "high" c ([("axis",a),("low",b)]:List (Str×V))=([("axis",a),("low",b),("high",c)]:List (Str×V)):=by rw [A1q (by decide +kernel),A1q (by decide +kernel),A1t]
  have e3:A5y "inner" d ([("axis",a),("low",b),("high",c)]:List (Str×V))=([("axis",a),("low",b),("high",c),("inner",d)]:List (Str×V)):=by rw [A1q (by decide +kernel),A1q (by decide +kernel),A1q (by decide +kernel),A1t]
  have e4:A5y "outer" e ([("axis",a),("low",b),("high",c),("inner",d)]:List (Str×V))=([("axis",a),("low",b),("high",c),("inner",d),("outer",e)]:List (Str×V)):=by rw [A1q (by decide +kernel),A1q (by decide +kernel),A1q (by decide +kernel),A1q (by decide +kernel),A1t]
  refine ⟨_,(A0c (A3k (pv 0) (pv 1) rfl)
   (A0c (A3k (pv 0) (pv 2) rfl)
   (A0c (A3k (pv 0) (pv 3) rfl)
   (A0c (A3k (pv 0) (pv 4) rfl)
   (A0e (A3k (pv 0) (pv 5) rfl)))))),_,rfl,_,rfl,p,_,dx,[],rfl,hp,T.bc,T.ie,(by decide),_,rfl,_,rfl,p,_,dx,_,rfl,A0b,T.bc,T.ng,(by show 1<1000;decide),?_⟩
  rw [A6w,e1];refine ⟨_,rfl,_,rfl,p,_,dx,_,rfl,A0b,T.bc,T.m8,(by show 2<1000;decide),?_⟩;rw [A6w,e2];refine ⟨_,rfl,_,rfl,p,_,dx,_,rfl,A0b,T.bc,T.jm,(by show 3<1000;decide),?_⟩;rw [A6w,e3];refine ⟨_,rfl,_,rfl,p,_,dx,_,rfl,A0b,T.bc,T.kh,(by show 4<1000;decide),?_⟩;show Q V.non (upd (upd H p _) p _);rw [A6w,e4];exact k
theorem A5n {T:String} (h:T="NoneType"\/T="bool"\/T="int"\/T="str"\/T="tuple"):∀u,A3d (.ty "list") u->kitOne K (.type T) u=some false:=by
 rcases h with rfl | rfl | rfl | rfl | rfl <;> exact C2o (by decide +kernel) (by decide +kernel) (by decide +kernel)
theorem A6a {T:String} (h:T="NoneType"\/T="bool"\/T="int"\/T="str"):∀u,A3d (.ty "tuple") u->kitOne K (.type T) u=some false:=by
 rcases h with rfl | rfl | rfl | rfl <;> exact C2o (by decide +kernel) (by decide +kernel) (by decide +kernel)
theorem A7f {T:String} (h:T="NoneType"\/T="bool"\/T="int"\/T="str"):∀u,A3d (.ty "dict") u->kitOne K (.type T) u=some false:=by
 rcases h with rfl | rfl | rfl | rfl <;> exact C2o (by decide +kernel) (by decide +kernel) (by decide +kernel)
theorem C1x (T:Txt K mg t) {m n:Nat} {sp':Sp} (Ga0:A4m P w K mg base CX0 m t.kc t.jz ["value"] sp')
  (hs:∀(v:V) (d:PyData) (H:Hp) (Q:VK),Rep H v d->PyData.depth d+1<=n->cnt d<=100000->(∀(v':V) (H':Hp),A0p H H'->Rep (A2h (λa=>H a=none) H') v' d->Q v' H')->sp' [v] H Q E0) :
  A4m P w K mg base CX0 (m+1) t.kc t.jz ["value"] (C7i n):=by
 refine T.ay.F.ok B4m (by walk_at "ln") λ_ A _ s H _ Q E hr h=> ?_
 ·obtain ⟨v,d,rfl,rp,hd,hc,k⟩:=h
  refine ⟨_,(A0c (A1n (A2k (A0s A1h (by rfl) T.ac Z0d (A0a (pv 0) (A0a (A4n (v:=V.ty "list") rfl T.sx Z1o rfl) A0d))))
    (A0e (A0v (A3s (N':=["member"]) (ix:=(List.replicate 1 none)) rfl (A2q rfl (by decide +kernel) (by decide +kernel)) (A2r rfl) (B5t (pv 0)) (λ_ _ _ _=>(A0h (i:=0) A6q rfl (.inl rfl))) (λ_ _ _ _=>(pcl Ga0 hr T.ay (A0a (pv 0) A0d))))))
    A0r)
   (A0c (A1n (A2k (A0s A1h (by rfl) T.ac Z0d (A0a (pv 0) (A0a (A4n (v:=V.ty "tuple") rfl T.fo Z0m rfl) A0d))))
    (A0e (A0v (A3a A4f (by rfl) T.fo Z0m (A0a (A3s (N':=["member"]) (ix:=(List.replicate 1 none)) rfl (A2q rfl (by decide +kernel) (by decide +kernel)) (A2r rfl) (B5t (pv 0)) (λ_ _ _ _=>(A0h (i:=0) A6q rfl (.inl rfl))) (λ_ _ _ _=>(pcl Ga0 hr T.ay (A0a (pv 0) A0d)))) A0d))))
    A0r)
   (A0c (A1n (A2k (A0s A1h (by rfl) T.ac Z0d (A0a (pv 0) (A0a (A4n (v:=V.ty "dict") rfl T.q9 Z2q rfl) A0d))))
    (A0e B6w)
    A0r)
   (A0e (A0v (pv 0)))))),?_⟩
  cases rp with
  | non =>
   refine ⟨_,rfl,_,_,_,_,rfl,.non,A5n (.inl rfl),false,rfl,A3v ?_⟩;refine ⟨_,rfl,_,_,_,_,rfl,.non,A6a (.inl rfl),false,rfl,A3v ?_⟩;exact ⟨_,rfl,_,_,_,_,rfl,.non,A7f (.inl rfl),false,rfl,A3v ⟨_,rfl,k _ _ (A0p.refl _) .non⟩⟩
  | bl b =>
   refine ⟨_,rfl,_,_,_,_,rfl,.bl b,A5n (.inr (.inl rfl)),false,rfl,A3v ?_⟩;refine ⟨_,rfl,_,_,_,_,rfl,.bl b,A6a (.inr (.inl rfl)),false,rfl,A3v ?_⟩;exact ⟨_,rfl,_,_,_,_,rfl,.bl b,A7f (.inr (.inl rfl)),false,rfl,A3v ⟨_,rfl,k _ _ (A0p.refl _) (.bl b)⟩⟩
  | int b =>
   refine ⟨_,rfl,_,_,_,_,rfl,.int b,A5n (.inr (.inr (.inl rfl))),false,rfl,A3v ?_⟩;refine ⟨_,rfl,_,_,_,_,rfl,.int b,A6a (.inr (.inr (.inl rfl))),false,rfl,A3v ?_⟩;exact ⟨_,rfl,_,_,_,_,rfl,.int b,A7f (.inr (.inr (.inl rfl))),false,rfl,A3v ⟨_,rfl,k _ _ (A0p.refl _) (.int b)⟩⟩
  | str b =>
   refine ⟨_,rfl,_,_,_,_,rfl,.str b,A5n (.inr (.inr (.inr (.inl rfl)))),false,rfl,A3v ?_⟩;refine ⟨_,rfl,_,_,_,_,rfl,.str b,A6a (.inr (.inr (.inr rfl))),false,rfl,A3v ?_⟩;exact ⟨_,rfl,_,_,_,_,rfl,.str b,A7f (.inr (.inr (.inr rfl))),false,rfl,A3v ⟨_,rfl,k _ _ (A0p.refl _) (.str b)⟩⟩
  | @lst p xs ds e r =>
   have hl1:=r.len;have hl2:=C1r ds;have hc':A4e ds+1<=100000:=hc;have hd':PyData.depthAll ds+1<=n:=hd;refine ⟨_,rfl,_,_,_,_,rfl,.lst e,B0h "list",true,rfl,B2r ?_⟩;refine .inl ⟨_,rfl,p,rfl,⟨_,SqL.of e⟩,λD hD=> ?_⟩
   refine A2l (K:=K) (a:=p) (D:=D) (xs:=xs) (λi ys H2=>A0p H H2/\H2 D=some (.lst ys)/\A5j (A2h (λa=>H a=none/\a≠D) H2) ys (ds.take i)/\ys.length=i)
    ⟨A0f hD,A0b,(by rw [List.take_zero];exact .nil),rfl⟩ (λi ys H2 s2=>SqL.of (s2.1 _ _ e)) ?_ ?_
   ·rintro i x ys H2 hx ⟨s2,hD2,rs,hyl⟩;obtain ⟨d,hdi,rx⟩:=r.get2 hx;obtain ⟨c1,c2⟩:=C6w hdi;have hi:i<xs.length:=(Z03.mp hx).1;refine ⟨True.intro,_,rfl,hs x d H2 _ (rx.same s2) (by lia) (by lia) λv' H5 s5 rp5=> ?_⟩;have hnS:¬(H D=none/\D≠D):=λz=>z.2 rfl;refine ⟨s5 _ _ hD2,A1j (by lia),A0u (s2.trans s5) hD,A0b,?_,by simp [hyl]⟩;rw [Z14,hdi];show A5j _ (ys++[v']) (ds.take i++[d]);refine (rs.same (A5o (A0w s5) hnS)).snoc (rp5.same ((A8c (A0p.refl _) λa o _ ha=>⟨s2.free ha,λz=> ?_⟩).trans (A5o (A0p.refl _) hnS)));subst z;rw [hD2] at ha;cases ha
   ·rintro ys H2 ⟨s2,hD2,rs,hyl⟩;refine k (.ref D) H2 s2 (.lst (A1e hD hD2) ?_);rw [hl1,Z18] at rs;exact rs.same (A8c (A0p.refl _) λa o _ h=>h.1)
  | @tup p xs ds e r =>
   have hl1:=r.len;have hl2:=C1r ds;have hc':A4e ds+1<=100000:=hc;have hd':PyData.depthAll ds+1<=n:=hd;refine ⟨_,rfl,_,_,_,_,rfl,.tup e,A5n (.inr (.inr (.inr (.inr rfl)))),false,rfl,A3v ?_⟩;refine ⟨_,rfl,_,_,_,_,rfl,.tup e,B0h "tuple",true,rfl,B2r ?_⟩;refine .inr ⟨_,rfl,p,rfl,⟨_,SqT.of e⟩,λD hD=> ?_⟩
   refine C6d (K:=K) (a:=p) (D:=D) (xs:=xs) (λi ys H2=>A0p H H2/\H2 D=some (.lst ys)/\A5j (A2h (λa=>H a=none/\a≠D) H2) ys (ds.take i)/\ys.length=i)
    ⟨A0f hD,A0b,(by rw [List.take_zero];exact .nil),rfl⟩ (λi ys H2 s2=>SqT.of (s2.1 _ _ e)) ?_ ?_
   ·rintro i x ys H2 hx ⟨s2,hD2,rs,hyl⟩;obtain ⟨d,hdi,rx⟩:=r.get2 hx;obtain ⟨c1,c2⟩:=C6w hdi;have hi:i<xs.length:=(Z03.mp hx).1;refine ⟨True.intro,_,rfl,hs x d H2 _ (rx.same s2) (by lia) (by lia) λv' H5 s5 rp5=> ?_⟩;have hnS:¬(H D=none/\D≠D):=λz=>z.2 rfl;refine ⟨s5 _ _ hD2,A1j (by lia),A0u (s2.trans s5) hD,A0b,?_,by simp [hyl]⟩;rw [Z14,hdi];show A5j _ (ys++[v']) (ds.take i++[d]);refine (rs.same (A5o (A0w s5) hnS)).snoc (rp5.same ((A8c (A0p.refl _) λa o _ ha=>⟨s2.free ha,λz=> ?_⟩).trans (A5o (A0p.refl _) hnS)));subst z;rw [hD2] at ha;cases ha
   ·rintro ys H2 ⟨s2,hD2,rs,hyl⟩;refine ⟨D,ys,rfl,.inl ⟨SqL.of hD2,λl hl=> ?_⟩⟩;refine k (.ref l) _ (s2.trans (A0f hl)) (.tup (A1e (s2.free hl) A0b) ?_);rw [hl1,Z18] at rs;exact rs.same ((A8c (A0p.refl _) λa o _ h=>h.1).trans (A0w (A0f hl)))
theorem B3g (T:Txt K mg t):∀n:Nat,A4m P w K mg base CX0 (n+1) t.kc t.jz ["value"] (C7i n)
 | 0=>C1x T (sp':=λ_ _ _ _=>False) (m:=0) (A4m.none λ_ _ _ _ h=>h) λv d H Q _ h=>absurd h (by lia)
 | n+1=>C1x T (B3g T n) λv d H Q rp hd hc k=>⟨v,d,rfl,rp,by lia,hc,k⟩
theorem B9g (T:Txt K mg t):FP P w mg base T.j_ 5 (D0r t):=by
 have Ga0:= @B3g P w K mg base t T 2;refine T.j_.F.ok B8t (by walk_at "ln") λ_ A _ s H _ Q E hr h=> ?_
 ·obtain ⟨p,dx,l,x,ix,rfl,hp,rp,hix,k⟩:=h;have hcn:=D2r (ix:=ix)
  refine ⟨_,(A0c (A3k (pv 0) (pv 1) rfl)
   (A0e (A3k (pv 0) (pcl Ga0 hr T.ay (A0a (pv 2) A0d)) rfl))),_,rfl,_,rfl,p,_,dx,[],rfl,hp,T.bu,T.bw,(by decide),?_⟩
  refine ⟨_,rfl,.ref l,A6p ix,rfl,rp.ins hp,C9d,by lia,λv' H2 s2 rp2=> ?_⟩;have hp2:=s2 _ _ (A0b (H:=H) (a:=p));obtain ⟨l',xs,rfl,el,rs⟩:=A5b (show Rep _ v' (.list (ix.map B7u)) from rp2);refine ⟨_,rfl,p,_,dx,_,rfl,hp2,T.bu,T.cr,(by show 1<1000;decide),?_⟩;show Q V.non (upd H2 p (.ins t.ah dx (A5y "indexes" (.ref l') (A5y "array" (.str x) []))));rw [A1t,A1q (by decide +kernel),A1t]
  have fr:∀{q:Addr},upd H p (.ins t.ah dx (A5y "array" (.str x) [])) q=none->H q=none:=λ{q} z=>by
   by_cases zb:q=p
   ·subst zb;rw [A0b] at z;cases z
   ·rw [A0j zb] at z;exact z
  refine k l' _ A0b (rp2.imp2 (λq ys z=>A1e (fr (A1a z).1) (by rw [A0j (A2n (A1a z).2 hp2 (by intro z;cases z))];exact (A1a z).2)) λq ys z=>A1e (fr (A1a z).1) (by rw [A0j (A2n (A1a z).2 hp2 (by intro z;cases z))];exact (A1a z).2)) λb o hb e=> ?_;rw [A0j hb];exact s2 _ _ (by rw [A0j hb];exact e)
theorem D3j (T:Txt K mg t):FO P w base T.ay 1 (D8r t):=by
 refine T.ay.F.ok B4m (by walk_at "ln") λ_ A _ s H _ Q E hr h=> ?_
 ·obtain ⟨a,dx,fs,rfl,e,k⟩:=h;have Ga0:A4m P w K mg base CX0 0 t.kc t.jz ["value"] (λ_ _ _ _=>False):=A4m.none λ_ _ _ _ h=>h;have ty:A9s K H (.ref a) (.ref t.cj):= .ins e T.bq T.uv.ha T.uv.hn T.uv.htk T.uv.hm
  refine ⟨_,(A0c (A1n (A2k (A0s A1h (by rfl) T.ac Z0d (A0a (pv 0) (A0a (A4n (v:=V.ty "list") rfl T.sx Z1o rfl) A0d))))
    (A0e (A0v (A3s (N':=["member"]) (ix:=(List.replicate 1 none)) rfl (A2q rfl (by decide +kernel) (by decide +kernel)) (A2r rfl) (B5t (pv 0)) (λ_ _ _ _=>(A0h (i:=0) A6q rfl (.inl rfl))) (λ_ _ _ _=>(pcl Ga0 hr T.ay (A0a (pv 0) A0d))))))
    A0r)
   (A0c (A1n (A2k (A0s A1h (by rfl) T.ac Z0d (A0a (pv 0) (A0a (A4n (v:=V.ty "tuple") rfl T.fo Z0m rfl) A0d))))
    (A0e (A0v (A3a A4f (by rfl) T.fo Z0m (A0a (A3s (N':=["member"]) (ix:=(List.replicate 1 none)) rfl (A2q rfl (by decide +kernel) (by decide +kernel)) (A2r rfl) (B5t (pv 0)) (λ_ _ _ _=>(A0h (i:=0) A6q rfl (.inl rfl))) (λ_ _ _ _=>(pcl Ga0 hr T.ay (A0a (pv 0) A0d)))) A0d))))
    A0r)
   (A0c (A1n (A2k (A0s A1h (by rfl) T.ac Z0d (A0a (pv 0) (A0a (A4n (v:=V.ty "dict") rfl T.q9 Z2q rfl) A0d))))
    (A0e B6w)
    A0r)
   (A0e (A0v (pv 0)))))),?_⟩
  refine ⟨_,rfl,_,_,_,_,rfl,ty,C2r T.uO (by decide +kernel),false,rfl,A3v ?_⟩;refine ⟨_,rfl,_,_,_,_,rfl,ty,C2r T.ub (by decide +kernel),false,rfl,A3v ?_⟩;exact ⟨_,rfl,_,_,_,_,rfl,ty,C2r T.uw (by decide +kernel),false,rfl,A3v ⟨_,rfl,k⟩⟩
theorem D5h (T:Txt K mg t):FO P w base T.ay 2 (D2o t):=by
 have Ga0:= @D3j P w K mg base t T;refine T.ay.F.ok B4m (by walk_at "ln") λ_ A _ s H _ Q E hr h=> ?_
 ·obtain ⟨p,xs,rfl,e,hl,hx,k⟩:=h
  refine ⟨_,(A0c (A1n (A2k (A0s A1h (by rfl) T.ac Z0d (A0a (pv 0) (A0a (A4n (v:=V.ty "list") rfl T.sx Z1o rfl) A0d))))
    (A0e (A0v (A3s (N':=["member"]) (ix:=(List.replicate 1 none)) rfl (A2q rfl (by decide +kernel) (by decide +kernel)) (A2r rfl) (B5t (pv 0)) (λ_ _ _ _=>(A0h (i:=0) A6q rfl (.inl rfl))) (λ_ _ _ _=>(pcl Ga0 hr T.ay (A0a (pv 0) A0d))))))
    A0r)
   (A0c (A1n (A2k (A0s A1h (by rfl) T.ac Z0d (A0a (pv 0) (A0a (A4n (v:=V.ty "tuple") rfl T.fo Z0m rfl) A0d))))
    (A0e (A0v (A3a A4f (by rfl) T.fo Z0m (A0a (A3s (N':=["member"]) (ix:=(List.replicate 1 none)) rfl (A2q rfl (by decide +kernel) (by decide +kernel)) (A2r rfl) (B5t (pv 0)) (λ_ _ _ _=>(A0h (i:=0) A6q rfl (.inl rfl))) (λ_ _ _ _=>(pcl Ga0 hr T.ay (A0a (pv 0) A0d)))) A0d))))
    A0r)
   (A0c (A1n (A2k (A0s A1h (by rfl) T.ac Z0d (A0a (pv 0) (A0a (A4n (v:=V.ty "dict") rfl T.q9 Z2q rfl) A0d))))
    (A0e B6w)
    A0r)
   (A0e (A0v (pv 0)))))),?_⟩
  refine ⟨_,rfl,_,_,_,_,rfl,.lst e,B0h "list",true,rfl,B2r ?_⟩;refine .inl ⟨_,rfl,p,rfl,⟨_,SqL.of e⟩,λD hD=> ?_⟩
  refine A2l (K:=K) (a:=p) (D:=D) (xs:=xs) (λi ys H2=>A0p H H2/\H2 D=some (.lst ys)/\ys=xs.take i)
   ⟨A0f hD,A0b,rfl⟩ (λi ys H2 s2=>SqL.of (s2.1 _ _ e)) ?_ ?_
  ·rintro i x ys H2 hxi ⟨s2,hD2,rfl⟩;obtain ⟨a,dx,fs,rfl,ea⟩:=hx x (Z13 hxi);have hlt:(xs.take i).length<=xs.length:=by rw [Z0x];lia
   refine ⟨True.intro,_,rfl,a,dx,fs,rfl,s2 _ _ ea,hD2,A1j (by lia),A0u s2 hD,A0b,?_⟩;rw [Z14,hxi];rfl
  ·rintro ys H2 ⟨s2,hD2,rfl⟩;rw [Z18] at hD2;exact k D H2 hD s2 hD2
theorem D2i (T:Txt K mg t):FO P w base T.ay 4 (λvs H Q E=>C7i 3 vs H Q E\/D2o t vs H Q E):=A4m.or (B3g T 3) ((D5h T).mono (by lia))
theorem C0m (T:Txt K mg t):FP P w mg base T.mq 5 (C9c t):=by
 have Ga0:= @D2i P w K mg base t T;refine T.mq.F.ok C1c (by walk_at "ln") λ_ A _ s H _ Q E hr h=> ?_
 ·obtain ⟨p,dx,l,n,x,ys,rfl,hp,hl,hy,k⟩:=h;obtain ⟨c2,c3⟩:=C5n ys;have lp:l≠p:=A2n hl hp (by intro z;cases z)
  refine ⟨_,(A0c (A3k (pv 0) (pv 1) rfl)
   (A0c (A3k (pv 0) (pcl Ga0 hr T.ay (A0a (pv 2) A0d)) rfl)
   (A0e (A3k (pv 0) (pv 3) rfl)))),_,rfl,_,rfl,p,_,dx,[],rfl,hp,T.bq,T.bv,(by decide),?_⟩
  refine ⟨_,rfl,.inl ⟨.ref l,C4t ys,rfl,(D6r hl).ins hp,by lia,by lia,λv' H2 s2 rp2=> ?_⟩⟩;have hp2:=s2 _ _ (A0b (H:=H) (a:=p));obtain ⟨c,rfl,ec⟩:=D0t rp2;obtain ⟨hc0,ec⟩:=A1a ec
  have hcn:H c=none:=by
   by_cases z:c=p
   ·subst z;rw [A0b] at hc0;cases hc0
   ·rw [A0j z] at hc0;exact hc0
  have cp:c≠p:=λz=>by subst z;rw [hp] at hcn;cases hcn
  refine ⟨_,rfl,p,_,dx,_,rfl,hp2,T.bq,T.cf,(by show 1<1000;decide),?_⟩;refine ⟨_,rfl,_,rfl,p,_,dx,_,rfl,A0b,T.bq,T.dz,(by show 2<1000;decide),?_⟩;show Q V.non (upd (upd H2 p _) p (.ins t.cj dx (A5y "term" n (A5y "axes" (.ref c) (A5y "name" (.str x) [])))));have e1:A5y "axes" (V.ref c) (A5y "name" (.str x) [])=([("name",.str x),("axes",.ref c)]:List (Str×V)):=by rw [A1t,A1q (by decide +kernel),A1t]
  have e2:A5y "term" n ([("name",.str x),("axes",.ref c)]:List (Str×V))=([("name",.str x),("axes",.ref c),("term",n)]:List (Str×V)):=by rw [A1q (by decide +kernel),A1q (by decide +kernel),A1t]
  rw [A6w,e1,e2];refine k c _ hcn A0b (by rw [A0j cp];exact ec) λb o hb e=> ?_;rw [A0j hb];exact s2 _ _ (by rw [A0j hb];exact e)
theorem B3o (T:Txt K mg t):FP P w mg base T.g9 5 (D1m t):=by
 have Ga0:= @D2i P w K mg base t T;refine T.g9.F.ok B3m (by walk_at "ln") λ_ A _ s H _ Q E hr h=> ?_
 ·obtain ⟨p,dx,a,tt,l,o,wh,ax,tb,xs,os,rfl,hp,ra,la,rt,lt,lt2,hl,ll,hx,ro,lo,k⟩:=h;have a2:=D0k ax;have a3:=D2r (ix:=ax);obtain ⟨t2,t3⟩:=D1f tb lt2;obtain ⟨o2,o3⟩:=C5n os
  have fr:∀{H':Hp} {u:HO} {b:Addr},A0p (upd H p u) H'->H' b=none->H b=none:=λ{H' u b} s z=>by
   have z2:=s.free z;by_cases zb:b=p
   ·subst zb;rw [A0b] at z2;cases z2
   ·rw [A0j zb] at z2;exact z2
  have e1:∀v:V,A5y "axes" v [("wheel",.int wh)]=([("wheel",.int wh),("axes",v)]:List (Str×V)):=λv=>by rw [A1q (by decide +kernel),A1t]
  have e2:∀u v:V,A5y "tables" v [("wheel",.int wh),("axes",u)]=([("wheel",.int wh),("axes",u),("tables",v)]:List (Str×V)):=λu v=>by rw [A1q (by decide +kernel),A1q (by decide +kernel),A1t]
  have e3:∀u1 u v:V,A5y "lets" v [("wheel",.int wh),("axes",u1),("tables",u)]=([("wheel",.int wh),("axes",u1),("tables",u),("lets",v)]:List (Str×V)):=λu1 u v=>by rw [A1q (by decide +kernel),A1q (by decide +kernel),A1q (by decide +kernel),A1t]
  have e4:∀u1 u2 u v:V,A5y "outs" v [("wheel",.int wh),("axes",u1),("tables",u2),("lets",u)]=([("wheel",.int wh),("axes",u1),("tables",u2),("lets",u),("outs",v)]:List (Str×V)):=λu1 u2 u v=>by rw [A1q (by decide +kernel),A1q (by decide +kernel),A1q (by decide +kernel),A1q (by decide +kernel),A1t]
  refine ⟨_,(A0c (A3k (pv 0) (pv 1) rfl)
   (A0c (A3k (pv 0) (pcl Ga0 hr T.ay (A0a (pv 2) A0d)) rfl)
   (A0c (A3k (pv 0) (pcl Ga0 hr T.ay (A0a (pv 3) A0d)) rfl)
   (A0c (A3k (pv 0) (pcl Ga0 hr T.ay (A0a (pv 4) A0d)) rfl)
   (A0e (A3k (pv 0) (pcl Ga0 hr T.ay (A0a (pv 5) A0d)) rfl)))))),_,rfl,_,rfl,p,_,dx,[],rfl,hp,T.ao,T.pi,(by decide),?_⟩
  rw [A1t];refine ⟨_,rfl,.inl ⟨.ref a,A6p ax,rfl,ra.ins hp,by lia,by lia,λva H2 s2 rp2=> ?_⟩⟩;have hp2:=s2 _ _ (A0b (H:=H) (a:=p));obtain ⟨a',xa,rfl,ea,_⟩:=A5b (show Rep _ va (.list (ax.map B7u)) from rp2);refine ⟨_,rfl,p,_,dx,_,rfl,hp2,T.ao,T.eu,(by show 1<1000;decide),?_⟩;rw [e1];have sA:∀b u,b≠p->H b=some u->upd H2 p (.ins t.ag dx [("wheel",.int wh),("axes",.ref a')]) b=some u:=λb u hb e=>by rw [A0j hb];exact s2 _ _ (by rw [A0j hb];exact e)
  have rA:Rep (A2h (λb=>H b=none) (upd H2 p (.ins t.ag dx [("wheel",.int wh),("axes",.ref a')]))) (.ref a') (A6p ax):=by
   refine rp2.imp2 (λq ys z=> ?_) λq ys z=> ?_
   ·obtain ⟨z1,z2⟩:=A1a z;have hq:H q=none:=fr (A0p.refl _) z1;exact A1e hq (by rw [A0j (A2n z2 hp2 (by intro z;cases z))];exact z2)
   ·obtain ⟨z1,z2⟩:=A1a z;have hq:H q=none:=fr (A0p.refl _) z1;exact A1e hq (by rw [A0j (A2n z2 hp2 (by intro z;cases z))];exact z2)
  have nap:∀{b:Addr} {u:HO},H b=some u->(∀C d fs,u≠.ins C d fs)->b≠p:=λe n z=>by subst z;rw [hp] at e;cases e;exact n _ _ _ rfl
  have rt2:Rep (upd H2 p (.ins t.ag dx [("wheel",.int wh),("axes",.ref a')])) (.ref tt) (B4p tb):=rt.imp2 (λq ys z=>sA _ _ (nap z (by intros;intro z;cases z)) z) λq ys z=>sA _ _ (nap z (by intros;intro z;cases z)) z;refine ⟨_,rfl,.inl ⟨.ref tt,B4p tb,rfl,rt2,by lia,by lia,λvt H3 s3 rp3=> ?_⟩⟩;have hp3:=s3 _ _ (A0b (H:=H2) (a:=p));obtain ⟨t',xt,rfl,et,_⟩:=A5b (show Rep _ vt (.list (tb.map C1t)) from rp3);refine ⟨_,rfl,p,_,dx,_,rfl,hp3,T.ao,T.bt,(by show 2<1000;decide),?_⟩;rw [e2]
  have f3:∀{b:Addr},upd H2 p (.ins t.ag dx [("wheel",.int wh),("axes",.ref a')]) b=none->H b=none:=λ{b} z=>by
   by_cases zb:b=p
   ·subst zb;rw [A0b] at z;cases z
   ·rw [A0j zb] at z;exact fr s2 z
  have mv3:∀{v:V} {d:PyData} {G:Hp},A0p G H3->(∀b o,G b=some o->H b=none)->Rep G v d->Rep (A2h (λb=>H b=none) (upd H3 p (.ins t.ag dx [("wheel",.int wh),("axes",.ref a'),("tables",.ref t')]))) v d:=λ{v d G} sg hg r=>r.imp2 (λq ys z=>A1e (hg _ _ z) (by rw [A0j (A2n (sg _ _ z) hp3 (by intro z;cases z))];exact sg _ _ z)) λq ys z=>A1e (hg _ _ z) (by rw [A0j (A2n (sg _ _ z) hp3 (by intro z;cases z))];exact sg _ _ z);have sB:∀b u,b≠p->H b=some u->upd H3 p (.ins t.ag dx [("wheel",.int wh),("axes",.ref a'),("tables",.ref t')]) b=some u:=λb u hb e=>by rw [A0j hb];exact s3 _ _ (sA b u hb e)
  have rA3:=mv3 (A1l.trans s3) (λb o z=>(A1a z).1) rA;have rT3:=mv3 A1l (λb o z=>f3 (A1a z).1) rp3;refine ⟨_,rfl,.inr ⟨l,xs,rfl,sB _ _ (nap hl (by intros;intro z;cases z)) hl,ll,λx hxx=> ?_,λl' H4 hl' s4 hl4=> ?_⟩⟩
  ·obtain ⟨b,db,fs,rfl,nb,eb⟩:=hx x hxx;exact ⟨b,db,fs,rfl,sB _ _ nb eb⟩
  have hp4:=s4 _ _ (A0b (H:=H3) (a:=p));refine ⟨_,rfl,p,_,dx,_,rfl,hp4,T.ao,T.br,(by show 3<1000;decide),?_⟩;rw [e3]
  have hln:H l'=none:=by
   by_cases zb:l'=p
   ·subst zb;rw [A0b] at hl';cases hl'
   ·rw [A0j zb] at hl';exact f3 (s3.free hl')
  have lp:l'≠p:=λz=>by subst z;rw [hp] at hln;cases hln
  have sC:∀b u,b≠p->H b=some u->upd H4 p (.ins t.ag dx [("wheel",.int wh),("axes",.ref a'),("tables",.ref t'),("lets",.ref l')]) b=some u:=λb u hb e=>by rw [A0j hb];exact s4 _ _ (sB b u hb e)
  have ro4:Rep (upd H4 p (.ins t.ag dx [("wheel",.int wh),("axes",.ref a'),("tables",.ref t'),("lets",.ref l')])) (.ref o) (C4t os):=ro.imp2 (λq ys z=>sC _ _ (nap z (by intros;intro z;cases z)) z) λq ys z=>sC _ _ (nap z (by intros;intro z;cases z)) z;refine ⟨_,rfl,.inl ⟨.ref o,C4t os,rfl,ro4,by lia,by lia,λvo H5 s5 rp5=> ?_⟩⟩;have hp5:=s5 _ _ (A0b (H:=H4) (a:=p));obtain ⟨o',rfl,eo⟩:=D0t rp5;refine ⟨_,rfl,p,_,dx,_,rfl,hp5,T.ao,T.jd,(by show 4<1000;decide),?_⟩;show Q V.non (upd H5 p _);rw [e4]
  have f5:∀{b:Addr},upd H4 p (.ins t.ag dx [("wheel",.int wh),("axes",.ref a'),("tables",.ref t'),("lets",.ref l')]) b=none->H b=none:=λ{b} z=>by
   by_cases zb:b=p
   ·subst zb;rw [A0b] at z;cases z
   ·rw [A0j zb] at z;have z:=s4.free z;rw [A0j zb] at z;exact f3 (s3.free z)
  have mv5:∀{v:V} {d:PyData} {G:Hp},(∀b xs,G b=some (.lst xs)->H5 b=some (.lst xs))->(∀b xs,G b=some (.tup xs)->H5 b=some (.tup xs))->(∀b o,G b=some o->H b=none)->Rep G v d->Rep (A2h (λb=>H b=none) (upd H5 p (.ins t.ag dx [("wheel",.int wh),("axes",.ref a'),("tables",.ref t'),("lets",.ref l'),("outs",.ref o')]))) v d:=λ{v d G} s1 s2 hg r=>r.imp2 (λq ys z=>A1e (hg _ _ z) (by rw [A0j (A2n (s1 _ _ z) hp5 (by intro z;cases z))];exact s1 _ _ z)) λq ys z=>A1e (hg _ _ z) (by rw [A0j (A2n (s2 _ _ z) hp5 (by intro z;cases z))];exact s2 _ _ z)
  have up4:∀{b:Addr} {u:HO},(∀C d fs,u≠.ins C d fs)->upd H3 p (.ins t.ag dx [("wheel",.int wh),("axes",.ref a'),("tables",.ref t')]) b=some u->H5 b=some u:=λ{b u} n z=>s5 _ _ (by
   have z4:=s4 _ _ z;rw [A0j (A2n z4 hp4 (n _ _ _))]
   exact z4)
  refine k a' t' l' o' _ A0b (mv5 (λb ys z=>up4 (by intros;intro z;cases z) (A1l _ _ z)) (λb ys z=>up4 (by intros;intro z;cases z) (A1l _ _ z)) (λb o z=>(A1a z).1) rA3)
   (mv5 (λb ys z=>up4 (by intros;intro z;cases z) (A1l _ _ z)) (λb ys z=>up4 (by intros;intro z;cases z) (A1l _ _ z)) (λb o z=>(A1a z).1) rT3) hln ?_
   (mv5 (λb ys z=>A1l _ _ z) (λb ys z=>A1l _ _ z) (λb o z=>f5 (A1a z).1) rp5) λb u hb e=> ?_
  ·rw [A0j lp];exact s5 _ _ (by rw [A0j lp];exact hl4)
  ·rw [A0j hb];exact s5 _ _ (sC b u hb e)
theorem B2k {α β:Type} {F:α->β->Prop}:∀{l:List α} {m:List β},Paired F l m->∀{i:Nat} {x:α},l[i]? =some x->∃y,m[i]? =some y/\F x y
 | _,_,.nil,i,x,e=>by simp at e
 | _,_,.cons r t,0,x,e=>by simp at e;subst e;exact ⟨_,rfl,r⟩
 | _,_,.cons r t,i+1,x,e=>by
  obtain ⟨y,e1,e2⟩:=B2k t (i:=i) (by simpa using e);exact ⟨y,by simpa using e1,e2⟩
theorem D6v {α β:Type} {F:α->β->Prop}:∀{a c:List α} {b d:List β},Paired F a b->Paired F c d->Paired F (a++c) (b++d)
 | _,_,_,_,.nil,h=>h
 | _,_,_,_,.cons r t,h=> .cons r (D6v t h)
def B9b (ax:List (Str×Int)):List (Key×V):=ax.map λe=>(Sum.inr e.1,V.int e.2)
theorem D9k {H:Hp}:∀{ax:List (Str×Int)} {xs:List V},A5j H xs (ax.map B7u)->PL H xs (B9b ax)
 | [],_,r=>by cases r;exact .nil
 | e::ax,_,r=>by
  rw [Z0p] at r
  cases r with
  | cons a r =>
   obtain ⟨b,rfl,eb⟩:=D5n a;exact .cons ⟨b,rfl,eb⟩ (D9k r)
def C5s (A:Adr):Sp:=λvs H Q _=>∃(p dx:Addr) (a b c:V),vs=[.ref p,a,b,c]/\H p=some (.ins A.bh dx [])/\Q .non (upd H p (.ins A.bh dx [("term",a),("sums",b),("guards",c)]))
def C5m (A:Adr):Sp:=λvs H Q _=>∃(p:V) (u:Tm) (s:List Str) (g:List Gd) (S:Addr->Prop),vs=[p]/\Fr S H/\A4v A (A2h S H) p (u,s,g)/\∀(q:Addr) (xs:List V) (H':Hp),H q=none->A0p H H'->H' q=some (.lst xs)->Paired (A4v A (A2h S H')) xs (B9e u s g)->Q (.ref q) H'
def C7o (A:Adr) (n:Nat):Sp:=λvs H Q _=>∃(p:V) (u:Tm) (s:List Str) (g:List Gd) (S:Addr->Prop),vs=[p]/\Fr S H/\A4v A (A2h S H) p (u,s,g)/\dep u<=n/\nod u<=1000/\∀(q:Addr) (xs:List V) (H':Hp),H q=none->A0p H H'->H' q=some (.lst xs)->Paired (A4v A (A2h S H')) xs (prT u s g)->Q (.ref q) H'
def C8u (A:Adr):Sp:=λvs H Q _=>∃(v:V) (u:Tm),vs=[v]/\Ob A H v u/\dep u<=9/\nod u<=1000/\∀(q:Addr) (xs:List V) (H':Hp),H q=none->A0p H H'->H' q=some (.lst xs)->Paired (A4v A H') xs (prT u [] [])->Q (.ref q) H'
theorem A2i {H:Hp} {x dx:Addr} {o u v:HO} (hx:H x=none) (hd:H dx=none):A0p H (upd (upd (upd H dx o) x u) x v):=C8j hx hd
theorem B2p (T:Txt K mg t):FP P w mg base T.b_ 1 (C5s t):=by
 refine T.b_.F.ok B9d (by walk_at "ln") λ_ A _ s H _ Q E hr h=> ?_
 ·obtain ⟨p,dx,a,b,c,rfl,hp,k⟩:=h;have e1:A5y "sums" b (A5y "term" a [])=([("term",a),("sums",b)]:List (Str×V)):=by rw [A1t,A1q (by decide +kernel),A1t]
  have e2:A5y "guards" c ([("term",a),("sums",b)]:List (Str×V))=([("term",a),("sums",b),("guards",c)]:List (Str×V)):=by rw [A1q (by decide +kernel),A1q (by decide +kernel),A1t]
  refine ⟨_,(A0c (A3k (pv 0) (pv 1) rfl)
   (A0c (A3k (pv 0) (pv 2) rfl)
   (A0e (A3k (pv 0) (pv 3) rfl)))),_,rfl,_,rfl,p,_,dx,[],rfl,hp,T.ap,T.a_,(by decide),_,rfl,_,rfl,p,_,dx,_,rfl,A0b,T.ap,T.ba,(by show 1<1000;decide),?_⟩
  rw [A6w,e1];refine ⟨_,rfl,_,rfl,p,_,dx,_,rfl,A0b,T.ap,T.bj,(by show 2<1000;decide),?_⟩;show Q V.non (upd (upd H p _) p _);rw [A6w,e2];exact k
theorem A1g {A:Addr} {B:Addr} {b:Bool} (h:kitOne K (.ref A) (.ref B)=some b):∀u,A3d (.ref B) u->kitOne K (.ref A) u=some b:=λu z=>by
 cases (show u=Value.ref B from z)
 exact h
theorem B4b (T:Txt K mg t) {H:Hp} {a dx:Addr} {k:Op3} {fs:List (Str×V)} (e:H a=some (.ins (B1e t k) dx fs)):A9s K H (.ref a) (.ref (B1e t k)):=by
 cases k with
 | plus=>exact .ins e T.fw T.bo.ha T.bo.hn T.bo.htk T.bo.hm
 | minus=>exact .ins e T.fw T.bo.ha T.bo.hn T.bo.htk T.bo.hm
 | times=>exact .ins e T.fw T.bo.ha T.bo.hn T.bo.htk T.bo.hm
theorem D4k (T:Txt K mg t) (k:Op3):kitOne K (.ref (B1e t k)) (.ref t.j9)=some true:=by
 cases k with
 | plus=>exact T.ij
 | minus=>exact T.ij
 | times=>exact T.ij
theorem C7f (T:Txt K mg t) (k:Op3):Cls K (B1e t k):=by cases k with
 | plus=>exact T.fw
 | minus=>exact T.fw
 | times=>exact T.fw
theorem E1i (T:Txt K mg t) (k:Op3):A1v K (B1e t k) "left":=by cases k with
 | plus=>exact T.dk
 | minus=>exact T.dk
 | times=>exact T.dk
theorem E2l (T:Txt K mg t) (k:Op3):A1v K (B1e t k) "right":=by cases k with
 | plus=>exact T.cx
 | minus=>exact T.cx
 | times=>exact T.cx
theorem A7p (T:Txt K mg t):FO P w base T.cg 3 (C5m t):=by
 have Ga1:= @B2p P w K mg base t T;refine T.cg.F.ok A2m (by walk_at "ln") λ_ A _ s H _ Q E hr h=> ?_
 ·obtain ⟨p,u,ss,gg,S,rfl,fr,⟨a,dx,tv,sl,gl,gs,rfl,e0,ob,hs0,hg0,bg,bs,pg⟩,k⟩:=h;have e:=A1l _ _ e0;have hs:=A1l _ _ hs0;have hg:=A1l _ _ hg0
  refine ⟨_,(A0c (A0n (i:=1) A2m.nd rfl (.inl rfl) (A0t (pv 0) rfl))
   (A0c (A1n (A2k (A0s A1h (by rfl) T.ac Z0d (A0a (pv 1) (A0a (A3p (v:=V.ref t.j9) rfl T.vZ rfl) A0d))))
    (A0e (A0v (A2d (A0a (pmk T.ky Ga1 hr T.qb T.b_.b (A0a (A0t (pv 1) rfl) (A0a (A0t (pv 0) rfl) (A0a (A0t (pv 0) rfl) A0d)))) (A0a (pmk T.ky Ga1 hr T.qb T.b_.b (A0a (A0t (pv 1) rfl) (A0a (A0t (pv 0) rfl) (A0a (A0t (pv 0) rfl) A0d)))) A0d)))))
    A0r)
   (A0c (A1n (A2k (A0s A1h (by rfl) T.ac Z0d (A0a (pv 1) (A0a (A3p (v:=V.ref t.bp) rfl T.uz rfl) A0d))))
    (A0e (A0v (A2d (A0a (pmk T.ky Ga1 hr T.qb T.b_.b (A0a (A0t (pv 1) rfl) (A0a (A0x A5c (A0t (pv 0) rfl) (A2d (A0a (A0t (pv 1) rfl) A0d))) (A0a (A0t (pv 0) rfl) A0d)))) A0d))))
    A0r)
   (A0c (A1n (A2k (A0s A1h (by rfl) T.ac Z0d (A0a (pv 1) (A0a (A3p (v:=V.ref t.ae) rfl T.m_ rfl) A0d))))
    (A0c (A0n (i:=2) A2m.nd rfl (.inl rfl) (pmk T.ky Ga1 hr T.qb T.b_.b (A0a (A0t (pv 1) rfl) (A0a (A0t (pv 0) rfl) (A0a (A0x A5c (A0t (pv 0) rfl) (A2d (A0a (A2g (A0a (pv 1) (A0a B0v A0d))) A0d))) A0d)))))
    (A0c (A0n (i:=3) A2m.nd rfl (.inl rfl) (pmk T.ky Ga1 hr T.qb T.b_.b (A0a (A0t (pv 1) rfl) (A0a (A0t (pv 0) rfl) (A0a (A0x A5c (A0t (pv 0) rfl) (A2d (A0a (A2g (A0a (pv 1) (A0a B0v A0d))) A0d))) A0d)))))
    (A0e (A0v (A2d (A0a (pv 2) (A0a (pv 3) A0d)))))))
    A0r)
   (A0e (A0v (A2d A0d))))))),?_⟩
  refine ⟨_,rfl,a,_,dx,_,_,rfl,e,T.ap,T.a_,(by walk_at "lk"),?_⟩
  cases id ob with
  | @num o dd z eo0 =>
   have eo:=A1l _ _ eo0;have ty:A9s K H (.ref o) (.ref t.ak):= .ins eo T.c_ T.am.ha T.am.hn T.am.htk T.am.hm;refine ⟨_,rfl,_,_,_,_,rfl,ty,A1g T.t9,false,rfl,A3v ?_⟩;refine ⟨_,rfl,_,_,_,_,rfl,ty,A1g T.ii,false,rfl,A3v ?_⟩;refine ⟨_,rfl,_,_,_,_,rfl,ty,A1g T.je,false,rfl,A3v ?_⟩;exact ⟨A0q rfl,λq hq=>k q [] _ hq (A0f hq) A0b .nil⟩
  | @place o dd x eo0 =>
   have eo:=A1l _ _ eo0;have ty:A9s K H (.ref o) (.ref t.aj):= .ins eo T.iw T.au.ha T.au.hn T.au.htk T.au.hm;refine ⟨_,rfl,_,_,_,_,rfl,ty,A1g T.tW,false,rfl,A3v ?_⟩;refine ⟨_,rfl,_,_,_,_,rfl,ty,A1g T.j5,false,rfl,A3v ?_⟩;refine ⟨_,rfl,_,_,_,_,rfl,ty,A1g T.se,false,rfl,A3v ?_⟩;exact ⟨A0q rfl,λq hq=>k q [] _ hq (A0f hq) A0b .nil⟩
  | @read o dd ll x ix eo0 rp0 =>
   have eo:=A1l _ _ eo0;have ty:A9s K H (.ref o) (.ref t.ah):= .ins eo T.bu T.bf.ha T.bf.hn T.bf.htk T.bf.hm;refine ⟨_,rfl,_,_,_,_,rfl,ty,A1g T.uq,false,rfl,A3v ?_⟩;refine ⟨_,rfl,_,_,_,_,rfl,ty,A1g T.kj,false,rfl,A3v ?_⟩;refine ⟨_,rfl,_,_,_,_,rfl,ty,A1g T.m7,false,rfl,A3v ?_⟩;exact ⟨A0q rfl,λq hq=>k q [] _ hq (A0f hq) A0b .nil⟩
  | @sum o dd x v b eo0 ob1 =>
   have eo:=A1l _ _ eo0;have ty:A9s K H (.ref o) (.ref t.bp):= .ins eo T.d_ T.bx.ha T.bx.hn T.bx.htk T.bx.hm;simp only [dep] at bg bs;refine ⟨_,rfl,_,_,_,_,rfl,ty,A1g T.uy,false,rfl,A3v ?_⟩;refine ⟨_,rfl,_,_,_,_,rfl,ty,A1g T.mo,true,rfl,B2r ?_⟩;refine ⟨_,rfl,o,_,dd,_,_,rfl,eo,T.d_,T.gu,(by walk_at "lk"),_,rfl,a,_,dx,_,_,rfl,e,T.ap,T.ba,(by walk_at "lk"),_,rfl,o,_,dd,_,_,rfl,eo,T.d_,T.dw,(by walk_at "lk"),A0q rfl,λl1 hl1=> ?_⟩;have s1:A0p H (upd H l1 (.lst [.str x])):=A0f hl1;refine ⟨sl,l1,_,_,rfl,rfl,s1 _ _ hs,A0b,A0o (by simp;lia),λl2 hl2=> ?_⟩;have s2:=s1.trans (A0f (o:= .lst (ss.map V.str++[.str x])) hl2);refine ⟨_,rfl,a,_,dx,_,_,rfl,s2 _ _ e,T.ap,T.bj,(by walk_at "lk"),λnp dn hn hdn ndn=>⟨np,dn,_,_,_,rfl,A0b,rfl,A0q rfl,λq hq=> ?_⟩⟩;have s3:=s2.trans (A2i (o:= .own np) (u:= .ins t.bh dn []) (v:= .ins t.bh dn [("term",v),("sums",.ref l2),("guards",.ref gl)]) hn hdn);have s4:=s3.trans (A0f (o:= .lst [.ref np]) hq);refine k q _ _ (s3.free hq) s4 A0b (.cons ⟨np,dn,v,l2,gl,gs,rfl,A1e (fr _ (s2.free hn)) ?_,ob1.imp (A0w s4),A1e (fr _ (s1.free hl2)) ?_,A0w s4 _ _ hg0,by show gs.length+dep b<=100;lia,by show (ss++[x]).length+dep b<=100;rw [Z06];simp only [Z0y,Z2g];lia,Paired.mapP pg λ_ _ z=>z.same (A0w s4)⟩ .nil)
   ·exact (A0f hq) _ _ A0b
   ·have e2:=((A2i (o:= .own np) (u:= .ins t.bh dn []) (v:= .ins t.bh dn [("term",v),("sums",.ref l2),("guards",.ref gl)]) hn hdn).trans (A0f (o:= .lst [.ref np]) hq)) _ _ (A0b (H:=upd H l1 (.lst [.str x])) (a:=l2) (o:= .lst (ss.map V.str++[.str x])));rw [Z0s];exact e2
  | @pair o dd op v1 v2 l r eo0 ob1 ob2 =>
   have eo:=A1l _ _ eo0;simp only [dep] at bg bs;refine ⟨_,rfl,_,_,_,_,rfl,B4b T eo,A1g (D4k T op),true,rfl,B2r ?_⟩;refine ⟨_,rfl,o,_,dd,_,_,rfl,eo,C7f T op,E1i T op,(by walk_at "lk"),_,rfl,a,_,dx,_,_,rfl,e,T.ap,T.ba,(by walk_at "lk"),_,rfl,a,_,dx,_,_,rfl,e,T.ap,T.bj,(by walk_at "lk"),λn1 d1 hn1 hd1 nd1=>⟨n1,d1,_,_,_,rfl,A0b,rfl,?_⟩⟩;have s1:=A2i (o:= .own n1) (u:= .ins t.bh d1 []) (v:= .ins t.bh d1 [("term",v1),("sums",.ref sl),("guards",.ref gl)]) hn1 hd1;refine ⟨_,rfl,o,_,dd,_,_,rfl,s1 _ _ eo,C7f T op,E2l T op,(by walk_at "lk"),_,rfl,a,_,dx,_,_,rfl,s1 _ _ e,T.ap,T.ba,(by walk_at "lk"),_,rfl,a,_,dx,_,_,rfl,s1 _ _ e,T.ap,T.bj,(by walk_at "lk"),λn2 d2 hn2 hd2 nd2=>⟨n2,d2,_,_,_,rfl,A0b,rfl,A0q rfl,λq hq=> ?_⟩⟩;have s2:=A2i (o:= .own n2) (u:= .ins t.bh d2 []) (v:= .ins t.bh d2 [("term",v2),("sums",.ref sl),("guards",.ref gl)]) hn2 hd2;have s3:=A0f (o:= .lst [.ref n1,.ref n2]) hq;have s4:=s1.trans (s2.trans s3);refine k q _ _ ((s1.trans s2).free hq) s4 A0b (.cons ⟨n1,d1,v1,sl,gl,gs,rfl,A1e (fr _ hn1) (s3 _ _ (s2 _ _ A0b)),ob1.imp (A0w s4),A0w s4 _ _ hs0,A0w s4 _ _ hg0,by show gs.length+dep l<=100;lia,by show ss.length+dep l<=100;lia,Paired.mapP pg λ_ _ z=>z.same (A0w s4)⟩ (.cons ⟨n2,d2,v2,sl,gl,gs,rfl,A1e (fr _ (s1.free hn2)) (s3 _ _ A0b),ob2.imp (A0w s4),A0w s4 _ _ hs0,A0w s4 _ _ hg0,by show gs.length+dep r<=100;lia,by show ss.length+dep r<=100;lia,Paired.mapP pg λ_ _ z=>z.same (A0w s4)⟩ .nil))
  | @guard o dd x lo hi v1 v2 l r eo0 ob1 ob2 =>
   have eo:=A1l _ _ eo0;have ty:A9s K H (.ref o) (.ref t.ae):= .ins eo T.bc T.av.ha T.av.hn T.av.htk T.av.hm;simp only [dep] at bg bs;refine ⟨_,rfl,_,_,_,_,rfl,ty,A1g T.tV,false,rfl,A3v ?_⟩;refine ⟨_,rfl,_,_,_,_,rfl,ty,A1g T.j4,false,rfl,A3v ?_⟩;refine ⟨_,rfl,_,_,_,_,rfl,ty,A1g T.jr,true,rfl,B2r ?_⟩;refine ⟨_,rfl,o,_,dd,_,_,rfl,eo,T.bc,T.jm,(by walk_at "lk"),_,rfl,a,_,dx,_,_,rfl,e,T.ap,T.ba,(by walk_at "lk"),_,rfl,a,_,dx,_,_,rfl,e,T.ap,T.bj,(by walk_at "lk"),_,rfl,A0q rfl,λt1 ht1=>⟨A0q rfl,λl1 hl1=> ?_⟩⟩;have z1:=(A0f (o:= .tup [.ref o,.bl true]) ht1).trans (A0f (o:= .lst [.ref t1]) hl1);refine ⟨gl,l1,_,_,rfl,rfl,z1 _ _ hg,A0b,A0o (by simp;lia),λg1 hg1=> ?_⟩;have z2:=z1.trans (A0f (o:= .lst (gs++[.ref t1])) hg1);refine λn1 d1 hn1 hd1 nd1=>⟨n1,d1,_,_,_,rfl,A0b,rfl,?_⟩;have y1:=A2i (o:= .own n1) (u:= .ins t.bh d1 []) (v:= .ins t.bh d1 [("term",v1),("sums",.ref sl),("guards",.ref g1)]) hn1 hd1;have z3:=z2.trans y1;refine ⟨_,rfl,o,_,dd,_,_,rfl,z3 _ _ eo,T.bc,T.kh,(by walk_at "lk"),_,rfl,a,_,dx,_,_,rfl,z3 _ _ e,T.ap,T.ba,(by walk_at "lk"),_,rfl,a,_,dx,_,_,rfl,z3 _ _ e,T.ap,T.bj,(by walk_at "lk"),_,rfl,A0q rfl,λt2 ht2=>⟨A0q rfl,λl2 hl2=> ?_⟩⟩;have y2:=(A0f (o:= .tup [.ref o,.bl false]) ht2).trans (A0f (o:= .lst [.ref t2]) hl2);refine ⟨gl,l2,_,_,rfl,rfl,y2 _ _ (z3 _ _ hg),A0b,A0o (by simp;lia),λg2 hg2=> ?_⟩;have y3:=y2.trans (A0f (o:= .lst (gs++[.ref t2])) hg2);refine λn2 d2 hn2 hd2 nd2=>⟨n2,d2,_,_,_,rfl,A0b,rfl,_,rfl,_,rfl,A0q rfl,λq hq=> ?_⟩;have y4:=A2i (o:= .own n2) (u:= .ins t.bh d2 []) (v:= .ins t.bh d2 [("term",v2),("sums",.ref sl),("guards",.ref g2)]) hn2 hd2;have y5:=A0f (o:= .lst [.ref n1,.ref n2]) hq;have s4:=z3.trans (y3.trans (y4.trans y5));refine k q _ _ ((z3.trans (y3.trans y4)).free hq) s4 A0b (.cons ⟨n1,d1,v1,sl,g1,_,rfl,A1e (fr _ (z2.free hn1)) ((y3.trans (y4.trans y5)) _ _ A0b),ob1.imp (A0w s4),A0w s4 _ _ hs0,A1e (fr _ (z1.free hg1)) ((y1.trans (y3.trans (y4.trans y5))) _ _ A0b),by show (gs++[V.ref t1]).length+dep l<=100;rw [Z06];simp only [Z0y,Z2g];lia,by show ss.length+dep l<=100;lia,D6v (Paired.mapP pg λ_ _ z=>z.same (A0w s4)) (.cons ⟨t1,o,dd,v1,v2,rfl,A1e (fr _ ht1) (((A0f hl1).trans ((A0f hg1).trans (y1.trans (y3.trans (y4.trans y5))))) _ _ A0b),A0w s4 _ _ eo0⟩ .nil)⟩ (.cons ⟨n2,d2,v2,sl,g2,_,rfl,A1e (fr _ ((z3.trans y3).free hn2)) (y5 _ _ A0b),ob2.imp (A0w s4),A0w s4 _ _ hs0,A1e (fr _ ((z3.trans y2).free hg2)) ((y4.trans y5) _ _ A0b),by show (gs++[V.ref t2]).length+dep r<=100;rw [Z06];simp only [Z0y,Z2g];lia,by show ss.length+dep r<=100;lia,D6v (Paired.mapP pg λ_ _ z=>z.same (A0w s4)) (.cons ⟨t2,o,dd,v1,v2,rfl,A1e (fr _ (z3.free ht2)) (((A0f hl2).trans ((A0f hg2).trans (y4.trans y5))) _ _ A0b),A0w s4 _ _ eo0⟩ .nil)⟩ .nil))
theorem B8p (T:Txt K mg t) {m n:Nat} {sp':Sp} (hm:3<=m) (Ga2:A4m P w K mg base CX0 m t.fb t.fc ["part"] sp')
  (hs:∀(p:V) (u:Tm) (s:List Str) (g:List Gd) (S:Addr->Prop) (H:Hp) (Q:VK),Fr S H->A4v t (A2h S H) p (u,s,g)->dep u+1<=n->nod u<=1000->(∀(q:Addr) (xs:List V) (H':Hp),H q=none->A0p H H'->H' q=some (.lst xs)->Paired (A4v t (A2h S H')) xs (prT u s g)->Q (.ref q) H')->sp' [p] H Q E0) :
  A4m P w K mg base CX0 (m+1) t.fb t.fc ["part"] (C7o t n):=by
 have Ga3:= @A7p P w K mg base t T;refine T.j0.F.ok A7h (by walk_at "ln") λ_ A _ s H _ Q E hr h=> ?_
 ·obtain ⟨p,u,ss,gg,S,rfl,fr,pa,hd,hn,k⟩:=h;obtain ⟨a,dx,tv,sl,gl,gs,rfl,e0,ob,hs0,hg0,bg,bs,pg⟩:=id pa;have dp:=C0o u
  refine ⟨_,(A0c (A0n (i:=1) A7h.nd rfl (.inl rfl) (A2d (A0a (pv 0) A0d)))
   (A0c (A1k PassesOwn.never rfl (A1b (pcl Ga3 hr T.cg (A0a (pv 0) A0d))) (A0h (i:=2) A7h.nd rfl (.inl rfl))
    (A0e (A1y (B5j Z0k PySem.F.slot_list_extend PySem.F.type_list_extend C6r (pv 1) (A0a (pcl Ga2 hr T.j0 (A0a (pv 2) A0d)) A0d)))))
   (A0e (A0v (pv 1))))),?_⟩
  refine ⟨_,rfl,A0q rfl,λl hl=> ?_⟩;have s1:A0p H (upd H l (.lst [.ref a])):=A0f hl;have m1:A0p (A2h S H) (A2h (λb=>S b/\b≠l) (upd H l (.lst [.ref a]))):=λb o z=>A1e ⟨(A1a z).1,A0g (A1a z).2 hl⟩ (s1 _ _ (A1a z).2);have fr1:∀{G:Hp},A0p (upd H l (.lst [.ref a])) G->Fr (λb=>S b/\b≠l) G:=λ{G} s b hb=>⟨fr b (s1.free (s.free hb)),λz=>by subst z;rw [s _ _ A0b] at hb;cases hb⟩;have nl:¬(S l/\l≠l):=λz=>z.2 rfl;refine ⟨_,rfl,.ref a,u,ss,gg,λb=>S b/\b≠l,rfl,fr1 (A0p.refl _),pa.same m1,λq ks H2 hq s2 h2 pk=>⟨q,rfl,⟨_,SqL.of h2⟩,?_⟩⟩;have ql:q≠l:=λz=>by subst z;rw [A0b] at hq;cases hq
  have hlk:=Paired.length pk
  have tot:((B9e u ss gg).flatMap λk=>prT k.1 k.2.1 k.2.2).length+1=nod u:=by
   have h1:(prT u ss gg).length=nod u:=A8h u ss gg;rw [C3a,Z0y] at h1;exact h1
  have bnd:∀(i:Nat),(((B9e u ss gg).take i).flatMap λk=>prT k.1 k.2.1 k.2.2).length<=nod u:=λi=>by
   have e:=Z2e i (B9e u ss gg);have e2:((B9e u ss gg).flatMap λk=>prT k.1 k.2.1 k.2.2)=(((B9e u ss gg).take i).flatMap λk=>prT k.1 k.2.1 k.2.2)++(((B9e u ss gg).drop i).flatMap λk=>prT k.1 k.2.1 k.2.2):=by rw [<-List.flatMap_append,e]
   rw [e2,Z06] at tot;lia
  refine A1f (K:=K) (a:=q) (xs:=ks) (λi σ H3=>∃(o2:Option V) (xs:List V),σ=[Sro a,Sro l,o2]/\A0p H H3/\(∀b,H3 b=none->upd H l (.lst [.ref a]) b=none)/\H3 q=some (.lst ks)/\Paired (A4v t (A2h (λb=>S b/\b≠l) H3)) ks (B9e u ss gg)/\H3 l=some (.lst (.ref a::xs))/\Paired (A4v t (A2h (λb=>S b/\b≠l) H3)) xs (((B9e u ss gg).take i).flatMap λk=>prT k.1 k.2.1 k.2.2))
   ⟨none,[],rfl,s1.trans s2,λb hb=>s2.free hb,h2,pk,s2 _ _ A0b,.nil⟩ (by rintro i σ H3 _ ⟨_,_,_,_,_,h,_⟩;exact SqL.of h) ?_ ?_
  ·rintro i y σ H3 hy ⟨o2,xs,rfl,s3,f3,h3,pk3,hl3,ps⟩;obtain ⟨kd,hkd,pkd⟩:=B2k pk3 hy;have km:=Z13 hkd;have kd1:=D1c km
   have nk:nod kd.1<=1000:=by
    have h2:(prT kd.1 kd.2.1 kd.2.2).length<=((B9e u ss gg).flatMap λk=>prT k.1 k.2.1 k.2.2).length:=by
     obtain ⟨l1,l2,e2⟩:=List.append_of_mem km;rw [e2,List.flatMap_append,List.flatMap_cons,Z06,Z06];lia
    rw [A8h] at h2
    lia
   have fr3:Fr (λb=>S b/\b≠l) H3:=λb hb=>⟨fr b (s1.free (f3 b hb)),λz=>by subst z;rw [hl3] at hb;cases hb⟩;refine ⟨_,rfl,.inl ⟨rfl,_,SqL.of hl3⟩,_,rfl,hs y kd.1 kd.2.1 kd.2.2 _ H3 _ fr3 pkd (by lia) nk λq2 zs H4 hq2 s4 h4 pz=> ?_⟩;have lxs:=Paired.length ps;have lzs:=Paired.length pz;rw [A8h] at lzs;have b1:=bnd i;refine ⟨l,q2,_,_,rfl,rfl,s4 _ _ hl3,h4,A0o (by simp;lia),?_⟩;have u4:A0p (A2h (λb=>S b/\b≠l) H4) (A2h (λb=>S b/\b≠l) (upd H4 l (.lst (.ref a::xs++zs)))):=A5o (A0p.refl _) nl;have v4:=(A0w (S:=λb=>S b/\b≠l) s4).trans u4;refine ⟨_,xs++zs,rfl,A0u (s3.trans s4) hl,λb hb=> ?_,?_,Paired.mapP pk3 λ_ _ z=>z.same v4,A0b,?_⟩
   ·by_cases z:b=l
    ·subst z;rw [A0b] at hb;cases hb
    ·rw [A0j z] at hb;exact f3 b (s4.free hb)
   ·rw [A0j ql];exact s4 _ _ h3
   ·rw [Z14,hkd,Z2f,List.flatMap_append,List.flatMap_cons,List.flatMap_nil,Z0u];exact D6v (Paired.mapP ps λ_ _ z=>z.same v4) (Paired.mapP pz λ_ _ z=>z.same u4)
  ·rintro σ H3 ⟨o2,xs,rfl,s3,f3,h3,pk3,hl3,ps⟩;rw [hlk,Z18] at ps;refine ⟨_,rfl,k l _ H3 hl s3 hl3 ?_⟩;rw [C3a];refine .cons (pa.same (A0w s3)) (Paired.mapP ps λ_ _ z=>z.same (A8c (A0p.refl _) λb o _ h=>h.1))
theorem C4y (T:Txt K mg t):∀n:Nat,A4m P w K mg base CX0 (n+4) t.fb t.fc ["part"] (C7o t n)
 | 0=>B8p T (sp':=λ_ _ _ _=>False) (m:=3) (by lia) (A4m.none λ_ _ _ _ h=>h) λp u s g S H Q _ _ h=>absurd h (by lia)
 | n+1=>B8p T (m:=n+4) (by lia) (C4y T n) λp u s g S H Q fr pa hd hn k=>⟨p,u,s,g,S,rfl,fr,pa,by lia,hn,k⟩
theorem A9w (T:Txt K mg t):FO P w base T.f_ 14 (C8u t):=by
 have Ga2:= @C4y P w K mg base t T 9;have Ga1:= @B2p P w K mg base t T;refine T.f_.F.ok C0u (by walk_at "ln") λ_ A _ s H _ Q E hr h=> ?_
 ·obtain ⟨v,u,rfl,ob,hd,hn,k⟩:=h;refine ⟨_,(A0e (A0v (pcl Ga2 hr T.j0 (A0a (pmk T.ky Ga1 hr T.qb T.b_.b (A0a (pv 0) (A0a (A2d A0d) (A0a (A2d A0d) A0d)))) A0d)))),?_⟩;refine ⟨_,rfl,A0q rfl,λl1 hl1=>⟨A0q rfl,λl2 hl2=> ?_⟩⟩;refine λn dn hnn hdn nd=>⟨n,dn,_,_,_,rfl,A0b,rfl,?_⟩;have s1:=(A0f (o:= .lst []) hl1).trans (A0f (o:= .lst []) hl2);have s2:=A2i (o:= .own n) (u:= .ins t.bh dn []) (v:= .ins t.bh dn [("term",v),("sums",.ref l1),("guards",.ref l2)]) hnn hdn;have s3:=s1.trans s2;have tr:∀{G:Hp},A0p G (A2h (λ_=>True) G):=λb o z=>A1e True.intro z;refine ⟨.ref n,u,[],[],λ_=>True,rfl,λ_ _=>True.intro,⟨n,dn,v,l1,l2,[],rfl,A1e True.intro A0b,ob.imp (s3.trans tr),tr _ _ (s2 _ _ ((A0f hl2) _ _ A0b)),tr _ _ (s2 _ _ A0b),by show 0+dep u<=100;lia,by show 0+dep u<=100;lia,.nil⟩,hd,hn,λq xs H4 hq s4 h4 ps=> ?_⟩;exact k q xs H4 (s3.free hq) (s3.trans s4) h4 (Paired.mapP ps λ_ _ z=>z.same A1l)
abbrev B9w (S:Addr->Prop) (H:Hp) (ws:List (Key×V)) (es:List (Str×List Str)):Prop:=Paired (λ(p:Key×V) (e:Str×List Str)=>p.1=Sum.inr e.1/\∃b,p.2= .ref b/\S b/\H b=some (.lst (e.2.map V.str))) ws es
def arr (tb:List (Str×List Str)) (ls:List Lt):List (Str×List Str):=tb++ls.map λe=>(e.1,e.2.1)
def D7s (A:Adr):Sp:=λvs H Q _=>∃(p:Addr) (wh:Int) (ax:List (Str×Int)) (tb:List (Str×List Str)) (ls:List Lt) (os:List Str),vs=[.ref p]/\B9v A H p wh ax tb ls os/\tb.length<=1000/\ls.length<=1000/\
 ∀(q:Addr) (ws:List (Key×V)) (H':Hp),H q=none->A0p H H'->H' q=some (.dK (A1c [] ws))->B9w (λb=>H b=none) H' ws (arr tb ls)->Q (.ref q) H'
theorem B2q (T:Txt K mg t):FO P w base T.gj 1 (D7s t):=by
 refine T.gj.F.ok A4q (by walk_at "ln") λ_ A _ s H _ Q E hr h=> ?_
 ·obtain ⟨p,wh,ax,tb,ls,os,rfl,pr,ht,hls,k⟩:=h;have hu:=B0m hr;obtain ⟨dx,a,tt,l,o,e,ra,rt,⟨xl,hl,rl⟩,ro⟩:=pr.ob;obtain ⟨t2,xs,et,hx,rs⟩:=A5b (show Rep H (.ref tt) (.list (tb.map C1t)) from rt);cases et;have lxs:=rs.len;rw [Z08] at lxs;have lxl:=Paired.length rl
  refine ⟨_,(A0c (A0n (i:=1) A4q.nd rfl (.inl rfl) C2a)
   (A0c (A1k PassesOwn.never rfl (A1b (A0t (pv 0) rfl)) (A2p (n:=2) rfl (A0k (A0h (i:=2) A4q.nd rfl (.inl rfl)) (A0k (A0h (i:=3) A4q.nd rfl (.inl rfl)) A1s)))
    (A0e (B3r hu (pv 1) (pv 2) (A3a B2i (by rfl) T.sx Z1o (A0a (pv 3) A0d)) rfl)))
   (A0c (A1k PassesOwn.never rfl (A1b (A0t (pv 0) rfl)) (A0h (i:=4) A4q.nd rfl (.inl rfl))
    (A0e (B3r hu (pv 1) (A0t (pv 4) rfl) (A3a B2i (by rfl) T.sx Z1o (A0a (A0t (pv 4) rfl) A0d)) rfl)))
   (A0e (A0v (pv 1)))))),?_⟩
  refine λq hq=> ?_;have s0:A0p H (upd H q (.dK [])):=A0f hq
  have put:∀{H2:Hp} {ws:List (Key×V)} {es:List (Str×List Str)} {n:Str} {c:Addr} {ys:List Str},A0p H H2->H2 q=some (.dK (A1c [] ws))->B9w (λb=>H b=none/\b≠q) H2 ws es->H2 c=none->
    A0p H (upd (upd H2 c (.lst (ys.map V.str))) q (.dK (A9e (A1c [] ws) (Sum.inr n) (.ref c))))/\upd (upd H2 c (.lst (ys.map V.str))) q (.dK (A9e (A1c [] ws) (Sum.inr n) (.ref c))) q=some (.dK (A1c [] (ws++[(Sum.inr n,.ref c)])))/\
    B9w (λb=>H b=none/\b≠q) (upd (upd H2 c (.lst (ys.map V.str))) q (.dK (A9e (A1c [] ws) (Sum.inr n) (.ref c)))) (ws++[(Sum.inr n,.ref c)]) (es++[(n,ys)]):=by
   intro H2 ws es n c ys s2 h2 r2 hc;have cq:c≠q:=λz=>by subst z;rw [h2] at hc;cases hc
   refine ⟨A0u (s2.trans (A0f hc)) hq,?_,?_⟩
   ·rw [B3k];exact A0b
   ·refine Paired.snoc ⟨rfl,c,rfl,⟨s2.free hc,cq⟩,by rw [A0j cq];exact A0b⟩ (Paired.mapP r2 λa b ⟨z1,b',z2,z3,z4⟩=>⟨z1,b',z2,z3,?_⟩);rw [A0j z3.2,A0j (A0g z4 hc)];exact z4
  refine ⟨_,rfl,p,_,dx,_,_,rfl,s0 _ _ e,T.ao,T.bt,(by walk_at "lk"),tt,rfl,⟨_,SqL.of (s0 _ _ hx)⟩,?_⟩
  refine A1f (K:=K) (a:=tt) (xs:=xs) (λi σ H2=>∃(o2 o3:Option V) (ws:List (Key×V)),σ=[Sro p,Sro q,o2,o3,none]/\A0p H H2/\H2 q=some (.dK (A1c [] ws))/\B9w (λb=>H b=none/\b≠q) H2 ws (tb.take i))
   ⟨none,none,[],rfl,s0,A0b,.nil⟩ (by rintro i σ H2 _ ⟨_,_,_,_,s2,_⟩;exact SqL.of (s2 _ _ hx)) ?_ ?_
  ·rintro i y σ H2 hy ⟨o2,o3,ws,rfl,s2,h2,r2⟩;obtain ⟨te,hte,ry⟩:=B3z rs hy;obtain ⟨b,c,rfl,eb,ec⟩:=D0g ry;have lw:=Paired.length r2;have lt:(tb.take i).length<=tb.length:=by rw [Z0x];lia
   have lm:=A2y ws [];rw [Z2g] at lm;refine ⟨b,_,rfl,SqT.of (s2 _ _ eb),rfl,_,_,rfl,_,_,rfl,rfl,?_⟩;refine ⟨_,rfl,c,_,rfl,.inl (SqL.of (s2 _ _ ec)),λc' hc'=> ?_⟩;have cq:q≠c':=λz=>by subst z;rw [h2] at hc';cases hc'
   refine ⟨_,rfl,_,rfl,q,_,rfl,C9l.k (k:=Sum.inr te.1) (by rw [A0j cq];exact h2) (A1j (by lia)),?_⟩;obtain ⟨p1,p2,p3⟩:=put (n:=te.1) (ys:=te.2) s2 h2 r2 hc';refine ⟨_,_,_,rfl,p1,p2,?_⟩;rw [Z14,hte];exact p3
  ·rintro σ H2 ⟨o2,o3,ws,rfl,s2,h2,r2⟩;rw [lxs,Z18] at r2;refine ⟨_,rfl,p,_,dx,_,_,rfl,s2 _ _ e,T.ao,T.br,(by walk_at "lk"),l,rfl,⟨_,SqL.of (s2 _ _ hl)⟩,?_⟩
   refine A1f (K:=K) (a:=l) (xs:=xl) (λi σ H3=>∃(o4:Option V) (ws:List (Key×V)),σ=[Sro p,Sro q,o2,o3,o4]/\A0p H H3/\H3 q=some (.dK (A1c [] ws))/\B9w (λb=>H b=none/\b≠q) H3 ws (tb++(ls.take i).map λe=>(e.1,e.2.1)))
    ⟨none,ws,rfl,s2,h2,by simpa using r2⟩ (by rintro i σ H3 _ ⟨_,_,_,s3,_⟩;exact SqL.of (s3 _ _ hl)) ?_ ?_
   ·rintro i y σ H3 hy ⟨o4,ws,rfl,s3,h3,r3⟩;obtain ⟨le,hle,b,db,c,n,dn,rfl,eb,_,ec,_⟩:=B2k rl hy;have lw:=Paired.length r3;have lt:((ls.take i).map λe=>(e.1,e.2.1)).length<=ls.length:=by rw [Z08,Z0x];lia
    rw [Z06] at lw;have lm:=A2y ws [];rw [Z2g] at lm;refine ⟨_,rfl,b,_,db,_,_,rfl,s3 _ _ eb,T.bq,T.cf,(by walk_at "lk"),c,_,rfl,.inl (SqL.of (s3 _ _ ec)),λc' hc'=> ?_⟩;have cq:q≠c':=λz=>by subst z;rw [h3] at hc';cases hc'
    refine ⟨_,rfl,_,rfl,b,_,db,_,_,rfl,by rw [A0j (A0g (s3 _ _ eb) hc')];exact s3 _ _ eb,T.bq,T.bv,(by walk_at "lk"),q,_,rfl,C9l.k (k:=Sum.inr le.1) (by rw [A0j cq];exact h3) (A1j (by lia)),?_⟩;obtain ⟨p1,p2,p3⟩:=put (n:=le.1) (ys:=le.2.1) s3 h3 r3 hc';refine ⟨_,_,rfl,p1,p2,?_⟩;rw [Z14,hle,Z2f,Z0s,<-Z0z];exact p3
   ·rintro σ H3 ⟨o4,ws,rfl,s3,h3,r3⟩;rw [lxl,Z18] at r3;exact ⟨_,rfl,k q ws H3 hq s3 h3 (Paired.mapP r3 (by rintro _ _ ⟨z1,b',z2,z3,z4⟩;exact ⟨z1,b',z2,z3.1,z4⟩))⟩
def Oth (r:Addr) (H H':Hp):Prop:=∀b,b≠r->H' b=H b
def OkX (z:Str):Prop:=PyData.strOk z=true/\z.length<=4000
def OkN (xs:List Str):Prop:=∀x∈xs,OkX x
theorem C9o {b:Bool} {A B:Prop} (h1:b=false->A) (h2:b=true->B):if (!b)=true then A else B:=by
 cases b
 ·exact h1 rfl
 ·exact h2 rfl
theorem C4a {b:Bool} {A B:Prop} (h1:b=true->A) (h2:b=false->B):if b=true then A else B:=by
 cases b
 ·exact h2 rfl
 ·exact h1 rfl
theorem A4w (z:Str):∀bs:List Str,inV (.str z) (bs.map V.str)=decide (z∈bs)
 | []=>rfl
 | b::r=>by
  have ih:=A4w z r;unfold inV at ih⊢;rw [Z0p,List.any_cons,ih];show ((b == z)||decide (z∈r))=decide (z∈b::r);by_cases e:b=z
  ·subst e;simp
  ·have:¬z=b:=λh=>e h.symm;simp [e,this]
theorem A3h:∀bs:List Str,(bs.map V.str).all B6j=true
 | []=>rfl
 | b::r=>by rw [Z0p,List.all_cons,A3h r];rfl
theorem B6c {ys:List Str} {i:Nat} (hi:i<=ys.length):B7s (ys.map V.str) none (some (i:Int))=(ys.take i).map V.str:=by
 unfold B7s;have e1:HT.sIx (ys.map V.str).length 0 none=0:=rfl
 have e2:HT.sIx (ys.map V.str).length (ys.map V.str).length (some (i:Int))=i:=by
  unfold HT.sIx;rw [Z08];simp only [show¬((i:Int)<0) by lia,if_false]
  lia
 rw [e1,e2,Z2r,Nat.sub_zero,List.map_take]
def axN (ax:List (Str×Int)):List Str:=ax.map (·.1)
def arN (tb:List (Str×List Str)) (ls:List Lt):List Str:=tb.map (·.1)++ls.map (·.1)
def D7r (A:Adr):Sp:=λvs H Q _=>∃(p:Addr) (wh:Int) (ax:List (Str×Int)) (tb:List (Str×List Str)) (ls:List Lt) (os:List Str),vs=[.ref p]/\B9v A H p wh ax tb ls os/\ax.length<=100/\∀(q:Addr) (H':Hp),H q=none->A0p H H'->H' q=some (.lst ((axN ax).map V.str))->Q (.ref q) H'
def D8e (A:Adr):Sp:=λvs H Q _=>∃(p:Addr) (wh:Int) (ax:List (Str×Int)) (tb:List (Str×List Str)) (ls:List Lt) (os:List Str),vs=[.ref p]/\B9v A H p wh ax tb ls os/\tb.length<=100/\∀(q:Addr) (H':Hp),H q=none->A0p H H'->H' q=some (.lst ((tb.map (·.1)).map V.str))->Q (.ref q) H'
def D9v (A:Adr):Sp:=λvs H Q _=>∃(p:Addr) (wh:Int) (ax:List (Str×Int)) (tb:List (Str×List Str)) (ls:List Lt) (os:List Str),vs=[.ref p]/\B9v A H p wh ax tb ls os/\tb.length<=100/\ls.length<=100/\∀(q:Addr) (H':Hp),H q=none->A0p H H'->H' q=some (.lst ((arN tb ls).map V.str))->Q (.ref q) H'
def la (c:Nat):Bool:= !(decide (([c]:List Nat)<("a":Str).cps.toList))
def lz (c:Nat):Bool:= !(decide (("z":Str).cps.toList<[c]))
def D2e (x:Str):Bool:=(!(decide (x="")))&&x.cps.toList.all λc=>la c&&lz c
def nmB (x:Str):Bool:=D2e x&&decide (x.length<=8)&& !(decide (x∈(["if","sum"]:List Str)))
def D9b:Sp:=λvs H Q _=>∃x:Str,vs=[.str x]/\x.length<=4000/\∀H',A0p H H'->Q (.bl (D2e x)) H'
def D9c:Sp:=λvs H Q _=>∃x:Str,vs=[.str x]/\x.length<=4000/\∀H',A0p H H'->Q (.bl (nmB x)) H'
theorem B0w (T:Txt K mg t):FO P w base T.cy 1 (D7r t):=by
 refine T.cy.F.ok B7g (by walk_at "ln") λ_ A _ s H _ Q E hr h=> ?_
 ·obtain ⟨p,wh,ax,tb,ls,os,rfl,pr,la,k⟩:=h;obtain ⟨dx,a,tt,l,o,e,ra,rt,⟨xl,hl,rl⟩,ro⟩:=pr.ob;obtain ⟨a2,xs,ea,hx,rs⟩:=A5b (show Rep H (.ref a) (.list (ax.map B7u)) from ra);cases ea;have lxs:=rs.len;rw [Z08] at lxs;refine ⟨_,(A0e (A0v (A3s (N':=["name","length"]) (ix:=(List.replicate 2 none)) (g:=D2c K 2 (A8z (A6m 0) (A8z (A6m 1) D2k))) rfl (A2q rfl (by decide +kernel) (by decide +kernel)) (A2r rfl) (A1b (A0t (pv 0) rfl)) (λ_ _ _ _=>(A2p (n:=2) rfl (A0k (A0h (i:=0) B8m rfl (.inl rfl)) (A0k (A0h (i:=1) B8m rfl (.inl rfl)) A1s)))) (λ_ _ _ _=>(pv 0))))),?_⟩;refine ⟨_,rfl,p,_,dx,_,_,rfl,e,T.ao,T.eu,(by walk_at "lk"),a,rfl,⟨_,SqL.of hx⟩,λD hD=> ?_⟩;refine A2l (K:=K) (a:=a) (D:=D) (xs:=xs) (λi zs H2=>A0p H H2/\H2 D=some (.lst zs)/\zs=(axN (ax.take i)).map V.str) ⟨A0f hD,A0b,rfl⟩ (λi zs H2 s2=>SqL.of (s2.1 _ _ hx)) ?_ ?_
  ·rintro i x zs H2 hy ⟨s2,hD2,rfl⟩;have hi:i<xs.length:=(Z03.mp hy).1;obtain ⟨te,hte,ry⟩:=B3z rs hy;obtain ⟨b,rfl,eb⟩:=D5n ry;refine ⟨b,_,rfl,SqT.of (s2 _ _ eb),rfl,_,_,rfl,_,_,rfl,rfl,?_⟩;refine ⟨True.intro,_,rfl,hD2,A1j (by simp [axN];lia),A0u s2 hD,A0b,?_⟩;rw [Z14,hte,Z2f];simp [axN]
  ·rintro zs H2 ⟨s2,hD2,rfl⟩;rw [lxs,Z18] at hD2;exact k D H2 hD s2 hD2
theorem B5b (T:Txt K mg t):FO P w base T.g_ 1 (D8e t):=by
 refine T.g_.F.ok B5c (by walk_at "ln") λ_ A _ s H _ Q E hr h=> ?_
 ·obtain ⟨p,wh,ax,tb,ls,os,rfl,pr,lt,k⟩:=h;obtain ⟨dx,a,tt,l,o,e,ra,rt,⟨xl,hl,rl⟩,ro⟩:=pr.ob;obtain ⟨t2,xs,et,hx,rs⟩:=A5b (show Rep H (.ref tt) (.list (tb.map C1t)) from rt);cases et;have lxs:=rs.len;rw [Z08] at lxs;refine ⟨_,(A0e (A0v (A3s (N':=["name","axes"]) (ix:=(List.replicate 2 none)) (g:=D2c K 2 (A8z (A6m 0) (A8z (A6m 1) D2k))) rfl (A2q rfl (by decide +kernel) (by decide +kernel)) (A2r rfl) (A1b (A0t (pv 0) rfl)) (λ_ _ _ _=>(A2p (n:=2) rfl (A0k (A0h (i:=0) B8h rfl (.inl rfl)) (A0k (A0h (i:=1) B8h rfl (.inl rfl)) A1s)))) (λ_ _ _ _=>(pv 0))))),?_⟩;refine ⟨_,rfl,p,_,dx,_,_,rfl,e,T.ao,T.bt,(by walk_at "lk"),tt,rfl,⟨_,SqL.of hx⟩,λD hD=> ?_⟩;refine A2l (K:=K) (a:=tt) (D:=D) (xs:=xs) (λi zs H2=>A0p H H2/\H2 D=some (.lst zs)/\zs=((tb.take i).map (·.1)).map V.str) ⟨A0f hD,A0b,rfl⟩ (λi zs H2 s2=>SqL.of (s2.1 _ _ hx)) ?_ ?_
  ·rintro i x zs H2 hy ⟨s2,hD2,rfl⟩;have hi:i<xs.length:=(Z03.mp hy).1;obtain ⟨te,hte,ry⟩:=B3z rs hy;obtain ⟨b,c,rfl,eb,ec⟩:=D0g ry;refine ⟨b,_,rfl,SqT.of (s2 _ _ eb),rfl,_,_,rfl,_,_,rfl,rfl,?_⟩;refine ⟨True.intro,_,rfl,hD2,A1j (by simp;lia),A0u s2 hD,A0b,?_⟩;rw [Z14,hte,Z2f];simp
  ·rintro zs H2 ⟨s2,hD2,rfl⟩;rw [lxs,Z18] at hD2;exact k D H2 hD s2 hD2
theorem B4q (T:Txt K mg t):FO P w base T.dg 2 (D9v t):=by
 have Ga4:= @B5b P w K mg base t T;refine T.dg.F.ok B5e (by walk_at "ln") λ_ A _ s H _ Q E hr h=> ?_
 ·obtain ⟨p,wh,ax,tb,ls,os,rfl,pr,lt,ll,k⟩:=h;obtain ⟨dx,a,tt,l,o,e,ra,rt,⟨xl,hl,rl⟩,ro⟩:=pr.ob;have lxl:=Paired.length rl;refine ⟨_,(A0e (A0v (A0x A5c (pcl Ga4 hr T.g_ (A0a (pv 0) A0d)) (A3s (N':=["let"]) (ix:=(List.replicate 1 none)) rfl (A2q rfl (by decide +kernel) (by decide +kernel)) (A2r rfl) (A1b (A0t (pv 0) rfl)) (λ_ _ _ _=>(A0h (i:=0) C4z rfl (.inl rfl))) (λ_ _ _ _=>(D5f (K:=K) rfl (pv 0) rfl)))))),?_⟩;refine ⟨_,rfl,p,wh,ax,tb,ls,os,rfl,pr,lt,λD H2 hD s2 hD2=> ?_⟩;refine ⟨_,rfl,p,_,dx,_,_,rfl,s2 _ _ e,T.ao,T.br,(by walk_at "lk"),l,rfl,⟨_,SqL.of (s2 _ _ hl)⟩,λD2 hE=> ?_⟩;refine A2l (K:=K) (a:=l) (D:=D2) (xs:=xl) (λi zs H3=>A0p H2 H3/\H3 D2=some (.lst zs)/\zs=((ls.take i).map (·.1)).map V.str) ⟨A0f hE,A0b,rfl⟩ (λi zs H3 s3=>SqL.of (s3.1 _ _ (s2 _ _ hl))) ?_ ?_
  ·rintro i x zs H3 hy ⟨s3,hD3,rfl⟩;have hi:i<xl.length:=(Z03.mp hy).1;obtain ⟨le,hle,b,db,c,n,dn,rfl,eb,_,ec,_⟩:=B2k rl hy;refine ⟨True.intro,_,rfl,b,_,db,_,_,rfl,s3 _ _ (s2 _ _ eb),T.bq,T.bv,(by walk_at "lk"),hD3,A1j (by simp;lia),A0u s3 hE,A0b,?_⟩;rw [Z14,hle,Z2f];simp
  ·rintro zs H3 ⟨s3,hD3,rfl⟩;rw [lxl,Z18] at hD3;refine ⟨D,D2,_,_,rfl,rfl,s3 _ _ hD2,hD3,A0o (by simp;lia),λq hq=> ?_⟩;have s4:=s2.trans (s3.trans (A0f (o:= .lst ((tb.map (·.1)).map V.str++(ls.map (·.1)).map V.str)) hq));refine k q _ ((s2.trans s3).free hq) s4 ?_;rw [show (arN tb ls).map V.str=(tb.map (·.1)).map V.str++(ls.map (·.1)).map V.str by simp [arN]];exact A0b
theorem B2s (T:Txt K mg t):FO P w base T.e9 1 D9b:=by
 refine T.e9.F.ok B2x (by walk_at "ln") λ_ A _ s H _ Q E hr h=> ?_
 ·obtain ⟨x,rfl,lx,k⟩:=h;refine ⟨_,(A0e (A0v (A7m (A3q B0f (pv 0) A1w (A1i _)) (B0n (A0s (B6l rfl) (by rfl) T.vK PyProof.Rows.boot_all (A0a (A3s (N':=["sign"]) (ix:=(List.replicate 1 none)) rfl (A2q rfl (by decide +kernel) (by decide +kernel)) (A2r rfl) (D7k (pv 0)) (λ_ _ _ _=>(A0h (i:=0) C7n rfl (.inl rfl))) (λ_ _ _ _=>(B6o D2u D2u A1w (pv 0) A1w))) A0d)))))),?_⟩;by_cases hx:x=""
  ·have n0:(!(decide ((V.str x)=V.str "")))=false:=by rw [hx];decide
   have e:D2e x=false:=by unfold D2e;rw [Z20 hx];rfl
   refine ⟨_,rfl,rfl,false,congrArg V.bl n0,A3v ?_⟩;have:=k H (A0p.refl _);rw [e] at this;exact this
  have n0:(!(decide ((V.str x)=V.str "")))=true:=by
   rw [Z1j (λe=>hx (by injection e))];rfl
  refine ⟨_,rfl,rfl,true,congrArg V.bl n0,B2r ?_⟩;refine ⟨_,rfl,x,rfl,λD hD=> ?_⟩;have lc:x.cps.size<=4000:=lx;refine B1c (J:=Its x) (D:=D) x.cps.size (λi ys H2=>A0p H H2/\H2 D=some (.lst ys)/\ys=(((x.cps.toList.take i).map λc=>la c&&lz c).map V.bl)) ⟨A0f hD,A0b,rfl⟩ (λi ys H2 hi _=>hi) (λys H2 _=>rfl) ?_ ?_
  ·rintro i ys H2 hi ⟨s2,hD2,rfl⟩ v H3 ⟨rfl,c,hc,rfl⟩;have hc':x.cps.toList[i]? =some c:=by simpa using hc
   have lt:(((x.cps.toList.take i).map λc=>la c&&lz c).map V.bl).length<=4000:=by
    rw [Z08,Z08,Z0x]
    lia
   have nx:∀b:Bool,b=(la c&&lz c)->((x.cps.toList.take i).map λc=>la c&&lz c).map V.bl++[V.bl b]=((x.cps.toList.take (i+1)).map λc=>la c&&lz c).map V.bl:=λb hb=>by
    rw [Z14,hc',Z2f,Z0s,Z0s,hb];rfl
   by_cases h1:la c=true
   ·refine ⟨True.intro,_,rfl,_,_,rfl,rfl,true,congrArg V.bl h1,B2r ⟨_,_,rfl,rfl,hD2,A1j (by lia),A0u s2 hD,A0b,?_⟩⟩;exact nx (lz c) (by rw [h1];rfl)
   ·have h1:la c=false:=by simpa using h1
    refine ⟨True.intro,_,rfl,_,_,rfl,rfl,false,congrArg V.bl h1,A3v ⟨hD2,A1j (by lia),A0u s2 hD,A0b,?_⟩⟩;exact nx false (by rw [h1];rfl)
  ·rintro ys H2 ⟨s2,hD2,rfl⟩;rw [show x.cps.size=x.cps.toList.length by simp,Z18] at hD2;refine ⟨D,x.cps.toList.map λc=>la c&&lz c,rfl,SqL.of hD2,?_⟩
   have e:D2e x=(x.cps.toList.map λc=>la c&&lz c).all id:=by
    unfold D2e;rw [Z1j hx,List.all_map];rfl
   rw [<-e];exact k H2 s2
theorem C3f (T:Txt K mg t):FO P w base T.qa 2 D9c:=by
 have Ga5:= @B2s P w K mg base t T;refine T.qa.F.ok C4r (by walk_at "ln") λ_ A _ s H _ Q E hr h=> ?_
 ·obtain ⟨x,rfl,lx,k⟩:=h;have lzz:x.length<=sizeLine:=A0o (by lia);refine ⟨_,(A0e (A0v (A7m (pcl Ga5 hr T.e9 (A0a (pv 0) A0d)) (A7m (A3q C5x (A0s B8s (by rfl) T.cw Z0r (A0a (pv 0) A0d)) (B0r T.q_ rfl) (A1i _)) (B0n (A3q A3f (pv 0) (B0r T.o0 rfl) (by with_unfolding_all rfl))))))),?_⟩;refine ⟨_,rfl,x,rfl,lx,λH1 s1=> ?_⟩;have kk:=k H1 s1;by_cases h1:D2e x=true
  ·refine ⟨true,congrArg V.bl h1,B2r ?_⟩;by_cases h2:x.length<=8
   ·have h2':((x.length:Nat):Int)<=8:=by lia
    refine ⟨_,rfl,x,rfl,lzz,_,_,rfl,rfl,true,congrArg V.bl (Z20 h2'),B2r ?_⟩;refine ⟨_,rfl,t.de,[.str "if",.str "sum"],rfl,.inr (.inr T.mw),rfl,rfl,?_⟩
    have e:nmB x= !(inV (.str x) ((["if","sum"]:List Str).map V.str)):=by
     unfold nmB;rw [h1,Z20 h2,A4w];rfl
    rw [e] at kk;exact kk
   ·have h2':¬((x.length:Nat):Int)<=8:=by lia
    refine ⟨_,rfl,x,rfl,lzz,_,_,rfl,rfl,false,congrArg V.bl (Z1j h2'),A3v ?_⟩
    have e:nmB x=false:=by
     unfold nmB;rw [h1,Z1j h2];rfl
    rw [e] at kk;exact kk
  ·have h1:D2e x=false:=by simpa using h1
   refine ⟨false,congrArg V.bl h1,A3v ?_⟩;have e:nmB x=false:=by unfold nmB;rw [h1];rfl
   rw [e] at kk;exact kk
def B5u (p:Str->Prop) (ns:List Str):Prop:=∀i x,ns[i]? =some x->p x/\x∉ns.take i
def C7q (ns:List Str):Prop:=B5u (λx=>nmB x=true) ns
def C6x (kn os:List Str):Prop:=os≠[]/\B5u (λx=>x∈kn) os
def C1y (kn ys:List Str):Prop:=ys.length<=3/\B5u (λx=>x∈kn) ys
def D4c (A:Adr):Sp:=λvs H Q E=>∃(l:Addr) (ns:List Str),vs=[.ref l]/\H l=some (.lst (ns.map V.str))/\ns.length<=500/\OkN ns/\(C7q ns->∀H',A0p H H'->Q .non H')/\(¬C7q ns->∀H',A0p H H'->E (.ref A.ir) none H')
def D4f (A:Adr):Sp:=λvs H Q E=>∃(l k:Addr) (ys kn:List Str),vs=[.ref l,.ref k]/\H l=some (.lst (ys.map V.str))/\H k=some (.lst (kn.map V.str))/\ys.length<=500/\OkN ys/\(C6x kn ys->∀H',A0p H H'->Q .non H')/\(¬C6x kn ys->∀H',A0p H H'->E (.ref A.ir) none H')
def D7w (A:Adr):Sp:=λvs H Q E=>∃(l k:Addr) (ys kn:List Str),vs=[.ref l,.ref k]/\H l=some (.lst (ys.map V.str))/\H k=some (.lst (kn.map V.str))/\ys.length<=20/\OkN ys/\(C1y kn ys->∀H',A0p H H'->Q .non H')/\(¬C1y kn ys->∀H',A0p H H'->E (.ref A.iu) none H')
theorem B6u {p:Str->Prop} {ns:List Str} (h:∀j x,j<ns.length->ns[j]? =some x->p x/\x∉ns.take j):B5u p ns:=λi x e=>h i x (Z03.mp e).1 e
theorem E0x {ys:List Str} (ok:OkN ys):B1o ys<=ys.length*40004+3:=by
 unfold B1o;refine Nat.add_le_add_right ?_ 3
 induction ys with
 | nil=>simp
 | cons y r ih =>
  have h1:=(ok y (.head _)).2;have h2:=ih λz hz=>ok z (.tail _ hz);simp only [Z0p,List.sum_cons,Z0y]
  lia
theorem A9v (a b:Str):(a++b).length=a.length+b.length:=Str.length_append _ _
theorem A3z:(Str.empty:Str).length=0:=rfl
theorem B1f (T:Txt K mg t):A4m P w K mg base (CXD P w) 3 t.ge t.gr ["names"] (D4c t):=by
 have Ga6:= @C3f P w K mg base t T;refine T.c9.F.okD A4h (by walk_at "ln") λ_ A _ s H _ Q E hr h=> ?_
 ·obtain ⟨l,ns,rfl,hl,ln,ok,kq,ke⟩:=h
  refine ⟨_,(A0e (A1k PassesOwn.leaving rfl (C1e rfl T.jj (A0a (pv 0) A0d)) (A2p (n:=2) rfl (A0k (A0h (i:=1) A4h.nd rfl (.inl rfl)) (A0k (A0h (i:=2) A4h.nd rfl (.inl rfl)) A1s)))
    (A0c (A1n (B2o (A2k (pcl Ga6 hr T.qa (A0a (pv 2) A0d))))
     (A0e (A2x A5v T.fq rfl T.ik rfl (A0a (A4j (A4y (pv 2) (A3t A6c))) A0d)))
     A0r)
    (A0e (A1n (A0z B0i (pv 2) (A4b A6j (pv 0) A5m (A5r (pv 1))) (by with_unfolding_all rfl))
     (A0e (A2x A5v T.fq rfl T.ik rfl (A0a (A4j (A4y (pv 2) (A3t A6c))) A0d)))
     A0r))))),?_⟩
  refine ⟨_,rfl,l,_,rfl,SqL.of hl,?_⟩;refine B6t (K:=K) (a:=l) (xs:=ns.map V.str) (λi σ H2=>∃o1 o2:Option V,σ=[Sro l,o1,o2]/\A0p H H2/\∀j x,j<i->ns[j]? =some x->nmB x=true/\x∉ns.take j) ⟨none,none,rfl,A0p.refl _,by intro j x h;lia⟩ (by rintro i σ H2 ⟨_,_,_,s2,_⟩;exact SqL.of (s2 _ _ hl)) ?_ ?_
  ·rintro i v σ H2 p hv ⟨o1,o2,rfl,s2,gd⟩ hp;rw [Z1z] at hv;obtain ⟨x,hx,rfl⟩:=Z0i.mp hv;have hi:i<ns.length:=(Z03.mp hx).1;obtain ⟨okx,lx⟩:=ok x (Z13 hx);have s3:=s2.trans (A0f (o:= .tup [.int (i:Nat),.str x]) hp);refine ⟨p,_,rfl,SqT.of A0b,rfl,_,_,rfl,_,_,rfl,rfl,?_⟩;refine ⟨_,rfl,x,rfl,lx,λH4 s4=>⟨_,rfl,C9o (λhb=> ?_) (λhb=> ?_)⟩⟩
   ·refine ⟨_,rfl,x,rfl,okx,A0o (by rw [A3z];lia),λz hz=>⟨A0o ?_,A0o ?_,A0q rfl,ke (λg=> ?_) H4 (s3.trans s4)⟩⟩
    ·have:(" is no name":Str).length<=20:=by decide +kernel
     rw [A9v,A9v,A3z];lia
    ·have:(" is no name":Str).length<=20:=by decide +kernel
     rw [A9v,A9v,A3z];lia
    ·have:=(g i x hx).1;rw [this] at hb;cases hb
   have s5:=s3.trans s4;refine ⟨_,rfl,_,rfl,_,rfl,_,rfl,l,_,rfl,SqL.of (s5 _ _ hl),λq hq=> ?_⟩;rw [B6c (Nat.le_of_lt hi)];have s6:A0p H4 (upd H4 q (.lst ((ns.take i).map V.str))):=A0f hq;refine ⟨q,(ns.take i).map V.str,rfl,.inl (SqL.of A0b),rfl,A3h _,_,rfl,?_⟩;rw [A4w];refine A9m (λhin=> ?_) (λhout=>⟨_,_,rfl,s5.trans s6,λj y hj hy=> ?_⟩)
   ·refine ⟨_,rfl,x,rfl,okx,A0o (by rw [A3z];lia),λz hz=>⟨A0o ?_,A0o ?_,A0q rfl,ke (λg=>(g i x hx).2 hin) _ (s5.trans s6)⟩⟩
    ·have:(" is told twice":Str).length<=20:=by decide +kernel
     rw [A9v,A9v,A3z];lia
    ·have:(" is told twice":Str).length<=20:=by decide +kernel
     rw [A9v,A9v,A3z];lia
   ·rcases Nat.lt_or_ge j i with h | h
    ·exact gd j y h hy
    ·have:j=i:=by lia
     subst this;rw [hx] at hy;cases hy;exact ⟨hb,hout⟩
  ·rintro σ H2 ⟨o1,o2,rfl,s2,gd⟩;rw [Z08] at gd;exact kq (B6u gd) H2 s2
theorem B8x (T:Txt K mg t):A4m P w K mg base (CXD P w) 1 t.qv t.qk ["outs","names"] (D4f t):=by
 refine T.gx.F.okD A8p (by walk_at "ln") λ_ A _ s H _ Q E hr h=> ?_
 ·obtain ⟨l,kk,ys,kn,rfl,hl,hk,ly,ok,kq,ke⟩:=h
  refine ⟨_,(A0c (A1n (A0z A5x (A0s A1d (by rfl) T.cw Z0r (A0a (pv 0) A0d)) A0l (A1i _))
    (A0e (A2x A5v T.fq rfl T.ik rfl (A0a A1w A0d)))
    A0r)
   (A0e (A1k PassesOwn.leaving rfl (C1e rfl T.jj (A0a (pv 0) A0d)) (A2p (n:=2) rfl (A0k (A0h (i:=2) A8p.nd rfl (.inl rfl)) (A0k (A0h (i:=3) A8p.nd rfl (.inl rfl)) A1s)))
    (A0c (A1n (A0z A3f (pv 3) (pv 1) (by with_unfolding_all rfl))
     (A0e (A2x A5v T.fq rfl T.ik rfl (A0a (A4j (A3t (A4y (pv 3) (A3t A6c)))) A0d)))
     A0r)
    (A0e (A1n (A0z B0i (pv 3) (A4b A6j (pv 0) A5m (A5r (pv 2))) (by with_unfolding_all rfl))
     (A0e (A2x A5v T.fq rfl T.ik rfl (A0a (A4j (A3t (A4y (pv 3) (A3t A6c)))) A0d)))
     A0r)))))),?_⟩
  refine ⟨_,rfl,l,_,rfl,.inl (SqL.of hl),rfl,_,rfl,A9m (λh0=>⟨A0q rfl,ke (λg=>g.1 (List.eq_nil_of_length_eq_zero ?_)) _ (A0p.refl _)⟩) (λh0=> ?_)⟩
  ·have h0:((ys.map V.str).length:Int)=0:=by injection h0
   rw [Z08] at h0;lia
  have ne:ys≠[]:=λz=>h0 (by rw [z];rfl);refine ⟨_,rfl,l,_,rfl,SqL.of hl,?_⟩;refine B6t (K:=K) (a:=l) (xs:=ys.map V.str) (λi σ H2=>∃o1 o2:Option V,σ=[Sro l,Sro kk,o1,o2]/\A0p H H2/\∀j x,j<i->ys[j]? =some x->x∈kn/\x∉ys.take j) ⟨none,none,rfl,A0p.refl _,by intro j x h;lia⟩ (by rintro i σ H2 ⟨_,_,_,s2,_⟩;exact SqL.of (s2 _ _ hl)) ?_ ?_
  ·rintro i v σ H2 p hv ⟨o1,o2,rfl,s2,gd⟩ hp;rw [Z1z] at hv;obtain ⟨x,hx,rfl⟩:=Z0i.mp hv;have hi:i<ys.length:=(Z03.mp hx).1;obtain ⟨okx,lx⟩:=ok x (Z13 hx);have s3:=s2.trans (A0f (o:= .tup [.int (i:Nat),.str x]) hp);refine ⟨p,_,rfl,SqT.of A0b,rfl,_,_,rfl,_,_,rfl,rfl,?_⟩;refine ⟨_,rfl,_,rfl,kk,_,rfl,.inl (SqL.of (s3 _ _ hk)),rfl,A3h _,_,rfl,?_⟩;rw [A4w];refine A8n (λhno=> ?_) (λhyes=> ?_)
   ·refine ⟨A0o ?_,_,rfl,x,rfl,okx,A0o ?_,λz hz=>⟨A0o ?_,A0o ?_,A0q rfl,ke (λg=>hno (g.2 i x hx).1) _ s3⟩⟩
    ·have:("the out ":Str).length<=50:=by decide +kernel
     have:(" is no table and no let":Str).length<=50:=by decide +kernel
     simp only [A9v,A3z];lia
    ·have:("the out ":Str).length<=50:=by decide +kernel
     have:(" is no table and no let":Str).length<=50:=by decide +kernel
     simp only [A9v,A3z];lia
    ·have:("the out ":Str).length<=50:=by decide +kernel
     have:(" is no table and no let":Str).length<=50:=by decide +kernel
     simp only [A9v,A3z];lia
    ·have:("the out ":Str).length<=50:=by decide +kernel
     have:(" is no table and no let":Str).length<=50:=by decide +kernel
     simp only [A9v,A3z];lia
   refine ⟨_,rfl,_,rfl,_,rfl,_,rfl,l,_,rfl,SqL.of (s3 _ _ hl),λq hq=> ?_⟩;rw [B6c (Nat.le_of_lt hi)];have s6:=A0f (o:= .lst ((ys.take i).map V.str)) hq;refine ⟨q,(ys.take i).map V.str,rfl,.inl (SqL.of A0b),rfl,A3h _,_,rfl,?_⟩;rw [A4w];refine A9m (λhin=> ?_) (λhout=>⟨_,_,rfl,s3.trans s6,λj y hj hy=> ?_⟩)
   ·refine ⟨A0o ?_,_,rfl,x,rfl,okx,A0o ?_,λz hz=>⟨A0o ?_,A0o ?_,A0q rfl,ke (λg=>(g.2 i x hx).2 hin) _ (s3.trans s6)⟩⟩
    ·have:("the out ":Str).length<=50:=by decide +kernel
     have:(" is told twice":Str).length<=50:=by decide +kernel
     simp only [A9v,A3z];lia
    ·have:("the out ":Str).length<=50:=by decide +kernel
     have:(" is told twice":Str).length<=50:=by decide +kernel
     simp only [A9v,A3z];lia
    ·have:("the out ":Str).length<=50:=by decide +kernel
     have:(" is told twice":Str).length<=50:=by decide +kernel
     simp only [A9v,A3z];lia
    ·have:("the out ":Str).length<=50:=by decide +kernel
     have:(" is told twice":Str).length<=50:=by decide +kernel
     simp only [A9v,A3z];lia
   ·rcases Nat.lt_or_ge j i with h | h
    ·exact gd j y h hy
    ·have:j=i:=by lia
     subst this;rw [hx] at hy;cases hy;exact ⟨hyes,hout⟩
  ·rintro σ H2 ⟨o1,o2,rfl,s2,gd⟩;rw [Z08] at gd;exact kq ⟨ne,B6u gd⟩ H2 s2
theorem B8w (T:Txt K mg t):A4m P w K mg base (CXD P w) 1 t.qu t.qh ["axes","known"] (D7w t):=by
 refine T.gb.F.okD A8b (by walk_at "ln") λ_ A _ s H _ Q E hr h=> ?_
 ·obtain ⟨l,kk,ys,kn,rfl,hl,hk,ly,ok,kq,ke⟩:=h
  refine ⟨_,(A0c (A1n (A0z C9b (A0s A1d (by rfl) T.cw Z0r (A0a (pv 0) A0d)) (B0r T.u7 rfl) (A1i _))
    (A0e (A2x A5v T.cb rfl T.cv rfl (A0a (A4j (C8z hr.gd hr.units0 (pv 0) (A3t A6c))) A0d)))
    A0r)
   (A0e (A1k PassesOwn.leaving rfl (C1e rfl T.jj (A0a (pv 0) A0d)) (A2p (n:=2) rfl (A0k (A0h (i:=2) A8b.nd rfl (.inl rfl)) (A0k (A0h (i:=3) A8b.nd rfl (.inl rfl)) A1s)))
    (A0c (A1n (A0z A3f (pv 3) (pv 1) (by with_unfolding_all rfl))
     (A0e (A2x A5v T.cb rfl T.cv rfl (A0a (A4j (A4y (pv 3) (A3t A6c))) A0d)))
     A0r)
    (A0e (A1n (A0z B0i (pv 3) (A4b A6j (pv 0) A5m (A5r (pv 2))) (by with_unfolding_all rfl))
     (A0e (A2x A5v T.cb rfl T.cv rfl (A0a (A4j (A3t (A4y (pv 3) (A3t A6c)))) A0d)))
     A0r)))))),?_⟩
  have rs:=E0x ok;refine ⟨_,rfl,l,_,rfl,.inl (SqL.of hl),_,_,rfl,rfl,_,rfl,A9m (λh0=> ?_) (λh0=> ?_)⟩
  ·have h3:3<ys.length:=by
    have h0:(3:Int)<((ys.map V.str).length:Nat):=h0;rw [Z08] at h0;lia
   have lit:(" are too many axes":Str).length<=30:=by decide +kernel
   refine ⟨_,rfl,l,ys,rfl,hl,(λz=>by rw [z] at h3;simp at h3),(λy hy=>(ok y hy).1),A0o (by rw [A3z];lia),λz hz=>⟨A0o ?_,A0o ?_,A0q rfl,ke (λg=>by have:=g.1;lia) _ (A0p.refl _)⟩⟩
   ·simp only [A9v,A3z];lia
   ·simp only [A9v,A3z];lia
  have l3:ys.length<=3:=by
   have h0:¬(3:Int)<((ys.map V.str).length:Nat):=h0;rw [Z08] at h0;lia
  refine ⟨_,rfl,l,_,rfl,SqL.of hl,?_⟩;refine B6t (K:=K) (a:=l) (xs:=ys.map V.str) (λi σ H2=>∃o1 o2:Option V,σ=[Sro l,Sro kk,o1,o2]/\A0p H H2/\∀j x,j<i->ys[j]? =some x->x∈kn/\x∉ys.take j) ⟨none,none,rfl,A0p.refl _,by intro j x h;lia⟩ (by rintro i σ H2 ⟨_,_,_,s2,_⟩;exact SqL.of (s2 _ _ hl)) ?_ ?_
  ·rintro i v σ H2 p hv ⟨o1,o2,rfl,s2,gd⟩ hp;rw [Z1z] at hv;obtain ⟨x,hx,rfl⟩:=Z0i.mp hv;have hi:i<ys.length:=(Z03.mp hx).1;obtain ⟨okx,lx⟩:=ok x (Z13 hx);have s3:=s2.trans (A0f (o:= .tup [.int (i:Nat),.str x]) hp);refine ⟨p,_,rfl,SqT.of A0b,rfl,_,_,rfl,_,_,rfl,rfl,?_⟩;refine ⟨_,rfl,_,rfl,kk,_,rfl,.inl (SqL.of (s3 _ _ hk)),rfl,A3h _,_,rfl,?_⟩;rw [A4w];refine A8n (λhno=> ?_) (λhyes=> ?_)
   ·refine ⟨_,rfl,x,rfl,okx,A0o ?_,λz hz=>⟨A0o ?_,A0o ?_,A0q rfl,ke (λg=>hno (g.2 i x hx).1) _ s3⟩⟩
    ·have:(" is no axis of the program":Str).length<=50:=by decide +kernel
     simp only [A9v,A3z];lia
    ·have:(" is no axis of the program":Str).length<=50:=by decide +kernel
     simp only [A9v,A3z];lia
    ·have:(" is no axis of the program":Str).length<=50:=by decide +kernel
     simp only [A9v,A3z];lia
   refine ⟨_,rfl,_,rfl,_,rfl,_,rfl,l,_,rfl,SqL.of (s3 _ _ hl),λq hq=> ?_⟩;rw [B6c (Nat.le_of_lt hi)];have s6:=A0f (o:= .lst ((ys.take i).map V.str)) hq;refine ⟨q,(ys.take i).map V.str,rfl,.inl (SqL.of A0b),rfl,A3h _,_,rfl,?_⟩;rw [A4w];refine A9m (λhin=> ?_) (λhout=>⟨_,_,rfl,s3.trans s6,λj y hj hy=> ?_⟩)
   ·refine ⟨A0o ?_,_,rfl,x,rfl,okx,A0o ?_,λz hz=>⟨A0o ?_,A0o ?_,A0q rfl,ke (λg=>(g.2 i x hx).2 hin) _ (s3.trans s6)⟩⟩
    ·have:("the axis ":Str).length<=50:=by decide +kernel
     have:(" comes twice in one list":Str).length<=50:=by decide +kernel
     simp only [A9v,A3z];lia
    ·have:("the axis ":Str).length<=50:=by decide +kernel
     have:(" comes twice in one list":Str).length<=50:=by decide +kernel
     simp only [A9v,A3z];lia
    ·have:("the axis ":Str).length<=50:=by decide +kernel
     have:(" comes twice in one list":Str).length<=50:=by decide +kernel
     simp only [A9v,A3z];lia
    ·have:("the axis ":Str).length<=50:=by decide +kernel
     have:(" comes twice in one list":Str).length<=50:=by decide +kernel
     simp only [A9v,A3z];lia
   ·rcases Nat.lt_or_ge j i with h | h
    ·exact gd j y h hy
    ·have:j=i:=by lia
     subst this;rw [hx] at hy;cases hy;exact ⟨hyes,hout⟩
  ·rintro σ H2 ⟨o1,o2,rfl,s2,gd⟩;rw [Z08] at gd;exact kq ⟨l3,B6u gd⟩ H2 s2
theorem C5j {k:Key}:∀{l:List (Key×V)},k∉l.map (·.1)->A4x l k=none
 | [],_=>rfl
 | p::r,h=>by
  have h1:¬p.1=k:=λz=>h (by rw [<-z];exact .head _);have h2:=C5j (l:=r) λz=>h (.tail _ z);unfold A4x at h2⊢;rw [Z2h];simp only [Z1j h1];exact h2
theorem A5z:∀{ws acc:List (Key×V)},((acc++ws).map (·.1)).Nodup->A1c acc ws=acc++ws
 | [],acc,_=>by rw [Z0u];rfl
 | w::r,acc,h=>by
  have hn:w.1∉acc.map (·.1):=λz=>by
   rw [Z0s,Z0p] at h;exact (Z0l.mp h).2.2 _ z _ (.head _) rfl
  show A1c (A9e acc w.1 w.2) r=_;rw [D1k w.2 (C5j hn),A5z (by rw [Z0z];exact h),Z0z];rfl
structure E1u (ax:List (Str×Int)) (tb:List (Str×List Str)) (ls:List Lt) (os:List Str):Prop where
 la:ax.length<=100
 lt:tb.length<=100
 ll:ls.length<=100
 lo:os.length<=500
 on:OkN (axN ax++arN tb ls)
 oo:OkN os
 t:∀e∈arr tb ls,e.2.length<=20/\OkN e.2
def GdN (ax:List (Str×Int)) (tb:List (Str×List Str)) (ls:List Lt) (os:List Str):Prop:=C7q (axN ax++arN tb ls)/\C6x (arN tb ls) os
def GdS (ax:List (Str×Int)) (tb:List (Str×List Str)) (ls:List Lt):Prop:=∀e∈arr tb ls,C1y (axN ax) e.2
def D1l (A:Adr):Sp:=λvs H Q E=>∃(p:Addr) (wh:Int) (ax:List (Str×Int)) (tb:List (Str×List Str)) (ls:List Lt) (os:List Str),vs=[.ref p]/\B9v A H p wh ax tb ls os/\E1u ax tb ls os/\
 (GdN ax tb ls os->GdS ax tb ls->∀H',A0p H H'->Q .non H')/\(¬GdN ax tb ls os->∀H',A0p H H'->E (.ref A.ir) none H')/\(GdN ax tb ls os->¬GdS ax tb ls->∀H',A0p H H'->E (.ref A.iu) none H')
theorem D5t {p:Str->Prop} {ns:List Str} (h:B5u p ns):ns.Nodup:=by
 rw [List.Nodup,List.pairwise_iff_getElem];intro i j hi hj hij e;refine (h j ns[j] (Z0b hj)).2 ?_;rw [<-e];exact List.mem_iff_getElem.mpr ⟨i,by rw [Z0x];lia,List.getElem_take⟩
theorem B4e {S:Addr->Prop} {H:Hp}:∀{ws:List (Key×V)} {es:List (Str×List Str)},B9w S H ws es->ws.map (·.1)=es.map λe=>(Sum.inr e.1:Key)
 | _,_,.nil=>rfl
 | _,_,.cons ⟨h,_⟩ t=>by rw [Z0p,Z0p,B4e t,h]
theorem C5v (tb:List (Str×List Str)) (ls:List Lt):(arr tb ls).map (·.1)=arN tb ls:=by
 unfold arr arN;rw [Z0s,List.map_map];rfl
theorem B6p (T:Txt K mg t):A4m P w K mg base (CXD P w) 4 t.nj t.nu A2z (D1l t):=by
 have Ga7:= @B4q P w K mg base t T;have Ga8:= @B2q P w K mg base t T;have Ga9:= @B0w P w K mg base t T;have Gb0:= @B8w P w K mg base t T;have Gb1:= @B8x P w K mg base t T;have Gb2:= @B1f P w K mg base t T;refine T.fh.F.okD B0z (by walk_at "ln") λ_ A _ s H _ Q E hr h=> ?_
 ·obtain ⟨p,wh,ax,tb,ls,os,rfl,pr,ok,kQ,kN,kS⟩:=h;obtain ⟨dx,a,tt,l,o,e,ra,rt,⟨xl,hl,rl⟩,ro⟩:=pr.ob;obtain ⟨o2,eo,ho⟩:=D0t ro;cases eo;have la:=ok.la;have lt:=ok.lt;have ll:=ok.ll
  refine ⟨_,(A0c (A1y (A3g Gb2 (hr.mono (by lia)) rfl T.c9.m T.c9.F.kp T.c9.b .nil A8y (A0a (A0x A5c (pcl Ga9 hr T.cy (A0a (pv 0) A0d)) (pcl Ga7 hr T.dg (A0a (pv 0) A0d))) A0d)))
   (A0c (A1y (A3g Gb1 (hr.mono (by lia)) rfl T.gx.m T.gx.F.kp T.gx.b .nil A8y (A0a (A0t (pv 0) rfl) (A0a (pcl Ga7 hr T.dg (A0a (pv 0) A0d)) A0d))))
   (A0c (A1k PassesOwn.leaving rfl (C7y (D2m PySem.F.plainAttrs_dict PySem.F.slot_dict_values PySem.F.type_dict_values C6g (pcl Ga8 hr T.gj (A0a (pv 0) A0d)))) (A0h (i:=1) B0z.nd rfl (.inl rfl))
    (A0e (A1y (A3g Gb0 (hr.mono (by lia)) rfl T.gb.m T.gb.F.kp T.gb.b .nil A8y (A0a (pv 1) (A0a (pcl Ga9 hr T.cy (A0a (pv 0) A0d)) A0d))))))
   (C9w A0r)))),?_⟩
  refine ⟨_,rfl,p,wh,ax,tb,ls,os,rfl,pr,la,λq1 H1 hq1 s1 h1=> ?_⟩;refine ⟨_,rfl,p,wh,ax,tb,ls,os,rfl,pr.same s1,lt,ll,λq2 H2 hq2 s2 h2=> ?_⟩;have z1:((axN ax).map V.str++(arN tb ls).map V.str)=(axN ax++arN tb ls).map V.str:=by simp
  have ln:(axN ax++arN tb ls).length<=300:=by simp [axN,arN];lia
  refine ⟨q1,q2,_,_,rfl,rfl,s2 _ _ h1,h2,A0o (by rw [Z06] at ln;rw [Z08,Z08];lia),λq3 hq3=> ?_⟩;rw [z1];have s3:=(s1.trans s2).trans (A0f (o:= .lst ((axN ax++arN tb ls).map V.str)) hq3);refine ⟨q3,_,rfl,A0b,by lia,ok.on,λg1 H4 s4=> ?_,λg1 H4 s4=>kN (λz=>g1 z.1) H4 (s3.trans s4)⟩;have s5:=s3.trans s4;refine ⟨_,rfl,p,_,dx,_,_,rfl,s5 _ _ e,T.ao,T.jd,(by walk_at "lk"),_,rfl,p,wh,ax,tb,ls,os,rfl,pr.same s5,lt,ll,λq6 H6 hq6 s6 h6=> ?_⟩;have s7:=s5.trans s6;refine ⟨o,q6,os,_,rfl,s7 _ _ ho,h6,ok.lo,ok.oo,λg2 H8 s8=> ?_,λg2 H8 s8=>kN (λz=>g2 z.2) H8 (s7.trans s8)⟩;have s9:=s7.trans s8;have gN:GdN ax tb ls os:=⟨g1,g2⟩;refine ⟨_,rfl,p,wh,ax,tb,ls,os,rfl,pr.same s9,by lia,by lia,λqd ws Hd hqd sd hd arw=> ?_⟩
  have nk:A1c [] ws=ws:=by
   refine A5z ?_;rw [List.nil_append,B4e arw]
   have h1:((arr tb ls).map (·.1)).Nodup:=by
    rw [C5v];exact (Z0l.mp (D5t g1)).2.1
   rw [List.Nodup,List.pairwise_map] at h1⊢;exact h1.imp λhne z=>hne (by injection z)
  rw [nk] at hd;have s10:=s9.trans sd;refine ⟨.inr (.inr (.inl ⟨rfl,.inl ⟨ws,hd⟩⟩)),qd,ws,rfl,rfl,hd,λpv hpv=> ?_⟩;have nv:qd≠pv:=λz=>by subst z;rw [hd] at hpv;cases hpv
  refine ⟨pv,qd,ws,rfl,A0b,by rw [A0j nv];exact hd,λob=> ?_⟩
  have frq:∀b u,b≠qd->Hd b=some u->upd (upd Hd pv (B9s pv qd)) qd (.frz ob (.dK ws)) b=some u:=λb u hb e=>by
   rw [A0j hb];exact A0f hpv _ _ e
  have nq:∀b u,H b=some u->b≠qd:=λb u e z=>by
   subst z;have:=s9 _ _ e;rw [this] at hqd;cases hqd
  have S11:A0p H (upd (upd Hd pv (B9s pv qd)) qd (.frz ob (.dK ws))):=λb u e=>frq b u (nq b u e) (s10 _ _ e);refine C3t (a:=qd) (o:=ob) (kvs:=ws) (λi σ H2=>∃o1:Option V,σ=[Sro p,o1]/\A0p (upd (upd Hd pv (B9s pv qd)) qd (.frz ob (.dK ws))) H2/\∀j e,j<i->(arr tb ls)[j]? =some e->C1y (axN ax) e.2) ⟨none,rfl,A0p.refl _,by intro j e h;lia⟩ (by rintro i σ H2 ⟨_,_,s2,_⟩;exact s2 _ _ A0b) ?_ ?_
  ·rintro i kk v σ H2 hkv ⟨o1,rfl,s2,gd⟩;obtain ⟨ee,hee,_,c,ec,_,hc⟩:=B2k arw hkv;have ec:v= .ref c:=ec;subst ec;have cq:c≠qd:=A2n hc hd (by intro z;cases z);have hc2:=s2 _ _ (frq _ _ cq hc);obtain ⟨l20,okys⟩:=ok.t ee (Z13 hee);refine ⟨_,rfl,_,rfl,p,wh,ax,tb,ls,os,rfl,pr.same (S11.trans s2),la,λq3 H3 hq3 s3 h3=> ?_⟩;refine ⟨c,q3,ee.2,_,rfl,s3 _ _ hc2,h3,l20,okys,λg H4 s4=>⟨_,rfl,s2.trans (s3.trans s4),λj e hj he=> ?_⟩,λg H4 s4=>kS gN (λz=>g (z ee (Z13 hee))) H4 (S11.trans (s2.trans (s3.trans s4)))⟩;rcases Nat.lt_or_ge j i with h | h
   ·exact gd j e h he
   ·have:j=i:=by lia
    subst this;rw [hee] at he;cases he;exact g
  ·rintro σ H2 ⟨o1,rfl,s2,gd⟩;have hq0:H qd=none:=s9.free hqd;refine ⟨qd,ob,ws,s2 _ _ A0b,λo' u' z=> ?_,kQ gN (λe he=> ?_) _ (A0u (S11.trans s2) hq0)⟩
   ·have z':H qd=some _:=z;rw [hq0] at z';cases z'
   ·obtain ⟨j,hj,e2⟩:=List.mem_iff_getElem.mp he;refine gd j e ?_ (by rw [Z0b hj,e2]);rw [Paired.length arw];exact hj
theorem C9j {ws:List (Key×V)} {k:Key} (n:∀p∈ws,p.1≠k) (u:V):A9e ws k u=ws++[(k,u)]:=by
 unfold A9e;rw [Z0t];intro h;obtain ⟨p,hp,e⟩:=List.any_eq_true.mp h;exact n p hp (of_decide_eq_true e)
def shp (es:List (Str×List Str)) (a:Str):Option (List Str):=(es.find? λe=>decide (e.1=a)).map (·.2)
def B1h:Tm->List Str
 | .sum x b=>x::B1h b
 | _=>[]
def ixB (bd:List Str) (ix:List (Str×Int)):Bool:=ix.all λe=>decide (e.1="")||decide (e.1∈bd)
def C4u (es:List (Str×List Str)) (bd:List Str) (a:Str) (ix:List (Str×Int)):Option Bool:=match shp es a with
 | none=>some true
 | some zs=>if ix.length≠zs.length then some false else if ixB bd ix=true then none else some false
noncomputable def pOk (kn:List Str) (es:List (Str×List Str)) (own:Str) (ys:List Str) (nt:Nat) (e:PT):Option Bool:=match e.1 with
 | .place x=>if x∈ys++e.2.1 then none else some false
 | .guard x _ _ _ _=>if x∈ys++e.2.1 then none else some false
 | .sum x _=>if x∈kn then (if x∈ys++e.2.1 then some false else none) else some false
 | .read a ix=>match C4u es (ys++e.2.1) a ix with
  | some b=>some b
  | none=>if a=own/\nt<e.2.1.length then some false else none
 | .num _=>none
 | .pair _ _ _=>none
def D4n (es:List (Str×List Str)) (l:Lt):List (Str×List Str):=es++[(l.1,l.2.1)]
def D6w (kn:List Str) (es:List (Str×List Str)) (l:Lt):Option Bool:=(prT l.2.2 [] []).findSome? (pOk kn (D4n es l) l.1 l.2.1 (B1h l.2.2).length)
def B7a (kn:List Str):List (Str×List Str)->List Lt->Option Bool
 | _,[]=>none
 | es,l::r=>match D6w kn es l with
  | some b=>some b
  | none=>B7a kn (D4n es l) r
def clsX (A:Adr):Bool->Addr
 | true=>A.ir
 | false=>A.iu
def Out (A:Adr) (r:Option Bool) (Q:VK) (E:XK) (H:Hp):Prop:=(r=none->∀H',A0p H H'->Q .non H')/\∀b,r=some b->∀H',A0p H H'->E (.ref (clsX A b)) none H'
theorem Out.of {A:Adr} {r:Option Bool} {Q:VK} {E:XK} {H H1:Hp} (h:Out A r Q E H) (s:A0p H H1):Out A r Q E H1:=⟨λz H' s'=>h.1 z H' (s.trans s'),λb z H' s'=>h.2 b z H' (s.trans s')⟩
def OkT:Tm->Prop
 | .num _=>True
 | .place x=>OkX x
 | .read a ix=>OkX a/\ix.length<=100/\∀e∈ix,OkX e.1
 | .sum x b=>OkX x/\OkT b
 | .pair _ l r=>OkT l/\OkT r
 | .guard x _ _ l r=>OkX x/\OkT l/\OkT r
theorem A6o:∀(u:Tm) (s:List Str) (g:List Gd),OkT u->∀e∈prT u s g,OkT e.1
 | .num _,s,g,h,e,he=>by rw [Z0w.mp he];exact h
 | .place _,s,g,h,e,he=>by rw [Z0w.mp he];exact h
 | .read _ _,s,g,h,e,he=>by rw [Z0w.mp he];exact h
 | .sum x b,s,g,h,e,he=>by
  rcases Z0e.mp he with rfl | he
  ·exact h
  ·exact A6o b _ _ h.2 e he
 | .pair k l r,s,g,h,e,he=>by
  rcases Z0e.mp he with rfl | he
  ·exact h
  ·rcases Z07.mp he with he | he
   ·exact A6o l _ _ h.1 e he
   ·exact A6o r _ _ h.2 e he
 | .guard x lo hi l r,s,g,h,e,he=>by
  rcases Z0e.mp he with rfl | he
  ·exact h
  ·rcases Z07.mp he with he | he
   ·exact A6o l _ _ h.2.1 e he
   ·exact A6o r _ _ h.2.2 e he
theorem B6h {S:Addr->Prop} {H:Hp} {a:Str}:∀{kvs:List (Key×V)} {es:List (Str×List Str)},B9w S H kvs es->(shp es a=none/\A4x kvs (Sum.inr a)=none)\/∃zs c,shp es a=some zs/\A4x kvs (Sum.inr a)=some (.ref c)/\H c=some (.lst (zs.map V.str))
 | _,_,.nil=> .inl ⟨rfl,rfl⟩
 | _,_,@Paired.cons _ _ _ p e _ _ ⟨ek,b,eb,_,hb⟩ t=>by
  by_cases he:e.1=a
  ·refine .inr ⟨e.2,b,by simp [shp,Z2h,he],?_,hb⟩;rw [A3m (by rw [ek,he]),eb]
  ·have h1:∀r,shp (e::r) a=shp r a:=λr=>by simp [shp,Z2h,he]
   rw [h1,A3u (λz=>he (by rw [ek] at z;injection z))];exact B6h t
def D1p (A:Adr):Sp:=λvs H Q E=>∃(x:Str) (b:Addr) (bs:List Str),vs=[.str x,.ref b]/\H b=some (.lst (bs.map V.str))/\OkX x/\Out A (if x∈bs then none else some false) Q E H
def D8p (A:Adr):Sp:=λvs H Q E=>∃(x:Str) (b k:Addr) (bs kn:List Str),vs=[.str x,.ref b,.ref k]/\H b=some (.lst (bs.map V.str))/\H k=some (.lst (kn.map V.str))/\OkX x/\Out A (if x∈kn then (if x∈bs then some false else none) else some false) Q E H
def D5v (A:Adr):Sp:=λvs H Q E=>∃(o dx l b d:Addr) (a:Str) (ix:List (Str×Int)) (bs:List Str) (kvs:List (Key×V)) (es:List (Str×List Str)),vs=[.ref o,.ref b,.ref d]/\H o=some (.ins A.ah dx [("array",.str a),("indexes",.ref l)])/\Rep H (.ref l) (A6p ix)/\H b=some (.lst (bs.map V.str))/\H d=some (.dK kvs)/\B9w (λ_=>True) H kvs es/\OkX a/\(∀e∈ix,OkX e.1)/\Out A (C4u es bs a ix) Q E H
def D9s (A:Adr):Sp:=λvs H Q _=>∃(v:V) (u:Tm),vs=[v]/\Ob A H v u/\dep u<=100/\∀(q:Addr) (H':Hp),H q=none->A0p H H'->H' q=some (.lst ((B1h u).map V.str))->Q (.ref q) H'
def E0b (A:Adr):Sp:=λvs H Q E=>∃(v y:V) (a:Str) (ix:List (Str×Int)) (ss:List Str) (gg:List Gd) (le:Lt),vs=[v,y]/\A4v A H v (.read a ix,ss,gg)/\B2z A (λ_=>True) H y le/\dep le.2.2<=100/\OkX le.1/\Out A (if a=le.1/\(B1h le.2.2).length<ss.length then some false else none) Q E H
def D3r (A:Adr):Sp:=λvs H Q E=>∃(v y:V) (d k:Addr) (e:PT) (le:Lt) (kn:List Str) (kvs:List (Key×V)) (es:List (Str×List Str)),vs=[v,y,.ref d,.ref k]/\A4v A H v e/\B2z A (λ_=>True) H y le/\le.2.1.length<=100/\dep le.2.2<=100/\OkX le.1/\H k=some (.lst (kn.map V.str))/\H d=some (.dK kvs)/\B9w (λ_=>True) H kvs es/\OkT e.1/\Out A (pOk kn es le.1 le.2.1 (B1h le.2.2).length e) Q E H
structure E0z (ax:List (Str×Int)) (tb:List (Str×List Str)) (ls:List Lt):Prop where
 la:ax.length<=100
 lt:tb.length<=100
 ll:ls.length<=100
 nd:(arN tb ls).Nodup
 l:∀e∈ls,e.2.1.length<=100/\OkX e.1/\OkT e.2.2/\dep e.2.2<=9/\nod e.2.2<=1000
def D0u (A:Adr):Sp:=λvs H Q E=>∃(p:Addr) (wh:Int) (ax:List (Str×Int)) (tb:List (Str×List Str)) (ls:List Lt) (os:List Str),vs=[.ref p]/\B9v A H p wh ax tb ls os/\E0z ax tb ls/\Out A (B7a (axN ax) tb ls) Q E H
theorem D8i {H:Hp}:∀{tb:List (Str×List Str)} {xs:List V},A5j H xs (tb.map C1t)->∃kvs,PL H xs kvs/\B9w (λ_=>True) H kvs tb
 | [],_,r=>by cases r;exact ⟨[],.nil,.nil⟩
 | e::tb,_,r=>by
  rw [Z0p] at r
  cases r with
  | cons a r =>
   obtain ⟨b,c,rfl,eb,ec⟩:=D0g a;obtain ⟨kvs,h1,h2⟩:=D8i r;exact ⟨(Sum.inr e.1,.ref c)::kvs,.cons ⟨b,rfl,eb⟩ h1,.cons ⟨rfl,c,rfl,True.intro,ec⟩ h2⟩
theorem B0x {S:Addr->Prop} {H H':Hp} {kvs:List (Key×V)} {es:List (Str×List Str)} (h:B9w S H kvs es) (s:A0p H H'):B9w S H' kvs es:=Paired.mapP h (by rintro _ _ ⟨z1,b,z2,z3,z4⟩;exact ⟨z1,b,z2,z3,s _ _ z4⟩)
theorem A5e {α:Type} {l:List α} {i:Nat} {x:α} (h:l[i]? =some x):l.drop i=x::l.drop (i+1):=by
 have hi:=(Z03.mp h).1;rw [List.drop_eq_getElem_cons hi,(Z03.mp h).2]
theorem B1b (T:Txt K mg t):A4m P w K mg base (CXD P w) 1 t.nh t.mx D0l (D1p t):=by
 refine T.c6.F.okD B6f (by walk_at "ln") λ_ A _ s H _ Q E hr h=> ?_
 ·obtain ⟨x,b,bs,rfl,hb,⟨okx,lx⟩,ko⟩:=h
  refine ⟨_,(A0e (A1n (A0z A3f (pv 0) (pv 1) (by with_unfolding_all rfl))
    (A0e (A2x A5v T.cb rfl T.cv rfl (A0a (A4j (A3t (A4y (pv 0) (A3t A6c)))) A0d)))
    A0r)),?_⟩
  have l1:("the axis ":Str).length<=50:=by decide +kernel
  have l2:(" is not bound":Str).length<=50:=by decide +kernel
  refine ⟨_,rfl,_,rfl,b,_,rfl,.inl (SqL.of hb),rfl,A3h _,_,rfl,?_⟩;rw [A4w];refine A8n (λhno=> ?_) (λhyes=>ko.1 (Z12 hyes) _ (A0p.refl _));refine ⟨A0o ?_,_,rfl,x,rfl,okx,A0o ?_,λz hz=>⟨A0o ?_,A0o ?_,A0q rfl,ko.2 false (Z0t hno) _ (A0p.refl _)⟩⟩ <;> (simp only [A9v,A3z];lia)
theorem C1g (T:Txt K mg t):A4m P w K mg base (CXD P w) 1 t.sy t.tf D1i (D8p t):=by
 refine T.j3.F.okD C0h (by walk_at "ln") λ_ A _ s H _ Q E hr h=> ?_
 ·obtain ⟨x,b,kk,bs,kn,rfl,hb,hk,⟨okx,lx⟩,ko⟩:=h
  refine ⟨_,(A0c (A1n (A0z A3f (pv 0) (pv 2) (by with_unfolding_all rfl))
    (A0e (A2x A5v T.cb rfl T.cv rfl (A0a (A4j (A4y (pv 0) (A3t A6c))) A0d)))
    A0r)
   (A0e (A1n (A0z B0i (pv 0) (pv 1) (by with_unfolding_all rfl))
    (A0e (A2x A5v T.cb rfl T.cv rfl (A0a (A4j (A3t (A4y (pv 0) (A3t A6c)))) A0d)))
    A0r))),?_⟩
  have l1:("the axis ":Str).length<=50:=by decide +kernel
  have l2:(" of a sum is bound already":Str).length<=50:=by decide +kernel
  have l3:(" is no axis of the program":Str).length<=50:=by decide +kernel
  refine ⟨_,rfl,_,rfl,kk,_,rfl,.inl (SqL.of hk),rfl,A3h _,_,rfl,?_⟩;rw [A4w];refine A8n (λhno=> ?_) (λhyes=> ?_)
  ·refine ⟨_,rfl,x,rfl,okx,A0o ?_,λz hz=>⟨A0o ?_,A0o ?_,A0q rfl,ko.2 false (Z0t hno) _ (A0p.refl _)⟩⟩ <;> (simp only [A9v,A3z];lia)
  rw [Z12 hyes] at ko;refine ⟨_,rfl,_,rfl,b,_,rfl,.inl (SqL.of hb),rfl,A3h _,_,rfl,?_⟩;rw [A4w];refine A9m (λhin=> ?_) (λhout=>ko.1 (Z0t hout) _ (A0p.refl _));refine ⟨A0o ?_,_,rfl,x,rfl,okx,A0o ?_,λz hz=>⟨A0o ?_,A0o ?_,A0q rfl,ko.2 false (Z12 hin) _ (A0p.refl _)⟩⟩ <;> (simp only [A9v,A3z];lia)
theorem B8e (T:Txt K mg t):A4m P w K mg base (CXD P w) 2 t.qp t.qt C9s (D5v t):=by
 have Gb3:= @B1b P w K mg base t T;refine T.gh.F.okD A6d (by walk_at "ln") λ_ A _ s H _ Q E hr h=> ?_
 ·obtain ⟨o,dx,l,b,d,a,ix,bs,kvs,es,rfl,ho,rl,hb,hd,aw,⟨oka,la'⟩,okx,ko⟩:=h;have hu:=B0m hr;obtain ⟨l',xs,el,hl,rs⟩:=A5b (show Rep H (.ref l) (.list (ix.map B7u)) from rl);cases el;have lxs:=rs.len;rw [Z08] at lxs
  refine ⟨_,(A0c (A0n (i:=3) A6d.nd rfl (.inl rfl) (A0t (pv 0) rfl))
   (A0c (A1n (D8v (C6a hu (pv 3) (pv 2)) (by with_unfolding_all rfl))
    (A0e (A2x A5v T.fq rfl T.ik rfl (A0a (A4j (A4y (pv 3) (A3t A6c))) A0d)))
    A0r)
   (A0c (A1n (A0z B0f (A0s A1d (by rfl) T.cw Z0r (A0a (A0t (pv 0) rfl) A0d)) (A0s A1d (by rfl) T.cw Z0r (A0a (A3j hu (pv 2) (pv 3) (λ_ _=>rfl)) A0d)) (A1i _))
    (A0e (A2x A5v T.cb rfl T.cv rfl (A0a (A4j (A3t (A4y (pv 3) (A3t A6c)))) A0d)))
    A0r)
   (A0e (A1k PassesOwn.leaving rfl (A1b (A0t (pv 0) rfl)) (A2p (n:=2) rfl (A0k (A0h (i:=4) A6d.nd rfl (.inl rfl)) (A0k (A0h (i:=5) A6d.nd rfl (.inl rfl)) A1s)))
    (A0e (A1n (A0z B0f (pv 4) A1w (A1i _))
     (A0e (A1y (A3g Gb3 (hr.mono (by lia)) rfl T.c6.m T.c6.F.kp T.c6.b .nil A8y (A0a (pv 4) (A0a (pv 1) A0d)))))
     A0r))))))),?_⟩
  have l1:(" is no table, no let ahead and not the let itself":Str).length<=90:=by decide +kernel
  have l2:("a read of ":Str).length<=90:=by decide +kernel
  have l3:(" has another number of indexes than the array axes":Str).length<=90:=by decide +kernel
  refine ⟨_,rfl,o,_,dx,_,_,rfl,ho,T.bu,T.bw,(by walk_at "lk"),?_⟩;rcases B6h (a:=a) aw with ⟨e1,e2⟩ | ⟨zs,c,e1,e2,hc⟩
  ·have g:B2h H d (.str a) none:= .inl ⟨kvs,Sum.inr a,.inl hd,rfl,e2.symm⟩;have er:C4u es bs a ix=some true:=by unfold C4u;rw [e1]
   refine ⟨_,rfl,_,rfl,d,_,rfl,g,_,rfl,B2r ?_⟩;refine ⟨_,rfl,a,rfl,oka,A0o ?_,λz hz=>⟨A0o ?_,A0o ?_,A0q rfl,ko.2 true er _ (A0p.refl _)⟩⟩ <;> (simp only [A9v,A3z];lia)
  have g:B2h H d (.str a) (some (.ref c)):= .inl ⟨kvs,Sum.inr a,.inl hd,rfl,e2.symm⟩;refine ⟨_,rfl,_,rfl,d,_,rfl,g,_,rfl,A3v ?_⟩;refine ⟨_,rfl,o,_,dx,_,_,rfl,ho,T.bu,T.cr,(by walk_at "lk"),l,_,rfl,.inl (SqL.of hl),_,rfl,_,rfl,d,_,rfl,g,c,_,rfl,.inl (SqL.of hc),rfl,_,rfl,A8n (λhne=> ?_) (λheq=> ?_)⟩
  ·have hne:ix.length≠zs.length:=λz=>hne (by rw [lxs,z,Z08]);have er:C4u es bs a ix=some false:=by unfold C4u;rw [e1];exact Z12 hne
   refine ⟨A0o ?_,_,rfl,a,rfl,oka,A0o ?_,λz hz=>⟨A0o ?_,A0o ?_,A0q rfl,ko.2 false er _ (A0p.refl _)⟩⟩ <;> (simp only [A9v,A3z];lia)
  have heq:ix.length=zs.length:=by have:=V.int.inj heq;rw [lxs,Z08] at this;lia
  have er:C4u es bs a ix=if ixB bs ix=true then none else some false:=by unfold C4u;rw [e1];exact Z0t (λz=>z heq)
  rw [er] at ko;refine ⟨_,rfl,o,_,dx,_,_,rfl,ho,T.bu,T.cr,(by walk_at "lk"),l,rfl,⟨_,SqL.of hl⟩,?_⟩;refine A1f (K:=K) (a:=l) (xs:=xs) (λi σ H2=>∃(o4 o5:Option V),σ=[Sro o,Sro b,Sro d,Sso a,o4,o5]/\A0p H H2/\∀j e,j<i->ix[j]? =some e->e.1=""\/e.1∈bs) ⟨none,none,rfl,A0p.refl _,by intro j e h;lia⟩ (by rintro i σ H2 _ ⟨_,_,_,s2,_⟩;exact SqL.of (s2 _ _ hl)) ?_ ?_
  ·rintro i x σ H2 hx ⟨o4,o5,rfl,s2,gd⟩;obtain ⟨e,he,rx⟩:=B3z rs hx;obtain ⟨p,rfl,ep⟩:=D5n rx
   have nxt:(e.1=""\/e.1∈bs)->∀j e',j<i+1->ix[j]? =some e'->e'.1=""\/e'.1∈bs:=λh j e' hj he'=>by
    rcases Nat.lt_or_ge j i with hji | hji
    ·exact gd j e' hji he'
    ·have:j=i:=by lia
     subst this;rw [he] at he';cases he';exact h
   refine ⟨p,_,rfl,SqT.of (s2 _ _ ep),rfl,_,_,rfl,_,_,rfl,rfl,?_⟩;refine ⟨_,rfl,rfl,_,rfl,A8n (λhne=> ?_) (λheq=>⟨_,_,rfl,s2,nxt (.inl (V.str.inj heq))⟩)⟩;refine ⟨_,rfl,_,rfl,e.1,b,bs,rfl,s2 _ _ hb,okx e (Z13 he),λhq H3 s3=>⟨_,_,rfl,s2.trans s3,nxt (.inr ?_)⟩,λbb hbb H3 s3=> ?_⟩
   ·by_cases hin:e.1∈bs
    ·exact hin
    ·rw [Z0t hin] at hq;cases hq
   ·by_cases hin:e.1∈bs
    ·rw [Z12 hin] at hbb;cases hbb
    ·rw [Z0t hin] at hbb;cases hbb;refine ko.2 false (Z0t λz=> ?_) _ (s2.trans s3);have:=List.all_eq_true.mp z e (Z13 he);rcases Bool.or_eq_true_iff.mp this with z | z
     ·exact hne (by rw [of_decide_eq_true z])
     ·exact hin (of_decide_eq_true z)
  ·rintro σ H2 ⟨o4,o5,rfl,s2,gd⟩;refine ko.1 (Z12 (List.all_eq_true.mpr λe he=> ?_)) _ s2;obtain ⟨j,hj⟩:=List.getElem?_of_mem he;rcases gd j e (by rw [lxs];exact (Z03.mp hj).1) hj with z | z
   ·rw [Z20 z];rfl
   ·rw [Z20 z,Bool.or_true]
theorem B4w (T:Txt K mg t):FO P w base T.h_ 1 (D9s t):=by
 refine T.h_.F.ok A4p (by walk_at "ln") λ_ A _ s H _ Q E hr h=> ?_
 ·obtain ⟨v,u,rfl,ob,hd,k⟩:=h
  refine ⟨_,(A0c (A0n (i:=1) A4p.nd rfl (.inl rfl) (A2d A0d))
   (A0c (A0n (i:=2) A4p.nd rfl (.inl rfl) (pv 0))
   (A0c (D1j PassesOwn.never (A2k (A0s A1h (by rfl) T.ac Z0d (A0a (pv 2) (A0a (A3p (v:=V.ref t.bp) rfl T.uz rfl) A0d))))
    (A0c (A1y (B5j Z0k Z0n Z0o A3i (pv 1) (A0a (A0t (pv 2) rfl) A0d)))
    (A0e (A0n (i:=2) A4p.nd rfl (.inl rfl) (A0t (pv 2) rfl)))))
   (A0e (A0v (pv 1)))))),?_⟩
  refine ⟨A0q rfl,λl hl=> ?_⟩;have s1:A0p H (upd H l (.lst [])):=A0f hl;refine ⟨_,rfl,?_⟩;refine ⟨λm σ H2=>∃(rest:V) (u':Tm) (dn:List Str),σ=[some v,Sro l,some rest]/\Ob t H rest u'/\A0p H H2/\H2 l=some (.lst (dn.map V.str))/\dn++B1h u'=B1h u/\dn.length+dep u'<=100/\m=dep u',⟨dep u,v,u,[],rfl,ob,s1,A0b,rfl,by show 0+dep u<=100;lia,rfl⟩,?_⟩;rintro m σ H2 ⟨rest,u',dn,rfl,ob',s2,h2,ed,bd,rfl⟩
  cases id ob' with
  | @num o dd z eo =>
   have ty:A9s K H2 (.ref o) (.ref t.ak):= .ins (s2 _ _ eo) T.c_ T.am.ha T.am.hn T.am.htk T.am.hm;have e:dn=B1h u:=by rw [<-ed];exact (Z0u _).symm
   exact ⟨_,rfl,_,_,_,_,rfl,ty,A1g T.ii,false,rfl,A3v ⟨_,rfl,k l H2 hl s2 (by rw [<-e];exact h2)⟩⟩
  | @place o dd x eo =>
   have ty:A9s K H2 (.ref o) (.ref t.aj):= .ins (s2 _ _ eo) T.iw T.au.ha T.au.hn T.au.htk T.au.hm;have e:dn=B1h u:=by rw [<-ed];exact (Z0u _).symm
   exact ⟨_,rfl,_,_,_,_,rfl,ty,A1g T.j5,false,rfl,A3v ⟨_,rfl,k l H2 hl s2 (by rw [<-e];exact h2)⟩⟩
  | @read o dd ll x ix eo rp =>
   have ty:A9s K H2 (.ref o) (.ref t.ah):= .ins (s2 _ _ eo) T.bu T.bf.ha T.bf.hn T.bf.htk T.bf.hm;have e:dn=B1h u:=by rw [<-ed];exact (Z0u _).symm
   exact ⟨_,rfl,_,_,_,_,rfl,ty,A1g T.kj,false,rfl,A3v ⟨_,rfl,k l H2 hl s2 (by rw [<-e];exact h2)⟩⟩
  | @pair o dd op v1 v2 ll r eo ob1 ob2 =>
   have e:dn=B1h u:=by rw [<-ed];exact (Z0u _).symm
   have ki:kitOne K (.ref (B1e t op)) (.ref t.bp)=some false:=by cases op with
    | plus=>exact T.ci
    | minus=>exact T.ci
    | times=>exact T.ci
   exact ⟨_,rfl,_,_,_,_,rfl,B4b T (s2 _ _ eo),A1g ki,false,rfl,A3v ⟨_,rfl,k l H2 hl s2 (by rw [<-e];exact h2)⟩⟩
  | @guard o dd x lo hi v1 v2 ll r eo ob1 ob2 =>
   have ty:A9s K H2 (.ref o) (.ref t.ae):= .ins (s2 _ _ eo) T.bc T.av.ha T.av.hn T.av.htk T.av.hm;have e:dn=B1h u:=by rw [<-ed];exact (Z0u _).symm
   exact ⟨_,rfl,_,_,_,_,rfl,ty,A1g T.j4,false,rfl,A3v ⟨_,rfl,k l H2 hl s2 (by rw [<-e];exact h2)⟩⟩
  | @sum o dd x v2 bb eo ob1 =>
   have ty:A9s K H2 (.ref o) (.ref t.bp):= .ins (s2 _ _ eo) T.d_ T.bx.ha T.bx.hn T.bx.htk T.bx.hm;have bd:dn.length+(dep bb+1)<=100:=bd;refine ⟨_,rfl,_,_,_,_,rfl,ty,A1g T.mo,true,rfl,B2r ?_⟩;refine ⟨λσ' H'=>∃m',m'<dep (.sum x bb)/\∃(rest:V) (u':Tm) (dn:List Str),σ'=[some v,some (.ref l),some rest]/\Ob t H rest u'/\A0p H H'/\H' l=some (.lst (dn.map V.str))/\dn++B1h u'=B1h u/\dn.length+dep u'<=100/\m'=dep u',λσ' H' z=>z,?_⟩;refine ⟨_,rfl,.inl ⟨rfl,_,SqL.of h2⟩,_,rfl,o,_,dd,_,_,rfl,s2 _ _ eo,T.d_,T.dw,(by walk_at "lk"),l,_,_,rfl,rfl,h2,A1j (by rw [Z08];lia),?_⟩;have ol:o≠l:=λz=>by subst z;rw [hl] at eo;cases eo
   refine ⟨_,rfl,o,_,dd,_,_,rfl,by rw [A0j ol];exact s2 _ _ eo,T.d_,T.gu,(by walk_at "lk"),?_⟩;refine ⟨dep bb,by show dep bb<dep bb+1;lia,v2,bb,dn++[x],rfl,ob1,A0u s2 hl,by rw [A0b,Z0s];rfl,?_,?_,rfl⟩
   ·rw [<-ed,Z0z];rfl
   ·rw [Z06];show dn.length+1+dep bb<=100;lia
theorem C5z {α:Type} {f:α->Option Bool} {l:List α} {i:Nat} {x:α} (h:l[i]? =some x):(l.drop i).findSome? f=match f x with | some b=>some b | none=>(l.drop (i+1)).findSome? f:=by
 rw [A5e h,List.findSome?_cons];cases f x <;> rfl
theorem C5w {K:Frag} {t:Value} {c d:Addr} (h1:kitOne K t (.ref c)=some false) (h2:kitOne K t (.ref d)=some true):∀us,A2t ([c,d].map V.ref) us->kitAny K t us=some true:=λus r=>by
 cases r with
 | cons a r =>
  cases r with
  | cons b r =>
   cases r
   cases (show _=Value.ref c from a)
   cases (show _=Value.ref d from b)
   simp [kitAny,h1,h2]
theorem C6y {kn:List Str} {es:List (Str×List Str)} {l:Lt} {r:List Lt}:B7a kn es (l::r)=match D6w kn es l with | some b=>some b | none=>B7a kn (D4n es l) r:=rfl
theorem B2u (T:Txt K mg t):A4m P w K mg base (CXD P w) 2 t.jc t.jb ["part","let"] (E0b t):=by
 have Gb4:= @B4w P w K mg base t T;refine T.cn.F.okD A7k (by walk_at "ln") λ_ A _ s H _ Q E hr h=> ?_
 ·obtain ⟨v,y,a,ix,ss,gg,le,rfl,⟨pa,dx,tv,sl,gl,gs,rfl,e,ob,hs,hg,bg,bs,pg⟩,⟨b,db,c,tv2,_,rfl,eb,_,ec,ob2⟩,dl,⟨okn,ln⟩,ko⟩:=h;have l1:(" reads itself within a sum that does not stand at the top":Str).length<=90:=by decide +kernel
  cases ob with
  | @read o dd ll x ix eo rp =>
   refine ⟨_,(A0e (A1n (PW.pt (B5r (A0z A5x (A0t (A0t (pv 0) rfl) rfl) (A0t (pv 1) rfl) (A1i _)) (B3h (A0z C9b (A0s A1d (by rfl) T.cw Z0r (A0a (A0t (pv 0) rfl) A0d)) (A0s A1d (by rfl) T.cw Z0r (A0a (pcl Gb4 hr T.h_ (A0a (A0t (pv 1) rfl) A0d)) A0d)) (A1i _)))))
    (A0c (A0n (i:=2) A7k.nd rfl (.inl rfl) (A0t (pv 1) rfl))
    (A0e (A2x A5v T.cb rfl T.cv rfl (A0a (A4j (A4y (pv 2) (A3t A6c))) A0d))))
    A0r)),?_⟩
   refine ⟨_,rfl,pa,_,dx,_,_,rfl,e,T.ap,T.a_,(by walk_at "lk"),o,_,dd,_,_,rfl,eo,T.bu,T.bw,(by walk_at "lk"),_,rfl,b,_,db,_,_,rfl,eb,T.bq,T.bv,(by walk_at "lk"),rfl,_,rfl,A9m (λheq=> ?_) (λhne=>A3v (ko.1 (Z0t λz=>hne (by rw [z.1])) _ (A0p.refl _)))⟩;have heq:a=le.1:=V.str.inj heq;refine ⟨_,rfl,pa,_,dx,_,_,rfl,e,T.ap,T.ba,(by walk_at "lk"),sl,_,rfl,.inl (SqL.of hs),_,rfl,b,_,db,_,_,rfl,eb,T.bq,T.dz,(by walk_at "lk"),tv2,le.2.2,rfl,ob2,dl,λq H1 hq s1 h1=>⟨q,_,rfl,.inl (SqL.of h1),_,_,rfl,rfl,_,rfl,A9m (λhgt=> ?_) (λhle=> ?_)⟩⟩
   ·have hgt:(B1h le.2.2).length<ss.length:=by
     have hgt:(((B1h le.2.2).map V.str).length:Int)<((ss.map V.str).length:Int):=hgt;rw [Z08,Z08] at hgt;lia
    refine ⟨_,rfl,b,_,db,_,_,rfl,s1 _ _ eb,T.bq,T.bv,(by walk_at "lk"),?_⟩;refine ⟨_,rfl,le.1,rfl,okn,A0o ?_,λz hz=>⟨A0o ?_,A0o ?_,A0q rfl,ko.2 false (Z12 ⟨heq,hgt⟩) _ s1⟩⟩ <;> (simp only [A9v,A3z];lia)
   ·have hle:¬(B1h le.2.2).length<ss.length:=by
     have hle:¬(((B1h le.2.2).map V.str).length:Int)<((ss.map V.str).length:Int):=hle;rw [Z08,Z08] at hle;lia
    exact ko.1 (Z0t λz=>hle z.2) _ s1
theorem B8i (T:Txt K mg t):A4m P w K mg base (CXD P w) 3 t.qy t.qf D1u (D3r t):=by
 have Gb3:= @B1b P w K mg base t T;have Gb5:= @B2u P w K mg base t T;have Gb6:= @B8e P w K mg base t T;have Gb7:= @C1g P w K mg base t T;refine T.gc.F.okD A8j (by walk_at "ln") λ_ A _ s H _ Q E hr h=> ?_
 ·obtain ⟨v,y,d,kk,⟨u,ss,gg⟩,le,kn,kvs,es,rfl,pat,lat,lc,dl,okn,hk,hd,aw,okt,ko⟩:=h;obtain ⟨a,dx,tv,sl,gl,gs,rfl,e,ob,hs,hg,bg,bs,pg⟩:=id pat;obtain ⟨b,db,c,tv2,_,rfl,eb,_,ec,ob2⟩:=id lat;have ls:ss.length<=100:=by have bs:ss.length+dep u<=100:=bs;lia
  refine ⟨_,(A0c (A0n (i:=4) A8j.nd rfl (.inl rfl) (A0t (pv 0) rfl))
   (A0c (A0n (i:=5) A8j.nd rfl (.inl rfl) (A0x A5c (A0t (pv 1) rfl) (A0t (pv 0) rfl)))
   (A7z (A1n (A2k (A0s C3s (by rfl) T.ac Z0d (A0a (pv 4) (A0a (A2g (A0a (A3p (v:=V.ref t.aj) rfl T.vQ rfl) (A0a (A3p (v:=V.ref t.ae) rfl T.m_ rfl) A0d))) A0d))))
    (A0e (A1y (A3g Gb3 (hr.mono (by lia)) rfl T.c6.m T.c6.F.kp T.c6.b .nil A8y (A0a (A0t (pv 4) rfl) (A0a (pv 5) A0d)))))
    A0r)
   (A7z (A1n (A2k (A0s A1h (by rfl) T.ac Z0d (A0a (pv 4) (A0a (A3p (v:=V.ref t.bp) rfl T.uz rfl) A0d))))
    (A0e (A1y (A3g Gb7 (hr.mono (by lia)) rfl T.j3.m T.j3.F.kp T.j3.b .nil A8y (A0a (A0t (pv 4) rfl) (A0a (pv 5) (A0a (pv 3) A0d))))))
    A0r)
   (A0e (A1n (A2k (A0s A1h (by rfl) T.ac Z0d (A0a (pv 4) (A0a (A3p (v:=V.ref t.ah) rfl T.vd rfl) A0d))))
    (A0c (A1y (A3g Gb6 (hr.mono (by lia)) rfl T.gh.m T.gh.F.kp T.gh.b .nil A8y (A0a (pv 4) (A0a (pv 5) (A0a (pv 2) A0d)))))
    (A0e (A1y (A3g Gb5 (hr.mono (by lia)) rfl T.cn.m T.cn.F.kp T.cn.b .nil A8y (A0a (pv 0) (A0a (pv 1) A0d))))))
    A0r)))))),?_⟩
  refine ⟨_,rfl,a,_,dx,_,_,rfl,e,T.ap,T.a_,(by walk_at "lk"),?_⟩;refine ⟨_,rfl,b,_,db,_,_,rfl,eb,T.bq,T.cf,(by walk_at "lk"),_,rfl,a,_,dx,_,_,rfl,e,T.ap,T.ba,(by walk_at "lk"),c,sl,_,_,rfl,rfl,ec,hs,A0o (by rw [Z08,Z08];lia),λl1 hl1=> ?_⟩;have z1:(le.2.1.map V.str++ss.map V.str)=(le.2.1++ss).map V.str:=by simp
  rw [z1];have s1:=A0f (o:= .lst ((le.2.1++ss).map V.str)) hl1;generalize hG:upd H l1 (.lst ((le.2.1++ss).map V.str))=G at s1⊢;have h1:G l1=some (.lst ((le.2.1++ss).map V.str)):=by rw [<-hG];exact A0b
  cases id ob with
  | @num o dd z eo0 =>
   have ty:∀{G':Hp},A0p H G'->A9s K G' (.ref o) (.ref t.ak):=λs=> .ins (s _ _ eo0) T.c_ T.am.ha T.am.hn T.am.htk T.am.hm;refine ⟨λσ' H'=>σ'=[some (.ref a),some (.ref b),some (.ref d),some (.ref kk),some (.ref o),some (.ref l1)]/\A0p H H',?_,?_⟩
   ·refine ⟨_,rfl,A0q rfl,λtp htp=> ?_⟩;have s2:=s1.trans (A0f (o:= .tup [.ref t.aj,.ref t.ae]) htp)
    exact ⟨o,_,dd,_,tp,_,false,rfl,s2 _ _ eo0,T.c_,T.am.ha,T.am.hn,T.am.htk,T.am.hm,A0b,A4u (cs:=[t.aj,t.ae]) (λc hc=>by
     rcases Z0e.mp hc with rfl | hc
     ·exact T.rf
     ·rw [Z0w.mp hc];exact T.je),false,rfl,A3v ⟨rfl,s2⟩⟩
   rintro σ' H' ⟨rfl,s2⟩;refine ⟨λσ' H'=>σ'=[some (.ref a),some (.ref b),some (.ref d),some (.ref kk),some (.ref o),some (.ref l1)]/\A0p H H',?_,?_⟩
   ·exact ⟨_,rfl,_,_,_,_,rfl,ty s2,A1g T.ii,false,rfl,A3v ⟨rfl,s2⟩⟩
   rintro σ' H' ⟨rfl,s2⟩;exact ⟨_,rfl,_,_,_,_,rfl,ty s2,A1g T.ju,false,rfl,A3v (ko.1 rfl _ s2)⟩
  | @pair o dd op v1 v2 ll r eo0 ob1 ob2' =>
   have kiS:kitOne K (.ref (B1e t op)) (.ref t.bp)=some false:=by cases op with
    | plus=>exact T.ci
    | minus=>exact T.ci
    | times=>exact T.ci
   have kiR:kitOne K (.ref (B1e t op)) (.ref t.ah)=some false:=by cases op with
    | plus=>exact T.c8
    | minus=>exact T.c8
    | times=>exact T.c8
   have kiP:kitOne K (.ref (B1e t op)) (.ref t.aj)=some false:=by cases op with
    | plus=>exact T.g6
    | minus=>exact T.g6
    | times=>exact T.g6
   have kiG:kitOne K (.ref (B1e t op)) (.ref t.ae)=some false:=by cases op with
    | plus=>exact T.fv
    | minus=>exact T.fv
    | times=>exact T.fv
   have tyc:TyC K (B1e t op):=by cases op with
    | plus=>exact T.bo
    | minus=>exact T.bo
    | times=>exact T.bo
   refine ⟨λσ' H'=>σ'=[some (.ref a),some (.ref b),some (.ref d),some (.ref kk),some (.ref o),some (.ref l1)]/\A0p H H',?_,?_⟩
   ·refine ⟨_,rfl,A0q rfl,λtp htp=> ?_⟩;have s2:=s1.trans (A0f (o:= .tup [.ref t.aj,.ref t.ae]) htp)
    exact ⟨o,_,dd,_,tp,_,false,rfl,s2 _ _ eo0,C7f T op,tyc.ha,tyc.hn,tyc.htk,tyc.hm,A0b,A4u (cs:=[t.aj,t.ae]) (λc hc=>by
     rcases Z0e.mp hc with rfl | hc
     ·exact kiP
     ·rw [Z0w.mp hc];exact kiG),false,rfl,A3v ⟨rfl,s2⟩⟩
   rintro σ' H' ⟨rfl,s2⟩;refine ⟨λσ' H'=>σ'=[some (.ref a),some (.ref b),some (.ref d),some (.ref kk),some (.ref o),some (.ref l1)]/\A0p H H',?_,?_⟩
   ·exact ⟨_,rfl,_,_,_,_,rfl,B4b T (s2 _ _ eo0),A1g kiS,false,rfl,A3v ⟨rfl,s2⟩⟩
   rintro σ' H' ⟨rfl,s2⟩;exact ⟨_,rfl,_,_,_,_,rfl,B4b T (s2 _ _ eo0),A1g kiR,false,rfl,A3v (ko.1 rfl _ s2)⟩
  | @place o dd x eo0 =>
   have ty:∀{G':Hp},A0p H G'->A9s K G' (.ref o) (.ref t.aj):=λs=> .ins (s _ _ eo0) T.iw T.au.ha T.au.hn T.au.htk T.au.hm;have ko:Out t (if x∈le.2.1++ss then none else some false) Q E H:=ko;refine ⟨λσ' H'=>σ'=[some (.ref a),some (.ref b),some (.ref d),some (.ref kk),some (.ref o),some (.ref l1)]/\A0p H H'/\(if x∈le.2.1++ss then none else some false)=(none:Option Bool),?_,?_⟩
   ·refine ⟨_,rfl,A0q rfl,λtp htp=> ?_⟩;have sT:=A0f (o:= .tup [.ref t.aj,.ref t.ae]) htp;have s2:=s1.trans sT;refine ⟨o,_,dd,_,tp,_,true,rfl,s2 _ _ eo0,T.iw,T.au.ha,T.au.hn,T.au.htk,T.au.hm,A0b,C9q (c:=t.aj) (cs:=[t.ae]) T.sf,true,rfl,B2r ?_⟩;exact ⟨_,rfl,o,_,dd,_,_,rfl,s2 _ _ eo0,T.iw,T.tR,(by walk_at "lk"),_,rfl,x,l1,_,rfl,sT _ _ h1,okt,λhq H3 s3=>⟨rfl,s2.trans s3,hq⟩,λbb hbb H3 s3=>ko.2 bb hbb _ (s2.trans s3)⟩
   rintro σ' H' ⟨rfl,s2,hq⟩;refine ⟨λσ' H'=>σ'=[some (.ref a),some (.ref b),some (.ref d),some (.ref kk),some (.ref o),some (.ref l1)]/\A0p H H',?_,?_⟩
   ·exact ⟨_,rfl,_,_,_,_,rfl,ty s2,A1g T.j5,false,rfl,A3v ⟨rfl,s2⟩⟩
   rintro σ' H' ⟨rfl,s2⟩;exact ⟨_,rfl,_,_,_,_,rfl,ty s2,A1g T.m9,false,rfl,A3v (ko.1 hq _ s2)⟩
  | @guard o dd x lo hi v1 v2 ll r eo0 ob1 ob2' =>
   have ty:∀{G':Hp},A0p H G'->A9s K G' (.ref o) (.ref t.ae):=λs=> .ins (s _ _ eo0) T.bc T.av.ha T.av.hn T.av.htk T.av.hm;have ko:Out t (if x∈le.2.1++ss then none else some false) Q E H:=ko;refine ⟨λσ' H'=>σ'=[some (.ref a),some (.ref b),some (.ref d),some (.ref kk),some (.ref o),some (.ref l1)]/\A0p H H'/\(if x∈le.2.1++ss then none else some false)=(none:Option Bool),?_,?_⟩
   ·refine ⟨_,rfl,A0q rfl,λtp htp=> ?_⟩;have sT:=A0f (o:= .tup [.ref t.aj,.ref t.ae]) htp;have s2:=s1.trans sT;refine ⟨o,_,dd,_,tp,_,true,rfl,s2 _ _ eo0,T.bc,T.av.ha,T.av.hn,T.av.htk,T.av.hm,A0b,C5w T.rm T.jr,true,rfl,B2r ?_⟩;exact ⟨_,rfl,o,_,dd,_,_,rfl,s2 _ _ eo0,T.bc,T.ie,(by walk_at "lk"),_,rfl,x,l1,_,rfl,sT _ _ h1,okt.1,λhq H3 s3=>⟨rfl,s2.trans s3,hq⟩,λbb hbb H3 s3=>ko.2 bb hbb _ (s2.trans s3)⟩
   rintro σ' H' ⟨rfl,s2,hq⟩;refine ⟨λσ' H'=>σ'=[some (.ref a),some (.ref b),some (.ref d),some (.ref kk),some (.ref o),some (.ref l1)]/\A0p H H',?_,?_⟩
   ·exact ⟨_,rfl,_,_,_,_,rfl,ty s2,A1g T.j4,false,rfl,A3v ⟨rfl,s2⟩⟩
   rintro σ' H' ⟨rfl,s2⟩;exact ⟨_,rfl,_,_,_,_,rfl,ty s2,A1g T.m6,false,rfl,A3v (ko.1 hq _ s2)⟩
  | @sum o dd x v2 bb eo0 ob1 =>
   have ty:∀{G':Hp},A0p H G'->A9s K G' (.ref o) (.ref t.bp):=λs=> .ins (s _ _ eo0) T.d_ T.bx.ha T.bx.hn T.bx.htk T.bx.hm;have ko:Out t (if x∈kn then (if x∈le.2.1++ss then some false else none) else some false) Q E H:=ko;refine ⟨λσ' H'=>σ'=[some (.ref a),some (.ref b),some (.ref d),some (.ref kk),some (.ref o),some (.ref l1)]/\A0p G H',?_,?_⟩
   ·refine ⟨_,rfl,A0q rfl,λtp htp=> ?_⟩;have s2:=A0f (o:= .tup [.ref t.aj,.ref t.ae]) htp
    exact ⟨o,_,dd,_,tp,_,false,rfl,s2 _ _ (s1 _ _ eo0),T.d_,T.bx.ha,T.bx.hn,T.bx.htk,T.bx.hm,A0b,A4u (cs:=[t.aj,t.ae]) (λc hc=>by
     rcases Z0e.mp hc with rfl | hc
     ·exact T.ud
     ·rw [Z0w.mp hc];exact T.ui),false,rfl,A3v ⟨rfl,s2⟩⟩
   rintro σ' H' ⟨rfl,s2⟩;refine ⟨λσ' H'=>σ'=[some (.ref a),some (.ref b),some (.ref d),some (.ref kk),some (.ref o),some (.ref l1)]/\A0p H H'/\(if x∈kn then (if x∈le.2.1++ss then some false else none) else some false)=(none:Option Bool),?_,?_⟩
   ·refine ⟨_,rfl,_,_,_,_,rfl,ty (s1.trans s2),A1g T.mo,true,rfl,B2r ?_⟩;exact ⟨_,rfl,o,_,dd,_,_,rfl,s2 _ _ (s1 _ _ eo0),T.d_,T.dw,(by walk_at "lk"),_,rfl,_,rfl,x,l1,kk,_,kn,rfl,s2 _ _ h1,s2 _ _ (s1 _ _ hk),okt.1,λhq H3 s3=>⟨rfl,s1.trans (s2.trans s3),hq⟩,λbb hbb H3 s3=>ko.2 bb hbb _ (s1.trans (s2.trans s3))⟩
   rintro σ' H' ⟨rfl,s2,hq⟩;exact ⟨_,rfl,_,_,_,_,rfl,ty s2,A1g T.qr,false,rfl,A3v (ko.1 hq _ s2)⟩
  | @read o dd ll x ix eo0 rp =>
   have ty:∀{G':Hp},A0p H G'->A9s K G' (.ref o) (.ref t.ah):=λs=> .ins (s _ _ eo0) T.bu T.bf.ha T.bf.hn T.bf.htk T.bf.hm;have ko:Out t (match C4u es (le.2.1++ss) x ix with | some b=>some b | none=>if x=le.1/\(B1h le.2.2).length<ss.length then some false else none) Q E H:=ko
   refine ⟨λσ' H'=>σ'=[some (.ref a),some (.ref b),some (.ref d),some (.ref kk),some (.ref o),some (.ref l1)]/\A0p G H',?_,?_⟩
   ·refine ⟨_,rfl,A0q rfl,λtp htp=> ?_⟩;have s2:=A0f (o:= .tup [.ref t.aj,.ref t.ae]) htp
    exact ⟨o,_,dd,_,tp,_,false,rfl,s2 _ _ (s1 _ _ eo0),T.bu,T.bf.ha,T.bf.hn,T.bf.htk,T.bf.hm,A0b,A4u (cs:=[t.aj,t.ae]) (λc hc=>by
     rcases Z0e.mp hc with rfl | hc
     ·exact T.tI
     ·rw [Z0w.mp hc];exact T.m7),false,rfl,A3v ⟨rfl,s2⟩⟩
   rintro σ' H' ⟨rfl,s2⟩;refine ⟨λσ' H'=>σ'=[some (.ref a),some (.ref b),some (.ref d),some (.ref kk),some (.ref o),some (.ref l1)]/\A0p G H',?_,?_⟩
   ·exact ⟨_,rfl,_,_,_,_,rfl,ty (s1.trans s2),A1g T.kj,false,rfl,A3v ⟨rfl,s2⟩⟩
   rintro σ' H' ⟨rfl,s2⟩;have s12:=s1.trans s2;refine ⟨_,rfl,_,_,_,_,rfl,ty s12,A1g T.pe,true,rfl,B2r ?_⟩;refine ⟨_,rfl,_,rfl,_,rfl,o,dd,ll,l1,d,x,ix,_,kvs,es,rfl,s12 _ _ eo0,rp.same s12,s2 _ _ h1,s12 _ _ hd,B0x aw s12,okt.1,okt.2.2,λhq H3 s3=> ?_,λbb hbb H3 s3=>ko.2 bb (by rw [hbb]) _ (s12.trans s3)⟩;rw [hq] at ko;exact ⟨_,rfl,_,rfl,.ref a,.ref b,x,ix,ss,gg,le,rfl,pat.same (s12.trans s3),lat.same (s12.trans s3),dl,okn,ko.of (s12.trans s3)⟩
theorem B6n (T:Txt K mg t):A4m P w K mg base (CXD P w) 15 t.nn t.pd A2z (D0u t):=by
 have Ga9:= @B0w P w K mg base t T;have Gb8:= @B8i P w K mg base t T;have Gb9:= @A9w P w K mg base t T;refine T.fe.F.okD A4d (by walk_at "ln") λ_ A _ s H _ Q E hr h=> ?_
 ·obtain ⟨p,wh,ax,tb,ls,os,rfl,pr,ok,ko⟩:=h;have hu:=B0m hr;obtain ⟨dx,a,tt,l,o,e,ra,rt,⟨xl,hl,rl⟩,ro⟩:=pr.ob;obtain ⟨t2,xs,et,hx,rs⟩:=A5b (show Rep H (.ref tt) (.list (tb.map C1t)) from rt);cases et;have lxl:=Paired.length rl;have lt:=ok.lt;have ll:=ok.ll
  refine ⟨_,(A0c (A0n (i:=1) A4d.nd rfl (.inl rfl) (pcl Ga9 hr T.cy (A0a (pv 0) A0d)))
   (A0c (A0n (i:=2) A4d.nd rfl (.inl rfl) (A3a (B5w rfl) (by rfl) T.q9 Z2q (A0a (A0t (pv 0) rfl) A0d)))
   (A0e (A1k PassesOwn.leaving rfl (A1b (A0t (pv 0) rfl)) (A0h (i:=3) A4d.nd rfl (.inl rfl))
    (A0c (B3r hu (pv 2) (A0t (pv 3) rfl) (A0t (pv 3) rfl) rfl)
    (A0e (A1k PassesOwn.leaving rfl (A1b (pcl Gb9 hr T.f_ (A0a (A0t (pv 3) rfl) A0d))) (A0h (i:=4) A4d.nd rfl (.inl rfl))
     (A0e (A1y (A3g Gb8 (hr.mono (by lia)) rfl T.gc.m T.gc.F.kp T.gc.b .nil A8y (A0a (pv 4) (A0a (pv 3) (A0a (pv 2) (A0a (pv 1) A0d)))))))))))))),?_⟩
  refine ⟨_,rfl,p,wh,ax,tb,ls,os,rfl,pr,ok.la,λq H1 hq s1 h1=> ?_⟩;obtain ⟨kvs,pl,aw⟩:=D8i (rs.same s1);have lkv:=Paired.length aw;refine ⟨_,rfl,p,_,dx,_,_,rfl,s1 _ _ e,T.ao,T.bt,(by walk_at "lk"),tt,xs,_,rfl,s1 _ _ hx,pl,λad had=> ?_⟩;have nd0:(tb.map (·.1)).Nodup:=(Z0l.mp ok.nd).1
  have nk:A1c [] kvs=kvs:=by
   refine A5z ?_;rw [List.nil_append,B4e aw];have h1:=nd0;rw [List.Nodup,List.pairwise_map] at h1⊢;exact h1.imp λhne z=>hne (by injection z)
  rw [nk];have adH:H ad=none:=s1.free had;have aq:ad≠q:=(A0g h1 had).symm;have s2:=s1.trans (A0f (o:= .dK kvs) had);refine ⟨_,rfl,p,_,dx,_,_,rfl,s2 _ _ e,T.ao,T.br,(by walk_at "lk"),l,rfl,⟨_,SqL.of (s2 _ _ hl)⟩,?_⟩
  refine A1f (K:=K) (a:=l) (xs:=xl) (λi σ H2=>∃(o3 o4:Option V) (m:List (Key×V)),σ=[Sro p,Sro q,Sro ad,o3,o4]/\A0p H H2/\H2 q=some (.lst ((axN ax).map V.str))/\H2 ad=some (.dK m)/\B9w (λ_=>True) H2 m (tb++(ls.take i).map λe=>(e.1,e.2.1))/\B7a (axN ax) (tb++(ls.take i).map λe=>(e.1,e.2.1)) (ls.drop i)=B7a (axN ax) tb ls)
   ⟨none,none,kvs,rfl,s2,A0f had _ _ h1,A0b,by rw [List.take_zero,List.map_nil,Z0u];exact B0x aw (A0f had),by rw [List.take_zero,List.map_nil,Z0u,Z2r]⟩ (by rintro i σ H2 _ ⟨_,_,_,_,s2,_⟩;exact SqL.of (s2 _ _ hl)) ?_ ?_
  ·rintro i y σ H2 hy ⟨o3,o4,m,rfl,s3,q3,a3,aw3,el⟩;obtain ⟨le,hle,lat⟩:=B2k rl hy;obtain ⟨b,db,c,tv,_,rfl,eb,_,ec,ob⟩:=id lat;obtain ⟨k1,k2,k3,k4,k5⟩:=ok.l le (Z13 hle);have lm:=Paired.length aw3;rw [Z06,Z08,Z0x] at lm;refine ⟨_,rfl,b,_,db,_,_,rfl,s3 _ _ eb,T.bq,T.cf,(by walk_at "lk"),_,rfl,_,rfl,b,_,db,_,_,rfl,s3 _ _ eb,T.bq,T.bv,(by walk_at "lk"),ad,_,rfl,C9l.k (k:=Sum.inr le.1) a3 (A1j (by lia)),?_⟩
   have kn':∀pp∈m,pp.1≠Sum.inr le.1:=λpp hpp z=>by
    obtain ⟨j,hj⟩:=List.getElem?_of_mem hpp;obtain ⟨e',he',ek,_⟩:=B2k aw3 hj;have ek:pp.1=Sum.inr e'.1:=ek;rw [z] at ek;injection ek with ek;have nd:=ok.nd;have sub:List.Sublist (tb.map (·.1)++(ls.take (i+1)).map (·.1)) (arN tb ls):=(List.Sublist.refl _).append ((Z2o _ _).map _);have nd2:=List.Pairwise.sublist sub nd;rw [Z14,hle,Z2f,Z0s,<-Z0z] at nd2;refine (Z0l.mp nd2).2.2 le.1 ?_ le.1 (.head _) rfl;have hm:e'.1∈(tb++(ls.take i).map λe=>(e.1,e.2.1)).map (·.1):=Z2c.mpr ⟨e',Z13 he',rfl⟩
    rw [Z0s,List.map_map] at hm;rw [ek];exact hm
   rw [C9j kn'];have s4:A0p H (upd H2 ad (.dK (m++[(Sum.inr le.1,.ref c)]))):=A0u s3 adH;have q4:upd H2 ad (.dK (m++[(Sum.inr le.1,.ref c)])) q=some (.lst ((axN ax).map V.str)):=by rw [A0j aq.symm];exact q3
   have a4:upd H2 ad (.dK (m++[(Sum.inr le.1,.ref c)])) ad=some (.dK (m++[(Sum.inr le.1,.ref c)])):=A0b;have aw4:B9w (λ_=>True) (upd H2 ad (.dK (m++[(Sum.inr le.1,.ref c)]))) (m++[(Sum.inr le.1,.ref c)]) (D4n (tb++(ls.take i).map λe=>(e.1,e.2.1)) le):=D6v (Paired.mapP aw3 (by rintro _ _ ⟨z1,b',z2,z3,z4⟩;exact ⟨z1,b',z2,z3,by rw [A0j (A2n z4 a3 (by intro z;cases z))];exact z4⟩)) (.cons ⟨rfl,c,rfl,True.intro,s4 _ _ ec⟩ .nil);generalize upd H2 ad (.dK (m++[(Sum.inr le.1,.ref c)]))=H4 at s4 q4 a4 aw4
   have ees:D4n (tb++(ls.take i).map λe=>(e.1,e.2.1)) le=tb++(ls.take (i+1)).map λe=>(e.1,e.2.1):=by
    unfold D4n;rw [Z14,hle,Z2f,Z0s,<-Z0z];rfl
   rw [A5e hle,C6y] at el;refine ⟨_,rfl,b,_,db,_,_,rfl,s4 _ _ eb,T.bq,T.dz,(by walk_at "lk"),tv,le.2.2,rfl,ob.imp s4,k4,k5,λqq ps H5 hqq s5 h5 pp=>⟨qq,rfl,⟨_,SqL.of h5⟩,?_⟩⟩;have lpp:=Paired.length pp
   refine A1f (K:=K) (a:=qq) (xs:=ps) (λj σ H6=>∃(o4:Option V),σ=[Sro p,Sro q,Sro ad,Sro b,o4]/\A0p H5 H6/\((prT le.2.2 [] []).drop j).findSome? (pOk (axN ax) (D4n (tb++(ls.take i).map λe=>(e.1,e.2.1)) le) le.1 le.2.1 (B1h le.2.2).length)=D6w (axN ax) (tb++(ls.take i).map λe=>(e.1,e.2.1)) le)
    ⟨o4,rfl,A0p.refl _,by rw [Z2r];rfl⟩ (by rintro j σ H6 _ ⟨_,_,s6,_⟩;exact SqL.of (s6 _ _ h5)) ?_ ?_
   ·rintro j z σ H6 hz ⟨o4,rfl,s6,ef⟩;obtain ⟨uu,huu,tat⟩:=B2k pp hz;have s7:=s4.trans (s5.trans s6);have s57:=s5.trans s6;rw [C5z huu] at ef;refine ⟨_,rfl,_,rfl,_,rfl,_,rfl,z,.ref b,ad,q,uu,le,axN ax,_,_,rfl,tat.same s6,lat.same s7,by lia,by lia,k2,s57 _ _ q4,s57 _ _ a4,B0x aw4 s57,A6o _ _ _ k3 uu (Z13 huu),λhn H8 s8=>⟨_,rfl,s6.trans s8,by rw [hn] at ef;exact ef⟩,λbb hbb H8 s8=> ?_⟩;rw [hbb] at ef;rw [<-ef] at el;exact ko.2 bb el.symm _ (s7.trans s8)
   ·rintro σ H6 ⟨o4,rfl,s6,ef⟩;rw [lpp,Z2i] at ef;have ef:D6w (axN ax) (tb++(ls.take i).map λe=>(e.1,e.2.1)) le=none:=ef.symm;rw [ef,ees] at el;have s57:=s5.trans s6;refine ⟨_,_,_,rfl,s4.trans s57,s57 _ _ q4,s57 _ _ a4,?_,el⟩;rw [<-ees];exact B0x aw4 s57
  ·rintro σ H2 ⟨o3,o4,m,rfl,s3,_,_,_,el⟩;rw [lxl,Z2i] at el;exact ko.1 el.symm _ s3
def prd (L:Str->Int) (ys:List Str):Int:=ys.foldl (λc y=>c*L y) 1
theorem A5i (L:Str->Int) (ys:List Str) (y:Str):prd L (ys++[y])=prd L ys*L y:=by unfold prd;rw [List.foldl_append];rfl
def A4t (lk:List (Key×V)) (L:Str->Int) (ys:List Str):Prop:=∀y∈ys,A4x lk (Sum.inr y)=some (.int (L y))/\0<=L y/\L y<=60
def D9y (A:Adr):Sp:=λvs H Q _=>∃(p:Addr) (wh:Int) (ax:List (Str×Int)) (tb:List (Str×List Str)) (ls:List Lt) (os:List Str),vs=[.ref p]/\B9v A H p wh ax tb ls os/\∀q,H q=none->Q (.ref q) (upd H q (.dK (A1c [] (B9b ax))))
def D0m:Sp:=λvs H Q _=>∃(l d:Addr) (ys:List Str) (lk:List (Key×V)) (L:Str->Int),vs=[.ref l,.ref d]/\H l=some (.lst (ys.map V.str))/\H d=some (.dK lk)/\A4t lk L ys/\ys.length<=1000/\∀(q:Addr) (H':Hp),H q=none->A0p H H'->H' q=some (.lst (ys.map λy=>V.int (L y)))->Q (.ref q) H'
def C9n:Sp:=λvs H Q _=>∃(l d:Addr) (ys:List Str) (lk:List (Key×V)) (L:Str->Int),vs=[.ref l,.ref d]/\H l=some (.lst (ys.map V.str))/\H d=some (.dK lk)/\A4t lk L ys/\ys.length<=1000/\∀(H':Hp),A0p H H'->Q (.int (prd L ys)) H'
def wkL (L:Str->Int) (e:Lt):Int:=((prT e.2.2 [] []).map λq=>prd L (e.2.1++q.2.1)).sum
def wrk (L:Str->Int) (tb:List (Str×List Str)) (ls:List Lt):Int:=(tb.map λe=>prd L e.2).sum+(ls.map (wkL L)).sum
structure E0t (lk:List (Key×V)) (L:Str->Int) (tb:List (Str×List Str)) (ls:List Lt):Prop where
 lt:tb.length<=100
 ll:ls.length<=100
 t:∀e∈tb,e.2.length<=10/\A4t lk L e.2
 l:∀e∈ls,e.2.1.length<=10/\A4t lk L e.2.1/\dep e.2.2<=9/\nod e.2.2<=1000/\∀q∈prT e.2.2 [] [],A4t lk L q.2.1
def D4z (A:Adr):Sp:=λvs H Q _=>∃(p:Addr) (wh:Int) (ax:List (Str×Int)) (tb:List (Str×List Str)) (ls:List Lt) (os:List Str) (L:Str->Int),vs=[.ref p]/\B9v A H p wh ax tb ls os/\E0t (A1c [] (B9b ax)) L tb ls/\∀H',A0p H H'->Q (.int (wrk L tb ls)) H'
def E2w (A:Adr):Sp:=λvs H Q E=>∃(p:Addr) (wh:Int) (ax:List (Str×Int)) (tb:List (Str×List Str)) (ls:List Lt) (os:List Str) (L:Str->Int),vs=[.ref p]/\B9v A H p wh ax tb ls os/\E0t (A1c [] (B9b ax)) L tb ls/\Sm (wrk L tb ls)/\(wrk L tb ls<=4000->∀H',A0p H H'->Q .non H')/\(4000<wrk L tb ls->∀H',A0p H H'->E (.ref A.al) none H')
theorem B0l (T:Txt K mg t):FO P w base T.fk 1 (D9y t):=by
 refine T.fk.F.ok B7c (by walk_at "ln") λ_ A _ s H _ Q E hr h=> ?_
 ·obtain ⟨p,wh,ax,tb,ls,os,rfl,pr,k⟩:=h;obtain ⟨dx,a,tt,l,o,e,ra,_⟩:=pr.ob;obtain ⟨a2,xs,ea,hx,rs⟩:=A5b (show Rep H (.ref a) (.list (ax.map B7u)) from ra);cases ea;refine ⟨_,(A0e (A0v (A3a (B5w rfl) (by rfl) T.q9 Z2q (A0a (A0t (pv 0) rfl) A0d)))),?_⟩;exact ⟨_,rfl,p,_,dx,_,_,rfl,e,T.ao,T.eu,(by walk_at "lk"),a,xs,_,rfl,hx,D9k rs,k⟩
theorem A4z (T:Txt K mg t):FO P w base T.c7 1 D0m:=by
 refine T.c7.F.ok B2y (by walk_at "ln") λ_ A _ s H _ Q E hr h=> ?_
 ·obtain ⟨l,d,ys,lk,L,rfl,hl,hd,tl,ly,k⟩:=h;have hu:=B0m hr;refine ⟨_,(A0e (A0v (A3s (N':=["axis","lengths"]) (ix:=(List.replicate 1 none++[some 1])) rfl (A5h (x:="lengths") rfl rfl rfl (by decide +kernel) (by decide +kernel)) (A4g (N0:=["axis"]) rfl (.inl rfl) (by walk_at "ix")) (A1b (pv 0)) (λ_ _ _ _=>(A0h (i:=0) C8m rfl (.inl rfl))) (λ_ _ _ _=>(A3j hu (pv 1) (pv 0) (λ_ _=>rfl)))))),?_⟩;refine ⟨_,rfl,l,rfl,⟨_,SqL.of hl⟩,λD hD=> ?_⟩;refine A2l (K:=K) (a:=l) (D:=D) (xs:=ys.map V.str) (λi zs H2=>A0p H H2/\H2 D=some (.lst zs)/\zs=(ys.take i).map λy=>V.int (L y)) ⟨A0f hD,A0b,rfl⟩ (λi zs H2 s2=>SqL.of (s2.1 _ _ hl)) ?_ ?_
  ·rintro i x zs H2 hx ⟨s2,hD2,rfl⟩;rw [Z1z] at hx;obtain ⟨y,hy,rfl⟩:=Z0i.mp hx;have g:=B2h.k (H:=H2) (a:=d) (k:=Sum.inr y) (s2 _ _ hd);rw [(tl y (Z13 hy)).1] at g;refine ⟨⟨rfl,True.intro⟩,_,rfl,_,rfl,d,_,rfl,g,hD2,A1j (by simp;lia),A0u s2 hD,A0b,?_⟩;rw [Z14,hy,Z2f,Z0s];rfl
  ·rintro zs H2 ⟨s2,hD2,rfl⟩;rw [Z08,Z18] at hD2;exact k D H2 hD s2 hD2
theorem B7e (T:Txt K mg t):FO P w base T.fg 2 C9n:=by
 have Gc0:= @A4z P w K mg base t T;refine T.fg.F.ok A5f (by walk_at "ln") λ_ A _ s H _ Q E hr h=> ?_
 ·obtain ⟨l,d,ys,lk,L,rfl,hl,hd,tl,ly,k⟩:=h
  refine ⟨_,(A0c (A0n (i:=2) A5f.nd rfl (.inl rfl) A0l)
   (A0c (A1k PassesOwn.never rfl (A1b (pcl Gc0 hr T.c7 (A0a (pv 0) (A0a (pv 1) A0d)))) (A0h (i:=3) A5f.nd rfl (.inl rfl))
    (A0e (A0n (i:=2) A5f.nd rfl (.inl rfl) (A0x B0k (pv 2) (pv 3)))))
   (A0e (A0v (pv 2))))),?_⟩
  refine ⟨_,rfl,_,rfl,l,d,ys,lk,L,rfl,hl,hd,tl,ly,λq H1 hq s1 h1=>⟨q,rfl,⟨_,SqL.of h1⟩,?_⟩⟩;refine A1f (K:=K) (a:=q) (xs:=ys.map λy=>V.int (L y)) (λi σ H2=>H1=H2/\∃o3:Option V,σ=[Sro l,Sro d,Sio (prd L (ys.take i)),o3]) ⟨rfl,none,rfl⟩ (λi σ H2 _ h=>by rw [<-h.1];exact SqL.of h1) ?_ ?_
  ·rintro i x σ H2 hx ⟨rfl,o3,rfl⟩;rw [Z1z] at hx;obtain ⟨y,hy,rfl⟩:=Z0i.mp hx;have b:=(tl y (Z13 hy)).2;refine ⟨_,rfl,_,rfl,_,_,rfl,rfl,.inr ⟨by lia,by lia⟩,rfl,some (.int (L y)),?_⟩;rw [Z14,hy,Z2f,A5i];rfl
  ·rintro σ H2 ⟨rfl,o3,rfl⟩;rw [Z08,Z18];exact ⟨_,rfl,k H1 s1⟩
theorem C4k (T:Txt K mg t):FO P w base T.qc 15 (D4z t):=by
 have Gc1:= @B7e P w K mg base t T;have Gc2:= @B0l P w K mg base t T;have Gb9:= @A9w P w K mg base t T;refine T.qc.F.ok A3l (by walk_at "ln") λ_ A _ s H _ Q E hr h=> ?_
 ·obtain ⟨p,wh,ax,tb,ls,os,L,rfl,pr,ok,k⟩:=h;obtain ⟨dx,a,tt,l,o,e,ra,rt,⟨xl,hl,rl⟩,_⟩:=pr.ob;obtain ⟨t2,xs,et,hx,rs⟩:=A5b (show Rep H (.ref tt) (.list (tb.map C1t)) from rt);cases et;have lxs:=rs.len;rw [Z08] at lxs;have lxl:=Paired.length rl
  refine ⟨_,(A0c (A0n (i:=1) A3l.nd rfl (.inl rfl) (pcl Gc2 hr T.fk (A0a (pv 0) A0d)))
   (A0c (A0n (i:=2) A3l.nd rfl (.inl rfl) A0l)
   (A0c (A1k PassesOwn.never rfl (A1b (A0t (pv 0) rfl)) (A2p (n:=2) rfl (A0k (A0h (i:=3) A3l.nd rfl (.inl rfl)) (A0k (A0h (i:=4) A3l.nd rfl (.inl rfl)) A1s)))
    (A0e (A0n (i:=2) A3l.nd rfl (.inl rfl) (A0x A6n (pv 2) (pcl Gc1 hr T.fg (A0a (pv 4) (A0a (pv 1) A0d)))))))
   (A0c (A1k PassesOwn.never rfl (A1b (A0t (pv 0) rfl)) (A0h (i:=5) A3l.nd rfl (.inl rfl))
    (A0e (A1k PassesOwn.never rfl (A1b (pcl Gb9 hr T.f_ (A0a (A0t (pv 5) rfl) A0d))) (A0h (i:=6) A3l.nd rfl (.inl rfl))
     (A0e (A0n (i:=2) A3l.nd rfl (.inl rfl) (A0x A6n (pv 2) (pcl Gc1 hr T.fg (A0a (A0x A5c (A0t (pv 5) rfl) (A0t (pv 6) rfl)) (A0a (pv 1) A0d)))))))))
   (A0e (A0v (pv 2))))))),?_⟩
  refine ⟨_,rfl,p,wh,ax,tb,ls,os,rfl,pr,λld hld=> ?_⟩;have s1:A0p H (upd H ld (.dK (A1c [] (B9b ax)))):=A0f hld;generalize hlk:A1c [] (B9b ax)=lk at *;refine ⟨_,rfl,p,_,dx,_,_,rfl,s1 _ _ e,T.ao,T.bt,(by walk_at "lk"),tt,rfl,⟨_,SqL.of (s1 _ _ hx)⟩,?_⟩
  refine A1f (K:=K) (a:=tt) (xs:=xs) (λi σ H2=>∃(o3 o4:Option V),σ=[Sro p,Sro ld,some (.int ((tb.take i).map λe=>prd L e.2).sum),o3,o4,none,none]/\A0p H H2/\H2 ld=some (.dK lk))
   ⟨none,none,rfl,s1,A0b⟩ (by rintro i σ H2 _ ⟨_,_,_,s2,_⟩;exact SqL.of (s2 _ _ hx)) ?_ ?_
  ·rintro i y σ H2 hy ⟨o3,o4,rfl,s2,h2⟩;obtain ⟨te,hte,ry⟩:=B3z rs hy;obtain ⟨b,c,rfl,eb,ec⟩:=D0g ry;have tk:=ok.t te (Z13 hte);refine ⟨b,_,rfl,SqT.of (s2 _ _ eb),rfl,_,_,rfl,_,_,rfl,rfl,?_⟩;refine ⟨_,rfl,_,rfl,_,rfl,c,ld,te.2,lk,L,rfl,s2 _ _ ec,h2,tk.2,by lia,λH3 s3=>⟨_,_,rfl,rfl,some (.str te.1),some (.ref c),?_,s2.trans s3,s3 _ _ h2⟩⟩;rw [Z14,hte,Z2f,Z0s,List.sum_append,List.map_singleton,List.sum_singleton];rfl
  rintro σ H2 ⟨o3,o4,rfl,s2,h2⟩;rw [lxs,Z18];refine ⟨_,rfl,p,_,dx,_,_,rfl,s2 _ _ e,T.ao,T.br,(by walk_at "lk"),l,rfl,⟨_,SqL.of (s2 _ _ hl)⟩,?_⟩;generalize hTT:(tb.map λe=>prd L e.2).sum=TT
  refine A1f (K:=K) (a:=l) (xs:=xl) (λi σ H3=>∃(o5 o6:Option V),σ=[Sro p,Sro ld,Sio (TT+((ls.take i).map (wkL L)).sum),o3,o4,o5,o6]/\A0p H H3/\H3 ld=some (.dK lk))
   ⟨none,none,by simp,s2,h2⟩ (by rintro i σ H3 _ ⟨_,_,_,s3,_⟩;exact SqL.of (s3 _ _ hl)) ?_ ?_
  ·rintro i y σ H3 hy ⟨o5,o6,rfl,s3,h3⟩;obtain ⟨le,hle,b,db,c,tv,_,rfl,eb,_,ec,ob⟩:=B2k rl hy;obtain ⟨k1,k2,k4,k5,k3⟩:=ok.l le (Z13 hle);refine ⟨_,rfl,b,_,db,_,_,rfl,s3 _ _ eb,T.bq,T.dz,(by walk_at "lk"),tv,le.2.2,rfl,ob.imp s3,k4,k5,λq ps H4 hq s4 h4 pp=>⟨q,rfl,⟨_,SqL.of h4⟩,?_⟩⟩;have lps:=Paired.length pp;generalize hW:TT+((ls.take i).map (wkL L)).sum=W
   refine A1f (K:=K) (a:=q) (xs:=ps) (λj σ H5=>∃(o6:Option V),σ=[Sro p,Sro ld,Sio (W+(((prT le.2.2 [] []).take j).map λz=>prd L (le.2.1++z.2.1)).sum),o3,o4,Sro b,o6]/\A0p H4 H5)
    ⟨o6,by simp,A0p.refl _⟩ (by rintro j σ H5 _ ⟨_,_,s5⟩;exact SqL.of (s5 _ _ h4)) ?_ ?_
   ·rintro j z σ H5 hz ⟨o6,rfl,s5⟩;obtain ⟨qq,hqq,pa,dp,tp,sl,gp,gs,rfl,ep,obp,hsl,hgp,lg,lq,_⟩:=B2k pp hz;have dpp:=C0o qq.1;have s35:=s4.trans s5
    have tq:A4t lk L (le.2.1++qq.2.1):=λy hy=>by
     rcases Z07.mp hy with hy | hy
     ·exact k2 y hy
     ·exact k3 qq (Z13 hqq) y hy
    refine ⟨_,rfl,_,rfl,b,_,db,_,_,rfl,s35 _ _ (s3 _ _ eb),T.bq,T.cf,(by walk_at "lk"),_,rfl,pa,_,dp,_,_,rfl,s5 _ _ ep,T.ap,T.ba,(by walk_at "lk"),c,sl,_,_,rfl,rfl,s35 _ _ (s3 _ _ ec),s5 _ _ hsl,A0o (by simp;lia),λl1 hl1=> ?_⟩;have s6:=A0f (o:= .lst (le.2.1.map V.str++qq.2.1.map V.str)) hl1;refine ⟨_,rfl,l1,ld,le.2.1++qq.2.1,lk,L,rfl,by rw [Z0s];exact A0b,s6 _ _ (s35 _ _ h3),tq,by rw [Z06];lia,λH7 s7=>⟨_,_,rfl,rfl,some (.ref pa),?_,s5.trans (s6.trans s7)⟩⟩;rw [Z14,hqq,Z2f,Z0s,List.sum_append,List.map_singleton,List.sum_singleton,<-Int.add_assoc];rfl
   ·rintro σ H5 ⟨o6,rfl,s5⟩;refine ⟨some (.ref b),o6,?_,s3.trans (s4.trans s5),(s4.trans s5) _ _ h3⟩;rw [lps,Z18,Z14,hle,Z2f,Z0s,List.sum_append,List.map_singleton,List.sum_singleton,<-hW,Int.add_assoc];rfl
  ·rintro σ H3 ⟨o5,o6,rfl,s3,h3⟩;refine ⟨_,rfl,?_⟩;rw [lxl,Z18,<-hTT];exact k H3 s3
theorem B7w (T:Txt K mg t):A4m P w K mg base (CXD P w) 16 t.qo t.qx A2z (E2w t):=by
 have Gc3:= @C4k P w K mg base t T;refine T.gw.F.okD B2g (by walk_at "ln") λ_ A _ s H _ Q E hr h=> ?_
 ·obtain ⟨p,wh,ax,tb,ls,os,L,rfl,pr,ok,m1,kq,ke⟩:=h
  refine ⟨_,(A0c (A0n (i:=1) B2g.nd rfl (.inl rfl) (pcl Gc3 hr T.qc (A0a (pv 0) A0d)))
   (A0e (A1n (A0z C9b (pv 1) (B0r T.my rfl) (A1i _))
    (A0e (A2x A5v T.v8 rfl T.ft rfl (A0a (A4j (A3t (D3e (pv 1) (A3t (D3e (B0r T.my rfl) A6c))))) A0d)))
    A0r))),?_⟩
  refine ⟨_,rfl,p,wh,ax,tb,ls,os,L,rfl,pr,ok,λH1 s1=> ?_⟩;refine ⟨_,rfl,_,_,rfl,rfl,_,rfl,E1r (λh=> ?_) (λh=>kq (by simpa using h) _ s1)⟩;have h4:4000<wrk L tb ls:=by simpa using h
  have m2:Sm 4000:=by unfold Sm;decide
  have l1:=C8b m1;have l2:=C8b m2;have e0:(Str.empty++("the work is ":Str)).length<=20:=by decide +kernel
  have e1:(Str.empty++("the work is ":Str)++(toString (wrk L tb ls):Str)).length<=60:=by rw [Str.length_append];lia
  have e2:(Str.empty++("the work is ":Str)++(toString (wrk L tb ls):Str)++(", above ":Str)).length<=80:=by
   have:((", above ":Str)).length<=10:=by decide +kernel
   rw [Str.length_append];lia
  have e3:(Str.empty++("the work is ":Str)++(toString (wrk L tb ls):Str)++(", above ":Str)++(toString (4000:Int):Str)).length<=120:=by rw [Str.length_append];lia
  exact ⟨A0o (by lia),_,rfl,_,.inr ⟨_,rfl,D1x m1,rfl⟩,A0o (by lia),A0o (by lia),_,.inr ⟨_,rfl,D1x m2,rfl⟩,A0o (by lia),A0o (by lia),A0q rfl,ke h4 _ s1⟩
def A2s (H:Hp) (ps:List Addr) (cs:List (List Int)):Prop:=Paired (λ(p:Addr) (c:List Int)=>H p=some (.tup (c.map V.int))) ps cs
theorem A2s.imp {H H':Hp}:∀{ps:List Addr} {cs:List (List Int)},A2s H ps cs->(∀p xs,H p=some (.tup xs)->H' p=some (.tup xs))->A2s H' ps cs
 | _,_,.nil,_=> .nil
 | _,_,.cons r t,f=> .cons (f _ _ r) (A2s.imp t f)
theorem A2s.same {H H':Hp} {ps:List Addr} {cs:List (List Int)} (h:A2s H ps cs) (s:A0p H H'):A2s H' ps cs:=h.imp λ_ _ e=>s _ _ e
theorem A2s.lst {H:Hp} {l:Addr} {xs ys:List V} {ps:List Addr} {cs:List (List Int)} (h:A2s H ps cs) (e:H l=some (.lst xs)):A2s (upd H l (.lst ys)) ps cs :=
 h.imp λp zs z=>by rw [A0j (A2n z e (by intro q;cases q))];exact z
theorem A2s.snoc {H:Hp} {p:Addr} {c:List Int} (e:H p=some (.tup (c.map V.int))):∀{ps:List Addr} {cs:List (List Int)},A2s H ps cs->A2s H (ps++[p]) (cs++[c])
 | _,_,.nil=> .cons e .nil
 | _,_,.cons r t=> .cons r (A2s.snoc e t)
theorem A2s.len {H:Hp}:∀{ps:List Addr} {cs:List (List Int)},A2s H ps cs->ps.length=cs.length
 | _,_,.nil=>rfl
 | _,_,.cons _ t=>by simp [A2s.len t]
theorem A2s.get {H:Hp}:∀{ps:List Addr} {cs:List (List Int)} {i:Nat} {p:Addr},A2s H ps cs->ps[i]? =some p->∃c,cs[i]? =some c/\H p=some (.tup (c.map V.int))
 | _,_,_,_,.nil,e=>by simp at e
 | _,_,0,_,.cons r _,e=>by simp at e;subst e;exact ⟨_,rfl,r⟩
 | _,_,i+1,p,.cons _ t,e=>by
  obtain ⟨c,h1,h2⟩:=A2s.get (i:=i) (p:=p) t (by simpa using e);exact ⟨c,by simpa using h1,h2⟩
structure B1n (H:Hp) (a:Addr) (cs:List (List Int)):Prop where
 ex:∃ps:List Addr,H a=some (.lst (ps.map V.ref))/\A2s H ps cs
def B1g:Sp:=λvs H Q _=>∃(a:Addr) (n:Int) (cs:List (List Int)),vs=[.ref a,.int n]/\B1n H a cs/\(∀c∈cs,c.length<=8)/\0<=n/\n<=60/\cs.length<=4000/\
 ∀(p:Addr) (H':Hp),H p=none->A0p H H'->B1n H' p (B3j cs n)->Q (.ref p) H'
def C0w:Sp:=λvs H Q _=>∃(a:Addr) (ls:List Int),vs=[.ref a]/\H a=some (.lst (ls.map V.int))/\C0q ls/\
 ∀(p:Addr) (H':Hp),H p=none->A0p H H'->B1n H' p (A3o ls)->Q (.ref p) H'
def E2m:Sp:=λvs H Q _=>∃(l d:Addr) (ys:List Str) (lk:List (Key×V)) (L:Str->Int),vs=[.ref l,.ref d]/\H l=some (.lst (ys.map V.str))/\H d=some (.dK lk)/\A4t lk L ys/\C0q (ys.map L)/\∀(q:Addr) (H':Hp),H q=none->A0p H H'->B1n H' q (A3o (ys.map L))->Q (.ref q) H'
theorem A1r {α:Type} {f:α->V} {xs:List α} {i:Nat} {v:V} (h:(xs.map f)[i]? =some v):∃x,xs[i]? =some x/\v=f x:=by
 rw [Z1z] at h;obtain ⟨x,hx,rfl⟩:=Z0i.mp h;exact ⟨x,hx,rfl⟩
theorem B7i (T:Txt K mg t):FO P w base T.i_ 1 B1g:=by
 refine T.i_.F.ok A5d (by walk_at "ln") λ_ A _ s H _ Q E hr h=> ?_
 ·obtain ⟨a,n,cs,rfl,⟨ps,ha,tp⟩,h8,n0,n60,few,k⟩:=h
  refine ⟨_,(A0c (A0n (i:=2) A5d.nd rfl (.inl rfl) (A2d A0d))
   (A0c (A1k PassesOwn.never rfl (A1b (pv 0)) (A0h (i:=3) A5d.nd rfl (.inl rfl))
    (A0e (A1k PassesOwn.never rfl (A6l rfl T.ku (A0a (pv 1) A0d)) (A0h (i:=4) A5d.nd rfl (.inl rfl))
     (A0e (A1y (B5j Z0k Z0n Z0o A3i (pv 2) (A0a (A0x C2u (pv 3) (A2g (A0a (pv 4) A0d))) A0d)))))))
   (A0e (A0v (pv 2))))),?_⟩
  refine ⟨A0o (by decide),λl hl=> ?_⟩;have la:a≠l:=A0g ha hl;have ha1:upd H l (.lst []) a=some (.lst (ps.map V.ref)):=by rw [A0j la];exact ha
  refine ⟨_,rfl,a,rfl,⟨_,SqL.of ha1⟩,A1f (K:=K) (a:=a) (xs:=ps.map V.ref) (λi σ H2=>∃(o3 o4:Option V) (qs:List Addr),σ=[Sro a,Sio n,Sro l,o3,o4]/\A0p H H2/\
   H2 l=some (.lst (qs.map V.ref))/\A2s H2 qs (B3j (cs.take i) n)) ⟨none,none,[],rfl,A0f hl,A0b,.nil⟩ (by rintro i σ H2 _ ⟨_,_,_,_,s2,_⟩;exact SqL.of (s2 _ _ ha)) ?_ ?_⟩
  ·rintro i y σ H2 hi ⟨o3,o4,qs,rfl,s2,h2,t2⟩;obtain ⟨pc,hpc,rfl⟩:=A1r hi;obtain ⟨c,hc,hpt⟩:=tp.get hpc;have hcm:c.length<=8:=h8 c (Z13 hc)
   refine ⟨_,rfl,n,rfl,by lia,by lia,A6r (n:=n.toNat) (λj σ H3=>∃(o4:Option V) (qs:List Addr),σ=[Sro a,Sio n,Sro l,Sro pc,o4]/\A0p H H3/\
    H3 l=some (.lst (qs.map V.ref))/\A2s H3 qs (B3j (cs.take i) n++(List.range j).map λ(m:Nat)=>c++[(m:Int)])) ⟨o4,qs,rfl,s2,h2,by simpa using t2⟩ ?_ ?_⟩
   ·rintro j σ H3 hj ⟨o4,qs,rfl,s3,h3,t3⟩;rw [Int.zero_add]
    have hql:qs.length<=300000:=by
     have e:=t3.len;rw [Z06,A9l,Z08,List.length_range] at e;have e1:(cs.take i).length*n.toNat<=4000*60:=Nat.mul_le_mul (by rw [Z0x];lia) (by lia)
     lia
    have hp3:H3 pc=some (.tup (c.map V.int)):=s3 _ _ hpt;refine ⟨_,rfl,.inl ⟨rfl,_,SqL.of h3⟩,_,rfl,_,rfl,A0q rfl,λu hu=> ?_⟩
    have fin:∀(q:Addr) (H4:Hp),A0p H3 H4->H4 q=some (.tup ((c++[(j:Int)]).map V.int))->C0k (V.ref l) [V.ref q] H4 λ_ H5=>∃(o4:Option V) (qs:List Addr),[some (V.ref a),some (.int n),some (.ref l),some (.ref pc),some (.int (j:Int))]=[some (.ref a),some (.int n),some (.ref l),some (.ref pc),o4]/\A0p H H5/\
      H5 l=some (.lst (qs.map V.ref))/\A2s H5 qs (B3j (cs.take i) n++(List.range (j+1)).map λ(m:Nat)=>c++[(m:Int)]):=λq H4 s4 h4=>by
     refine ⟨l,_,_,rfl,rfl,s4 _ _ h3,by rw [Z08];exact A1j (by lia),?_⟩;refine ⟨_,qs++[q],rfl,A0u (s3.trans s4) hl,by rw [A0b,Z0s];rfl,?_⟩;rw [List.range_succ,Z0s,<-Z0z];exact ((t3.same s4).snoc h4).lst (s4 _ _ h3)
    have s4:A0p H3 (upd H3 u (.tup [V.int (j:Int)])):=A0f hu;refine ⟨pc,u,_,_,rfl,rfl,SqT.of (s4 _ _ hp3),SqT.of A0b,(by simp),A0o (by simp;lia),λhx=> ?_,λhx p hp=> ?_⟩
    ·have ec:c=[]:=by simpa using hx
     subst ec;exact fin u _ s4 A0b
    ·refine fin p _ (s4.trans (A0f hp)) ?_;rw [A0b,Z0s];rfl
   ·rintro σ H3 ⟨o4,qs,rfl,s3,h3,t3⟩;refine ⟨_,_,qs,rfl,s3,h3,?_⟩
    have e:B3j (cs.take (i+1)) n=B3j (cs.take i) n++(List.range n.toNat).map λ(m:Nat)=>c++[(m:Int)]:=by
     rw [Z14,hc];simp [B3j]
    rw [e];exact t3
  ·rintro σ H2 ⟨o3,o4,qs,rfl,s2,h2,t2⟩;refine ⟨_,rfl,k l H2 hl s2 ⟨qs,h2,?_⟩⟩;rw [Z08,tp.len,Z18] at t2;exact t2
theorem C0t (T:Txt K mg t):FO P w base T.ma 2 C0w:=by
 have Gc4:= @B7i P w K mg base t T;refine T.ma.F.ok A6z (by walk_at "ln") λ_ A _ s H _ Q E hr h=> ?_
 ·obtain ⟨a,ls,rfl,ha,g,k⟩:=h
  refine ⟨_,(A0c (A0n (i:=1) A6z.nd rfl (.inl rfl) (A2d (A0a (A2g A0d) A0d)))
   (A0c (A1k PassesOwn.never rfl (A1b (pv 0)) (A0h (i:=2) A6z.nd rfl (.inl rfl))
    (A0e (A0n (i:=1) A6z.nd rfl (.inl rfl) (pcl Gc4 hr T.i_ (A0a (pv 1) (A0a (pv 2) A0d))))))
   (A0e (A0v (pv 1))))),?_⟩
  refine ⟨A0q rfl,λe he=>⟨A0q rfl,λq hq=> ?_⟩⟩;have hq0:H q=none:=(A0f he).free hq;have s1:A0p H (upd (upd H e (.tup [])) q (.lst [V.ref e])):=(A0f he).trans (A0f hq)
  refine ⟨_,rfl,a,rfl,⟨_,SqL.of (s1 _ _ ha)⟩,A1f (K:=K) (a:=a) (xs:=ls.map V.int) (λi σ H2=>∃(o2:Option V) (q:Addr),σ=[Sro a,Sro q,o2]/\A0p H H2/\H q=none/\B1n H2 q (A3o (ls.take i)))
   ⟨none,q,rfl,s1,hq0,⟨[e],A0b,.cons (by rw [A0j (A0g A0b hq)];exact A0b) .nil⟩⟩ (by rintro i σ H2 _ ⟨_,_,_,s2,_⟩;exact SqL.of (s2 _ _ ha)) ?_ ?_⟩
  ·rintro i y σ H2 hi ⟨o2,q,rfl,s2,hq,c2⟩;obtain ⟨n,hn,rfl⟩:=A1r hi;have gp:=g.pos n (Z13 hn);have cl:=A3w (ls.take i) λm hm=>(g.pos m (Z2p hm)).1;have pl:=B2j ls (λm hm=>(g.pos m hm).1) i;have gm:=g.most;have gf:=g.few;refine ⟨_,rfl,_,rfl,q,n,_,rfl,c2,λc hc=> ?_,by lia,by lia,by lia,λp H' hp s3 c3=> ?_⟩
   ·have e:=(A4r _ c hc).1;rw [Z0x] at e
    lia
   ·refine ⟨_,p,rfl,s2.trans s3,s2.free hp,?_⟩;rw [A7l hn];exact c3
  ·rintro σ H2 ⟨o2,q,rfl,s2,hq,c2⟩;rw [Z08,Z18] at c2;exact ⟨_,rfl,k q H2 hq s2 c2⟩
theorem B4o (T:Txt K mg t):FO P w base T.ig 3 E2m:=by
 have Gc5:= @C0t P w K mg base t T;have Gc0:= @A4z P w K mg base t T;refine T.ig.F.ok B4y (by walk_at "ln") λ_ A _ s H _ Q E hr h=> ?_
 ·obtain ⟨l,d,ys,lk,L,rfl,hl,hd,tl,g,k⟩:=h;have gf:=g.few;rw [Z08] at gf;refine ⟨_,(A0e (A0v (pcl Gc5 hr T.ma (A0a (pcl Gc0 hr T.c7 (A0a (pv 0) (A0a (pv 1) A0d))) A0d)))),?_⟩;exact ⟨_,rfl,_,rfl,l,d,ys,lk,L,rfl,hl,hd,tl,by lia,λq1 H1 hq1 s1 h1=>⟨q1,ys.map L,rfl,by rw [List.map_map];exact h1,g,λq H' hq s' c'=>k q H' (s1.free hq) (s1.trans s') c'⟩⟩
def C1i:Sp:=λvs H Q _=>∃(x:Str) (z:Int) (d:Addr) (kvs:List (Key×V)),vs=[.str x,.int z,.ref d]/\H d=some (.dK kvs)/\(¬x=""->A4x kvs (Sum.inr x)=some (.int (ai kvs x)))/\Q (.int (if x="" then z else ai kvs x+z)) H
def C4s (A:Adr):Sp:=λvs H Q _=>∃(o dx d l:Addr) (a:Str) (ix:List (Str×Int)) (kvs:List (Key×V)),vs=[.ref o,.ref d]/\H o=some (.ins A.ah dx [("array",.str a),("indexes",.ref l)])/\Rep H (.ref l) (A6p ix)/\ix.length<=3/\H d=some (.dK kvs)/\
 (∀e∈ix,¬e.1=""->A4x kvs (Sum.inr e.1)=some (.int (ai kvs e.1)))/\∀(p:Addr) (H':Hp),H p=none->A0p H H'->H' p=some (.tup ((A8x (ai kvs) ix).map V.int))->Q (.ref p) H'
def D8z (A:Adr):Sp:=λvs H Q _=>∃(o dx d:Addr) (x:Str) (lo hi:Int) (u v:V) (kvs:List (Key×V)),vs=[.ref o,.ref d]/\H o=some (.ins A.ae dx [("axis",.str x),("low",.int lo),("high",.int hi),("inner",u),("outer",v)])/\B2h H d (.str x) (some (.int (ai kvs x)))/\
 (lo<=ai kvs x/\ai kvs x<hi->Q (.bl true) H)/\(¬(lo<=ai kvs x/\ai kvs x<hi)->Q (.bl false) H)
def C2l (ys:List Str) (c:List Int):List (Key×V):=A1c [] ((ys.map (Sum.inr:Str->Key)).zip (c.map V.int))
theorem B9t {k:Key}:∀(more acc:List (Key×V)),(∀p∈more,∃i,p.2= .int i)->((∃p∈more,p.1=k)\/∃i,A4x acc k=some (.int i))->∃i,A4x (A1c acc more) k=some (.int i)
 | [],acc,_,h=>by
  rcases h with ⟨p,hp,_⟩ | h
  ·cases hp
  ·exact h
 | q::more,acc,hi,h=>by
  show∃i,A4x (A1c (A9e acc q.1 q.2) more) k=some (.int i);refine B9t more _ (λp hp=>hi p (.tail _ hp)) ?_;by_cases hq:k=q.1
  ·obtain ⟨i,ei⟩:=hi q (.head _);exact .inr ⟨i,by rw [A7e,Z12 hq,ei]⟩
  ·rcases h with ⟨p,hp,e⟩ | ⟨i,e⟩
   ·rcases Z0e.mp hp with rfl | hp
    ·exact absurd e.symm hq
    ·exact .inl ⟨p,hp,e⟩
   ·exact .inr ⟨i,by rw [A7e,Z0t hq];exact e⟩
theorem C6l {ys:List Str} {c:List Int} (l:c.length=ys.length) {x:Str} (h:x∈ys):A4x (C2l ys c) (Sum.inr x)=some (.int (ai (C2l ys c) x)):=by
 obtain ⟨j,hj⟩:=List.getElem?_of_mem h;have hl:=(Z03.mp hj).1
 obtain ⟨i,e⟩:=B9t (k:=Sum.inr x) ((ys.map (Sum.inr:Str->Key)).zip (c.map V.int)) [] (λp hp=>by
  have:=List.of_mem_zip hp;obtain ⟨i,_,e⟩:=Z2c.mp this.2
  exact ⟨i,e.symm⟩) (.inl ⟨(Sum.inr x,V.int (c[j]'(by lia))),by
   refine List.mem_iff_getElem?.mpr ⟨j,?_⟩;rw [Z2m]
   exact ⟨by rw [Z1z,hj];rfl,by rw [Z1z,Z0b (by lia)];rfl⟩,rfl⟩)
 have e:A4x (C2l ys c) (Sum.inr x)=some (.int i):=e;have:ai (C2l ys c) x=i:=by unfold ai;rw [e]
 rw [this];exact e
def inG (at_:Str->Int) (g:Gd):Bool:=decide (decide (g.2.1<=at_ g.1/\at_ g.1<g.2.2.1)=g.2.2.2)
def A8o (ys:List Str) (gg:List Gd) (ix:List (Str×Int)) (c:List Int):Option (List Int×List Int):=if gg.all (inG (ai (C2l ys c)))=true then some (c,A8x (ai (C2l ys c)) ix) else none
def A4a (L:Str->Int) (ys:List Str) (gg:List Gd) (ix:List (Str×Int)):List (List Int×List Int):=(A3o (ys.map L)).filterMap (A8o ys gg ix)
def C8o (H:Hp) (v:V) (e:List Int×List Int):Prop:=∃p s c,v= .ref p/\H p=some (.tup [.ref s,.ref c])/\H s=some (.tup (e.1.map V.int))/\H c=some (.tup (e.2.map V.int))
theorem C8o.kt {H H':Hp} {v:V} {e:List Int×List Int} (h:C8o H v e) (f:∀b xs,H b=some (.tup xs)->H' b=some (.tup xs)):C8o H' v e:=by
 obtain ⟨p,s,c,rfl,e1,e2,e3⟩:=h;exact ⟨p,s,c,rfl,f _ _ e1,f _ _ e2,f _ _ e3⟩
def C4n (A:Adr):Sp:=λvs H Q _=>∃(l d:Addr) (gs:List V) (gl:List Gd) (kvs:List (Key×V)),vs=[.ref l,.ref d]/\H l=some (.lst gs)/\Paired (D9t A H) gs gl/\gs.length<=100/\H d=some (.dK kvs)/\(∀g∈gl,A4x kvs (Sum.inr g.1)=some (.int (ai kvs g.1)))/\∀H',A0p H H'->Q (.bl (gl.all (inG (ai kvs)))) H'
structure E0u (L:Str->Int) (lk:List (Key×V)) (le:Lt) (ss:List Str) (gg:List Gd) (ix:List (Str×Int)):Prop where
 tl:A4t lk L (le.2.1++ss)
 gd:C0q ((le.2.1++ss).map L)
 lx:ix.length<=3
 xi:∀e∈ix,¬e.1=""->e.1∈le.2.1++ss
 xg:∀g∈gg,g.1∈le.2.1++ss
def C9p (A:Adr):Sp:=λvs H Q _=>∃(y v:V) (d:Addr) (le:Lt) (a:Str) (ix:List (Str×Int)) (ss:List Str) (gg:List Gd) (lk:List (Key×V)) (L:Str->Int),vs=[y,v,.ref d]/\B2z A (λ_=>True) H y le/\A4v A H v (.read a ix,ss,gg)/\H d=some (.dK lk)/\E0u L lk le ss gg ix/\
 ∀(q:Addr) (xs:List V) (H':Hp),H q=none->A0p H H'->H' q=some (.lst xs)->Paired (C8o H') xs (A4a L (le.2.1++ss) gg ix)->Q (.ref q) H'
theorem C1k (T:Txt K mg t):FO P w base T.mf 1 C1i:=by
 refine T.mf.F.ok C0y (by walk_at "ln") λ_ A _ s H _ Q E hr h=> ?_
 ·obtain ⟨x,z,d,kvs,rfl,hd,hx,k⟩:=h;have hu:=B0m hr
  refine ⟨_,(A0c (A1n (A0z A5x (pv 0) A1w (A1i _))
    (A0e (A0v (pv 1)))
    A0r)
   (A0e (A0v (A0x A6n (A3j hu (pv 2) (pv 0) (λ_ _=>rfl)) (pv 1))))),?_⟩
  refine ⟨_,rfl,rfl,_,rfl,A9m (λh=> ?_) (λh=> ?_)⟩
  ·rw [Z12 (by injection h)] at k;exact ⟨_,rfl,k⟩
  ·have hn:¬x="":=λe=>h (by rw [e]);rw [Z0t hn] at k;have g:=B2h.k (H:=H) (a:=d) (k:=Sum.inr x) hd;rw [hx hn] at g;exact ⟨_,rfl,_,rfl,d,_,rfl,g,_,rfl,_,_,rfl,rfl,k⟩
theorem B3v (T:Txt K mg t):FP P w mg base T.fz 2 (C4s t):=by
 have Gc6:= @C1k P w K mg base t T;refine T.fz.F.ok B4f (by walk_at "ln") λ_ A _ s H _ Q E hr h=> ?_
 ·obtain ⟨o,dx,d,l,a,ix,kvs,rfl,ho,rp,hix,hd,hx,k⟩:=h;obtain ⟨_,es,q,el,rs⟩:=A5b (show Rep H (.ref l) (.list (ix.map B7u)) from rp);cases q;have hl:=rs.len;rw [Z08] at hl;refine ⟨_,(A0e (A0v (A3a A4f (by rfl) T.fo Z0m (A0a (A3s (N':=["axis","shift","at"]) (ix:=(List.replicate 2 none++[some 1])) (g:=D2c K 2 (A8z (A6m 0) (A8z (A6m 1) D2k))) rfl (A5h (x:="at") rfl rfl rfl (by decide +kernel) (by decide +kernel)) (A4g (N0:=["axis","shift"]) rfl (.inl rfl) (by walk_at "ix")) (A1b (A0t (pv 0) rfl)) (λ_ _ _ _=>(A2p (n:=2) rfl (A0k (A0h (i:=0) B8q rfl (.inl rfl)) (A0k (A0h (i:=1) B8q rfl (.inl rfl)) A1s)))) (λ_ _ _ _=>(pcl Gc6 hr T.mf (A0a (pv 0) (A0a (pv 1) (A0a (pv 2) A0d)))))) A0d)))),?_⟩;refine ⟨_,rfl,o,_,dx,_,_,rfl,ho,T.bu,T.cr,(by walk_at "lk"),l,rfl,⟨_,SqL.of el⟩,λD hD=> ?_⟩;refine A2l (K:=K) (a:=l) (D:=D) (xs:=es) (λi ys H2=>A0p H H2/\H2 D=some (.lst ys)/\ys=(A8x (ai kvs) (ix.take i)).map V.int) ⟨A0f hD,A0b,rfl⟩ (λi ys H2 s2=>SqL.of (s2.1 _ _ el)) ?_ ?_
  ·rintro i x ys H2 hx' ⟨s2,hD2,rfl⟩;have hi:i<ix.length:=by have:=(Z03.mp hx').1;lia
   obtain ⟨dd,hdd,rx⟩:=rs.get2 hx';have hie:ix[i]? =some ix[i]:=Z0b hi;rw [Z1z,hie] at hdd;cases hdd;obtain ⟨q,rfl,eq⟩:=D7l rx;refine ⟨q,_,rfl,SqT.of (s2 _ _ eq),rfl,_,_,rfl,_,_,rfl,rfl,⟨rfl,True.intro⟩,_,rfl,_,rfl,_,rfl,ix[i].1,ix[i].2,d,kvs,rfl,s2 _ _ hd,hx _ (Z13 hie),?_⟩;refine ⟨hD2,A1j (by simp [A8x];lia),A0u s2 hD,A0b,?_⟩;rw [Z14,hie,Z2f];unfold A8x;rw [Z0s,Z0s];rfl
  ·rintro ys H2 ⟨s2,hD2,rfl⟩;rw [hl,Z18] at hD2;exact ⟨D,_,rfl,.inl ⟨SqL.of hD2,λp hp=>k p _ (s2.free hp) (s2.trans (A0f hp)) A0b⟩⟩
theorem B3a (T:Txt K mg t):FP P w mg base T.e_ 1 (D8z t):=by
 refine T.e_.F.ok B2w (by walk_at "ln") λ_ A _ s H _ Q E hr h=> ?_
 ·obtain ⟨o,dx,d,x,lo,hi,u,v,kvs,rfl,ho,g,k1,k2⟩:=h;have hu:=B0m hr;refine ⟨_,(A0e (A0v (B6o C5x C1m (A0t (pv 0) rfl) (A3j hu (pv 1) (A0t (pv 0) rfl) (λ_ _=>rfl)) (A0t (pv 0) rfl)))),?_⟩;refine ⟨_,rfl,o,_,dx,_,_,rfl,ho,T.bc,T.ng,(by walk_at "lk"),_,rfl,_,rfl,o,_,dx,_,_,rfl,ho,T.bc,T.ie,(by walk_at "lk"),d,_,rfl,g,_,_,rfl,rfl,?_⟩;refine ⟨_,rfl,A9m (λh1=> ?_) (λh1=> ?_)⟩
  ·have h1:lo<=ai kvs x:=h1;refine ⟨_,rfl,o,_,dx,_,_,rfl,ho,T.bc,T.m8,(by walk_at "lk"),_,_,rfl,rfl,?_⟩;show Q (.bl (decide (ai kvs x<hi))) H;by_cases h2:ai kvs x<hi
   ·rw [Z20 h2];exact k1 ⟨h1,h2⟩
   ·rw [Z1j h2];exact k2 λz=>h2 z.2
  ·have h1:¬lo<=ai kvs x:=h1;exact k2 λz=>h1 z.1
theorem B6e (T:Txt K mg t):FO P w base T.j8 3 (C4n t):=by
 have Gc7:= @B3a P w K mg base t T;refine T.j8.F.ok B6y (by walk_at "ln") λ_ A _ s H _ Q E hr h=> ?_
 ·obtain ⟨l,d,gs,gl,kvs,rfl,hl,pg,lg,hd,hv,k⟩:=h;refine ⟨_,(A0e (A0v (A0s (B6l rfl) (by rfl) T.vK PyProof.Rows.boot_all (A0a (A3s (N':=["guard","inner","at"]) (ix:=(List.replicate 2 none++[some 1])) (g:=D2c K 2 (A8z (A6m 0) (A8z (A6m 1) D2k))) rfl (A5h (x:="at") rfl rfl rfl (by decide +kernel) (by decide +kernel)) (A4g (N0:=["guard","inner"]) rfl (.inl rfl) (by walk_at "ix")) (A1b (pv 0)) (λ_ _ _ _=>(A2p (n:=2) rfl (A0k (A0h (i:=0) B9q rfl (.inl rfl)) (A0k (A0h (i:=1) B9q rfl (.inl rfl)) A1s)))) (λ_ _ _ _=>(A3q A5x (C5y (pv 0) T.bc T.pw Gc7 (hr.mono (by lia)) T.e_.b .nil B4r (A0a (pv 2) A0d)) (pv 1) (A1i _)))) A0d)))),?_⟩;refine ⟨_,rfl,l,rfl,⟨_,SqL.of hl⟩,λD hD=> ?_⟩;refine A2l (K:=K) (a:=l) (D:=D) (xs:=gs) (λi ys H2=>A0p H H2/\H2 D=some (.lst ys)/\ys=((gl.take i).map (inG (ai kvs))).map V.bl) ⟨A0f hD,A0b,rfl⟩ (λi ys H2 s2=>SqL.of (s2.1 _ _ hl)) ?_ ?_
  ·rintro i x ys H2 hx ⟨s2,hD2,rfl⟩;obtain ⟨g,hg,tp,go,dx,u,v,rfl,e1,e2⟩:=B2k pg hx;have hi:=(Z03.mp hx).1;have gk:=B2h.k (H:=H2) (a:=d) (k:=Sum.inr g.1) (s2 _ _ hd);rw [hv g (Z13 hg)] at gk
   have fin:∀b:Bool,b=decide (g.2.1<=ai kvs g.1/\ai kvs g.1<g.2.2.1)->H2 D=some (.lst (((gl.take i).map (inG (ai kvs))).map V.bl))->A0p H (upd H2 D (.lst (((gl.take i).map (inG (ai kvs))).map V.bl++[.bl (decide (V.bl b=V.bl g.2.2.2))])))/\upd H2 D (.lst (((gl.take i).map (inG (ai kvs))).map V.bl++[.bl (decide (V.bl b=V.bl g.2.2.2))])) D=some (.lst (((gl.take i).map (inG (ai kvs))).map V.bl++[.bl (decide (V.bl b=V.bl g.2.2.2))]))/\((gl.take i).map (inG (ai kvs))).map V.bl++[.bl (decide (V.bl b=V.bl g.2.2.2))]=((gl.take (i+1)).map (inG (ai kvs))).map V.bl:=λb hb _=>by
    refine ⟨A0u s2 hD,A0b,?_⟩;rw [Z14,hg,Z2f,Z0s,Z0s]
    have:decide (V.bl b=V.bl g.2.2.2)=inG (ai kvs) g:=by
     unfold inG;rw [<-hb];by_cases z:b=g.2.2.2
     ·rw [Z20 z,Z20 (by rw [z])]
     ·rw [Z1j z,Z1j (λy=>z (V.bl.inj y))]
    rw [this];rfl
   refine ⟨tp,_,rfl,SqT.of (s2 _ _ e1),rfl,_,_,rfl,_,_,rfl,rfl,⟨rfl,True.intro⟩,_,rfl,go,dx,_,rfl,s2 _ _ e2,(by walk_at "lk"),_,rfl,go,dx,d,g.1,g.2.1,g.2.2.1,u,v,kvs,rfl,s2 _ _ e2,gk,λc=> ?_,λc=> ?_⟩
   ·exact ⟨_,rfl,rfl,hD2,A1j (by rw [Z08,Z08,Z0x];lia),fin true (Z20 c).symm hD2⟩
   ·exact ⟨_,rfl,rfl,hD2,A1j (by rw [Z08,Z08,Z0x];lia),fin false (Z1j c).symm hD2⟩
  ·rintro ys H2 ⟨s2,hD2,rfl⟩;rw [Paired.length pg,Z18] at hD2;refine ⟨D,_,rfl,SqL.of hD2,?_⟩;have:=k H2 s2;rw [show gl.all (inG (ai kvs))=(gl.map (inG (ai kvs))).all id by rw [List.all_map];rfl] at this;exact this
def KB (p:Addr) (H H':Hp):Prop:=∀b o,b≠p->H b=some o->H' b=some o
theorem KB.upd {p:Addr} {H H':Hp} {o:HO} (k:KB p H H'):KB p H (upd H' p o):=λb u hb e=>by rw [A0j hb];exact k b u hb e
theorem KB.refl {p:Addr} {H:Hp}:KB p H H:=λ_ _ _ e=>e
theorem KB.trans {p:Addr} {H H' H2:Hp} (a:KB p H H') (b:KB p H' H2):KB p H H2:=λc o hc e=>b c o hc (a c o hc e)
theorem KB.of {p:Addr} {H H':Hp} (s:A0p H H'):KB p H H':=λb o _ e=>s _ _ e
def inR (cs ls:List Int):Bool:=(cs.zip ls).all λe=>decide (0<=e.1/\e.1<e.2)
def E0m:Sp:=λvs H Q _=>∃(c l:Addr) (cs ls:List Int),vs=[.ref c,.ref l]/\H c=some (.tup (cs.map V.int))/\H l=some (.lst (ls.map V.int))/\cs.length=ls.length/\cs.length<=100/\∀H',A0p H H'->Q (.bl (inR cs ls)) H'
theorem A8s {ys:List Str} {gg:List Gd} {ix:List (Str×Int)} {cs:List (List Int)} {i:Nat} {c:List Int} (h:cs[i]? =some c):(cs.take (i+1)).filterMap (A8o ys gg ix)=(cs.take i).filterMap (A8o ys gg ix)++(A8o ys gg ix c).toList:=by
 rw [Z14,h,Z2f,List.filterMap_append];congr 1
theorem B9z (T:Txt K mg t):FO P w base T.mj 8 (C9p t):=by
 have Gc8:= @B4o P w K mg base t T;have Gc9:= @B6e P w K mg base t T;have Gd0:= @B3v P w K mg base t T;refine T.mj.F.ok A5q (by walk_at "ln") λ_ A _ s H _ Q E hr h=> ?_
 ·obtain ⟨y,v,d,le,a,ix,ss,gg,lk,L,rfl,lt,pt,hd,li,k⟩:=h;have hu:=B0m hr;obtain ⟨b,db,c,tv,_,rfl,eb,_,ec,_⟩:=lt;obtain ⟨pa,dp,pv',sl,gl,gs,rfl,ep,obp,hsl,hgl,lgs,lss,pgs⟩:=pt;have lgs:gs.length+1<=100:=lgs;have lss:ss.length+1<=100:=lss
  obtain ⟨o,dx,l,rfl,ho,rp⟩:∃o dx l,pv'= .ref o/\H o=some (.ins t.ah dx [("array",.str a),("indexes",.ref l)])/\Rep H (.ref l) (A6p ix):=by
   cases obp with
   | @read o dx l _ _ e r=>exact ⟨o,dx,l,rfl,e,r⟩
  have hgl:H gl=some (.lst gs):=hgl;have hsl:H sl=some (.lst (ss.map V.str)):=hsl;have ll:(le.2.1++ss).length<=8:=by have:=li.gd.few;rw [Z08] at this;exact this
  have ll':le.2.1.length+ss.length<=8:=by rw [Z06] at ll;exact ll
  refine ⟨_,(A0c (A0n (i:=3) A5q.nd rfl (.inl rfl) (A0x A5c (A0t (pv 0) rfl) (A0t (pv 1) rfl)))
   (A0c (A0n (i:=4) A5q.nd rfl (.inl rfl) (A2d A0d))
   (A0c (A1k PassesOwn.never rfl (A1b (pcl Gc8 hr T.ig (A0a (pv 3) (A0a (pv 2) A0d)))) (A0h (i:=5) A5q.nd rfl (.inl rfl))
    (A0c (A0n (i:=6) A5q.nd rfl (.inl rfl) (C3j rfl (by rfl) T.q9 (by rfl) T.tY (A0a (pv 3) (A0a (pv 5) A0d))))
    (A0e (A1n (A2k (pcl Gc9 hr T.j8 (A0a (A0t (pv 1) rfl) (A0a (pv 6) A0d))))
     (A0e (A1y (B5j Z0k Z0n Z0o A3i (pv 4) (A0a (A2g (A0a (pv 5) (A0a (C5y (A0t (pv 1) rfl) T.bu T.rg Gd0 (hr.mono (by lia)) T.fz.b .nil B4r (A0a (pv 6) A0d)) A0d))) A0d))))
     A0r))))
   (A0e (A0v (pv 4)))))),?_⟩
  refine ⟨_,rfl,b,_,db,_,_,rfl,eb,T.bq,T.cf,(by walk_at "lk"),_,rfl,pa,_,dp,_,_,rfl,ep,T.ap,T.ba,(by walk_at "lk"),c,sl,_,_,rfl,rfl,ec,hsl,A0o (by simp only [Z08];lia),λl1 hl1=> ?_⟩;have s1:A0p H (upd H l1 (.lst (le.2.1.map V.str++ss.map V.str))):=A0f hl1;have h1:upd H l1 (.lst (le.2.1.map V.str++ss.map V.str)) l1=some (.lst ((le.2.1++ss).map V.str)):=by rw [A0b,Z0s]
  generalize upd H l1 (.lst (le.2.1.map V.str++ss.map V.str))=H1 at s1 h1;generalize hys:le.2.1++ss=ys at *;refine ⟨A0q rfl,λld hld=> ?_⟩;have s2:A0p H1 (upd H1 ld (.lst [])):=A0f hld;have ldH:H ld=none:=s1.free hld;have h2:upd H1 ld (.lst []) ld=some (.lst []):=A0b;generalize upd H1 ld (.lst [])=H2 at s2 h2;have s12:=s1.trans s2;refine ⟨_,rfl,_,rfl,l1,d,ys,lk,L,rfl,s2 _ _ h1,s12 _ _ hd,by rw [<-hys];exact li.tl,by rw [<-hys];exact li.gd,λq H3 hq s3 ct=> ?_⟩;obtain ⟨ps,hq3,tp⟩:=ct.ex;have lps:=tp.len;have gpos:∀n∈ys.map L,1<=n:=λn hn=>(li.gd.pos n (by rw [hys];exact hn)).1
  have lcs:(A3o (ys.map L)).length<=4000:=by
   have e1:=(A3w (ys.map L) gpos).1;have e2:=li.gd.most;rw [hys] at e2
   lia
  have s13:=s12.trans s3;have qld:q≠ld:=(A0g h2 hq).symm;refine ⟨q,rfl,⟨_,SqL.of hq3⟩,?_⟩
  refine A1f (K:=K) (a:=q) (xs:=ps.map V.ref) (λi σ G=>∃(o5 o6:Option V) (xs:List V),σ=[Sro b,Sro pa,Sro d,Sro l1,Sro ld,o5,o6]/\KB ld H3 G/\G ld=some (.lst xs)/\Paired (C8o G) xs (((A3o (ys.map L)).take i).filterMap (A8o ys gg ix)))
   ⟨none,none,[],rfl,KB.refl,s3 _ _ h2,.nil⟩ (by rintro i σ G _ ⟨_,_,_,_,kb,_⟩;exact SqL.of (kb _ _ qld hq3)) ?_ ?_
  ·rintro i v σ G hv ⟨o5,o6,xs,rfl,kb,hld',px⟩;obtain ⟨pc,hpc,rfl⟩:=A1r hv;have hi:=(Z03.mp hv).1;rw [Z08] at hi;obtain ⟨ce,hce,hcp⟩:=tp.get hpc;have KG:∀{x:Addr} {u:HO},H x=some u->G x=some u:=λ{x u} e=>kb _ _ (A0g e ldH) (s13 _ _ e);have hl1G:G l1=some (.lst (ys.map V.str)):=kb _ _ (A0g h1 hld) (s3 _ _ (s2 _ _ h1));have hcG:G pc=some (.tup (ce.map V.int)):=kb _ _ (A2n hcp (s3 _ _ h2) (by intro z;cases z)) hcp;have ekv:ys.map V.str=(ys.map (Sum.inr:Str->Key)).map kV:=by rw [List.map_map];rfl
   have lce:ce.length=ys.length:=by rw [(A4r _ ce (Z13 hce)).1,Z08]
   refine ⟨_,rfl,_,rfl,l1,pc,ys.map Sum.inr,ce.map V.int,rfl,by rw [<-ekv];exact SqL.of hl1G,SqT.of hcG,by rw [Z08,Z08];lia,λdd hdd=> ?_⟩;have sd:A0p G (upd G dd (.dK (A1c [] ((ys.map Sum.inr).zip (ce.map V.int))))):=A0f hdd;have hd3:upd G dd (.dK (A1c [] ((ys.map Sum.inr).zip (ce.map V.int)))) dd=some (.dK (C2l ys ce)):=A0b;generalize upd G dd (.dK (A1c [] ((ys.map Sum.inr).zip (ce.map V.int))))=G1 at sd hd3;have K1:∀{x:Addr} {u:HO},H x=some u->G1 x=some u:=λe=>sd _ _ (KG e);refine ⟨_,rfl,pa,_,dp,_,_,rfl,K1 ep,T.ap,T.bj,(by walk_at "lk"),_,rfl,gl,dd,gs,gg,C2l ys ce,rfl,K1 hgl,Paired.mapP pgs λ_ _ z=>z.same λx u e=>K1 e,by lia,hd3,λg hg=>C6l lce (by have:=li.xg g hg;rw [hys] at this;exact this),λG2 s2'=> ?_⟩;have lxs:=Paired.length px;have lfm:(((A3o (ys.map L)).take i).filterMap (A8o ys gg ix)).length<=4000:=Z1n (List.length_filterMap_le ..) (by rw [Z0x];lia);refine ⟨_,rfl,C4a (λb1=> ?_) (λb0=> ?_)⟩
   ·have el:A8o ys gg ix ce=some (ce,A8x (ai (C2l ys ce)) ix):=by unfold A8o;rw [Z12 b1]
    have sG2:=sd.trans s2';have K2:∀{x:Addr} {u:HO},H x=some u->G2 x=some u:=λe=>sG2 _ _ (KG e);refine ⟨_,rfl,.inl ⟨rfl,_,SqL.of (sG2 _ _ hld')⟩,_,rfl,_,rfl,pa,_,dp,_,_,rfl,K2 ep,T.ap,T.a_,(by walk_at "lk"),o,dx,_,rfl,K2 ho,(by walk_at "lk"),_,rfl,o,dx,dd,l,a,ix,C2l ys ce,rfl,K2 ho,rp.same λx u e=>K2 e,li.lx,s2' _ _ hd3,λe he hne=>C6l lce (by have:=li.xi e he hne;rw [hys] at this;exact this),λp G3 hp sp' hp3=>⟨A0q rfl,λtq htq=> ?_⟩⟩;have st:A0p G3 (upd G3 tq (.tup [.ref pc,.ref p])):=A0f htq;have htq':upd G3 tq (.tup [.ref pc,.ref p]) tq=some (.tup [.ref pc,.ref p]):=A0b;generalize upd G3 tq (.tup [.ref pc,.ref p])=G4 at st htq';have sG4:=sG2.trans (sp'.trans st);have hld4:=sG4 _ _ hld';refine ⟨ld,_,_,rfl,rfl,hld4,A1j (by lia),some (.ref pc),some (.ref dd),xs++[.ref tq],rfl,(kb.trans (KB.of sG4)).upd,A0b,?_⟩;rw [A8s hce,el];have kt:∀x zs,G4 x=some (.tup zs)->upd G4 ld (.lst (xs++[.ref tq])) x=some (.tup zs):=λx zs e=>(A0j (A2n e hld4 (by intro z;cases z))).trans e;exact Paired.snoc ⟨tq,pc,p,rfl,kt _ _ htq',kt _ _ (sG4 _ _ hcG),kt _ _ (st _ _ hp3)⟩ (Paired.mapP px λ_ _ z=>z.kt λx zs e=>kt _ _ (sG4 _ _ e))
   ·have el:A8o ys gg ix ce=none:=by unfold A8o;rw [Z0t (by rw [b0];exact Z0v)]
    refine ⟨some (.ref pc),some (.ref dd),xs,rfl,kb.trans (KB.of (sd.trans s2')),(sd.trans s2') _ _ hld',?_⟩;rw [A8s hce,el,Option.toList_none,Z0u];exact Paired.mapP px λ_ _ z=>z.kt λx zs e=>(sd.trans s2') _ _ e
  ·rintro σ G ⟨o5,o6,xs,rfl,kb,hld',px⟩;rw [Z08,lps,Z18] at px;exact ⟨_,rfl,k ld xs G ldH (λx u e=>kb _ _ (A0g e ldH) (s13 _ _ e)) hld' px⟩
theorem B9u (T:Txt K mg t):FO P w base T.jk 1 E0m:=by
 refine T.jk.F.ok B8o (by walk_at "ln") λ_ A _ s H _ Q E hr h=> ?_
 ·obtain ⟨c,l,cs,ls,rfl,hc,hl,len,l100,k⟩:=h;refine ⟨_,(A0e (A0v (A0s (B6l rfl) (by rfl) T.vK PyProof.Rows.boot_all (A0a (A3s (N':=["number","length"]) (ix:=(List.replicate 2 none)) (g:=D2c K 2 (A8z (A6m 0) (A8z (A6m 1) D2k))) rfl (A2q rfl (by decide +kernel) (by decide +kernel)) (A2r rfl) (C2z rfl T.tY (A0a (pv 0) (A0a (pv 1) A0d))) (λ_ _ _ _=>(A2p (n:=2) rfl (A0k (A0h (i:=0) B8f rfl (.inl rfl)) (A0k (A0h (i:=1) B8f rfl (.inl rfl)) A1s)))) (λ_ _ _ _=>(B6o C5x C1m A0l (pv 0) (pv 1)))) A0d)))),?_⟩;refine ⟨_,rfl,_,rfl,c,l,_,_,rfl,SqT.of hc,SqL.of hl,λD hD=> ?_⟩;refine B1c (D:=D) cs.length (λi zs H2=>A0p H H2/\H2 D=some (.lst zs)/\zs=(((cs.zip ls).take i).map λe=>decide (0<=e.1/\e.1<e.2)).map V.bl) ⟨A0f hD,A0b,rfl⟩ (λi zs H2 hi ⟨s2,_⟩=>⟨_,_,_,_,SqT.of (s2 _ _ hc),SqL.of (s2 _ _ hl),Z0b (by rw [Z08];exact hi),Z0b (by rw [Z08];lia)⟩) (λzs H2 s2=>⟨_,_,SqT.of (s2.1 _ _ hc),SqL.of (s2.1 _ _ hl),.inl (by rw [Z08];exact Z09 _)⟩) ?_ ?_
  ·rintro i zs H2 hi ⟨s2,hD2,rfl⟩ x H3 ⟨p,hp,rfl,x,y,f1,f2,rfl⟩;obtain ⟨n,hn,rfl⟩:=A1r (f1 _ (SqT.of (s2 _ _ hc)));obtain ⟨m,hm,rfl⟩:=A1r (f2 _ (SqL.of (s2 _ _ hl)));have sp':A0p H2 (upd H2 p (.tup [.int n,.int m])):=A0f hp;have hD3:=sp' _ _ hD2;have hz:(cs.zip ls)[i]? =some (n,m):=by rw [Z2m];exact ⟨hn,hm⟩
   have lz:((((cs.zip ls).take i).map λe=>decide (0<=e.1/\e.1<e.2)).map V.bl).length<=100:=by simp only [Z08,Z0x,List.length_zip];lia
   refine ⟨p,_,rfl,SqT.of A0b,rfl,_,_,rfl,_,_,rfl,rfl,True.intro,?_⟩
   have fin:∀b:Bool,b=decide (0<=n/\n<m)->A0p H (upd (upd H2 p (.tup [.int n,.int m])) D (.lst ((((cs.zip ls).take i).map λe=>decide (0<=e.1/\e.1<e.2)).map V.bl++[.bl b])))/\upd (upd H2 p (.tup [.int n,.int m])) D (.lst ((((cs.zip ls).take i).map λe=>decide (0<=e.1/\e.1<e.2)).map V.bl++[.bl b])) D=some (.lst ((((cs.zip ls).take i).map λe=>decide (0<=e.1/\e.1<e.2)).map V.bl++[.bl b]))/\(((cs.zip ls).take i).map λe=>decide (0<=e.1/\e.1<e.2)).map V.bl++[.bl b]=(((cs.zip ls).take (i+1)).map λe=>decide (0<=e.1/\e.1<e.2)).map V.bl:=λb hb=>by
    refine ⟨A0u (s2.trans sp') hD,A0b,?_⟩;rw [Z14,hz,Z2f,Z0s,Z0s,hb];rfl
   refine ⟨_,rfl,_,_,rfl,rfl,_,rfl,A9m (λh0=> ?_) (λh0=> ?_)⟩
   ·have h0:0<=n:=h0;refine ⟨_,rfl,_,_,rfl,rfl,hD3,A1j (by lia),?_⟩;exact fin (decide (n<m)) (by by_cases z:n<m <;> simp [z,h0])
   ·have h0:¬0<=n:=h0;exact ⟨hD3,A1j (by lia),fin false (Z1j (λz=>h0 z.1)).symm⟩
  ·rintro zs H2 ⟨s2,hD2,rfl⟩;have ez:(cs.zip ls).take cs.length=cs.zip ls:=Z2l (by rw [List.length_zip];lia);rw [ez] at hD2;refine ⟨D,_,rfl,SqL.of hD2,?_⟩;have:=k H2 s2;unfold inR at this;rw [show (cs.zip ls).all (λe=>decide (0<=e.1/\e.1<e.2))=((cs.zip ls).map λe=>decide (0<=e.1/\e.1<e.2)).all id by rw [List.all_map];rfl] at this;exact this
def D6u (C:Addr) (f1 f2 f3 f4:Str):Sp:=λvs H Q _=>∃(ea ta:Addr) (a1 a2 a3 a4:V),vs=[.ref ea,a1,a2,a3,a4]/\H ea=some (xcN ea C ta)/\
 ∀(dx:Addr) (H':Hp),H dx=none->H' ea=some (xcD ea C ta dx)->H' dx=some (.xd [(f1,a1),(f2,a2),(f3,a3),(f4,a4)])->(∀b,b≠ea->b≠dx->H' b=H b)->Q .non H'
theorem B8j {C:Addr} {H:Hp} {E E':XK} {a1 a2 a3 a4:V} (hE:∀dx H',A0p H H'->H' dx=some (.xd [("name",a1),("array",a2),("spot",a3),("cell",a4)])->E (.ref C) (some dx) H'):∀ea ta,H ea=none->D6u C "name" "array" "spot" "cell" (.ref ea::([a1,a2,a3,a4]++[])) (upd H ea (xcN ea C ta)) (λv H2=>v= .non/\∃d,H2 ea=some (.ext λh=>h.get? ea=some (B1t C ta d))/\E (.ref C) d (B0o H2 ea)) E':=by
 intro ea ta hn;refine ⟨ea,ta,a1,a2,a3,a4,rfl,A0b,λdx H' hdx h1 h2 h3=>⟨rfl,some dx,h1,hE _ _ (λb o e=> ?_) ?_⟩⟩
 ·have n1:b≠ea:=A0g e hn
  have n2:b≠dx:=λz=>by
   rw [<-z,A0j n1,e] at hdx;cases hdx
  rw [B6m n1,h3 b n1 n2,A0j n1];exact e
 ·have ne:dx≠ea:=λz=>by rw [z,A0b] at hdx;cases hdx
  rw [B6m ne];exact h2
def D3m (C:Addr) (H:Hp) (E:XK) (x a:Str) (e:List Int×List Int):Prop:=∀(dx s c:Addr) (H':Hp),A0p H H'->H' dx=some (.xd [("name",.str x),("array",.str a),("spot",.ref s),("cell",.ref c)])->H' s=some (.tup (e.1.map V.int))->H' c=some (.tup (e.2.map V.int))->E (.ref C) (some dx) H'
theorem D3m.of {C:Addr} {H H1:Hp} {E:XK} {x a:Str} {e:List Int×List Int} (h:D3m C H E x a e) (s:A0p H H1):D3m C H1 E x a e:=λdx s' c H' z=>h dx s' c H' (s.trans z)
def C2y (ls:List Int) (e:List Int×List Int):Bool:= !inR e.2 ls
def D5e (A:Adr):Sp:=λvs H Q E=>∃(y:V) (o dx l ldl lnl:Addr) (le:Lt) (a:Str) (xs:List V) (lds:List (List Int×List Int)) (ls:List Int),vs=[y,.ref o,.ref ldl,.ref lnl]/\B2z A (λ_=>True) H y le/\H o=some (.ins A.ah dx [("array",.str a),("indexes",.ref l)])/\H ldl=some (.lst xs)/\Paired (C8o H) xs lds/\(∀e∈lds,e.2.length=ls.length)/\ls.length<=100/\H lnl=some (.lst (ls.map V.int))/\
 (lds.find? (C2y ls)=none->∀H',A0p H H'->Q .non H')/\∀e,lds.find? (C2y ls)=some e->D3m A.aa H E le.1 a e
def C0i (n:Nat) (e:List Int×List Int):Bool:= !HT.lexLt e.2 (e.1.take n)
def D7q (A:Adr):Sp:=λvs H Q E=>∃(y:V) (o dx l ldl:Addr) (le:Lt) (a:Str) (xs:List V) (lds:List (List Int×List Int)),vs=[y,.ref o,.ref ldl]/\B2z A (λ_=>True) H y le/\H o=some (.ins A.ah dx [("array",.str a),("indexes",.ref l)])/\H ldl=some (.lst xs)/\Paired (C8o H) xs lds/\
 (lds.find? (C0i le.2.1.length)=none->∀H',A0p H H'->Q .non H')/\∀e,lds.find? (C0i le.2.1.length)=some e->D3m A.af H E le.1 a e
theorem A8u {α:Type} {f:α->Bool} {l:List α} {i:Nat} {x:α} (h:l[i]? =some x):(l.drop i).find? f=if f x=true then some x else (l.drop (i+1)).find? f:=by
 rw [A5e h,Z2h];cases f x <;> rfl
theorem A6s (T:Txt K mg t):FP P w mg base T.df 1 (D6u t.aa "name" "array" "spot" "cell"):=by
 refine T.df.F.ok B1u (by walk_at "ln") λ_ A _ s H _ Q E hr h=> ?_
 ·obtain ⟨ea,ta,a1,a2,a3,a4,rfl,he,k⟩:=h
  refine ⟨_,(A0c (C7z (pv 0) (pv 1) rfl)
   (A0c (A8r (pv 0) (pv 2) rfl)
   (A0c (A8r (pv 0) (pv 3) rfl)
   (A0e (A8r (pv 0) (pv 4) rfl))))),_,rfl,_,rfl,ea,_,ta,rfl,he,T.oj,λdx hdx=> ?_⟩
  have ne:ea≠dx:=λz=>by rw [z,hdx] at he;cases he
  have e1:upd (upd H ea (xcD ea t.aa ta dx)) dx (.xd [("name",a1)]) ea=some (xcD ea t.aa ta dx):=by rw [A0j ne,A0b]
  have e2:upd (upd H ea (xcD ea t.aa ta dx)) dx (.xd [("name",a1)]) dx=some (.xd [("name",a1)]):=A0b;have e3:∀b,b≠ea->b≠dx->upd (upd H ea (xcD ea t.aa ta dx)) dx (.xd [("name",a1)]) b=H b:=λb n1 n2=>by rw [A0j n2,A0j n1]
  generalize upd (upd H ea (xcD ea t.aa ta dx)) dx (.xd [("name",a1)])=H1 at e1 e2 e3⊢;refine ⟨_,rfl,_,rfl,ea,_,ta,dx,_,rfl,e1,e2,by simp,rfl,T.mh,?_⟩;refine ⟨_,rfl,_,rfl,ea,_,ta,dx,_,rfl,by rw [A0j ne];exact e1,A0b,by simp,rfl,T.oy,?_⟩;refine ⟨_,rfl,_,rfl,ea,_,ta,dx,_,rfl,by rw [A0j ne,A0j ne];exact e1,A0b,by simp,rfl,T.p9,?_⟩;exact k dx _ hdx (by rw [A0j ne,A0j ne,A0j ne];exact e1) A0b (λb n1 n2=>by rw [A0j n2,A0j n2,A0j n2];exact e3 b n1 n2)
theorem B4s (T:Txt K mg t):FP P w mg base T.ia 1 (D6u t.af "name" "array" "spot" "cell"):=by
 refine T.ia.F.ok B4z (by walk_at "ln") λ_ A _ s H _ Q E hr h=> ?_
 ·obtain ⟨ea,ta,a1,a2,a3,a4,rfl,he,k⟩:=h
  refine ⟨_,(A0c (C7z (pv 0) (pv 1) rfl)
   (A0c (A8r (pv 0) (pv 2) rfl)
   (A0c (A8r (pv 0) (pv 3) rfl)
   (A0e (A8r (pv 0) (pv 4) rfl))))),_,rfl,_,rfl,ea,_,ta,rfl,he,T.tm,λdx hdx=> ?_⟩
  have ne:ea≠dx:=λz=>by rw [z,hdx] at he;cases he
  have e1:upd (upd H ea (xcD ea t.af ta dx)) dx (.xd [("name",a1)]) ea=some (xcD ea t.af ta dx):=by rw [A0j ne,A0b]
  have e2:upd (upd H ea (xcD ea t.af ta dx)) dx (.xd [("name",a1)]) dx=some (.xd [("name",a1)]):=A0b;have e3:∀b,b≠ea->b≠dx->upd (upd H ea (xcD ea t.af ta dx)) dx (.xd [("name",a1)]) b=H b:=λb n1 n2=>by rw [A0j n2,A0j n1]
  generalize upd (upd H ea (xcD ea t.af ta dx)) dx (.xd [("name",a1)])=H1 at e1 e2 e3⊢;refine ⟨_,rfl,_,rfl,ea,_,ta,dx,_,rfl,e1,e2,by simp,rfl,T.r8,?_⟩;refine ⟨_,rfl,_,rfl,ea,_,ta,dx,_,rfl,by rw [A0j ne];exact e1,A0b,by simp,rfl,T.su,?_⟩;refine ⟨_,rfl,_,rfl,ea,_,ta,dx,_,rfl,by rw [A0j ne,A0j ne];exact e1,A0b,by simp,rfl,T.t7,?_⟩;exact k dx _ hdx (by rw [A0j ne,A0j ne,A0j ne];exact e1) A0b (λb n1 n2=>by rw [A0j n2,A0j n2,A0j n2];exact e3 b n1 n2)
theorem B8l (T:Txt K mg t):A4m P w K mg base (CXD P w) 3 t.qw t.qg D1h (D5e t):=by
 have Gd1:= @A6s P w K mg base t T;have Gd2:= @B9u P w K mg base t T;have Gd1:= @A6s P w K mg base t T;refine T.gy.F.okD A8g (by walk_at "ln") λ_ A _ s H _ Q E hr h=> ?_
 ·obtain ⟨y,o,dx,l,ldl,lnl,le,a,xs,lds,ls,rfl,lt,ho,hld,px,len,l100,hln,kq,ke⟩:=h;obtain ⟨b,db,c0,tv,_,rfl,eb,_,ec,_⟩:=lt
  refine ⟨_,(A0e (A1k PassesOwn.leaving rfl (A1b (pv 2)) (A2p (n:=2) rfl (A0k (A0h (i:=4) A8g.nd rfl (.inl rfl)) (A0k (A0h (i:=5) A8g.nd rfl (.inl rfl)) A1s)))
    (A0e (A1n (B2o (A2k (pcl Gd2 hr T.jk (A0a (pv 5) (A0a (pv 3) A0d)))))
     (A0e (B8c C5o T.uk Gd1 (hr.mono (by lia)) rfl T.dq T.df.b .nil B4r rfl rfl (A0a (A0t (pv 0) rfl) (A0a (A0t (pv 1) rfl) (A0a (pv 4) (A0a (pv 5) A0d))))))
     A0r)))),?_⟩
  refine ⟨_,rfl,ldl,rfl,⟨_,SqL.of hld⟩,?_⟩
  refine A1f (K:=K) (a:=ldl) (xs:=xs) (λi σ G=>∃(o4 o5:Option V),σ=[Sro b,Sro o,Sro ldl,Sro lnl,o4,o5]/\A0p H G/\lds.find? (C2y ls)=(lds.drop i).find? (C2y ls))
   ⟨none,none,rfl,A0p.refl _,rfl⟩ (by rintro i σ G _ ⟨_,_,_,s2,_⟩;exact SqL.of (s2 _ _ hld)) ?_ ?_
  ·rintro i x σ G hx ⟨o4,o5,rfl,s2,ef⟩;obtain ⟨e,he,p,sp,ce,rfl,e1,e2,e3⟩:=B2k px hx;rw [A8u he] at ef;have l2:=len e (Z13 he);refine ⟨p,_,rfl,SqT.of (s2 _ _ e1),rfl,_,_,rfl,_,_,rfl,rfl,?_⟩;refine ⟨_,rfl,_,rfl,ce,lnl,e.2,ls,rfl,s2 _ _ e3,s2 _ _ hln,l2,by lia,λG2 s3=>⟨_,rfl,C9o (λb0=> ?_) (λb1=> ?_)⟩⟩
   ·have hb:C2y ls e=true:=by unfold C2y;rw [b0];rfl
    rw [Z12 hb] at ef;have s23:=s2.trans s3;refine ⟨_,rfl,b,_,db,_,_,rfl,s23 _ _ eb,T.bq,T.bv,(by walk_at "lk"),_,rfl,o,_,dx,_,_,rfl,s23 _ _ ho,T.bu,T.bw,(by walk_at "lk"),_,rfl,_,rfl,A0q rfl,B8j λdx' H' s' hd'=> ?_⟩;exact ke e ef dx' sp ce H' (s23.trans s') hd' (s' _ _ (s23 _ _ e2)) (s' _ _ (s23 _ _ e3))
   ·have hb:C2y ls e=false:=by unfold C2y;rw [b1];rfl
    rw [Z0t (by rw [hb];exact Z0v)] at ef;exact ⟨_,_,rfl,s2.trans s3,ef⟩
  ·rintro σ G ⟨o4,o5,rfl,s2,ef⟩;have lx:=Paired.length px;rw [lx,Z2i] at ef;exact kq ef G s2
theorem B7l (T:Txt K mg t):A4m P w K mg base (CXD P w) 3 t.oz t.ot C9v (D7q t):=by
 have Gd3:= @B4s P w K mg base t T;refine T.fm.F.okD A5g (by walk_at "ln") λ_ A _ s H _ Q E hr h=> ?_
 ·obtain ⟨y,o,dx,l,ldl,le,a,xs,lds,rfl,lt,ho,hld,px,kq,ke⟩:=h;have hu:=B0m hr;obtain ⟨b,db,c0,tv,_,rfl,eb,_,ec,_⟩:=lt
  refine ⟨_,(A0e (A1k PassesOwn.leaving rfl (A1b (pv 2)) (A2p (n:=2) rfl (A0k (A0h (i:=3) A5g.nd rfl (.inl rfl)) (A0k (A0h (i:=4) A5g.nd rfl (.inl rfl)) A1s)))
    (A0c (A0n (i:=5) A5g.nd rfl (.inl rfl) (A4b D6o (pv 3) A5m (A5r (A0s A1d (by rfl) T.cw Z0r (A0a (A0t (pv 0) rfl) A0d)))))
    (A0e (A1n (B2o (A0z (D9l (Nat.lt_of_succ_lt hu)) (pv 4) (pv 5) (A1i _)))
     (A0e (B8c C5o T.vE Gd3 (hr.mono (by lia)) rfl T.oq T.ia.b .nil B4r rfl rfl (A0a (A0t (pv 0) rfl) (A0a (A0t (pv 1) rfl) (A0a (pv 3) (A0a (pv 4) A0d))))))
     A0r))))),?_⟩
  refine ⟨_,rfl,ldl,rfl,⟨_,SqL.of hld⟩,?_⟩
  refine A1f (K:=K) (a:=ldl) (xs:=xs) (λi σ G=>∃(o3 o4 o5:Option V),σ=[Sro b,Sro o,Sro ldl,o3,o4,o5]/\A0p H G/\lds.find? (C0i le.2.1.length)=(lds.drop i).find? (C0i le.2.1.length))
   ⟨none,none,none,rfl,A0p.refl _,rfl⟩ (by rintro i σ G _ ⟨_,_,_,_,s2,_⟩;exact SqL.of (s2 _ _ hld)) ?_ ?_
  ·rintro i x σ G hx ⟨o3,o4,o5,rfl,s2,ef⟩;obtain ⟨e,he,p,sp,ce,rfl,e1,e2,e3⟩:=B2k px hx;rw [A8u he] at ef;refine ⟨p,_,rfl,SqT.of (s2 _ _ e1),rfl,_,_,rfl,_,_,rfl,rfl,?_⟩;refine ⟨_,rfl,_,rfl,b,_,db,_,_,rfl,s2 _ _ eb,T.bq,T.cf,(by walk_at "lk"),c0,_,rfl,.inl (SqL.of (s2 _ _ ec)),_,rfl,sp,_,rfl,s2 _ _ e2,λq G2 s3 hq=> ?_⟩;rw [Z08,B1w] at hq;have s23:=s2.trans s3;refine ⟨_,rfl,_,rfl,ce,q,e.2,e.1.take le.2.1.length,rfl,rfl,SqT.of (s23 _ _ e3),SqT.of hq,_,rfl,C9o (λb0=> ?_) (λb1=> ?_)⟩
   ·have hb:C0i le.2.1.length e=true:=by unfold C0i;rw [b0];rfl
    rw [Z12 hb] at ef;refine ⟨_,rfl,b,_,db,_,_,rfl,s23 _ _ eb,T.bq,T.bv,(by walk_at "lk"),_,rfl,o,_,dx,_,_,rfl,s23 _ _ ho,T.bu,T.bw,(by walk_at "lk"),_,rfl,_,rfl,A0q rfl,B8j λdx' H' s' hd'=> ?_⟩;exact ke e ef dx' sp ce H' (s23.trans s') hd' (s' _ _ (s23 _ _ e2)) (s' _ _ (s23 _ _ e3))
   ·have hb:C0i le.2.1.length e=false:=by unfold C0i;rw [b1];rfl
    rw [Z0t (by rw [hb];exact Z0v)] at ef;exact ⟨_,_,_,rfl,s23,ef⟩
  ·rintro σ G ⟨o3,o4,o5,rfl,s2,ef⟩;have lx:=Paired.length px;rw [lx,Z2i] at ef;exact kq ef G s2
theorem C2s {L:Str->Int} {ys:List Str} {gg:List Gd} {ix:List (Str×Int)} {e:List Int×List Int} (h:e∈A4a L ys gg ix):e.2.length=ix.length:=by
 obtain ⟨c,_,hc⟩:=List.mem_filterMap.mp h;unfold A8o at hc;split at hc
 ·cases hc
  show (A8x _ ix).length=ix.length;unfold A8x;rw [Z08]
 ·cases hc
theorem C5c {xs:List Str} (h:xs.Nodup):(xs.map (Sum.inr:Str->Key)).Nodup:=List.Pairwise.map _ (λa b h z=>h (by injection z)) h
abbrev Tld:=Bool×(List Int×List Int)
def B7t (A:Adr):Bool->Addr
 | true=>A.af
 | false=>A.aa
noncomputable def B3d (lds:List (List Int×List Int)) (szs:List Int) (own:Bool) (n:Nat):Option Tld:=match lds.find? (C2y szs) with
 | some e=>some (false,e)
 | none=>if own=true then (lds.find? (C0i n)).map λe=>(true,e) else none
noncomputable def C8r (L:Str->Int) (es:List (Str×List Str)) (le:Lt) (q:PT):Option (Str×Tld):=match q.1 with
 | .read a ix=>(B3d (A4a L (le.2.1++q.2.1) q.2.2 ix) (((shp es a).getD []).map L) (decide (a=le.1)) le.2.1.length).map λe=>(a,e)
 | _=>none
def D2f (L:Str->Int) (es:List (Str×List Str)) (le:Lt):Option (Str×Tld):=(prT le.2.2 [] []).findSome? (C8r L es le)
def D6x (L:Str->Int) (es:List (Str×List Str)) (ls:List Lt):Option (Str×(Str×Tld)):=ls.findSome? λle=>(D2f L es le).map λr=>(le.1,r)
def D0d (A:Adr):Sp:=λvs H Q E=>∃(y v:V) (d axl:Addr) (le:Lt) (a:Str) (ix:List (Str×Int)) (ss:List Str) (gg:List Gd) (lk:List (Key×V)) (L:Str->Int) (zs:List Str),vs=[y,v,.ref d,.ref axl]/\B2z A (λ_=>True) H y le/\A4v A H v (.read a ix,ss,gg)/\H d=some (.dK lk)/\E0u L lk le ss gg ix/\H axl=some (.lst (zs.map V.str))/\A4t lk L zs/\zs.length=ix.length/\
 (B3d (A4a L (le.2.1++ss) gg ix) (zs.map L) (decide (a=le.1)) le.2.1.length=none->∀H',A0p H H'->Q .non H')/\∀b e,B3d (A4a L (le.2.1++ss) gg ix) (zs.map L) (decide (a=le.1)) le.2.1.length=some (b,e)->D3m (B7t A b) H E le.1 a e
structure E1v (lk:List (Key×V)) (L:Str->Int) (tb:List (Str×List Str)) (ls:List Lt):Prop where
 nd:(arN tb ls).Nodup
 lt:tb.length<=100
 ll:ls.length<=100
 tk:∀e∈arr tb ls,A4t lk L e.2
 l:∀le∈ls,dep le.2.2<=9/\nod le.2.2<=1000/\∀q∈prT le.2.2 [] [],∀a ix,q.1= .read a ix->E0u L lk le q.2.1 q.2.2 ix/\∃zs,shp (arr tb ls) a=some zs/\zs.length=ix.length
def E0f (A:Adr) (r:Option (Str×(Str×Tld))) (Q:VK) (E:XK) (H:Hp):Prop:=(r=none->∀H',A0p H H'->Q .non H')/\∀x a b e,r=some (x,(a,(b,e)))->D3m (B7t A b) H E x a e
def D1r (A:Adr):Sp:=λvs H Q E=>∃(p:Addr) (wh:Int) (ax:List (Str×Int)) (tb:List (Str×List Str)) (ls:List Lt) (os:List Str) (L:Str->Int),vs=[.ref p]/\B9v A H p wh ax tb ls os/\E1v (A1c [] (B9b ax)) L tb ls/\E0f A (D6x L (arr tb ls) ls) Q E H
def D3n (A:Adr):Sp:=λvs H Q E=>∃(p:Addr) (wh:Int) (ax:List (Str×Int)) (tb:List (Str×List Str)) (ls:List Lt) (os:List Str) (L:Str->Int),vs=[.ref p]/\B9v A H p wh ax tb ls os/\E1u ax tb ls os/\GdN ax tb ls os/\GdS ax tb ls/\E0z ax tb ls/\B7a (axN ax) tb ls=none/\E0t (A1c [] (B9b ax)) L tb ls/\Sm (wrk L tb ls)/\
 (4000<wrk L tb ls->∀H',A0p H H'->E (.ref A.al) none H')/\(wrk L tb ls<=4000->E1v (A1c [] (B9b ax)) L tb ls/\E0f A (D6x L (arr tb ls) ls) Q E H)
theorem E0f.of {A:Adr} {r:Option (Str×(Str×Tld))} {Q:VK} {E:XK} {H H1:Hp} (h:E0f A r Q E H) (s:A0p H H1):E0f A r Q E H1:=⟨λz H' s'=>h.1 z H' (s.trans s'),λx a b e z=>(h.2 x a b e z).of s⟩
theorem B5x {α β:Type} {f:α->Option β} {l:List α} {i:Nat} {x:α} (h:l[i]? =some x):(l.drop i).findSome? f=match f x with | some b=>some b | none=>(l.drop (i+1)).findSome? f:=by
 rw [A5e h];rfl
theorem isRd (T:Txt K mg t) {H:Hp} {v:V} {u:Tm} (h:Ob t H v u):∃(C:Addr) (b:Bool),A9s K H v (.ref C)/\(∀z,A3d (.ref t.ah) z->kitOne K (.ref C) z=some b)/\(b=true->∃a ix,u= .read a ix)/\(b=false->∀a ix,u≠.read a ix):=by
 cases h with
 | num e=>exact ⟨_,false,.ins e T.c_ T.am.ha T.am.hn T.am.htk T.am.hm,A1g T.ju,nofun,λ_ a ix z=>by cases z⟩
 | place e=>exact ⟨_,false,.ins e T.iw T.au.ha T.au.hn T.au.htk T.au.hm,A1g T.m9,nofun,λ_ a ix z=>by cases z⟩
 | read e r=>exact ⟨_,true,.ins e T.bu T.bf.ha T.bf.hn T.bf.htk T.bf.hm,A1g T.pe,λ_=>⟨_,_,rfl⟩,nofun⟩
 | sum e _=>exact ⟨_,false,.ins e T.d_ T.bx.ha T.bx.hn T.bx.htk T.bx.hm,A1g T.qr,nofun,λ_ a ix z=>by cases z⟩
 | @pair o dd op v1 v2 ll r e o1 o2 =>
  have kiR:kitOne K (.ref (B1e t op)) (.ref t.ah)=some false:=by cases op with
   | plus=>exact T.c8
   | minus=>exact T.c8
   | times=>exact T.c8
  exact ⟨_,false,B4b T e,A1g kiR,nofun,λ_ a ix z=>by cases z⟩
 | guard e _ _=>exact ⟨_,false,.ins e T.bc T.av.ha T.av.hn T.av.htk T.av.hm,A1g T.m6,nofun,λ_ a ix z=>by cases z⟩
theorem B6x (T:Txt K mg t):A4m P w K mg base (CXD P w) 9 t.oa t.nc D0c (D0d t):=by
 have Gd4:= @B9z P w K mg base t T;have Gc0:= @A4z P w K mg base t T;have Gd5:= @B7l P w K mg base t T;have Gd6:= @B8l P w K mg base t T;refine T.fj.F.okD B0j (by walk_at "ln") λ_ A _ s H _ Q E hr h=> ?_
 ·obtain ⟨y,v,d,axl,le,a,ix,ss,gg,lk,L,zs,rfl,lt,pt,hd,li,hax,tl,lz,kq,ke⟩:=h;obtain ⟨b,db,c0,tv,_,rfl,eb,_,ec,obl⟩:=id lt;obtain ⟨pa,dp,pv',sl,gl,gs,rfl,ep,obp,hsl,hgl,lgs,lss,pgs⟩:=id pt
  obtain ⟨o,dx,l,rfl,ho,rp⟩:∃o dx l,pv'= .ref o/\H o=some (.ins t.ah dx [("array",.str a),("indexes",.ref l)])/\Rep H (.ref l) (A6p ix):=by
   cases obp with
   | @read o dx l _ _ e r=>exact ⟨o,dx,l,rfl,e,r⟩
  have l3:=li.lx
  refine ⟨_,(A0c (A0n (i:=4) B0j.nd rfl (.inl rfl) (pcl Gd4 hr T.mj (A0a (pv 0) (A0a (pv 1) (A0a (pv 2) A0d)))))
   (A0c (A1y (A3g Gd6 (hr.mono (by lia)) rfl T.gy.m T.gy.F.kp T.gy.b .nil A8y (A0a (pv 0) (A0a (A0t (pv 1) rfl) (A0a (pv 4) (A0a (pcl Gc0 hr T.c7 (A0a (pv 3) (A0a (pv 2) A0d))) A0d))))))
   (A0e (A1n (A0z A5x (A0t (A0t (pv 1) rfl) rfl) (A0t (pv 0) rfl) (A1i _))
    (A0e (A1y (A3g Gd5 (hr.mono (by lia)) rfl T.fm.m T.fm.F.kp T.fm.b .nil A8y (A0a (pv 0) (A0a (A0t (pv 1) rfl) (A0a (pv 4) A0d))))))
    A0r)))),?_⟩
  refine ⟨_,rfl,_,rfl,_,rfl,.ref b,.ref pa,d,le,a,ix,ss,gg,lk,L,rfl,lt,pt,hd,li,λq xs H1 hq s1 h1 px=> ?_⟩;refine ⟨_,rfl,_,rfl,pa,_,dp,_,_,rfl,s1 _ _ ep,T.ap,T.a_,(by walk_at "lk"),_,rfl,_,rfl,_,rfl,axl,d,zs,lk,L,rfl,s1 _ _ hax,s1 _ _ hd,tl,by lia,λq2 H2 hq2 s2 h2=> ?_⟩;have s12:=s1.trans s2;have h2':H2 q2=some (.lst ((zs.map L).map V.int)):=by rw [List.map_map];exact h2
  refine ⟨.ref b,o,dx,l,q,q2,le,a,xs,_,zs.map L,rfl,lt.same s12,s12 _ _ ho,s2 _ _ h1,Paired.mapP px λ_ _ z=>z.kt λx zs e=>s2 _ _ e,λe he=>by rw [C2s he,Z08];lia,by rw [Z08];lia,h2',λhn H3 s3=> ?_,λe he=>(ke false e (by unfold B3d;rw [he])).of s12⟩;have s13:=s12.trans s3;refine ⟨_,rfl,pa,_,dp,_,_,rfl,s13 _ _ ep,T.ap,T.a_,(by walk_at "lk"),o,_,dx,_,_,rfl,s13 _ _ ho,T.bu,T.bw,(by walk_at "lk"),_,rfl,b,_,db,_,_,rfl,s13 _ _ eb,T.bq,T.bv,(by walk_at "lk"),rfl,_,rfl,A9m (λz=> ?_) (λz=> ?_)⟩
  ·have z:a=le.1:=V.str.inj z;refine ⟨_,rfl,_,rfl,pa,_,dp,_,_,rfl,s13 _ _ ep,T.ap,T.a_,(by walk_at "lk"),_,rfl,.ref b,o,dx,l,q,le,a,xs,_,rfl,lt.same s13,s13 _ _ ho,(s2.trans s3) _ _ h1,Paired.mapP px λ_ _ z=>z.kt λx zs e=>(s2.trans s3) _ _ e,λhl H4 s4=> ?_,λe he=> ?_⟩
   ·refine kq ?_ _ (s13.trans s4);unfold B3d;rw [hn];show (if decide (a=le.1)=true then _ else _)=_;rw [Z12 (Z20 z),hl];rfl
   ·refine (ke true e ?_).of s13;unfold B3d;rw [hn];show (if decide (a=le.1)=true then _ else _)=_;rw [Z12 (Z20 z),he];rfl
  ·have z:¬a=le.1:=λy=>z (by rw [y]);refine kq ?_ _ s13;unfold B3d;rw [hn];show (if decide (a=le.1)=true then _ else _)=_;rw [Z0t (by rw [Z1j z];exact Z0v)]
theorem B6i (T:Txt K mg t):A4m P w K mg base (CXD P w) 15 t.oi t.n_ A2z (D1r t):=by
 have Ga8:= @B2q P w K mg base t T;have Gc2:= @B0l P w K mg base t T;have Gd7:= @B6x P w K mg base t T;have Gb9:= @A9w P w K mg base t T;refine T.fi.F.okD A4i (by walk_at "ln") λ_ A _ s H _ Q E hr h=> ?_
 ·obtain ⟨p,wh,ax,tb,ls,os,L,rfl,pr,ok,ko⟩:=h;have hu:=B0m hr;obtain ⟨dx,a,tt,l,o,e,ra,rt,⟨xl,hl,rl⟩,_⟩:=id pr.ob;have lxl:=Paired.length rl;have ltb:=ok.lt;have lls:=ok.ll
  refine ⟨_,(A0c (A0n (i:=1) A4i.nd rfl (.inl rfl) (pcl Gc2 hr T.fk (A0a (pv 0) A0d)))
   (A0c (A0n (i:=2) A4i.nd rfl (.inl rfl) (pcl Ga8 hr T.gj (A0a (pv 0) A0d)))
   (A0e (A1k PassesOwn.leaving rfl (A1b (A0t (pv 0) rfl)) (A0h (i:=3) A4i.nd rfl (.inl rfl))
    (A0e (A1k PassesOwn.leaving rfl (A1b (pcl Gb9 hr T.f_ (A0a (A0t (pv 3) rfl) A0d))) (A0h (i:=4) A4i.nd rfl (.inl rfl))
     (A0e (A1n (A2k (A0s A1h (by rfl) T.ac Z0d (A0a (A0t (pv 4) rfl) (A0a (A3p (v:=V.ref t.ah) rfl T.vd rfl) A0d))))
      (A0e (A1y (A3g Gd7 (hr.mono (by lia)) rfl T.fj.m T.fj.F.kp T.fj.b .nil A8y (A0a (pv 3) (A0a (pv 4) (A0a (pv 1) (A0a (A3j hu (pv 2) (A0t (A0t (pv 4) rfl) rfl) (λ_ _=>rfl)) A0d)))))))
      A0r)))))))),?_⟩
  refine ⟨_,rfl,p,wh,ax,tb,ls,os,rfl,pr,λld hld=> ?_⟩;obtain ⟨H1,s1,h1,e0⟩:=nH (o:= .dK (A1c [] (B9b ax))) hld
  try rw [e0]
  generalize hlk:A1c [] (B9b ax)=lk at *;refine ⟨_,rfl,p,wh,ax,tb,ls,os,rfl,pr.same s1,by lia,by lia,λaq ws H2 haq s2 h2 aw=> ?_⟩
  have ekeys:ws.map (·.1)=(arN tb ls).map (Sum.inr:Str->Key):=by
   have:∀{ws:List (Key×V)} {es:List (Str×List Str)},B9w (λb=>H1 b=none) H2 ws es->ws.map (·.1)=(es.map (·.1)).map (Sum.inr:Str->Key):=λh=>by
    induction h with
    | nil=>rfl
    | cons r _ ih=>rw [Z0p,Z0p,Z0p,ih,r.1]
   rw [this aw];congr 1;unfold arr arN;rw [Z0s,List.map_map];rfl
  have emg:A1c [] ws=ws:=by
   have:=A5z (ws:=ws) (acc:=[]) (by rw [List.nil_append,ekeys];exact C5c ok.nd);rw [List.nil_append] at this;exact this
  rw [emg] at h2;have s12:=s1.trans s2;have aw':B9w (λ_=>True) H2 ws (arr tb ls):=Paired.mapP aw (by rintro _ _ ⟨z1,b,z2,z3,z4⟩;exact ⟨z1,b,z2,True.intro,z4⟩);refine ⟨_,rfl,p,_,dx,_,_,rfl,s12 _ _ e,T.ao,T.br,(by walk_at "lk"),l,rfl,⟨_,SqL.of (s12 _ _ hl)⟩,?_⟩
  refine A1f (K:=K) (a:=l) (xs:=xl) (λi σ G=>∃(o3 o4:Option V),σ=[Sro p,Sro ld,Sro aq,o3,o4]/\A0p H2 G/\D6x L (arr tb ls) ls=(ls.drop i).findSome? λle=>(D2f L (arr tb ls) le).map λr=>(le.1,r))
   ⟨none,none,rfl,A0p.refl _,rfl⟩ (by rintro i σ G _ ⟨_,_,_,s3,_⟩;exact SqL.of (s3 _ _ (s12 _ _ hl))) ?_ ?_
  ·rintro i y σ G hy ⟨o3,o4,rfl,s3,ef⟩;obtain ⟨le,hle,z⟩:=B2k rl hy;have lat:∀{G':Hp},A0p H G'->B2z t (λ_=>True) G' y le:=λs=>z.same s;obtain ⟨b,db,c,tv,_,rfl,eb,_,ec,ob⟩:=z;obtain ⟨k4,k5,k3⟩:=ok.l le (Z13 hle);rw [B5x hle] at ef;have s13:=s12.trans s3;refine ⟨_,rfl,b,_,db,_,_,rfl,s13 _ _ eb,T.bq,T.dz,(by walk_at "lk"),tv,le.2.2,rfl,ob.imp s13,k4,k5,λq ps H4 hq s4 h4 pp=>⟨q,rfl,⟨_,SqL.of h4⟩,?_⟩⟩;have lps:=Paired.length pp;have s14:=s13.trans s4
   refine A1f (K:=K) (a:=q) (xs:=ps) (λj σ G5=>∃(o4:Option V),σ=[Sro p,Sro ld,Sro aq,Sro b,o4]/\A0p H4 G5/\D2f L (arr tb ls) le=((prT le.2.2 [] []).drop j).findSome? (C8r L (arr tb ls) le))
    ⟨o4,rfl,A0p.refl _,rfl⟩ (by rintro j σ G5 _ ⟨_,_,s5,_⟩;exact SqL.of (s5 _ _ h4)) ?_ ?_
   ·rintro j z σ G5 hz ⟨o4,rfl,s5,eg⟩;obtain ⟨⟨u,ss,gg⟩,hqq,pz⟩:=B2k pp hz;have pat:∀{G':Hp},A0p H4 G'->A4v t G' z (u,ss,gg):=λs=>pz.same s;obtain ⟨pa,dp,pv',sl,gl,gs,rfl,ep,obp,hsl,hgl,lgs,lss,pgs⟩:=id pz;rw [B5x hqq] at eg;have s15:=s14.trans s5;obtain ⟨C,bb,ty,isi,it,if'⟩:=isRd T (obp.imp s5);refine ⟨_,rfl,pa,_,dp,_,_,rfl,s5 _ _ ep,T.ap,T.a_,(by walk_at "lk"),_,_,_,bb,rfl,ty,isi,bb,rfl,C4a (λb1=> ?_) (λb0=> ?_)⟩
    ·obtain ⟨a',ix,hux⟩:=it b1;have hux:u= .read a' ix:=hux;subst hux;obtain ⟨li,zs,hzs,lz⟩:=k3 _ (Z13 hqq) a' ix rfl
     obtain ⟨ro,rdx,rl',rfl,ho,_⟩:∃o dx l,pv'= .ref o/\H4 o=some (.ins t.ah dx [("array",.str a'),("indexes",.ref l)])/\Rep H4 (.ref l) (A6p ix):=by
      cases obp with
      | @read o dx l _ _ e r=>exact ⟨o,dx,l,rfl,e,r⟩
     have erp:C8r L (arr tb ls) le (.read a' ix,ss,gg)=(B3d (A4a L (le.2.1++ss) gg ix) (zs.map L) (decide (a'=le.1)) le.2.1.length).map λe=>(a',e):=by
      show (B3d (A4a L (le.2.1++ss) gg ix) (((shp (arr tb ls) a').getD []).map L) (decide (a'=le.1)) le.2.1.length).map (λe=>(a',e))=_;rw [hzs];rfl
     obtain ⟨zs',c',hs',hv',hc'⟩:∃zs c,shp (arr tb ls) a'=some zs/\A4x ws (Sum.inr a')=some (.ref c)/\H2 c=some (.lst (zs.map V.str)):=by
      rcases B6h (a:=a') aw' with ⟨z1,_⟩ | z
      ·rw [hzs] at z1;cases z1
      ·exact z
     rw [hzs] at hs';cases hs';have s25:A0p H2 G5:=s3.trans (s4.trans s5);have gk:=B2h.k (H:=G5) (a:=aq) (k:=Sum.inr a') (s25 _ _ h2);rw [hv'] at gk
     have tz:A4t lk L zs:=by
      have:(a',zs)∈arr tb ls:=by
       unfold shp at hzs;obtain ⟨e',he',ee⟩:=Z0i.mp hzs;have h1:=List.find?_some he';have h2:=List.mem_of_find?_eq_some he';have h1:e'.1=a':=of_decide_eq_true h1;rw [<-h1,<-ee];exact h2
      exact ok.tk _ this
     refine ⟨_,rfl,_,rfl,_,rfl,_,rfl,_,rfl,pa,_,dp,_,_,rfl,s5 _ _ ep,T.ap,T.a_,(by walk_at "lk"),ro,_,rdx,_,_,rfl,s5 _ _ ho,T.bu,T.bw,(by walk_at "lk"),aq,_,rfl,gk,.ref b,.ref pa,ld,c',le,a',ix,ss,gg,lk,L,zs,rfl,lat s15,pat s5,s25 _ _ (s2 _ _ h1),li,s25 _ _ hc',tz,lz,λhn G6 s6=> ?_,λb' e' he'=> ?_⟩
     ·rw [erp,hn] at eg;exact ⟨some (.ref pa),rfl,s5.trans s6,eg⟩
     ·rw [erp,he'] at eg;have eg:D2f L (arr tb ls) le=some (a',(b',e')):=eg;rw [eg] at ef;exact (ko.2 le.1 a' b' e' ef).of s15
    ·have erp:C8r L (arr tb ls) le (u,ss,gg)=none:=by
      have:=if' b0
      cases u with
      | read a ix=>exact absurd rfl (this a ix)
      | _=>rfl
     rw [erp] at eg;exact ⟨some (.ref pa),rfl,s5,eg⟩
   ·rintro σ G5 ⟨o4,rfl,s5,eg⟩;rw [lps,Z2i] at eg;have eg:D2f L (arr tb ls) le=none:=eg;rw [eg] at ef;exact ⟨some (.ref b),o4,rfl,s3.trans (s4.trans s5),ef⟩
  ·rintro σ G ⟨o3,o4,rfl,s3,ef⟩;rw [lxl,Z2i] at ef;exact ko.1 ef G (s12.trans s3)
theorem D6t (T:Txt K mg t):A4m P w K mg base (CXD P w) 17 t.vI t.vM A2z (D3n t):=by
 have Gd8:= @B6p P w K mg base t T;have Gd9:= @B6i P w K mg base t T;have Ge0:= @B6n P w K mg base t T;have Ge1:= @B7w P w K mg base t T;refine T.u9.F.okD D6f (by walk_at "ln") λ_ A _ s H _ Q E hr h=> ?_
 ·obtain ⟨p,wh,ax,tb,ls,os,L,rfl,pr,nin,gn,gs,tin,el,wk,sm,km,kr⟩:=h
  refine ⟨_,(A0c (A1y (A3g Gd8 (hr.mono (by lia)) rfl T.fh.m T.fh.F.kp T.fh.b .nil A8y (A0a (pv 0) A0d)))
   (A0c (A1y (A3g Ge0 (hr.mono (by lia)) rfl T.fe.m T.fe.F.kp T.fe.b .nil A8y (A0a (pv 0) A0d)))
   (A0c (A1y (A3g Ge1 (hr.mono (by lia)) rfl T.gw.m T.gw.F.kp T.gw.b .nil A8y (A0a (pv 0) A0d)))
   (A0e (A1y (A3g Gd9 (hr.mono (by lia)) rfl T.fi.m T.fi.F.kp T.fi.b .nil A8y (A0a (pv 0) A0d))))))),?_⟩
  refine ⟨_,rfl,p,wh,ax,tb,ls,os,rfl,pr,nin,λ_ _ H1 s1=> ?_,λz=>absurd gn z,λ_ z=>absurd gs z⟩;refine ⟨_,rfl,p,wh,ax,tb,ls,os,rfl,pr.same s1,tin,λ_ H2 s2=> ?_,λb z=>by rw [el] at z;cases z⟩;have s12:=s1.trans s2;refine ⟨_,rfl,p,wh,ax,tb,ls,os,L,rfl,pr.same s12,wk,sm,λh4 H3 s3=> ?_,λh4 H3 s3=>km h4 H3 (s12.trans s3)⟩;have s13:=s12.trans s3;exact ⟨_,rfl,p,wh,ax,tb,ls,os,L,rfl,pr.same s13,(kr h4).1,(kr h4).2.of s13⟩
structure E3i (ax:List (Str×Int)) (tb:List (Str×List Str)) (ls:List Lt) (os:List Str) (L:Str->Int):Prop where
 nin:E1u ax tb ls os
 gn:GdN ax tb ls os
 gs:GdS ax tb ls
 tin:E0z ax tb ls
 el:B7a (axN ax) tb ls=none
 wk:E0t (A1c [] (B9b ax)) L tb ls
 sm:Sm (wrk L tb ls)
 rd:wrk L tb ls<=4000->E1v (A1c [] (B9b ax)) L tb ls
abbrev Du:=Str×Str×(List Int×List Int)
def D1w (H:Hp) (v:V) (d:Du):Prop:=∃dt s c,v= .ref dt/\H dt=some (.tup [.str d.1,.str d.2.1,.ref s,.ref c])/\H s=some (.tup (d.2.2.1.map V.int))/\H c=some (.tup (d.2.2.2.map V.int))
theorem D1w.same {H H':Hp} {v:V} {d:Du} (h:D1w H v d) (z:A0p H H'):D1w H' v d:=let ⟨dt,s,c,e,h1,h2,h3⟩:=h;⟨dt,s,c,e,z _ _ h1,z _ _ h2,z _ _ h3⟩
def B4t (b:Bool):Str:=if b=true then "early" else "beyond"
def D4l:Option (Str×(Str×Tld))->Du->Prop
 | none,d=>d.1="by"
 | some (x,(a,(b,e))),d=>x="mine"/\d=(B4t b,a,e)
def C6k (ea:Addr):Sp:=λvs H Q _=>∃(p d:Addr) (ns:List Int) (C:Addr) (od:Option Addr),vs=[.ref p,.ref d]/\H p=some (.tup (ns.map V.int))/\H d=some (.tup (ns.map V.int))/\H ea=some (.ext (xcG ea C od))/\∀H',A0p H H'->Q (.bl true) H'
def D0f (A:Adr) (ea:Addr):Sp:=λvs H Q _=>∃(b:Bool) (dx dt s0 c0 sp ce:Addr) (wd a:Str) (e:List Int×List Int),vs=[.ref ea,.ref dt]/\H ea=some (.ext (xcG ea (B7t A b) (some dx)))/\H dx=some (.xd [("name",.str "mine"),("array",.str a),("spot",.ref sp),("cell",.ref ce)])/\H sp=some (.tup (e.1.map V.int))/\H ce=some (.tup (e.2.map V.int))/\H dt=some (.tup [.str wd,.str a,.ref s0,.ref c0])/\H s0=some (.tup (e.1.map V.int))/\H c0=some (.tup (e.2.map V.int))/\∀H',A0p H H'->Q (.bl true) H'
def D0x (A:Adr):Sp:=λvs H Q _=>∃(p:Addr) (v:V) (wh:Int) (ax:List (Str×Int)) (tb:List (Str×List Str)) (ls:List Lt) (os:List Str) (L:Str->Int) (d:Du),vs=[.ref p,v]/\B9v A H p wh ax tb ls os/\E3i ax tb ls os L/\(4000<wrk L tb ls->d.1="much")/\(wrk L tb ls<=4000->D4l (D6x L (arr tb ls) ls) d)/\D1w H v d/\∀H',A0p H H'->Q (.bl true) H'
theorem B9x (T:Txt K mg t) (ea:Addr):C8x ea P w K mg base CX0 1 t.sj t.rn D0e (C6k ea):=by
 refine T.cu.F.okE A9i (by walk_at "ln") (λcdv A outer s H vs Q E hr hh h=> ?_)
 ·obtain ⟨p,d,ns,C,od,rfl,hp,hd,he,k⟩:=h
  refine ⟨_,(A0c (A1n (PW.pt (C1o (B2o (A2k (A0s A1h (by rfl) T.ac Z0d (A0a (pv 0) (A0a (A4n (v:=V.ty "tuple") rfl T.fo Z0m rfl) A0d))))) (B5l (A0z B0f (A0s A1d (by rfl) T.cw Z0r (A0a (pv 0) A0d)) (A0s A1d (by rfl) T.cw Z0r (A0a (pv 1) A0d)) (A1i _)))))
    (A0e (A0v B0v))
    A0r)
   (A0c (D6g (ok:=B2f ea) PassesOwn.never hh (C8f rfl T.tY (A0a (pv 0) (A0a (pv 1) A0d))) (D4v (ea:=ea) (n:=2) hh (A0k (A0h (i:=2) A9i.nd rfl (.inl rfl)) (A0k (A0h (i:=3) A9i.nd rfl (.inl rfl)) A1s)))
    (A0e (A1n (PW.pt (C1o (B2o (A2k (A0s A1h (by rfl) T.ac Z0d (A0a (pv 2) (A0a (A4n (v:=V.ty "int") rfl T.vg PyProof.Rows.boot_int rfl) A0d))))) (C1o (A2k (A0s A1h (by rfl) T.ac Z0d (A0a (pv 2) (A0a (A4n (v:=V.ty "bool") rfl T.vY PyProof.Rows.boot_bool rfl) A0d)))) (B5l (A0z B0f (pv 2) (pv 3) (A1i _))))))
     (A0e (A0v B0v))
     A0r)))
   (A0e (A0v B0v)))),?_⟩
  refine ⟨_,rfl,_,_,_,_,rfl,.tup hp,B0h "tuple",true,rfl,A3v ?_⟩;refine ⟨_,rfl,p,_,rfl,.inr (SqT.of hp),_,rfl,d,_,rfl,.inr (SqT.of hd),rfl,_,rfl,A8n (λz=>absurd rfl z) (λ_=> ?_)⟩;refine ⟨_,rfl,_,rfl,p,d,_,_,rfl,SqT.of hp,SqT.of hd,?_⟩;refine C4m (ea:=ea) (K:=K) (a:=p) (b:=d) (xs:=ns.map V.int) (ys:=ns.map V.int) (λi σ G=>∃(o2 o3:Option V),σ=[Sro p,Sro d,o2,o3]/\A0p H G) ⟨none,none,rfl,A0p.refl _⟩ (by rintro i σ G ⟨_,_,_,s2⟩;exact ⟨SqT.of (s2 _ _ hp),SqT.of (s2 _ _ hd),C,od,s2 _ _ he⟩) rfl ?_ ?_
  ·rintro i x y σ G q hx hy ⟨o2,o3,rfl,s2⟩ hq;rw [hx] at hy;cases hy;obtain ⟨n,hn,rfl⟩:=A1r hx;have sq:A0p G (upd G q (.tup [.int n,.int n])):=A0f hq;refine ⟨q,_,rfl,SqT.of A0b,rfl,⟨C,od,sq _ _ (s2 _ _ he)⟩,_,_,rfl,_,_,rfl,rfl,?_⟩;refine ⟨_,rfl,_,_,_,_,rfl,.int _,B0h "int",true,rfl,A3v ?_⟩;refine ⟨_,rfl,_,_,_,_,rfl,.int _,C2o (by decide +kernel) (by decide +kernel) (by decide +kernel),false,rfl,A3v ?_⟩;exact ⟨_,rfl,_,rfl,rfl,_,rfl,A8n (λz=>absurd rfl z) (λ_=>⟨_,_,rfl,s2.trans sq⟩)⟩
  ·rintro σ G ⟨o2,o3,rfl,s2⟩;exact k G s2
theorem xcT (T:Txt K mg t) (b:Bool):PySem.W.XcIn K (B7t t b):=by
 cases b
 ·exact T.p7
 ·exact T.tX
theorem kxT (T:Txt K mg t) (b:Bool):kitOne K (.ref (B7t t b)) (.ref t.dv)=some true:=by
 cases b
 ·exact T.iz
 ·exact T.lu
theorem xmT (T:Txt K mg t) (b:Bool):mroIn K (B7t t b) (.type "ValueError")=some true:=by
 cases b
 ·exact T.ip
 ·exact T.ka
theorem xgT (T:Txt K mg t) (b:Bool):C4g K (B7t t b) "name"/\C4g K (B7t t b) "array"/\C4g K (B7t t b) "spot"/\C4g K (B7t t b) "cell":=by
 cases b
 ·exact ⟨T.nw,T.ml,T.ni,T.o_⟩
 ·exact ⟨T.so,T.rj,T.s_,T.sk⟩
theorem C7u (T:Txt K mg t) (ea:Addr):C8x ea P w K mg base CX0 2 t.uF t.uK C9g (D0f t ea):=by
 have GE_l_wholes:= @B9x P w K mg base t T;refine T.g0.F.okE C7l (by walk_at "ln") (λcdv A outer s H vs Q E hr hh h=> ?_)
 ·obtain ⟨b,dx,dt,s0,c0,sp,ce,wd,a,e,rfl,he,hd,hs,hc,hdt,hs0,hc0,k⟩:=h;obtain ⟨g1,g2,g3,g4⟩:=xgT T b;have a1:atI [V.str wd,.str a,.ref s0,.ref c0] 1=some (.str a):=A4c (j:=1) rfl;have a2:atI [V.str wd,.str a,.ref s0,.ref c0] 2=some (.ref s0):=A4c (j:=2) rfl;have a3:atI [V.str wd,.str a,.ref s0,.ref c0] 3=some (.ref c0):=A4c (j:=3) rfl
  refine ⟨_,(A0c (A1n (PW.pt (C1o (B2o (A2k (A0s (B8n (K:=K) rfl) (by rfl) T.ac Z0d (A0a (pv 0) (A0a (A3p (v:=V.ref t.dv) rfl T.uN rfl) A0d))))) (B5l (B2o (A2k (A0s (B8n (K:=K) rfl) (by rfl) T.ac Z0d (A0a (pv 0) (A0a (A4n (v:=V.ty "ValueError") rfl T.uo PyProof.Rows.Boot.«ValueError» rfl) A0d))))))))
    (A0e (A0v B0v))
    A0r)
   (A0c (A1n (PW.pt (C1o (A0z B0f (B7f (K:=K) rfl (pv 0) rfl) A1w (A1i _)) (B5l (A0z B0f (B7f (K:=K) rfl (pv 0) rfl) (A3y (A9x (K:=K) rfl) (pv 1) A0l (λ_ _=>rfl)) (A1i _)))))
    (A0e (A0v B0v))
    A0r)
   (A0e (A0v (A7m (B3b (GE_l_wholes _) (hr.mono (by lia)) hh rfl T.cu.m T.cu.F.kp T.cu.b .nil B4r (A0a (B7f (K:=K) rfl (pv 0) rfl) (A0a (A3y (A9x (K:=K) rfl) (pv 1) A0l (λ_ _=>rfl)) A0d))) (B0n (B3b (GE_l_wholes _) (hr.mono (by lia)) hh rfl T.cu.m T.cu.F.kp T.cu.b .nil B4r (A0a (B7f (K:=K) rfl (pv 0) rfl) (A0a (A3y (A9x (K:=K) rfl) (pv 1) A0l (λ_ _=>rfl)) A0d))))))))),?_⟩
  refine ⟨_,rfl,ea,B7t t b,some dx,_,true,rfl,he,xcT T b,A1g (kxT T b),true,rfl,A3v ?_⟩;refine ⟨_,rfl,ea,B7t t b,some dx,_,true,rfl,he,xcT T b,C2r (xmT T b) (by decide +kernel),true,rfl,A3v ?_⟩;refine ⟨_,rfl,ea,B7t t b,dx,_,.str "mine",rfl,he,hd,(by walk_at "lk"),g1,rfl,_,rfl,A8n (λz=>absurd rfl z) (λ_=> ?_)⟩;refine ⟨_,rfl,ea,B7t t b,dx,_,.str a,rfl,he,hd,(by walk_at "lk"),g2,_,rfl,dt,_,_,_,rfl,rfl,SqT.of hdt,a1,rfl,_,rfl,A8n (λz=>absurd rfl z) (λ_=> ?_)⟩;refine ⟨_,rfl,ea,B7t t b,dx,_,.ref sp,rfl,he,hd,(by walk_at "lk"),g3,_,rfl,dt,_,_,_,rfl,rfl,SqT.of hdt,a2,sp,s0,e.1,B7t t b,some dx,rfl,hs,hs0,he,λH4 s4=>⟨true,rfl,B2r ?_⟩⟩;exact ⟨_,rfl,ea,B7t t b,dx,_,.ref ce,rfl,s4 _ _ he,s4 _ _ hd,(by walk_at "lk"),g4,_,rfl,dt,_,_,_,rfl,rfl,SqT.of (s4 _ _ hdt),a3,ce,c0,e.2,B7t t b,some dx,rfl,s4 _ _ hc,s4 _ _ hc0,s4 _ _ he,λH5 s5=>k _ (s4.trans s5)⟩
theorem C3c (T:Txt K mg t):FO P w base T.kx 18 (D0x t):=by
 have Ge2:= @D6t P w K mg base t T;have GE_l_told:= @C7u P w K mg base t T;refine T.kx.F.ok A5k (by walk_at "ln") λ_ A _ s H _ Q E hr h=> ?_
 ·obtain ⟨p,v,wh,ax,tb,ls,os,L,d,rfl,pr,lk,hdm,hdr,da,k⟩:=h
  refine ⟨_,(A0c (A0n (i:=2) A5k.nd rfl (.inl rfl) A0l)
   (A0c (D0z (i:=2) ⟨rfl,rfl⟩ (C9y Ge2 (hr.mono (by lia)) rfl T.u9.m T.u9.F.kp T.u9.b (A0a (pv 0) A0d)) A5k.nd rfl (.inl rfl))
   (A0e (A0v (A7m (A3q D8a (pv 2) D8l (A1i _)) (B0n (A3q A5x (A3y (A9x (K:=K) rfl) (pv 1) A0l (λ_ _=>rfl)) A1w (A1i _)))))))),?_⟩
  obtain ⟨dt,s0,c0,rfl,hdt,hs0,hc0⟩:=da;have a0:atI [V.str d.1,.str d.2.1,.ref s0,.ref c0] 0=some (.str d.1):=A4c (j:=0) rfl;refine ⟨_,rfl,p,wh,ax,tb,ls,os,L,rfl,pr,lk.nin,lk.gn,lk.gs,lk.tin,lk.el,lk.wk,lk.sm,λh4 H1 s1=>⟨t.al,_,rfl,(D6l (i:=3) rfl T.ft T.me A5k.nd rfl rfl (λ_=>(A0e (A0v (A7m (A3q A5x (A3y (A9x (K:=K) rfl) (pv 1) A0l (λ_ _=>rfl)) A1w (A1i _)) (B0n (C6q (A0s (B1y (K:=K) rfl) (by rfl) T.ac Z0d (A0a (pv 3) (A0a (A2g (A0a (A3p (v:=V.ref t.aa) rfl T.dq rfl) (A0a (A3p (v:=V.ref t.af) rfl T.oq rfl) A0d))) A0d)))))))))),λea hea=> ?_⟩,λh4=>⟨lk.rd h4,λhn H1 s1=> ?_,λx a b e hre dx sp ce H1 s1 hdx hs hc=> ?_⟩⟩
  ·have s2:A0p H1 (upd H1 ea (.ext (xcG ea t.al none))):=A0f hea;have s12:=s1.trans s2;refine ⟨_,rfl,dt,_,_,_,rfl,rfl,SqT.of (s12 _ _ hdt),a0,rfl,?_⟩;rw [hdm h4];refine ⟨true,rfl,B2r ⟨_,rfl,A0q rfl,λtp htp=> ?_⟩⟩;have s3:=A0f (o:= .tup [.ref t.aa,.ref t.af]) htp;refine ⟨ea,t.al,none,tp,_,false,rfl,s3 _ _ A0b,T.vb,A0b,A4u (cs:=[t.aa,t.af]) (λc hc=> ?_),false,rfl,k _ (s12.trans s3)⟩;simp only [Z0e,Z1i,or_false] at hc;rcases hc with rfl | rfl
   ·exact T.jo
   ·exact T.mt
  ·have hd:=hdr h4;rw [hn] at hd;have hd:d.1="by":=hd;refine ⟨_,rfl,rfl,true,rfl,B2r ⟨_,rfl,dt,_,_,_,rfl,rfl,SqT.of (s1 _ _ hdt),a0,rfl,?_⟩⟩;rw [hd];exact k _ s1
  ·have hd:=hdr h4;rw [hre] at hd;obtain ⟨rfl,rfl⟩:x="mine"/\d=(B4t b,a,e):=hd
   cases b with
   | false =>
    refine ⟨t.aa,_,rfl,(B6b rfl T.ft T.jh (C2w (i:=3) rfl T.dq T.j6 A5k.nd rfl rfl (λ_=>(A0e (A0v (A7m (A3q A5x (A3y (A9x (K:=K) rfl) (pv 1) A0l (λ_ _=>rfl)) A1w (A1i _)) (A7m (B3b (GE_l_told _) ((hr.mono (by lia)).held _) rfl rfl T.g0.m T.g0.F.kp T.g0.b .nil B4r (A0a (pv 3) (A0a (pv 1) A0d))) (B0n (C6q (A0s (B1y (K:=K) rfl) (by rfl) T.ac Z0d (A0a (pv 3) (A0a (A2g (A0a (A3p (v:=V.ref t.al) rfl T.ft rfl) (A0a (A3p (v:=V.ref t.af) rfl T.oq rfl) A0d))) A0d)))))))))))),λea hea=> ?_⟩;have s2:A0p H1 (upd H1 ea (.ext (xcG ea t.aa (some dx)))):=A0f hea;have he2:upd H1 ea (.ext (xcG ea t.aa (some dx))) ea=some (.ext (xcG ea t.aa (some dx))):=A0b;have s12:=s1.trans s2;refine ⟨_,rfl,dt,_,_,_,rfl,rfl,SqT.of (s12 _ _ hdt),a0,rfl,⟨true,rfl,B2r ?_⟩⟩;refine ⟨_,rfl,_,rfl,false,dx,dt,s0,c0,sp,ce,B4t false,a,e,rfl,he2,s2 _ _ hdx,s2 _ _ hs,s2 _ _ hc,s12 _ _ hdt,s12 _ _ hs0,s12 _ _ hc0,λH3 s3=>⟨true,rfl,B2r ⟨_,rfl,A0q rfl,λtp htp=> ?_⟩⟩⟩;have s4:=A0f (o:= .tup [.ref t.al,.ref t.af]) htp;refine ⟨ea,t.aa,some dx,tp,_,false,rfl,s4 _ _ (s3 _ _ he2),T.p7,A0b,A4u (cs:=[t.al,t.af]) (λc hc=> ?_),false,rfl,k _ (s12.trans (s3.trans s4))⟩;simp only [Z0e,Z1i,or_false] at hc;rcases hc with rfl | rfl
    ·exact T.jp
    ·exact T.kz
   | true =>
    refine ⟨t.af,_,rfl,(B6b rfl T.ft T.mr (B6b rfl T.dq T.lh (C2w (i:=3) rfl T.oq T.pq A5k.nd rfl rfl (λ_=>(A0e (A0v (A7m (A3q A5x (A3y (A9x (K:=K) rfl) (pv 1) A0l (λ_ _=>rfl)) A1w (A1i _)) (A7m (B3b (GE_l_told _) ((hr.mono (by lia)).held _) rfl rfl T.g0.m T.g0.F.kp T.g0.b .nil B4r (A0a (pv 3) (A0a (pv 1) A0d))) (B0n (C6q (A0s (B1y (K:=K) rfl) (by rfl) T.ac Z0d (A0a (pv 3) (A0a (A2g (A0a (A3p (v:=V.ref t.al) rfl T.ft rfl) (A0a (A3p (v:=V.ref t.aa) rfl T.dq rfl) A0d))) A0d))))))))))))),λea hea=> ?_⟩;have s2:A0p H1 (upd H1 ea (.ext (xcG ea t.af (some dx)))):=A0f hea;have he2:upd H1 ea (.ext (xcG ea t.af (some dx))) ea=some (.ext (xcG ea t.af (some dx))):=A0b;have s12:=s1.trans s2;refine ⟨_,rfl,dt,_,_,_,rfl,rfl,SqT.of (s12 _ _ hdt),a0,rfl,⟨true,rfl,B2r ?_⟩⟩;refine ⟨_,rfl,_,rfl,true,dx,dt,s0,c0,sp,ce,B4t true,a,e,rfl,he2,s2 _ _ hdx,s2 _ _ hs,s2 _ _ hc,s12 _ _ hdt,s12 _ _ hs0,s12 _ _ hc0,λH3 s3=>⟨true,rfl,B2r ⟨_,rfl,A0q rfl,λtp htp=> ?_⟩⟩⟩;have s4:=A0f (o:= .tup [.ref t.al,.ref t.aa]) htp;refine ⟨ea,t.af,some dx,tp,_,false,rfl,s4 _ _ (s3 _ _ he2),T.tX,A0b,A4u (cs:=[t.al,t.aa]) (λc hc=> ?_),false,rfl,k _ (s12.trans (s3.trans s4))⟩;simp only [Z0e,Z1i,or_false] at hc;rcases hc with rfl | rfl
    ·exact T.og
    ·exact T.k_
theorem B7z {D:Addr} {H H':Hp} (o:Oth D H H'):KB D H H':=λb u hb e=>by rw [o b hb];exact e
def D4p:Sp:=λvs H Q _=>∃(r:Addr) (ns:List Int),vs=[.ref r]/\H r=some (.lst (ns.map V.int))/\∀(i:Int) (ms:List Int) (H':Hp),ms.length<=ns.length->H' r=some (.lst (ms.map V.int))->Oth r H H'->(ns=[]->H'=H)->Q (.int i) H'
def C5k (H:Hp) (v:V) (e:Str×Int):Prop:=∃q,v= .ref q/\H q=some (.tup [.str e.1,.int e.2])
theorem C5k.kt {H H':Hp} {v:V} {e:Str×Int} (h:C5k H v e) (f:∀b xs,H b=some (.tup xs)->H' b=some (.tup xs)):C5k H' v e:=let ⟨q,e,z⟩:=h;⟨q,e,f _ _ z⟩
theorem C1s {H:Hp}:∀{xs:List V} {ix:List (Str×Int)},Paired (C5k H) xs ix->A5j H xs (ix.map B7u)
 | _,_,.nil=> .nil
 | _,_,.cons ⟨q,e1,e2⟩ t=>by rw [e1];exact .cons (.tup e2 (.cons (.str _) (.cons (.int _) .nil))) (C1s t)
def C1v (H:Hp) (v:V) (g:Gd):Prop:=∃q,v= .ref q/\H q=some (.tup [.str g.1,.int g.2.1,.int g.2.2.1,.bl g.2.2.2])
theorem C1v.same {H H':Hp} {v:V} {g:Gd} (h:C1v H v g) (s:A0p H H'):C1v H' v g:=let ⟨q,e,z⟩:=h;⟨q,e,s _ _ z⟩
theorem C1v.kt {H H':Hp} {v:V} {g:Gd} (h:C1v H v g) (f:∀b xs,H b=some (.tup xs)->H' b=some (.tup xs)):C1v H' v g:=let ⟨q,e,z⟩:=h;⟨q,e,f _ _ z⟩
theorem B1a {k:Key}:∀(more acc:List (Key×V)),(∀p∈more,¬p.1=k)->A4x (A1c acc more) k=A4x acc k
 | [],acc,_=>rfl
 | q::more,acc,h=>by
  show A4x (A1c (A9e acc q.1 q.2) more) k=_;rw [B1a more _ λp hp=>h p (.tail _ hp),A7e,Z0t (λz=>h q (.head _) z.symm)]
theorem C2c {k:Key}:∀(more acc acc':List (Key×V)),(∃p∈more,p.1=k)->A4x (A1c acc more) k=A4x (A1c acc' more) k
 | [],_,_,⟨p,hp,_⟩=>by cases hp
 | q::more,acc,acc',h=>by
  show A4x (A1c (A9e acc q.1 q.2) more) k=A4x (A1c (A9e acc' q.1 q.2) more) k;by_cases hm:∃p∈more,p.1=k
  ·exact C2c more _ _ hm
  ·have hn:∀p∈more,¬p.1=k:=λp hp e=>hm ⟨p,hp,e⟩;obtain ⟨p,hp,e⟩:=h;rcases Z0e.mp hp with rfl | hp
   ·rw [B1a more _ hn,B1a more _ hn,A7e,A7e,Z12 e.symm,Z12 e.symm]
   ·exact absurd e (hn p hp)
def atK (ys:List Str) (c:List Int):List (Key×V):=A1c [(Sum.inr "",V.int 0)] ((ys.map (Sum.inr:Str->Key)).zip (c.map V.int))
theorem D9z {ys:List Str} {c:List Int} (l:c.length=ys.length) {x:Str} (h:x∈ys):A4x (atK ys c) (Sum.inr x)=some (.int (ai (C2l ys c) x)):=by
 rw [<-C6l l h];refine C2c _ _ _ ?_;obtain ⟨j,hj⟩:=List.getElem?_of_mem h;have hl:=(Z03.mp hj).1;refine ⟨(Sum.inr x,V.int (c[j]'(by lia))),?_,rfl⟩;refine List.mem_iff_getElem?.mpr ⟨j,?_⟩;rw [Z2m];exact ⟨by rw [Z1z,hj];rfl,by rw [Z1z,Z0b (by lia)];rfl⟩
theorem E2g {ys:List Str} {c:List Int} (h:("":Str)∉ys):A4x (atK ys c) (Sum.inr "")=some (.int 0):=by
 unfold atK;rw [B1a _ _ λp hp e=> ?_]
 ·exact A3m rfl
 ·have:=(List.of_mem_zip hp).1;obtain ⟨y,hy,ey⟩:=Z2c.mp this;rw [<-ey] at e;injection e with e;exact h (e▸hy)
def D8t:Sp:=λvs H Q _=>∃(c l:Addr) (cs ls:List Int),vs=[.ref c,.ref l]/\H c=some (.tup (cs.map V.int))/\H l=some (.lst (ls.map V.int))/\cs.length=ls.length/\∀H',A0p H H'->Q (.bl (!inR cs ls)) H'
def D7j:Sp:=λvs H Q _=>∃(c l:Addr) (cs ss:List Int),vs=[.ref c,.ref l]/\H c=some (.tup (cs.map V.int))/\H l=some (.tup (ss.map V.int))/\cs.length<=ss.length/\∀H',A0p H H'->Q (.bl (HT.lexLt cs (ss.take cs.length))) H'
def C5b:Sp:=λvs H Q _=>∃(bl d gl il:Addr) (ys:List Str) (lk:List (Key×V)) (L:Str->Int) (gv:List V) (gs:List Gd) (xs:List V) (ix:List (Str×Int)),vs=[.ref bl,.ref d,.ref gl,.ref il]/\H bl=some (.lst (ys.map V.str))/\H d=some (.dK lk)/\A4t lk L ys/\C0q (ys.map L)/\("":Str)∉ys/\H gl=some (.lst gv)/\Paired (C1v H) gv gs/\(∀g∈gs,g.1∈ys)/\H il=some (.lst xs)/\Paired (C5k H) xs ix/\(∀e∈ix,¬e.1=""->e.1∈ys)/\ix.length<=3/\∀(q:Addr) (vs':List V) (H':Hp),H q=none->A0p H H'->H' q=some (.lst vs')->Paired (C8o H') vs' (A4a L ys gs ix)->Q (.ref q) H'
def D2v (a:Str) (szs:List Int) (lds:List (List Int×List Int)) (n:Nat):Du:=match B3d lds szs (decide (a="mine")) n with
 | some (b,e)=>(B4t b,a,e)
 | none=>("by",a,([],[]))
def D5b:Sp:=λvs H Q _=>∃(ll sl:Addr) (a:Str) (xs:List V) (lds:List (List Int×List Int)) (szs:List Int),vs=[.ref ll,.str a,.ref sl]/\H ll=some (.lst xs)/\Paired (C8o H) xs lds/\H sl=some (.lst (szs.map V.int))/\(∀e∈lds,e.2.length=szs.length)/\(a="mine"->∀e∈lds,szs.length<=e.1.length)/\∀(v:V) (H':Hp),A0p H H'->D1w H' v (D2v a szs lds szs.length)->Q v H'
theorem B0y (T:Txt K mg t):FO P w base T.cm 1 D4p:=by
 refine T.cm.F.ok C5f (by walk_at "ln") λ_ A _ s H _ Q E hr h=> ?_
 ·obtain ⟨r,ns,rfl,hns,k⟩:=h
  refine ⟨_,(A0c (A1n (A0z A5x (A0s A1d (by rfl) T.cw Z0r (A0a (pv 0) A0d)) A0l (A1i _))
    (A0e (A0v A0l))
    A0r)
   (A0e (A0v (D2m Z0k PySem.F.slot_list_pop PySem.F.type_list_pop D9m (pv 0))))),?_⟩
  refine ⟨_,rfl,r,_,rfl,.inl (SqL.of hns),rfl,_,rfl,A9m (λ_=> ?_) (λh=> ?_)⟩
  ·exact k 0 ns H (Z09 _) hns (λ_ _=>rfl) λ_=>rfl
  ·have hpos:0<ns.length:=by
    rcases Nat.eq_zero_or_pos ns.length with z | z
    ·exact absurd (by rw [Z08,z];rfl) h
    ·exact z
   have e:(ns.map V.int)[(ns.map V.int).length-1]? =some (V.int (ns[ns.length-1]'(by lia))):=by
    rw [Z08,Z1z,Z0b (by lia:ns.length-1<ns.length)];rfl
   refine ⟨_,rfl,.inl ⟨rfl,_,SqL.of hns⟩,r,_,_,rfl,rfl,hns,e,k _ ns.dropLast _ (by simp) ?_ (λb hb=>A0j hb) λz=>by rw [z] at hpos;cases hpos⟩;rw [A0b,List.map_dropLast]
theorem C0j (T:Txt K mg t):FO P w base T.md 1 B1g:=by
 refine T.md.F.ok A7i (by walk_at "ln") λ_ A _ s H _ Q E hr h=> ?_
 ·obtain ⟨a,n,cs,rfl,⟨ps,ha,tp⟩,h8,n0,n60,few,k⟩:=h
  refine ⟨_,(A0c (A0n (i:=2) A7i.nd rfl (.inl rfl) (A2d A0d))
   (A0c (A1k PassesOwn.never rfl (A1b (pv 0)) (A0h (i:=3) A7i.nd rfl (.inl rfl))
    (A0e (A1k PassesOwn.never rfl (A6l rfl T.ku (A0a (pv 1) A0d)) (A0h (i:=4) A7i.nd rfl (.inl rfl))
     (A0e (A1y (B5j Z0k Z0n Z0o A3i (pv 2) (A0a (A0x C2u (pv 3) (A2g (A0a (pv 4) A0d))) A0d)))))))
   (A0e (A0v (pv 2))))),?_⟩
  refine ⟨A0o (by decide),λl hl=> ?_⟩;have la:a≠l:=A0g ha hl;have ha1:upd H l (.lst []) a=some (.lst (ps.map V.ref)):=by rw [A0j la];exact ha
  refine ⟨_,rfl,a,rfl,⟨_,SqL.of ha1⟩,A1f (K:=K) (a:=a) (xs:=ps.map V.ref) (λi σ H2=>∃(o3 o4:Option V) (qs:List Addr),σ=[Sro a,Sio n,Sro l,o3,o4]/\A0p H H2/\
   H2 l=some (.lst (qs.map V.ref))/\A2s H2 qs (B3j (cs.take i) n)) ⟨none,none,[],rfl,A0f hl,A0b,.nil⟩ (by rintro i σ H2 _ ⟨_,_,_,_,s2,_⟩;exact SqL.of (s2 _ _ ha)) ?_ ?_⟩
  ·rintro i y σ H2 hi ⟨o3,o4,qs,rfl,s2,h2,t2⟩;obtain ⟨pc,hpc,rfl⟩:=A1r hi;obtain ⟨c,hc,hpt⟩:=tp.get hpc;have hcm:c.length<=8:=h8 c (Z13 hc)
   refine ⟨_,rfl,n,rfl,by lia,by lia,A6r (n:=n.toNat) (λj σ H3=>∃(o4:Option V) (qs:List Addr),σ=[Sro a,Sio n,Sro l,Sro pc,o4]/\A0p H H3/\
    H3 l=some (.lst (qs.map V.ref))/\A2s H3 qs (B3j (cs.take i) n++(List.range j).map λ(m:Nat)=>c++[(m:Int)])) ⟨o4,qs,rfl,s2,h2,by simpa using t2⟩ ?_ ?_⟩
   ·rintro j σ H3 hj ⟨o4,qs,rfl,s3,h3,t3⟩;rw [Int.zero_add]
    have hql:qs.length<=300000:=by
     have e:=t3.len;rw [Z06,A9l,Z08,List.length_range] at e;have e1:(cs.take i).length*n.toNat<=4000*60:=Nat.mul_le_mul (by rw [Z0x];lia) (by lia)
     lia
    have hp3:H3 pc=some (.tup (c.map V.int)):=s3 _ _ hpt;refine ⟨_,rfl,.inl ⟨rfl,_,SqL.of h3⟩,_,rfl,_,rfl,A0q rfl,λu hu=> ?_⟩
    have fin:∀(q:Addr) (H4:Hp),A0p H3 H4->H4 q=some (.tup ((c++[(j:Int)]).map V.int))->C0k (V.ref l) [V.ref q] H4 λ_ H5=>∃(o4:Option V) (qs:List Addr),[some (V.ref a),some (.int n),some (.ref l),some (.ref pc),some (.int (j:Int))]=[some (.ref a),some (.int n),some (.ref l),some (.ref pc),o4]/\A0p H H5/\
      H5 l=some (.lst (qs.map V.ref))/\A2s H5 qs (B3j (cs.take i) n++(List.range (j+1)).map λ(m:Nat)=>c++[(m:Int)]):=λq H4 s4 h4=>by
     refine ⟨l,_,_,rfl,rfl,s4 _ _ h3,by rw [Z08];exact A1j (by lia),?_⟩;refine ⟨_,qs++[q],rfl,A0u (s3.trans s4) hl,by rw [A0b,Z0s];rfl,?_⟩;rw [List.range_succ,Z0s,<-Z0z];exact ((t3.same s4).snoc h4).lst (s4 _ _ h3)
    have s4:A0p H3 (upd H3 u (.tup [V.int (j:Int)])):=A0f hu;refine ⟨pc,u,_,_,rfl,rfl,SqT.of (s4 _ _ hp3),SqT.of A0b,(by simp),A0o (by simp;lia),λhx=> ?_,λhx p hp=> ?_⟩
    ·have ec:c=[]:=by simpa using hx
     subst ec;exact fin u _ s4 A0b
    ·refine fin p _ (s4.trans (A0f hp)) ?_;rw [A0b,Z0s];rfl
   ·rintro σ H3 ⟨o4,qs,rfl,s3,h3,t3⟩;refine ⟨_,_,qs,rfl,s3,h3,?_⟩
    have e:B3j (cs.take (i+1)) n=B3j (cs.take i) n++(List.range n.toNat).map λ(m:Nat)=>c++[(m:Int)]:=by
     rw [Z14,hc];simp [B3j]
    rw [e];exact t3
  ·rintro σ H2 ⟨o3,o4,qs,rfl,s2,h2,t2⟩;refine ⟨_,rfl,k l H2 hl s2 ⟨qs,h2,?_⟩⟩;rw [Z08,tp.len,Z18] at t2;exact t2
theorem B9l (T:Txt K mg t):FO P w base T.kg 1 D8t:=by
 refine T.kg.F.ok A7v (by walk_at "ln") λ_ A _ s H _ Q E hr h=> ?_
 ·obtain ⟨c,l,cs,ls,rfl,hc,hl,len,k⟩:=h
  refine ⟨_,(A0c (A1k PassesOwn.never rfl (C2z rfl T.tY (A0a (pv 0) (A0a (pv 1) A0d))) (A2p (n:=2) rfl (A0k (A0h (i:=2) A7v.nd rfl (.inl rfl)) (A0k (A0h (i:=3) A7v.nd rfl (.inl rfl)) A1s)))
    (A0e (A1n (PW.pt (C1o (A0z C1m (pv 2) A0l (A1i _)) (B5l (A0z E2x (pv 2) (pv 3) (A1i _)))))
     (A0e (A0v B0v))
     A0r)))
   (A0e (A0v B0v))),?_⟩
  refine ⟨_,rfl,_,rfl,c,l,_,_,rfl,SqT.of hc,SqL.of hl,?_⟩
  refine C6c (K:=K) (a:=c) (b:=l) (xs:=cs.map V.int) (ys:=ls.map V.int) (λj σ G=>∃(o2 o3:Option V),σ=[Sro c,Sro l,o2,o3]/\A0p H G/\((cs.zip ls).take j).all (λe=>decide (0<=e.1/\e.1<e.2))=true)
   ⟨_,_,rfl,A0p.refl _,rfl⟩ (by rintro j σ G ⟨_,_,_,s2,_⟩;exact ⟨SqT.of (s2 _ _ hc),SqL.of (s2 _ _ hl)⟩) (by rw [Z08,Z08];lia) ?_ ?_
  ·rintro j x y σ G p hx hy ⟨o2,o3,rfl,s2,hall⟩ hp;obtain ⟨n,hn,rfl⟩:=A1r hx;obtain ⟨sz,hsz,rfl⟩:=A1r hy;have sp':A0p G (upd G p (.tup [.int n,.int sz])):=A0f hp;have hz:(cs.zip ls)[j]? =some (n,sz):=by rw [Z2m];exact ⟨hn,hsz⟩
   have s3:=s2.trans sp'
   have bad:¬(0<=n/\n<sz)->Q (.bl true) (upd G p (.tup [.int n,.int sz])):=λhb=>by
    have:=k _ s3
    have e:inR cs ls=false:=by
     unfold inR;rw [List.all_eq_false];exact ⟨(n,sz),Z13 hz,by rw [Z1j hb];exact Z0v⟩
    rw [e] at this;exact this
   refine ⟨p,_,rfl,SqT.of A0b,rfl,_,_,rfl,_,_,rfl,rfl,?_⟩;refine ⟨_,rfl,_,_,rfl,rfl,_,rfl,A9m (λhlt=> ?_) (λhge=> ?_)⟩
   ·have hlt:n<0:=hlt;exact B2r (bad (by lia))
   ·have hge:¬n<0:=hge;refine ⟨_,rfl,_,rfl,_,_,rfl,rfl,_,rfl,A9m (λh=> ?_) (λh=>⟨_,_,rfl,s3,?_⟩)⟩
    ·have h:sz<=n:=h;exact bad (by lia)
    ·have h:¬sz<=n:=h;rw [Z14,hz,Z2f,List.all_append,hall];simp
     lia
  ·rintro σ G ⟨o2,o3,rfl,s2,hall⟩;have:=k G s2
   have e:inR cs ls=true:=by
    unfold inR;rw [Z08,Z2l (by rw [List.length_zip];lia)] at hall;exact hall
   rw [e] at this;exact this
theorem C3h (T:Txt K mg t):FO P w base T.py 1 D7j:=by
 refine T.py.F.ok B1p (by walk_at "ln") λ_ A _ s H _ Q E hr h=> ?_
 ·obtain ⟨c,l,cs,ss,rfl,hc,hl,len,k⟩:=h
  refine ⟨_,(A0c (A1k PassesOwn.never rfl (D0n rfl T.tY (A0a (pv 0) (A0a (pv 1) A0d))) (A2p (n:=2) rfl (A0k (A0h (i:=2) B1p.nd rfl (.inl rfl)) (A0k (A0h (i:=3) B1p.nd rfl (.inl rfl)) A1s)))
    (A0c (A1n (A0z C1m (pv 2) (pv 3) (A1i _))
     (A0e (A0v B0v))
     A0r)
    (A0e (A1n (A0z C9b (pv 2) (pv 3) (A1i _))
     (A0e (A0v B0v))
     A0r))))
   (A0e (A0v B0v))),?_⟩
  generalize hr':HT.lexLt cs (ss.take cs.length)=r at k;refine ⟨_,rfl,_,rfl,c,l,_,_,rfl,SqT.of hc,SqT.of hl,?_⟩
  refine C1f (K:=K) (a:=c) (b:=l) (xs:=cs.map V.int) (ys:=ss.map V.int) (λj σ G=>∃(o2 o3:Option V),σ=[Sro c,Sro l,o2,o3]/\A0p H G/\r=HT.lexLt (cs.drop j) ((ss.take cs.length).drop j))
   ⟨_,_,rfl,A0p.refl _,hr'.symm⟩ (by rintro j σ G ⟨_,_,_,s2,_⟩;exact ⟨SqT.of (s2 _ _ hc),SqT.of (s2 _ _ hl)⟩) (by rw [Z08,Z08];lia) ?_ ?_
  ·rintro j x y σ G p hx hy ⟨o2,o3,rfl,s2,er⟩ hp;obtain ⟨n,hn,rfl⟩:=A1r hx;obtain ⟨m,hm,rfl⟩:=A1r hy;have hj:=(Z03.mp hn).1;have sp':A0p G (upd G p (.tup [.int n,.int m])):=A0f hp;have s3:=s2.trans sp';rw [A5e hn,A5e (show (ss.take cs.length)[j]? =some m by rw [List.getElem?_take,Z12 hj];exact hm),HT.lexLt_cons] at er;refine ⟨p,_,rfl,SqT.of A0b,rfl,_,_,rfl,_,_,rfl,rfl,?_⟩;refine ⟨_,rfl,_,rfl,_,_,rfl,rfl,_,rfl,A9m (λhlt=> ?_) (λhge=> ?_)⟩
   ·have hlt:n<m:=hlt;rw [Z0t (by lia),Z20 hlt] at er;subst er;exact k _ s3
   ·have hge:¬n<m:=hge;refine ⟨_,rfl,_,rfl,_,_,rfl,rfl,_,rfl,A9m (λh=> ?_) (λh=>⟨_,_,rfl,s3,?_⟩)⟩
    ·have h:m<n:=h;rw [Z0t (by lia),Z1j hge] at er;subst er;exact k _ s3
    ·have h:¬m<n:=h;rw [Z12 (by lia)] at er;exact er
  ·rintro σ G ⟨o2,o3,rfl,s2,er⟩;rw [Z08,Z2i,Z24 (by rw [Z0x];lia),HT.lexLt_nil_nil] at er;subst er;exact k G s2
theorem C3i (T:Txt K mg t):FO P w base T.pf 2 C5b:=by
 have Ge3:= @C0j P w K mg base t T;refine T.pf.F.ok A1u (by walk_at "ln") λ_ A _ s H _ Q E hr h=> ?_
 ·obtain ⟨bl,d,gl,il,ys,lk,L,gv,gs,xs,ix,rfl,hbl,hd,tl,g,nys,hgl,pg,gin,hil,px,xin,l3,k⟩:=h;have hu:=B0m hr;have gf:=g.few;rw [Z08] at gf
  refine ⟨_,(A0c (A0n (i:=4) A1u.nd rfl (.inl rfl) (A2d (A0a (A2g A0d) A0d)))
   (A0c (A1k PassesOwn.never rfl (A1b (pv 0)) (A0h (i:=5) A1u.nd rfl (.inl rfl))
    (A0e (A0n (i:=4) A1u.nd rfl (.inl rfl) (pcl Ge3 hr T.md (A0a (pv 4) (A0a (A3j hu (pv 1) (pv 5) (λ_ _=>rfl)) A0d))))))
   (A0c (A0n (i:=6) A1u.nd rfl (.inl rfl) (A2d A0d))
   (A0c (A1k PassesOwn.never rfl (A1b (pv 4)) (A0h (i:=7) A1u.nd rfl (.inl rfl))
    (A0c (A0n (i:=8) A1u.nd rfl (.inr rfl) (D3g (C9z A1w A0l D5k) rfl rfl (by simp) (by decide)))
    (A0c (A1k PassesOwn.never rfl (D0p rfl T.tY (A0a (pv 0) (A0a (pv 7) A0d))) (A2p (n:=2) rfl (A0k (A0h (i:=5) A1u.nd rfl (.inl rfl)) (A0k (A0h (i:=9) A1u.nd rfl (.inl rfl)) A1s)))
     (A0e (B3r hu (pv 8) (pv 5) (pv 9) rfl)))
    (A0c (A0n (i:=10) A1u.nd rfl (.inl rfl) B0v)
    (A0c (A1k PassesOwn.never rfl (A1b (pv 2)) (A2p (n:=4) rfl (A0k (A0h (i:=11) A1u.nd rfl (.inl rfl)) (A0k (A0h (i:=12) A1u.nd rfl (.inl rfl)) (A0k (A0h (i:=13) A1u.nd rfl (.inl rfl)) (A0k (A0h (i:=14) A1u.nd rfl (.inl rfl)) A1s)))))
     (A0e (A1n (A0z B0f (A7m (A3q C5x (pv 12) (A3j hu (pv 8) (pv 11) (λ_ _=>rfl)) (A1i _)) (B0n (A3q C1m (A3j hu (pv 8) (pv 11) (λ_ _=>rfl)) (pv 13) (A1i _)))) (pv 14) (A1i _))
      (A0e (A0n (i:=10) A1u.nd rfl (.inl rfl) B0v))
      A0r)))
    (A0e (A1n (A2k (pv 10))
     (A0e (A1y (B5j Z0k Z0n Z0o A3i (pv 6) (A0a (A2g (A0a (pv 7) (A0a (A3a A4f (by rfl) T.fo Z0m (A0a (A3s (N':=["_law_axis","_law_shift","_law_at"]) (ix:=(List.replicate 2 none++[some 8])) (g:=D2c K 2 (A8z (A6m 0) (A8z (A6m 1) D2k))) rfl (A5h (x:="_law_at") rfl rfl rfl (by decide +kernel) (by decide +kernel)) (A4g (N0:=["_law_axis","_law_shift"]) rfl (.inl rfl) (by walk_at "ix")) (A1b (pv 3)) (λ_ _ _ _=>(A2p (n:=2) rfl (A0k (A0h (i:=0) B9c rfl (.inl rfl)) (A0k (A0h (i:=1) B9c rfl (.inl rfl)) A1s)))) (λ_ _ _ _=>(A0x A6n (A3j hu (pv 2) (pv 0) (λ_ _=>rfl)) (pv 1)))) A0d)) A0d))) A0d))))
     A0r)))))))
   (A0e (A0v (pv 6))))))),?_⟩
  refine ⟨A0q rfl,λe he=>⟨A0q rfl,λq hq=> ?_⟩⟩;have s1:A0p H (upd (upd H e (.tup [])) q (.lst [V.ref e])):=(A0f he).trans (A0f hq)
  refine ⟨_,rfl,bl,rfl,⟨_,SqL.of (s1 _ _ hbl)⟩,A1f (K:=K) (a:=bl) (xs:=ys.map V.str) (λi σ H2=>∃(o3:Option V) (q:Addr),σ=[Sro bl,Sro d,Sro gl,Sro il,Sro q,o3,none,none,none,none,none,none,none,none,none]/\A0p H H2/\B1n H2 q (A3o ((ys.map L).take i)))
   ⟨none,q,rfl,s1,⟨[e],A0b,.cons (by rw [A0j (A0g A0b hq)];exact A0b) .nil⟩⟩ (by rintro i σ H2 _ ⟨_,_,_,s2,_⟩;exact SqL.of (s2 _ _ hbl)) ?_ ?_⟩
  ·rintro i y σ H2 hi ⟨o2,q,rfl,s2,c2⟩;obtain ⟨n,hn,rfl⟩:=A1r hi;have hnL:(ys.map L)[i]? =some (L n):=by rw [Z1z,hn];rfl
   have gp:=g.pos (L n) (Z13 hnL);have cl:=A3w ((ys.map L).take i) λm hm=>(g.pos m (Z2p hm)).1;have pl:=B2j (ys.map L) (λm hm=>(g.pos m hm).1) i;have gm:=g.most;have gk:=B2h.k (H:=H2) (a:=d) (k:=Sum.inr n) (s2 _ _ hd);rw [(tl n (Z13 hn)).1] at gk;refine ⟨_,rfl,_,rfl,_,rfl,d,_,rfl,gk,q,L n,_,rfl,c2,λc hc=> ?_,by lia,by lia,by lia,λp H' hp s3 c3=> ?_⟩
   ·have e:=(A4r _ c hc).1;rw [Z0x,Z08] at e
    lia
   ·refine ⟨_,p,rfl,s2.trans s3,?_⟩;rw [A7l hnL];exact c3
  rintro σ H1 ⟨o5,q,rfl,s1,ct⟩;have e:(ys.map L).take (ys.map V.str).length=ys.map L:=Z2l (by simp);rw [e] at ct;obtain ⟨ps,hq1,tp⟩:=ct.ex;have lps:=tp.len
  have lcs:(A3o (ys.map L)).length<=4000:=by
   have e1:=(A3w (ys.map L) λn hn=>(g.pos n hn).1).1;have e2:=g.most
   lia
  refine ⟨A0q rfl,λRL hRL=> ?_⟩;have rlH:H RL=none:=s1.free hRL;obtain ⟨H2,sR,hR0,e0⟩:=nH (o:= .lst []) hRL;have qRL:q≠RL:=A0g hq1 hRL;rw [e0];have s02:=s1.trans sR;refine ⟨_,rfl,q,rfl,⟨_,SqL.of (sR _ _ hq1)⟩,?_⟩
  refine A1f (K:=K) (a:=q) (xs:=ps.map V.ref) (λi σ G=>∃(o5 o7 o8 o9 o10 o11 o12 o13 o14:Option V) (zs:List V),σ=[Sro bl,Sro d,Sro gl,Sro il,Sro q,o5,Sro RL,o7,o8,o9,o10,o11,o12,o13,o14]/\KB RL H2 G/\G RL=some (.lst zs)/\Paired (C8o G) zs (((A3o (ys.map L)).take i).filterMap (A8o ys gs ix)))
   ⟨_,none,none,none,none,none,none,none,none,[],rfl,KB.refl,hR0,.nil⟩ (by rintro i σ G _ ⟨_,_,_,_,_,_,_,_,_,_,_,kb,_⟩;exact SqL.of (kb _ _ qRL (sR _ _ hq1))) ?_ ?_
  ·rintro i v σ G hv ⟨o5,o7,o8,o9,o10,o11,o12,o13,o14,zs,rfl,kb,hRG,pz⟩;obtain ⟨pc,hpc,rfl⟩:=A1r hv;obtain ⟨ce,hce,hcp⟩:=tp.get hpc;have lce:ce.length=ys.length:=by rw [(A4r _ ce (Z13 hce)).1,Z08]
   have lzs:=Paired.length pz;have lfm:(((A3o (ys.map L)).take i).filterMap (A8o ys gs ix)).length<=4000:=Z1n (List.length_filterMap_le ..) (by rw [Z0x];lia);have SG:A0p H G:=λx u e=>kb _ _ (A0g e rlH) (s02 _ _ e);have hcG:G pc=some (.tup (ce.map V.int)):=kb _ _ (A2n (sR _ _ hcp) hR0 (by intro z;cases z)) (sR _ _ hcp);refine λat_ hat=> ?_;refine ⟨A0b,[(Sum.inr "",V.int 0)],rfl,by show 1<=15;decide,?_⟩;have e0:A1c [] [((Sum.inr ("":Str):Key),V.int 0)]=([((Sum.inr ("":Str):Key),V.int 0)]:List (Key×V)):=rfl;rw [e0];have sa:A0p G (upd (upd G at_ (.dK [])) at_ (.dK [(Sum.inr "",V.int 0)])):=A0u (A0f hat) hat;have ha:upd (upd G at_ (.dK [])) at_ (.dK [(Sum.inr "",V.int 0)]) at_=some (.dK [(Sum.inr "",V.int 0)]):=A0b;generalize upd (upd G at_ (.dK [])) at_ (.dK [(Sum.inr "",V.int 0)])=G1 at sa ha;refine ⟨_,rfl,_,rfl,bl,pc,_,_,rfl,SqL.of (sa _ _ (SG _ _ hbl)),SqT.of (sa _ _ hcG),?_⟩
   refine D4q (K:=K) (a:=bl) (b:=pc) (xs:=ys.map V.str) (ys:=ce.map V.int) (λj σ G2=>∃(o5 o9:Option V),σ=[Sro bl,Sro d,Sro gl,Sro il,Sro q,o5,Sro RL,Sro pc,Sro at_,o9,o10,o11,o12,o13,o14]/\A0p G G2/\G2 at_=some (.dK (A1c [(Sum.inr "",V.int 0)] (((ys.map (Sum.inr:Str->Key)).zip (ce.map V.int)).take j))))
    ⟨_,_,rfl,sa,ha⟩ (by rintro j σ G2 ⟨_,_,_,s3,_⟩;exact ⟨SqL.of (s3 _ _ (SG _ _ hbl)),SqT.of (s3 _ _ hcG)⟩) (by rw [Z08,Z08];lia) ?_ ?_
   ·rintro j x y σ G2 p hx hy ⟨o5,o9,rfl,s3,ha3⟩ hp;obtain ⟨nx,hnx,rfl⟩:=A1r hx;obtain ⟨ny,hny,rfl⟩:=A1r hy;have hj:=(Z03.mp hnx).1;have sp':A0p G2 (upd G2 p (.tup [.str nx,.int ny])):=A0f hp;have hpp:upd G2 p (.tup [.str nx,.int ny]) p=some (.tup [.str nx,.int ny]):=A0b;generalize upd G2 p (.tup [.str nx,.int ny])=G3 at sp' hpp;have lm:=A2y (((ys.map (Sum.inr:Str->Key)).zip (ce.map V.int)).take j) [((Sum.inr ("":Str):Key),V.int 0)];rw [Z0x] at lm;simp only [Z0y,Z2g] at lm;refine ⟨p,_,rfl,SqT.of hpp,rfl,_,_,rfl,_,_,rfl,rfl,?_⟩;refine ⟨_,rfl,_,rfl,_,rfl,at_,_,rfl,C9l.k (k:=Sum.inr nx) (sp' _ _ ha3) (A1j (by lia)),_,_,rfl,A0u (s3.trans sp') hat,?_⟩
    have hz:((ys.map (Sum.inr:Str->Key)).zip (ce.map V.int))[j]? =some (Sum.inr nx,.int ny):=by
     rw [Z2m];exact ⟨by rw [Z1z,hnx];rfl,by rw [Z1z,hny];rfl⟩
    rw [A0b,Z14,hz,Z2f,B3k]
   rintro σ G2 ⟨o5',o9',rfl,s3,ha3⟩
   have ea:A1c [((Sum.inr ("":Str):Key),V.int 0)] (((ys.map (Sum.inr:Str->Key)).zip (ce.map V.int)).take (ys.map V.str).length)=atK ys ce:=by
    rw [Z2l (by rw [List.length_zip,Z08,Z08,Z08];lia)];rfl
   rw [ea] at ha3;have S3:A0p H G2:=SG.trans s3
   have gk:∀{x:Str},x∈ys->B2h G2 at_ (.str x) (some (.int (ai (C2l ys ce) x))):=λ{x} hx=>by
    have:=B2h.k (H:=G2) (a:=at_) (k:=Sum.inr x) ha3;rw [D9z lce hx] at this;exact this
   have gm:∀{G':Hp} {e:Str×Int},A0p G2 G'->e∈ix->B2h G' at_ (.str e.1) (some (.int (if e.1=("":Str) then 0 else ai (C2l ys ce) e.1))):=λ{G' e} s' he=>by
    have z:=B2h.k (H:=G') (a:=at_) (k:=Sum.inr e.1) (s' _ _ ha3);by_cases h0:e.1=("":Str)
    ·rw [Z12 h0];rw [h0] at z⊢;rw [E2g nys] at z;exact z
    ·rw [Z0t h0];rw [D9z lce (xin e he h0)] at z;exact z
   generalize hF:ai (C2l ys ce)=F at gk gm;refine ⟨_,rfl,gl,rfl,⟨_,SqL.of (S3 _ _ hgl)⟩,?_⟩
   refine A1f (K:=K) (a:=gl) (xs:=gv) (λj σ G3=>G2=G3/\∃(o11 o12 o13 o14:Option V),σ=[Sro bl,Sro d,Sro gl,Sro il,Sro q,o5',Sro RL,Sro pc,Sro at_,o9',Sbo ((gs.take j).all (inG F)),o11,o12,o13,o14])
    ⟨rfl,_,_,_,_,rfl⟩ (λj σ G3 _ h=>by rw [<-h.1];exact SqL.of (S3 _ _ hgl)) ?_ ?_
   ·rintro j x σ G3 hx ⟨rfl,p10,p11,p12,p13,rfl⟩;obtain ⟨gg,hgg,gq,rfl,hgq⟩:=B2k pg hx;have gz:=gk (gin gg (Z13 hgg));have et:(gs.take (j+1)).all (inG F)=((gs.take j).all (inG F)&&inG F gg):=by rw [Z14,hgg,Z2f,List.all_append];simp
    refine ⟨gq,_,rfl,SqT.of (S3 _ _ hgq),rfl,_,_,rfl,_,_,rfl,_,_,rfl,_,_,rfl,rfl,?_⟩;have yes:∀b:Bool,b=decide (gg.2.1<=F gg.1/\F gg.1<gg.2.2.1)->V.bl b=V.bl gg.2.2.2->inG F gg=true:=λb hb e=>by unfold inG;rw [<-hb];exact Z20 (V.bl.inj e)
    have no:∀b:Bool,b=decide (gg.2.1<=F gg.1/\F gg.1<gg.2.2.1)->¬V.bl b=V.bl gg.2.2.2->inG F gg=false:=λb hb e=>by unfold inG;rw [<-hb];exact Z1j (λz=>e (by rw [z]))
    refine ⟨_,rfl,_,rfl,_,rfl,at_,_,rfl,gz,_,_,rfl,rfl,_,rfl,A9m (λh1=> ?_) (λh1=> ?_)⟩
    ·have h1:gg.2.1<=F gg.1:=h1;refine ⟨_,rfl,_,rfl,at_,_,rfl,gz,_,rfl,_,_,rfl,rfl,_,rfl,rfl,_,rfl,A8n (λhne=>⟨rfl,some (.str gg.1),some (.int gg.2.1),some (.int gg.2.2.1),some (.bl gg.2.2.2),?_⟩) (λhe=>⟨rfl,some (.str gg.1),some (.int gg.2.1),some (.int gg.2.2.1),some (.bl gg.2.2.2),?_⟩)⟩
     ·rw [et,no (decide (F gg.1<gg.2.2.1)) (by by_cases z:F gg.1<gg.2.2.1 <;> simp [z,h1]) hne,Bool.and_false];rfl
     ·rw [et,yes (decide (F gg.1<gg.2.2.1)) (by by_cases z:F gg.1<gg.2.2.1 <;> simp [z,h1]) he,Bool.and_true];rfl
    ·have h1:¬gg.2.1<=F gg.1:=h1;refine ⟨_,rfl,rfl,_,rfl,A8n (λhne=>⟨rfl,some (.str gg.1),some (.int gg.2.1),some (.int gg.2.2.1),some (.bl gg.2.2.2),?_⟩) (λhe=>⟨rfl,some (.str gg.1),some (.int gg.2.1),some (.int gg.2.2.1),some (.bl gg.2.2.2),?_⟩)⟩
     ·rw [et,no false (by simp [h1]) hne,Bool.and_false];rfl
     ·rw [et,yes false (by simp [h1]) he,Bool.and_true];rfl
   rintro σ G3 ⟨rfl,o11',o12',o13',o14',rfl⟩;rw [Paired.length pg,Z18];have el:A8o ys gs ix ce=if gs.all (inG F)=true then some (ce,A8x F ix) else none:=by unfold A8o;rw [hF]
   generalize hre:gs.all (inG F)=re at el;have kbG:KB RL H2 G2:=kb.trans (KB.of s3);refine ⟨_,rfl,re,rfl,C4a (λr1=> ?_) (λr0=> ?_)⟩
   ·rw [Z12 r1] at el;refine ⟨_,rfl,.inl ⟨rfl,_,SqL.of (s3 _ _ hRG)⟩,_,rfl,_,rfl,il,rfl,⟨_,SqL.of (S3 _ _ hil)⟩,λCH hCH=> ?_⟩;refine A2l (K:=K) (a:=il) (D:=CH) (xs:=xs) (λj zs G3=>A0p G2 G3/\G3 CH=some (.lst zs)/\zs=(A8x F (ix.take j)).map V.int) ⟨A0f hCH,A0b,rfl⟩ (λj zs G3 s4=>SqL.of (s4.1 _ _ (S3 _ _ hil))) ?_ ?_
    ·rintro j x zs G3 hx ⟨s4,hC,rfl⟩;obtain ⟨e,he,eq,rfl,heq⟩:=B2k px hx;have hj:=(Z03.mp he).1;refine ⟨eq,_,rfl,SqT.of (s4 _ _ (S3 _ _ heq)),rfl,_,_,rfl,_,_,rfl,rfl,⟨rfl,True.intro⟩,_,rfl,_,rfl,at_,_,rfl,gm s4 (Z13 he),_,rfl,_,_,rfl,rfl,hC,A1j (by simp [A8x];lia),A0u s4 hCH,A0b,?_⟩;rw [Z14,he,Z2f];unfold A8x;rw [Z0s,Z0s];by_cases h0:e.1=("":Str)
     ·simp [h0]
     ·simp [h0]
    rintro zs' G3 ⟨s4,hC,rfl⟩;rw [Paired.length px,Z18] at hC;refine ⟨CH,_,rfl,.inl ⟨SqL.of hC,λtp' htp=> ?_⟩⟩;have u1:A0p G3 (upd G3 tp' (.tup ((A8x F ix).map V.int))):=A0f htp;have h1:upd G3 tp' (.tup ((A8x F ix).map V.int)) tp'=some (.tup ((A8x F ix).map V.int)):=A0b;generalize upd G3 tp' (.tup ((A8x F ix).map V.int))=G4 at u1 h1⊢;refine ⟨A0q rfl,λtq htq=> ?_⟩;obtain ⟨G5,u2,h2,e0⟩:=nH (o:= .tup [.ref pc,.ref tp']) htq;rw [e0];have u35:=s4.trans (u1.trans u2);have hR5:=u35 _ _ (s3 _ _ hRG);refine ⟨RL,_,_,rfl,rfl,hR5,A1j (by lia),_,_,_,_,_,_,_,_,_,zs++[.ref tq],rfl,(kbG.trans (KB.of u35)).upd,A0b,?_⟩;rw [A8s hce,el];have kt:∀x zs',G5 x=some (.tup zs')->upd G5 RL (.lst (zs++[.ref tq])) x=some (.tup zs'):=λx zs' e=>(A0j (A2n e hR5 (by intro z;cases z))).trans e;exact Paired.snoc ⟨tq,pc,tp',rfl,kt _ _ h2,kt _ _ (u35 _ _ (s3 _ _ hcG)),kt _ _ (u2 _ _ h1)⟩ (Paired.mapP pz λ_ _ z=>z.kt λx zs e=>kt _ _ (u35 _ _ (s3 _ _ e)))
   ·rw [Z0t (by rw [r0];exact Z0v)] at el;refine ⟨_,_,_,_,_,_,_,_,_,zs,rfl,kbG,s3 _ _ hRG,?_⟩;rw [A8s hce,el,Option.toList_none,Z0u];exact Paired.mapP pz λ_ _ z=>z.kt λx zs e=>s3 _ _ e
  ·rintro σ G ⟨o5,o7,o8,o9,o10,o11,o12,o13,o14,zs,rfl,kb,hRG,pz⟩;rw [Z08,lps,Z18] at pz;exact ⟨_,rfl,k RL zs G rlH (λx u e=>kb _ _ (A0g e rlH) (s02 _ _ e)) hRG pz⟩
theorem C9k (T:Txt K mg t):FO P w base T.u6 2 D5b:=by
 have Ge4:= @C3h P w K mg base t T;have Ge5:= @B9l P w K mg base t T;refine T.u6.F.ok B1d (by walk_at "ln") λ_ A _ s H _ Q E hr h=> ?_
 ·obtain ⟨ll,sl,a,xs,lds,szs,rfl,hll,px,hsl,len,D7e,k⟩:=h;have lx:=Paired.length px
  refine ⟨_,(A0c (A1k PassesOwn.never rfl (A1b (pv 0)) (A2p (n:=2) rfl (A0k (A0h (i:=3) B1d.nd rfl (.inl rfl)) (A0k (A0h (i:=4) B1d.nd rfl (.inl rfl)) A1s)))
    (A0e (A1n (A2k (pcl Ge5 hr T.kg (A0a (pv 4) (A0a (pv 2) A0d))))
     (A0e (A0v (A2g (A0a A1w (A0a (pv 1) (A0a (pv 3) (A0a (pv 4) A0d)))))))
     A0r)))
   (A7z (A1n (A0z A5x (pv 1) A1w (A1i _))
    (A0e (A1k PassesOwn.never rfl (A1b (pv 0)) (A2p (n:=2) rfl (A0k (A0h (i:=3) B1d.nd rfl (.inl rfl)) (A0k (A0h (i:=4) B1d.nd rfl (.inl rfl)) A1s)))
     (A0e (A1n (B2o (A2k (pcl Ge4 hr T.py (A0a (pv 4) (A0a (pv 3) A0d)))))
      (A0e (A0v (A2g (A0a A1w (A0a (pv 1) (A0a (pv 3) (A0a (pv 4) A0d)))))))
      A0r))))
    A0r)
   (A0e (A0v (A2g (A0a A1w (A0a (pv 1) (A0a (A2g A0d) (A0a (A2g A0d) A0d))))))))),?_⟩
  refine ⟨_,rfl,ll,rfl,⟨_,SqL.of hll⟩,?_⟩
  refine A1f (K:=K) (a:=ll) (xs:=xs) (λi σ G=>∃(o3 o4:Option V),σ=[Sro ll,Sso a,Sro sl,o3,o4]/\A0p H G/\lds.find? (C2y szs)=(lds.drop i).find? (C2y szs))
   ⟨none,none,rfl,A0p.refl _,rfl⟩ (by rintro i σ G _ ⟨_,_,_,s2,_⟩;exact SqL.of (s2 _ _ hll)) ?_ ?_
  ·rintro i x σ G hx ⟨o3,o4,rfl,s2,ef⟩;obtain ⟨e,he,p,sp,ce,rfl,e1,e2,e3⟩:=B2k px hx;rw [A8u he] at ef;have l2:=len e (Z13 he);refine ⟨p,_,rfl,SqT.of (s2 _ _ e1),rfl,_,_,rfl,_,_,rfl,rfl,?_⟩;refine ⟨_,rfl,_,rfl,ce,sl,e.2,szs,rfl,s2 _ _ e3,s2 _ _ hsl,l2,λG2 s3=>⟨_,rfl,C4a (λb1=> ?_) (λb0=> ?_)⟩⟩
   ·have s23:=s2.trans s3;rw [Z12 (show C2y szs e=true from b1)] at ef;refine ⟨_,rfl,_,rfl,_,rfl,A0q rfl,λq hq=> ?_⟩;have s4:=A0f (o:= .tup [.str "beyond",.str a,.ref sp,.ref ce]) hq;refine k _ _ (s23.trans s4) ?_;have ed:D2v a szs lds szs.length=(("beyond":Str),a,e):=by unfold D2v B3d;rw [ef];rfl
    rw [ed];exact ⟨q,sp,ce,rfl,A0b,(s23.trans s4) _ _ e2,(s23.trans s4) _ _ e3⟩
   ·rw [Z0t (by rw [show C2y szs e=false from b0];exact Z0v)] at ef;exact ⟨_,_,rfl,s2.trans s3,ef⟩
  rintro σ G ⟨o3,o4,rfl,s2,ef⟩;rw [lx,Z2i] at ef;have ef:lds.find? (C2y szs)=none:=ef;refine ⟨λσ G=>∃(o3 o4:Option V),σ=[Sro ll,Sso a,Sro sl,o3,o4]/\A0p H G/\B3d lds szs (decide (a="mine")) szs.length=none,?_,?_⟩
  ·refine ⟨_,rfl,rfl,_,rfl,A9m (λha=> ?_) (λha=>⟨_,_,rfl,s2,?_⟩)⟩
   ·have ha:a="mine":=V.str.inj ha;have D7e:=D7e ha;refine ⟨_,rfl,ll,rfl,⟨_,SqL.of (s2 _ _ hll)⟩,?_⟩
    refine A1f (K:=K) (a:=ll) (xs:=xs) (λi σ G=>∃(o3 o4:Option V),σ=[Sro ll,Sso a,Sro sl,o3,o4]/\A0p H G/\lds.find? (C0i szs.length)=(lds.drop i).find? (C0i szs.length))
     ⟨_,_,rfl,s2,rfl⟩ (by rintro i σ G _ ⟨_,_,_,s2,_⟩;exact SqL.of (s2 _ _ hll)) ?_ ?_
    ·rintro i x σ G hx ⟨o3,o4,rfl,s2,eg⟩;obtain ⟨e,he,p,sp,ce,rfl,e1,e2,e3⟩:=B2k px hx;rw [A8u he] at eg;have l2:=len e (Z13 he);have l3:=D7e e (Z13 he);refine ⟨p,_,rfl,SqT.of (s2 _ _ e1),rfl,_,_,rfl,_,_,rfl,rfl,?_⟩;refine ⟨_,rfl,_,rfl,ce,sp,e.2,e.1,rfl,s2 _ _ e3,s2 _ _ e2,by lia,λG2 s3=>⟨_,rfl,C9o (λb0=> ?_) (λb1=> ?_)⟩⟩
     ·rw [l2] at b0;have s23:=s2.trans s3;rw [Z12 (show C0i szs.length e=true by unfold C0i;rw [b0];rfl)] at eg;refine ⟨_,rfl,_,rfl,_,rfl,A0q rfl,λq hq=> ?_⟩;have s4:=A0f (o:= .tup [.str "early",.str a,.ref sp,.ref ce]) hq;refine k _ _ (s23.trans s4) ?_
      have ed:D2v a szs lds szs.length=(("early":Str),a,e):=by
       have et:B3d lds szs (decide (a="mine")) szs.length=some (true,e):=by
        unfold B3d;rw [ef];show (if decide (a="mine")=true then _ else none)=_;rw [Z12 (Z20 ha),eg];rfl
       unfold D2v;rw [et];rfl
      rw [ed];exact ⟨q,sp,ce,rfl,A0b,(s23.trans s4) _ _ e2,(s23.trans s4) _ _ e3⟩
     ·rw [l2] at b1;rw [Z0t (show¬C0i szs.length e=true by unfold C0i;rw [b1];exact Z0v)] at eg;exact ⟨_,_,rfl,s2.trans s3,eg⟩
    ·rintro σ G ⟨o3,o4,rfl,s2,eg⟩;rw [lx,Z2i] at eg;refine ⟨_,_,rfl,s2,?_⟩;unfold B3d;rw [ef];show (if decide (a="mine")=true then _ else none)=none;rw [Z12 (Z20 ha),eg];rfl
   ·have ha:¬a="mine":=λz=>ha (by rw [z]);unfold B3d;rw [ef];show (if decide (a="mine")=true then _ else none)=none;rw [Z0t (by rw [Z1j ha];exact Z0v)]
  rintro σ G ⟨o3,o4,rfl,s2,et⟩;refine ⟨_,rfl,A0q rfl,λq1 hq1=> ?_⟩;obtain ⟨G1,u1,h1,e0⟩:=nH (o:= .tup []) hq1;rw [e0];refine ⟨A0q rfl,λq2 hq2=> ?_⟩;obtain ⟨G2,u2,h2,e0⟩:=nH (o:= .tup []) hq2;rw [e0];refine ⟨A0q rfl,λq hq=> ?_⟩;have u3:=A0f (o:= .tup [.str "by",.str a,.ref q1,.ref q2]) hq;refine k _ _ (s2.trans (u1.trans (u2.trans u3))) ?_;have ed:D2v a szs lds szs.length=(("by":Str),a,(([]:List Int),([]:List Int))):=by unfold D2v;rw [et]
  rw [ed];exact ⟨q,q1,q2,rfl,A0b,u3 _ _ (u2 _ _ h1),u3 _ _ h2⟩
theorem E1x {t1 t2:TT} {σ:St} {H:Hp} {Q:Bool->Hp->Prop} {d1 d2:Bool} (e1:∀Q':Bool->Hp->Prop,Q' d1 H->t1 σ H Q') (e2:∀Q':Bool->Hp->Prop,Q' d2 H->t2 σ H Q') (h:Q (d1&&d2) H):E3d t1 t2 σ H Q:=by
 refine e1 _ ?_
 cases d1 with
 | false=>exact h
 | true=>exact e2 _ h
theorem p29:(0:Int)<2*10^(29:Int).toNat:=by decide +kernel
theorem D2z {ys:List Str} {i:Nat} {x:Str} (h:ys[i]? =some x):atI (ys.map V.str) (i:Int)=some (.str x):=A4c (by rw [Z1z,h];rfl)
def D3x:Sp:=λvs H Q _=>∃(D ol bl sl d:Addr) (it:Bool) (ms:List Int) (ow bd sh:List Str) (lk:List (Key×V)) (L:Str->Int),vs=[.ref D,.ref ol,.ref bl,.ref sl,.ref d,.bl it]/\H D=some (.lst (ms.map V.int))/\H ol=some (.lst (ow.map V.str))/\H bl=some (.lst (bd.map V.str))/\H sl=some (.lst (sh.map V.str))/\H d=some (.dK lk)/\D≠ol/\D≠bl/\D≠sl/\A4t lk L bd/\A4t lk L sh/\bd.length<=8/\sh.length<=3/\(it=true->sh.length<=ow.length)/\(∀y∈ow,y∈bd)/\
 ∀(q:Addr) (xs:List V) (ix:List (Str×Int)) (ms':List Int) (H':Hp),H q=none->KB D H H'->H' D=some (.lst (ms'.map V.int))->H' q=some (.lst xs)->Paired (C5k H') xs ix->ix.length=sh.length->(∀e∈ix,¬e.1=""->e.1∈bd)->Q (.ref q) H'
def D6d:Sp:=λvs H Q _=>∃(D bl il sl:Addr) (ms:List Int) (bd:List Str) (xs:List V) (ix:List (Str×Int)) (szs:List Int),vs=[.ref D,.ref bl,.ref il,.ref sl]/\H D=some (.lst (ms.map V.int))/\H bl=some (.lst (bd.map V.str))/\H il=some (.lst xs)/\Paired (C5k H) xs ix/\H sl=some (.lst (szs.map V.int))/\ix.length=szs.length/\(∀e∈ix,¬e.1=""->e.1∈bd)/\D≠bl/\D≠il/\D≠sl/\bd.length<=8/\
 ∀(q:Addr) (gv:List V) (gs:List Gd) (ms':List Int) (H':Hp),H q=none->KB D H H'->H' D=some (.lst (ms'.map V.int))->H' q=some (.lst gv)->Paired (C1v H') gv gs->(∀g∈gs,g.1∈bd)->gs.length<=3->Q (.ref q) H'
theorem B7m {D b:Addr} {H H':Hp} {o:HO} (k:KB D H H') (h:H b=none):KB D H (upd H' b o):=λc u hc e=>by rw [A0j (A0g e h)];exact k c u hc e
theorem B9f (T:Txt K mg t):FO P w base T.jq 2 D3x:=by
 have Ge6:= @B0y P w K mg base t T;refine T.jq.F.ok A1x (by walk_at "ln") λ_ A _ s H _ Q E hr h=> ?_
 ·obtain ⟨D,ol,bl,sl,d,it,ms,ow,bd,sh,lk,L,rfl,hD,hol,hbl,hsl,hd,nDo,nDb,nDs,tlb,tls,lbd,lsh,lit,owb,k⟩:=h;have hu:=B0m hr
  refine ⟨_,(A0c (A0n (i:=6) A1x.nd rfl (.inl rfl) (A0x A5c (pv 2) (A2d (A0a A1w A0d))))
   (A0c (A0n (i:=7) A1x.nd rfl (.inl rfl) (A2d A0d))
   (A0c (A1k PassesOwn.never rfl (A6l rfl T.ku (A0a (A0s A1d (by rfl) T.cw Z0r (A0a (pv 3) A0d)) A0d)) (A0h (i:=8) A1x.nd rfl (.inl rfl))
    (A0c (A0n (i:=9) A1x.nd rfl (.inl rfl) (pcl Ge6 hr T.cm (A0a (pv 0) A0d)))
    (A0c (A0n (i:=10) A1x.nd rfl (.inl rfl) (A3y A3b (pv 6) (A0x A2o (A0x A3e (pv 9) A0l) (A0s A1d (by rfl) T.cw Z0r (A0a (pv 6) A0d))) (λ_ _=>rfl)))
    (A0c (A0n (i:=11) A1x.nd rfl (.inl rfl) (A0x B0q (A0x A2o (A0x A3e (pv 9) A0l) A0l) A0l))
    (A7z (A1n (PW.pt (B5r (A2k (pv 5)) (B3h (A0z B0f (A0x A2o (pv 9) A0l) A0l (A1i _)))))
     (A0c (A0n (i:=10) A1x.nd rfl (.inl rfl) (A3y A3b (pv 1) (pv 8) (λ_ _=>rfl)))
     (A0e (A0n (i:=11) A1x.nd rfl (.inl rfl) (A0x B0q (A0x A2o (A0x A3e (pv 9) A0l) A0l) A0l))))
     (A0e (A1n (A0z A5x (A0x A2o (pv 9) A0l) A0l (A1i _))
      (A0e (A0n (i:=11) A1x.nd rfl (.inl rfl) (A0x B0q (A0x A2o (A0x A3e (pv 9) A0l) (A0x B0k A0l (A0x D2p A0l A0l))) (A0x D2p A0l A0l))))
      (A0e (A1n (PW.pt (B5r (A0z B0f (pv 10) A1w (A1i _)) (B3h (A0z A5x (A0x A2o (pv 9) A0l) A0l (A1i _)))))
       (A0e (A0n (i:=11) A1x.nd rfl (.inl rfl) (A0x B0q (A3j hu (pv 4) (A3y A3b (pv 3) (pv 8) (λ_ _=>rfl)) (λ_ _=>rfl)) (A3j hu (pv 4) (pv 10) (λ_ _=>rfl)))))
       A0r)))))
    (A0e (A1y (B5j Z0k Z0n Z0o A3i (pv 7) (A0a (A2g (A0a (pv 10) (A0a (pv 11) A0d))) A0d)))))))))
   (A0e (A0v (pv 7)))))),?_⟩
  refine ⟨_,rfl,A0q rfl,λzl hzl=> ?_⟩;obtain ⟨H1,s1,h1,e0⟩:=nH (o:= .lst [.str ""]) hzl
  try rw [e0]
  refine ⟨bl,zl,_,_,rfl,rfl,s1 _ _ hbl,h1,A0o (by rw [Z08];show bd.length+1<=1000000;lia),λSM hSM=> ?_⟩;have s2:A0p H1 (upd H1 SM (.lst (bd.map V.str++[.str ""]))):=A0f hSM;have h2:upd H1 SM (.lst (bd.map V.str++[.str ""])) SM=some (.lst ((bd++([""]:List Str)).map V.str)):=by rw [A0b,Z0s];rfl
  have smH:H SM=none:=s1.free hSM;generalize upd H1 SM (.lst (bd.map V.str++[.str ""]))=H2 at s2 h2;have s12:=s1.trans s2;refine ⟨A0q rfl,λIL hIL=> ?_⟩;obtain ⟨H3,s3,h3,e0⟩:=nH (o:= .lst []) hIL;have ilH:H IL=none:=s12.free hIL
  try rw [e0]
  have s13:=s12.trans s3;have DI:D≠IL:=A0g hD ilH;have SI:SM≠IL:=A0g h2 hIL;have DS:D≠SM:=A0g hD smH;refine ⟨_,rfl,sl,_,rfl,.inl (SqL.of (s13 _ _ hsl)),?_⟩;rw [Z08];refine ⟨_,rfl,by lia,by lia,?_⟩
  refine A6r (λi σ G=>∃(o8 o9 o10 o11:Option V) (ms:List Int) (xs:List V) (ix:List (Str×Int)),σ=[Sro D,Sro ol,Sro bl,Sro sl,Sro d,Sbo it,Sro SM,Sro IL,o8,o9,o10,o11]/\KB D H G/\G D=some (.lst (ms.map V.int))/\G SM=some (.lst ((bd++([""]:List Str)).map V.str))/\G IL=some (.lst xs)/\Paired (C5k G) xs ix/\ix.length=i/\∀e∈ix,¬e.1=""->e.1∈bd)
   ⟨none,none,none,none,ms,[],[],rfl,KB.of s13,s13 _ _ hD,s3 _ _ h2,h3,.nil,rfl,(by intro e he;cases he)⟩ ?_ ?_
  ·rintro i σ G hi ⟨o8,o9,o10,o11,ms,xs,ix,rfl,kb,hD',hSM',hIL',px,lix,oki⟩;rw [Int.zero_add];have hi:i<sh.length:=by lia
   have lxs:=Paired.length px;refine ⟨_,rfl,D,ms,rfl,hD',λc ms1 G1 l1 hD1 o1 e1=> ?_⟩;have kb1:=B7z o1;have hSM1:=(o1 SM DS.symm).trans hSM';have hIL1:=(o1 IL DI.symm).trans hIL';have kG:=kb.trans kb1;have hd1:=kG _ _ (A2n hd hD (by intro z;cases z)) hd;have hol1:=kG _ _ nDo.symm hol;have hsl1:=kG _ _ nDs.symm hsl;have px1:Paired (C5k G1) xs ix:=Paired.mapP px λ_ _ z=>z.kt λb zs e=>kb1 _ _ (A2n e hD' (by intro z;cases z)) e;have lsm:(0:Int)<(((bd++([""]:List Str)).map V.str).length:Int):=by rw [Z08,Z06];simp only [Z0y,Z2g];lia
   obtain ⟨x,xm,ex⟩:=C0b (f:=V.str) (xs:=bd++([""]:List Str)) (i:=c/16%(((bd++([""]:List Str)).map V.str).length:Int)) (Z1v _ (by lia)) (by have:=Z1p (c/16) lsm;rw [Z08] at this⊢;exact this)
   have xmem:¬x=""->x∈bd:=λhx=>by
    rcases Z07.mp (Z13 xm) with h | h
    ·exact h
    ·exact absurd (Z0w.mp h) hx
   refine ⟨_,rfl,_,rfl,_,_,rfl,rfl,⟨by decide,by decide⟩,_,rfl,SM,_,rfl,.inl (SqL.of hSM1),_,_,rfl,rfl,lsm,SM,_,_,_,rfl,rfl,SqL.of hSM1,ex,?_⟩;refine ⟨_,rfl,_,_,rfl,rfl,⟨by decide,by decide⟩,_,_,rfl,rfl,D3c,_,_,rfl,rfl,?_⟩;refine ⟨λσ G2=>G1=G2/\∃(x:Str) (z:Int),σ=[Sro D,Sro ol,Sro bl,Sro sl,Sro d,Sbo it,Sro SM,Sro IL,Sio (i:Int),Sio c,Sso x,Sio z]/\(¬x=""->x∈bd),?_,?_⟩
   ·unfold E3h;refine E1x (d1:=it) (d2:= !decide (V.int (c%4)=V.int 2)) (λQ' q=>⟨_,rfl,it,rfl,q⟩) (λQ' q=>⟨_,rfl,_,_,rfl,rfl,D3c,rfl,_,rfl,q⟩) ?_;refine C4a (λhb=> ?_) (λhb=> ?_)
    ·rw [Z1x] at hb;have lo:=lit hb.1;obtain ⟨y,hy⟩:∃y,ow[i]? =some y:=⟨_,Z0b (by lia)⟩;refine ⟨_,rfl,_,rfl,ol,_,_,_,rfl,rfl,SqL.of hol1,D2z hy,?_⟩;exact ⟨_,rfl,_,_,rfl,rfl,⟨by decide,by decide⟩,_,_,rfl,rfl,D7c,_,_,rfl,rfl,rfl,y,_,rfl,λ_=>owb y (Z13 hy)⟩
    ·refine ⟨_,rfl,_,_,rfl,rfl,D9g,rfl,_,rfl,A9m (λ_=> ?_) (λ_=> ?_)⟩
     ·exact ⟨_,rfl,_,_,rfl,rfl,⟨by decide,by decide⟩,_,_,rfl,rfl,⟨by decide,by decide,by decide⟩,_,_,rfl,rfl,.inl ⟨by decide,by decide⟩,_,_,rfl,rfl,p29,_,_,rfl,rfl,⟨by decide,by decide,by decide⟩,_,_,rfl,rfl,rfl,x,_,rfl,xmem⟩
     ·refine ⟨_,rfl,rfl,_,rfl,A8n (λhne=> ?_) (λ_=>A3v ⟨rfl,x,_,rfl,xmem⟩)⟩;have hx:¬x="":=λz=>hne (by rw [z]);refine ⟨_,rfl,_,_,rfl,rfl,D9g,rfl,_,rfl,A9m (λ_=> ?_) (λ_=>⟨rfl,x,_,rfl,xmem⟩)⟩;obtain ⟨y,hy⟩:∃y,sh[i]? =some y:=⟨_,Z0b (by lia)⟩;have gk:=B2h.k (H:=G1) (a:=d) (k:=Sum.inr x) hd1;rw [(tlb x (xmem hx)).1] at gk;have gk2:=B2h.k (H:=G1) (a:=d) (k:=Sum.inr y) hd1;rw [(tls y (Z13 hy)).1] at gk2;exact ⟨_,rfl,_,rfl,_,rfl,sl,_,_,_,rfl,rfl,SqL.of hsl1,D2z hy,d,_,rfl,gk2,_,rfl,_,rfl,d,_,rfl,gk,_,_,rfl,rfl,rfl,x,_,rfl,xmem⟩
   rintro σ G2 ⟨rfl,x,z,rfl,xmem⟩;refine ⟨_,rfl,.inl ⟨rfl,_,SqL.of hIL1⟩,_,rfl,_,rfl,A0q rfl,λq hq=> ?_⟩;obtain ⟨G3,sq,hqq,e0⟩:=nH (o:= .tup [.str x,.int z]) hq
   try rw [e0]
   have hIL3:=sq _ _ hIL1;refine ⟨IL,_,_,rfl,rfl,hIL3,A1j (by lia),?_⟩;have kt:∀b zs,G3 b=some (.tup zs)->upd G3 IL (.lst (xs++[.ref q])) b=some (.tup zs):=λb zs e=>(A0j (A2n e hIL3 (by intro z;cases z))).trans e;refine ⟨_,_,_,_,ms1,xs++[.ref q],ix++[(x,z)],rfl,B7m (kG.trans (KB.of sq)) ilH,(A0j DI).trans (sq _ _ hD1),(A0j SI).trans (sq _ _ hSM1),A0b,Paired.snoc ⟨q,rfl,kt _ _ hqq⟩ (Paired.mapP px1 λ_ _ z=>z.kt λb zs e=>kt _ _ (sq _ _ e)),by rw [Z06,lix];rfl,λe he=> ?_⟩;rcases Z07.mp he with he | he
   ·exact oki e he
   ·rw [Z0w.mp he];exact xmem
  ·rintro σ G ⟨o8,o9,o10,o11,ms,xs,ix,rfl,kb,hD',hSM',hIL',px,lix,oki⟩;exact ⟨_,rfl,k IL xs ix ms G ilH kb hD' hIL' px (by lia) oki⟩
theorem D7h (c:Int):∃m:Int,atI [V.int 3,V.int 3,V.int 2,V.int 3,V.int 0,V.int 1] (c%6)=some (.int m)/\0<=m/\m<=3:=by
 have h:c%6=0\/c%6=1\/c%6=2\/c%6=3\/c%6=4\/c%6=5:=by lia
 rcases h with h | h | h | h | h | h <;> rw [h] <;> exact ⟨_,rfl,by decide,by decide⟩
theorem C1d (T:Txt K mg t):FO P w base T.mn 2 D6d:=by
 have Ge6:= @B0y P w K mg base t T;refine T.mn.F.ok A2c (by walk_at "ln") λ_ A _ s H _ Q E hr h=> ?_
 ·obtain ⟨D,bl,il,sl,ms,bd,xs,ix,szs,rfl,hD,hbl,hil,px,hsl,lix,xin,nDb,nDi,nDs,lbd,k⟩:=h;have lx:=Paired.length px
  refine ⟨_,(A0c (A0n (i:=4) A2c.nd rfl (.inl rfl) (A2d A0d))
   (A0c (A1n (A0z A5x (A0s A1d (by rfl) T.cw Z0r (A0a (pv 1) A0d)) A0l (A1i _))
    (A0e (A0v (pv 4)))
    A0r)
   (A0c (A1k PassesOwn.never rfl (A6l rfl T.ku (A0a (A3y A3b (A2d (A0a A0l (A0a A0l (A0a A0l (A0a A0l (A0a A0l (A0a A0l A0d))))))) (A0x A2o (pcl Ge6 hr T.cm (A0a (pv 0) A0d)) A0l) (λ_ _=>rfl)) A0d)) (A0h (i:=5) A2c.nd rfl (.inl rfl))
    (A0c (A0n (i:=6) A2c.nd rfl (.inl rfl) (pcl Ge6 hr T.cm (A0a (pv 0) A0d)))
    (A0c (A0n (i:=7) A2c.nd rfl (.inl rfl) (A3y A3b (pv 1) (A0x A2o (A0x A3e (pv 6) A0l) (A0s A1d (by rfl) T.cw Z0r (A0a (pv 1) A0d))) (λ_ _=>rfl)))
    (A0c (A0n (i:=8) A2c.nd rfl (.inl rfl) (A0x B0q (A0x A2o (A0x A3e (pv 6) A0l) A0l) A0l))
    (A0c (A0n (i:=9) A2c.nd rfl (.inl rfl) (A0x A6n (pv 8) (A0x A2o (A0x A3e (pv 6) A0l) A0l)))
    (A0c (A0n (i:=10) A2c.nd rfl (.inl rfl) (A3q B0f (A0x A2o (A0x A3e (pv 6) A0l) A0l) A0l (A1i _)))
    (A7z (A1n (PW.pt (B5r (A0z C1m (pv 5) (A0s A1d (by rfl) T.cw Z0r (A0a (pv 2) A0d)) (A1i _)) (B5r (A0z B0f (A3y B5y (A3y A3b (pv 2) (pv 5) (λ_ _=>rfl)) A0l (λ_ _=>rfl)) A1w (A1i _)) (B3h (A0z C1m (A0x A2o (pv 6) A0l) A0l (A1i _))))))
     (A0c (A0n (i:=7) A2c.nd rfl (.inl rfl) (A3y B5y (A3y A3b (pv 2) (pv 5) (λ_ _=>rfl)) A0l (λ_ _=>rfl)))
     (A0c (A0n (i:=8) A2c.nd rfl (.inl rfl) (A0x B0q (A0x B0k (A3a B3l (by rfl) T.vg PyProof.Rows.boot_int (A0a (A3q A5x (A0x A2o (pv 6) A0l) A0l (A1i _)) A0d)) (A0x B0q (A0x A2o (A0x A3e (pv 6) A0l) A0l) A0l)) (A3y B5y (A3y A3b (pv 2) (pv 5) (λ_ _=>rfl)) A0l (λ_ _=>rfl))))
     (A0c (A0n (i:=9) A2c.nd rfl (.inl rfl) (A0x B0q (A3y A3b (pv 3) (pv 5) (λ_ _=>rfl)) (A3y B5y (A3y A3b (pv 2) (pv 5) (λ_ _=>rfl)) A0l (λ_ _=>rfl))))
     (A0e (A0n (i:=10) A2c.nd rfl (.inl rfl) (A3q B0f (A0x A2o (A0x A3e (pv 6) A0l) A0l) A0l (A1i _)))))))
     A0r)
    (A0e (A1y (B5j Z0k Z0n Z0o A3i (pv 4) (A0a (A2g (A0a (pv 7) (A0a (pv 8) (A0a (pv 9) (A0a (pv 10) A0d))))) A0d)))))))))))
   (A0e (A0v (pv 4)))))),?_⟩
  refine ⟨A0q rfl,λGL hGL=> ?_⟩;obtain ⟨H1,s1,h1,e0⟩:=nH (o:= .lst []) hGL;rw [e0];have DG:D≠GL:=A0g hD hGL;refine ⟨_,rfl,bl,_,rfl,.inl (SqL.of (s1 _ _ hbl)),rfl,_,rfl,A9m (λ_=> ?_) (λhb0=> ?_)⟩
  ·exact ⟨_,rfl,k GL [] [] ms H1 hGL (KB.of s1) (s1 _ _ hD) h1 .nil (by intro g hg;cases hg) (by simp)⟩
  have lb0:(0:Int)<((bd.map V.str).length:Int):=by
   rcases Nat.eq_zero_or_pos bd.length with z | z
   ·exact absurd (by rw [Z08,z];rfl) hb0
   ·rw [Z08];lia
  refine ⟨A0q rfl,λz0 hz0=> ?_⟩;obtain ⟨H2,s2,h2,e0⟩:=nH (o:= .lst [V.int 3,V.int 3,V.int 2,V.int 3,V.int 0,V.int 1]) hz0;have z0D:z0≠D:=(A0g (s1 _ _ hD) hz0).symm;rw [e0];have s12:=s1.trans s2;refine ⟨_,rfl,D,ms,rfl,s12 _ _ hD,λc0 ms0 H3 l0 hD3 o3 e3=> ?_⟩;obtain ⟨m,em,m0,m3⟩:=D7h c0;have kb3:KB D H H3:=(KB.of s12).trans (B7z o3);have hGL3:H3 GL=some (.lst []):=(o3 GL DG.symm).trans (s2 _ _ h1);refine ⟨_,_,rfl,rfl,z_60,z0,_,_,_,rfl,rfl,SqL.of ((o3 z0 z0D).trans h2),em,_,rfl,by lia,by lia,?_⟩
  refine A6r (λi σ G=>∃(o5 o6 o7 o8 o9 o10:Option V) (ms:List Int) (gv:List V) (gs:List Gd),σ=[Sro D,Sro bl,Sro il,Sro sl,Sro GL,o5,o6,o7,o8,o9,o10]/\KB D H G/\G D=some (.lst (ms.map V.int))/\G GL=some (.lst gv)/\Paired (C1v G) gv gs/\gs.length=i/\∀g∈gs,g.1∈bd)
   ⟨none,none,none,none,none,none,ms0,[],[],rfl,kb3,hD3,hGL3,.nil,rfl,(by intro e he;cases he)⟩ ?_ ?_
  ·rintro i σ G hi ⟨o5,o6,o7,o8,o9,o10,ms,gv,gs,rfl,kb,hD',hGL',pg,lgs,okg⟩;rw [Int.zero_add];have hi:i<3:=by lia
   have lgv:=Paired.length pg;refine ⟨_,rfl,D,ms,rfl,hD',λc ms1 G1 l1 hD1 o1 e1=> ?_⟩;have kb1:=B7z o1;have hGL1:=(o1 GL DG.symm).trans hGL';have kG:=kb.trans kb1;have hbl1:=kG _ _ nDb.symm hbl;have hil1:=kG _ _ nDi.symm hil;have hsl1:=kG _ _ nDs.symm hsl;have pg1:Paired (C1v G1) gv gs:=Paired.mapP pg λ_ _ z=>z.kt λb zs e=>kb1 _ _ (A2n e hD' (by intro z;cases z)) e;obtain ⟨x,xm,ex⟩:=C0b (f:=V.str) (xs:=bd) (i:=c/4%((bd.map V.str).length:Int)) (Z1v _ (by lia)) (by have:=Z1p (c/4) lb0;rw [Z08] at this⊢;exact this);have xb:=Z13 xm;refine ⟨_,rfl,_,rfl,_,_,rfl,rfl,⟨by decide,by decide⟩,_,rfl,bl,_,rfl,.inl (SqL.of hbl1),_,_,rfl,rfl,lb0,bl,_,_,_,rfl,rfl,SqL.of hbl1,ex,?_⟩;refine ⟨_,rfl,_,_,rfl,rfl,⟨by decide,by decide⟩,_,_,rfl,rfl,D7c,_,_,rfl,rfl,?_⟩;refine ⟨_,rfl,_,rfl,_,_,rfl,rfl,⟨by decide,by decide⟩,_,_,rfl,rfl,D7c,_,_,rfl,rfl,?_⟩;refine ⟨_,rfl,_,_,rfl,rfl,⟨by decide,by decide⟩,_,_,rfl,rfl,E0w,rfl,?_⟩;refine ⟨λσ G2=>G1=G2/\∃(x:Str) (lo hi:Int) (b:Bool),σ=[Sro D,Sro bl,Sro il,Sro sl,Sro GL,Sio (i:Int),Sio c,Sso x,Sio lo,Sio hi,Sbo b]/\x∈bd,?_,?_⟩
   ·refine ⟨_,rfl,_,rfl,il,_,rfl,.inl (SqL.of hil1),_,_,rfl,rfl,_,rfl,A9m (λhlt=> ?_) (λ_=>A3v ⟨rfl,x,_,_,_,rfl,xb⟩)⟩;have hlt:(i:Int)<(xs.length:Int):=hlt;obtain ⟨v,hv⟩:∃v,xs[i]? =some v:=⟨_,Z0b (by lia)⟩;obtain ⟨e,he,q,rfl,hq⟩:=B2k px hv;have hq1:=kG _ _ (A2n hq hD (by intro z;cases z)) hq;have ev:atI xs (i:Int)=some (.ref q):=A4c hv;have a0:atI [V.str e.1,V.int e.2] 0=some (.str e.1):=A4c (j:=0) rfl;have a1:atI [V.str e.1,V.int e.2] 1=some (.int e.2):=A4c (j:=1) rfl;obtain ⟨sz,hsz⟩:∃v,szs[i]? =some v:=⟨_,Z0b (by lia)⟩;have es:atI (szs.map V.int) (i:Int)=some (.int sz):=A4c (by rw [Z1z,hsz];rfl);refine ⟨_,rfl,_,rfl,il,_,_,_,rfl,rfl,SqL.of hil1,ev,q,_,_,_,rfl,rfl,SqT.of hq1,a0,rfl,_,rfl,A8n (λhne=> ?_) (λ_=>A3v ⟨rfl,x,_,_,_,rfl,xb⟩)⟩;have hne:¬e.1="":=λz=>hne (by rw [z]);refine ⟨_,rfl,_,_,rfl,rfl,D3c,_,_,rfl,rfl,_,rfl,A9m (λ_=> ?_) (λ_=>⟨rfl,x,_,_,_,rfl,xb⟩)⟩;refine ⟨_,rfl,_,rfl,il,_,_,_,rfl,rfl,SqL.of hil1,ev,q,_,_,_,rfl,rfl,SqT.of hq1,a0,?_⟩;refine ⟨_,rfl,_,_,rfl,rfl,D3c,rfl,.inr ⟨_,rfl,_,rfl,_,_,rfl,rfl,⟨by decide,by decide⟩,_,_,rfl,rfl,E0w,_,_,rfl,rfl,_,_,rfl,rfl,.inl ⟨by split <;> lia,by split <;> lia⟩,_,rfl,_,rfl,il,_,_,_,rfl,rfl,SqL.of hil1,ev,q,_,_,_,rfl,rfl,SqT.of hq1,a1,_,_,rfl,rfl,?_⟩⟩;refine ⟨_,rfl,_,rfl,sl,_,_,_,rfl,rfl,SqL.of hsl1,es,_,rfl,_,rfl,il,_,_,_,rfl,rfl,SqL.of hil1,ev,q,_,_,_,rfl,rfl,SqT.of hq1,a1,_,_,rfl,rfl,?_⟩;exact ⟨_,rfl,_,_,rfl,rfl,⟨by decide,by decide⟩,_,_,rfl,rfl,z_80,rfl,rfl,e.1,_,_,_,rfl,xin e (Z13 he) hne⟩
   rintro σ G2 ⟨rfl,x,lo,hi',b,rfl,xb⟩;refine ⟨_,rfl,.inl ⟨rfl,_,SqL.of hGL1⟩,_,rfl,_,rfl,_,rfl,_,rfl,A0q rfl,λq hq=> ?_⟩;obtain ⟨G3,sq,hqq,e0⟩:=nH (o:= .tup [.str x,.int lo,.int hi',.bl b]) hq
   try rw [e0]
   have hGL3:=sq _ _ hGL1;refine ⟨GL,_,_,rfl,rfl,hGL3,A1j (by lia),?_⟩;have kt:∀b zs,G3 b=some (.tup zs)->upd G3 GL (.lst (gv++[.ref q])) b=some (.tup zs):=λb zs e=>(A0j (A2n e hGL3 (by intro z;cases z))).trans e;refine ⟨_,_,_,_,_,_,ms1,gv++[.ref q],gs++[(x,lo,hi',b)],rfl,B7m (kG.trans (KB.of sq)) hGL,(A0j DG).trans (sq _ _ hD1),A0b,Paired.snoc ⟨q,rfl,kt _ _ hqq⟩ (Paired.mapP pg1 λ_ _ z=>z.kt λb zs e=>kt _ _ (sq _ _ e)),by rw [Z06,lgs];rfl,λe he=> ?_⟩;rcases Z07.mp he with he | he
   ·exact okg e he
   ·rw [Z0w.mp he];exact xb
  ·rintro σ G ⟨o5,o6,o7,o8,o9,o10,ms,gv,gs,rfl,kb,hD',hGL',pg,lgs,okg⟩;exact ⟨_,rfl,k GL gv gs ms G hGL kb hD' hGL' pg okg (by lia)⟩
theorem D6q {α:Type} (f:α->V) (nm:List α) (lo hi:Option Int):∃zs:List α,B7s (nm.map f) lo hi=zs.map f/\zs.Sublist nm:=by
 refine ⟨(nm.drop (HT.sIx nm.length 0 lo)).take (HT.sIx nm.length nm.length hi-HT.sIx nm.length 0 lo),?_,(Z2o _ _).trans (List.drop_sublist _ _)⟩;unfold B7s;rw [Z08,<-List.map_drop,<-List.map_take]
def gdT:List Gd->Tm->Tm
 | [],u=>u
 | g::r,u=>if g.2.2.2=true then .guard g.1 g.2.1 g.2.2.1 (gdT r u) (.num g.2.1) else .guard g.1 g.2.1 g.2.2.1 (.num g.2.2.1) (gdT r u)
def smT:List Str->Tm->Tm
 | [],u=>u
 | x::r,u=> .sum x (smT r u)
abbrev Jt:=Str×Int×Int
def D4s (H:Hp) (v:V) (g:Jt):Prop:=∃q,v= .ref q/\H q=some (.tup [.str g.1,.int g.2.1,.int g.2.2])
theorem D4s.kt {H H':Hp} {v:V} {g:Jt} (h:D4s H v g) (f:∀b xs,H b=some (.tup xs)->H' b=some (.tup xs)):D4s H' v g:=let ⟨q,e,z⟩:=h;⟨q,e,f _ _ z⟩
def D6a (A:Adr):Sp:=λvs H Q _=>∃(v:V) (gl:Addr) (u:Tm) (gv:List V) (gs:List Gd) (S:Addr->Prop),vs=[v,.ref gl]/\Fr S H/\Ob A (A2h S H) v u/\H gl=some (.lst gv)/\Paired (C1v H) gv gs/\∀(v':V) (H':Hp),A0p H H'->Ob A (A2h S H') v' (gdT gs u)->Q v' H'
def C5q:Sp:=λvs H Q _=>∃(c:Int) (bl:Addr) (bd:List Str),vs=[.int c,.ref bl]/\H bl=some (.lst (bd.map V.str))/\∀(q:Addr) (jv:List V) (js:List Jt) (H':Hp),H q=none->A0p H H'->H' q=some (.lst jv)->Paired (D4s H') jv js->js.length<=1->(∀j∈js,j.1∈bd)->Q (.ref q) H'
def C5l:Sp:=λvs H Q _=>∃(c:Int) (a:Str) (nl bl:Addr) (nm bd:List Str),vs=[.int c,.str a,.ref nl,.ref bl]/\H nl=some (.lst (nm.map V.str))/\H bl=some (.lst (bd.map V.str))/\nm.length<=8/\∀(q:Addr) (ys:List Str) (H':Hp),H q=none->A0p H H'->H' q=some (.lst (ys.map V.str))->ys.length<=1->(∀y∈ys,y∈nm/\y∉bd)->(¬a="tab"->ys=[])->Q (.ref q) H'
structure AxB (nm own sm sh:List Str):Prop where
 nd:(own++sm).Nodup
 os:∀y∈own,y∈nm
 ss:∀y∈sm,y∈nm
 zd:sh.Nodup
 zs:∀y∈sh,y∈nm
 ol:own.length<=3
 sl:sm.length<=2
 zl:sh.length<=3
def C9h:Sp:=λvs H Q _=>∃(c:Int) (nl:Addr) (nm:List Str),vs=[.int c,.ref nl]/\H nl=some (.lst (nm.map V.str))/\nm.length<=4/\nm.Nodup/\∀(q o s z:Addr) (own sm sh:List Str) (H':Hp),H o=none->H s=none->H z=none->A0p H H'->H' q=some (.tup [.ref o,.ref s,.ref z])->H' o=some (.lst (own.map V.str))->H' s=some (.lst (sm.map V.str))->H' z=some (.lst (sh.map V.str))->AxB nm own sm sh->Q (.ref q) H'
def wS (L:Str->Int):List Str->Int->Int
 | [],_=>0
 | x::r,f=>f+wS L r (f*L x)
def D7x:Sp:=λvs H Q _=>∃(o s z d:Addr) (own sm sh:List Str) (lk:List (Key×V)) (L:Str->Int),vs=[.ref o,.ref s,.ref z,.ref d]/\H o=some (.lst (own.map V.str))/\H s=some (.lst (sm.map V.str))/\H z=some (.lst (sh.map V.str))/\H d=some (.dK lk)/\A4t lk L own/\A4t lk L sm/\A4t lk L sh/\∀(q:Addr) (H':Hp),A0p H H'->H' q=some (.tup [.int (prd L sh+wS L sm (prd L own)+prd L (own++sm)),.int (prd L (own++sm))])->Q (.ref q) H'
theorem C2v {α:Type} {l:List α} {n j:Nat} (hn:l.length=n) (hj:j<n) {x:α} (h:l[n-1-j]? =some x):l.drop (n-(j+1))=x::l.drop (n-j):=by
 have e1:n-(j+1)=n-1-j:=by lia
 have e2:n-j=n-1-j+1:=by lia
 rw [e1,e2];exact A5e h
theorem B8g (T:Txt K mg t):FO P w base T.jy 3 (D6a t):=by
 have Ge7:= @B0s P w K mg base t T;have Ge8:= @B5i P w K mg base t T;refine T.jy.F.ok A2v (by walk_at "ln") λ_ A _ s H _ Q E hr h=> ?_
 ·obtain ⟨v0,gl,u,gv,gs,S,rfl,fr,ob0,hgl,pg,k⟩:=h;have lgv:=Paired.length pg
  refine ⟨_,(A0c (A0n (i:=2) A2v.nd rfl (.inl rfl) (pv 0))
   (A0c (A1k PassesOwn.never rfl (C2t rfl T.j7 (A0a (pv 1) A0d)) (A2p (n:=4) rfl (A0k (A0h (i:=3) A2v.nd rfl (.inl rfl)) (A0k (A0h (i:=4) A2v.nd rfl (.inl rfl)) (A0k (A0h (i:=5) A2v.nd rfl (.inl rfl)) (A0k (A0h (i:=6) A2v.nd rfl (.inl rfl)) A1s)))))
    (A0e (A1n (A2k (pv 6))
     (A0e (A0n (i:=2) A2v.nd rfl (.inl rfl) (pmk T.t6 Ge7 hr T.m_ T.cz.b (A0a (pv 3) (A0a (pv 4) (A0a (pv 5) (A0a (pv 2) (A0a (pmk T.tZ Ge8 hr T.ux T.di.b (A0a (pv 4) A0d)) A0d))))))))
     (A0e (A0n (i:=2) A2v.nd rfl (.inl rfl) (pmk T.t6 Ge7 hr T.m_ T.cz.b (A0a (pv 3) (A0a (pv 4) (A0a (pv 5) (A0a (pmk T.tZ Ge8 hr T.ux T.di.b (A0a (pv 5) A0d)) (A0a (pv 2) A0d)))))))))))
   (A0e (A0v (pv 2))))),?_⟩
  refine ⟨_,rfl,_,rfl,gl,_,rfl,SqL.of hgl,?_⟩
  refine C6v (K:=K) (a:=gl) (xs:=gv) (λj σ G=>∃(o3 o4 o5 o6:Option V) (v:V),σ=[some v0,Sro gl,some v,o3,o4,o5,o6]/\A0p H G/\Ob t (A2h S G) v (gdT (gs.drop (gs.length-j)) u))
   ⟨none,none,none,none,v0,rfl,A0p.refl _,by rw [Nat.sub_zero,Z2i];exact ob0⟩ (by rintro j σ G ⟨_,_,_,_,_,_,s2,_⟩;exact SqL.of (s2 _ _ hgl)) ?_ ?_
  ·rintro j y σ G hj hy ⟨o3,o4,o5,o6,v,rfl,s2,obv⟩;rw [lgv] at hy hj;obtain ⟨g,hg,q,rfl,hq⟩:=B2k pg hy;refine ⟨q,_,rfl,SqT.of (s2 _ _ hq),rfl,_,_,rfl,_,_,rfl,_,_,rfl,_,_,rfl,rfl,?_⟩;rw [C2v rfl hj hg];refine ⟨_,rfl,g.2.2.2,rfl,C4a (λb1=> ?_) (λb0=> ?_)⟩
   ·refine ⟨_,rfl,_,rfl,_,rfl,_,rfl,_,rfl,λy dy hy' hdy hny=>⟨y,_,dy,_,rfl,A0b,T.c_,T.iq,rfl,?_⟩⟩;have sn:=A2i (o:= .own y) (u:= .ins t.ak dy []) (v:= .ins t.ak dy [("number",.int g.2.1)]) hy' hdy;have obn:Ob t (A2h S (upd (upd (upd G dy (.own y)) y (.ins t.ak dy [])) y (.ins t.ak dy [("number",.int g.2.1)]))) (.ref y) (.num g.2.1):= .num (A1e (fr _ (s2.free hy')) A0b);generalize upd (upd (upd G dy (.own y)) y (.ins t.ak dy [])) y (.ins t.ak dy [("number",.int g.2.1)])=G1 at sn obn⊢;refine λx dx hx hdx hne=>⟨x,dx,_,_,_,_,_,rfl,A0b,rfl,?_⟩;have si:=A2i (o:= .own x) (u:= .ins t.ae dx []) (v:= .ins t.ae dx [("axis",.str g.1),("low",.int g.2.1),("high",.int g.2.2.1),("inner",v),("outer",.ref y)]) hx hdx;refine ⟨_,_,_,_,_,rfl,s2.trans (sn.trans si),?_⟩;show Ob t _ _ (if g.2.2.2=true then _ else _);rw [Z12 b1];exact .guard (A1e (fr _ (s2.free (sn.free hx))) A0b) (obv.imp (A0w (sn.trans si))) (obn.imp (A0w si))
   ·refine ⟨_,rfl,_,rfl,_,rfl,_,rfl,λy dy hy' hdy hny=>⟨y,_,dy,_,rfl,A0b,T.c_,T.iq,rfl,?_⟩⟩;have sn:=A2i (o:= .own y) (u:= .ins t.ak dy []) (v:= .ins t.ak dy [("number",.int g.2.2.1)]) hy' hdy;have obn:Ob t (A2h S (upd (upd (upd G dy (.own y)) y (.ins t.ak dy [])) y (.ins t.ak dy [("number",.int g.2.2.1)]))) (.ref y) (.num g.2.2.1):= .num (A1e (fr _ (s2.free hy')) A0b);generalize upd (upd (upd G dy (.own y)) y (.ins t.ak dy [])) y (.ins t.ak dy [("number",.int g.2.2.1)])=G1 at sn obn⊢;refine ⟨_,rfl,λx dx hx hdx hne=>⟨x,dx,_,_,_,_,_,rfl,A0b,rfl,?_⟩⟩;have si:=A2i (o:= .own x) (u:= .ins t.ae dx []) (v:= .ins t.ae dx [("axis",.str g.1),("low",.int g.2.1),("high",.int g.2.2.1),("inner",.ref y),("outer",v)]) hx hdx;refine ⟨_,_,_,_,_,rfl,s2.trans (sn.trans si),?_⟩;show Ob t _ _ (if g.2.2.2=true then _ else _);rw [Z0t (by rw [b0];exact Z0v)];exact .guard (A1e (fr _ (s2.free (sn.free hx))) A0b) (obn.imp (A0w si)) (obv.imp (A0w (sn.trans si)))
  ·rintro σ G ⟨o3,o4,o5,o6,v,rfl,s2,obv⟩;rw [lgv,Nat.sub_self,Z2r] at obv;exact ⟨_,rfl,k v G s2 obv⟩
theorem C4f (T:Txt K mg t):FO P w base T.ph 1 C5q:=by
 refine T.ph.F.ok B5p (by walk_at "ln") λ_ A _ s H _ Q E hr h=> ?_
 ·obtain ⟨c,bl,bd,rfl,hbl,k⟩:=h
  refine ⟨_,(A0c (A1n (PW.pt (C1o (A0z B0f (A0x A2o (pv 0) A0l) A0l (A1i _)) (B5l (A0z A5x (A0s A1d (by rfl) T.cw Z0r (A0a (pv 1) A0d)) A0l (A1i _)))))
    (A0e (A0v (A2d A0d)))
    A0r)
   (A0c (A0n (i:=2) B5p.nd rfl (.inl rfl) (A0x B0q (A0x A2o (A0x A3e (pv 0) A0l) A0l) A0l))
   (A0e (A0v (A2d (A0a (A2g (A0a (A3y A3b (pv 1) (A0x A2o (A0x A3e (pv 0) A0l) (A0s A1d (by rfl) T.cw Z0r (A0a (pv 1) A0d))) (λ_ _=>rfl)) (A0a (pv 2) (A0a (A0x A6n (pv 2) (A0x A2o (A0x A3e (pv 0) A0l) A0l)) A0d)))) A0d)))))),?_⟩
  have none':∀q:Addr,H q=none->Q (.ref q) (upd H q (.lst [])):=λq hq=>k q [] [] _ hq (A0f hq) A0b .nil (by simp) (by intro j hj;cases hj);refine ⟨_,rfl,_,_,rfl,rfl,E0w,rfl,_,rfl,A8n (λ_=>B2r ⟨A0q rfl,none'⟩) (λ_=> ?_)⟩;refine ⟨_,rfl,bl,_,rfl,.inl (SqL.of hbl),rfl,_,rfl,A9m (λ_=>⟨A0q rfl,none'⟩) (λhb0=> ?_)⟩
  have lb0:(0:Int)<((bd.map V.str).length:Int):=by
   rcases Nat.eq_zero_or_pos bd.length with z | z
   ·exact absurd (by rw [Z08,z];rfl) hb0
   ·rw [Z08];lia
  obtain ⟨x,xm,ex⟩:=C0b (f:=V.str) (xs:=bd) (i:=c/3%((bd.map V.str).length:Int)) (Z1v _ (by lia)) (by have:=Z1p (c/3) lb0;rw [Z08] at this⊢;exact this);refine ⟨_,rfl,_,_,rfl,rfl,⟨by decide,by decide⟩,_,_,rfl,rfl,D7c,_,_,rfl,rfl,?_⟩;refine ⟨_,rfl,_,rfl,_,_,rfl,rfl,⟨by decide,by decide⟩,_,rfl,bl,_,rfl,.inl (SqL.of hbl),_,_,rfl,rfl,lb0,bl,_,_,_,rfl,rfl,SqL.of hbl,ex,_,rfl,_,rfl,_,rfl,_,_,rfl,rfl,⟨by decide,by decide⟩,_,_,rfl,rfl,D7c,_,_,rfl,rfl,A0q rfl,λq hq=>⟨A0q rfl,λz hz=> ?_⟩⟩;have s1:=A0f (o:= .tup [.str x,.int (c/12%5-1),.int (c/12%5-1+c/60%5)]) hq;have s2:=A0f (o:= .lst [.ref q]) hz;refine k z _ [(x,c/12%5-1,c/12%5-1+c/60%5)] _ (s1.free hz) (s1.trans s2) A0b (.cons ⟨q,rfl,s2 _ _ A0b⟩ .nil) (by simp) ?_;intro j hj;rw [Z0w.mp hj];exact Z13 xm
theorem C4o (T:Txt K mg t):FO P w base T.qe 1 C5l:=by
 refine T.qe.F.ok B5z (by walk_at "ln") λ_ A _ s H _ Q E hr h=> ?_
 ·obtain ⟨c,a,nl,bl,nm,bd,rfl,hnl,hbl,lnm,k⟩:=h
  refine ⟨_,(A0c (C7v (i₀:=4) (N':=["_law_name","_law_bound"]) (ix:=(List.replicate 1 none++[some 3])) (tc:=D4x (tOp (rIn K true) (D7a 0) (D7a 1))) B5z.nd rfl (.inl rfl) rfl (A5h (x:="_law_bound") rfl rfl rfl (by decide +kernel) (by decide +kernel)) (A4g (N0:=["_law_name"]) rfl (.inl rfl) (by walk_at "ix")) (A1b (pv 2)) (λ_ _ _ _=>(A0h (i:=0) C3o rfl (.inl rfl))) (λ_ _ _ _=>(A0z A3f (pv 0) (pv 1) (by with_unfolding_all rfl))) (λ_ _ _ _=>(pv 0)))
   (A0c (A1n (PW.pt (B5r (A0z A5x (pv 1) A1w (A1i _)) (B3h (A0z A5x (A0x A2o (A0x A3e (pv 0) A0l) A0l) A0l (A1i _)))))
    (A0e (A0v (A4b A6j (pv 4) A5m (A5r A0l))))
    A0r)
   (A0e (A0v (A2d A0d))))),?_⟩
  refine ⟨_,rfl,nl,rfl,⟨_,SqL.of hnl⟩,λD2 hD2=> ?_⟩;refine B3q (K:=K) (a:=nl) (D:=D2) (xs:=nm.map V.str) (λj ys H3=>A0p H H3/\H3 D2=some (.lst ys)/\∃zs:List Str,ys=zs.map V.str/\zs.length<=j/\∀z∈zs,z∈nm/\z∉bd) ⟨A0f hD2,A0b,[],rfl,by simp,(by intro z hz;cases hz)⟩ (λj ys H3 s3=>SqL.of (s3.1 _ _ hnl)) ?_ ?_
  ·rintro j y ys H3 hy ⟨s3,h3,zs,rfl,lz,mz⟩;obtain ⟨z,hz,rfl⟩:=A1r hy;have hj:j<nm.length:=(Z03.mp hz).1;refine ⟨⟨rfl,True.intro⟩,_,rfl,_,rfl,bl,_,rfl,.inl (SqL.of (s3 _ _ hbl)),rfl,A3h bd,_,rfl,?_⟩;show if (!inV (V.str z) (bd.map V.str))=true then _ else _
   rw [A4w];refine A8n (λnz=> ?_) (λ_=> ?_)
   ·refine ⟨_,rfl,h3,A1j (by rw [Z08];lia),A0u s3 hD2,A0b,zs++[z],by simp,(by rw [Z06];simp only [Z0y,Z2g];lia),λy hy=> ?_⟩;rcases Z07.mp hy with hy | hy
    ·exact mz y hy
    ·rw [Z0w.mp hy];exact ⟨Z13 hz,nz⟩
   ·exact ⟨s3,h3,zs,rfl,by lia,mz⟩
  rintro ys G2 ⟨s3,h3,zs,rfl,lz,mz⟩;have fin:∀q:Addr,G2 q=none->Q (.ref q) (upd G2 q (.lst [])):=λq hq=>k q [] _ (s3.free hq) (s3.trans (A0f hq)) A0b (by simp) (by intro y hy;cases hy) (λ_=>rfl);refine ⟨_,rfl,rfl,_,rfl,A9m (λha=> ?_) (λha=>A3v ⟨A0q rfl,fin⟩)⟩;have ha:a="tab":=V.str.inj ha;refine ⟨_,rfl,_,_,rfl,rfl,⟨by decide,by decide⟩,_,_,rfl,rfl,E3f,rfl,_,rfl,A9m (λ_=> ?_) (λ_=>⟨A0q rfl,fin⟩)⟩;refine ⟨_,rfl,_,rfl,D2,_,rfl,SqL.of h3,λq hq=> ?_⟩;have e1:B7s (zs.map V.str) none (some 1)=(zs.take 1).map V.str:=B1w (i:=1);rw [e1];exact k q (zs.take 1) _ (s3.free hq) (s3.trans (A0f hq)) A0b (by rw [Z0x];lia) (λy hy=>mz y (Z2p hy)) (λz=>absurd ha z)
theorem B9r (T:Txt K mg t):FO P w base T.jx 1 C9h:=by
 refine T.jx.F.ok A6b (by walk_at "ln") λ_ A _ s H _ Q E hr h=> ?_
 ·obtain ⟨c,nl,nm,rfl,hnl,lnm,ndn,k⟩:=h
  refine ⟨_,(A0c (A0n (i:=2) A6b.nd rfl (.inr rfl) (A4b A6j (pv 1) A5m (A5r (A0x A2o (pv 0) A0l))))
   (A7z (A1n (A0z A5x (A0x A2o (A0x A3e (pv 0) A0l) A0l) A0l (A1i _))
    (A0e (A0n (i:=2) A6b.nd rfl (.inr rfl) (A3s (N':=["_law_name"]) (ix:=(List.replicate 1 none)) rfl (A2q rfl (by decide +kernel) (by decide +kernel)) (A2r rfl) (C2t rfl T.j7 (A0a (pv 2) A0d)) (λ_ _ _ _=>(A0h (i:=0) C3d rfl (.inl rfl))) (λ_ _ _ _=>(pv 0)))))
    A0r)
   (A0c (A0n (i:=3) A6b.nd rfl (.inl rfl) (A4b A6j (C7g (N':=["_law_name","_law_own"]) (ix:=(List.replicate 1 none++[some 2])) (tc:=D4x (tOp (rIn K true) (D7a 0) (D7a 1))) rfl (A5h (x:="_law_own") rfl rfl rfl (by decide +kernel) (by decide +kernel)) (A4g (N0:=["_law_name"]) rfl (.inl rfl) (by walk_at "ix")) (A1b (pv 1)) (λ_ _ _ _=>(A0h (i:=0) C3v rfl (.inl rfl))) (λ_ _ _ _=>(A0z A3f (pv 0) (pv 1) (by with_unfolding_all rfl))) (λ_ _ _ _=>(pv 0))) A5m (A5r (A0x A2o (A0x A3e (pv 0) A0l) A0l))))
   (A0e (A0v (A2g (A0a (pv 2) (A0a (pv 3) (A0a (A4b A6j (A4b A6j (pv 1) (A5r (A0x A2o (A0x A3e (pv 0) A0l) A0l)) A5m) A5m (A5r A0l)) A0d))))))))),?_⟩
  obtain ⟨m,em,m4⟩:∃m:Nat,c%4=(m:Int)/\m<=3:=⟨(c%4).toNat,by lia,by lia⟩;refine ⟨_,rfl,_,rfl,_,_,rfl,rfl,D3c,?_⟩;dsimp only;rw [em];refine ⟨_,rfl,nl,_,rfl,SqL.of hnl,λo ho=> ?_⟩;rw [B1w];obtain ⟨H1,s1,h1,e0⟩:=nH (o:= .lst ((nm.take m).map V.str)) ho;rw [e0];have o1:∀y∈nm.take m,y∈nm:=λy hy=>Z2p hy;have n1:(nm.take m).Nodup:=(Z2o m nm).nodup ndn;have l1:(nm.take m).length<=3:=by rw [Z0x];lia
  generalize nm.take m=ow0 at h1 o1 n1 l1;refine ⟨λσ G=>∃(o:Addr) (own:List Str),σ=[Sio c,Sro nl,Sro o,none]/\H o=none/\A0p H G/\G o=some (.lst (own.map V.str))/\(∀y∈own,y∈nm)/\own.Nodup/\own.length<=3,?_,?_⟩
  ·refine ⟨_,rfl,_,_,rfl,rfl,⟨by decide,by decide⟩,_,_,rfl,rfl,E3f,rfl,_,rfl,A9m (λ_=> ?_) (λ_=>⟨o,ow0,rfl,ho,s1,h1,o1,n1,l1⟩)⟩;refine ⟨_,rfl,o,_,rfl,SqL.of h1,λr hr0=> ?_⟩;have oR:o≠r:=A0g h1 hr0;refine B1c (D:=r) (ow0.map V.str).length (λi ys H2=>A0p H1 H2/\H2 r=some (.lst ys)/\ys=(ow0.reverse.take i).map V.str) ⟨A0f hr0,A0b,rfl⟩ (λi ys H2 hi ⟨s2,_⟩=> ?_) (λys H2 _=>rfl) ?_ ?_
   ·exact ⟨_,(ow0.map V.str)[(ow0.map V.str).length-1-i],SqL.of (s2 _ _ h1),rfl,hi,Z0b (by lia)⟩
   ·rintro i ys H2 hi ⟨s2,h2,rfl⟩ x H3 ⟨rfl,hx⟩;have hx:=hx _ (SqL.of (s2 _ _ h1));obtain ⟨z,hz,rfl⟩:=A1r hx;rw [Z08] at hi hz;refine ⟨True.intro,_,rfl,h2,A1j (by rw [Z08,Z0x,List.length_reverse];lia),A0u s2 hr0,A0b,?_⟩;rw [Z14,List.getElem?_reverse hi,hz,Z2f,Z0s];rfl
   rintro ys H2 ⟨s2,h2,rfl⟩;rw [Z08,Z2l (by rw [List.length_reverse];exact Z09 _)] at h2;exact ⟨r,ow0.reverse,rfl,s1.free hr0,s1.trans s2,h2,λy hy=>o1 y (List.mem_reverse.mp hy),(List.pairwise_reverse.mpr (List.Pairwise.imp (λh=>Ne.symm h) n1)),by rw [List.length_reverse];exact l1⟩
  rintro σ G ⟨o,own,rfl,ho,sG,hG,om,on,ol⟩;refine ⟨_,rfl,nl,rfl,⟨_,SqL.of (sG _ _ hnl)⟩,λD2 hD2=> ?_⟩;refine B3q (K:=K) (a:=nl) (D:=D2) (xs:=nm.map V.str) (λj ys H3=>A0p G H3/\H3 D2=some (.lst ys)/\∃zs:List Str,ys=zs.map V.str/\zs.Sublist (nm.take j)/\∀z∈zs,z∉own) ⟨A0f hD2,A0b,[],rfl,List.nil_sublist _,(by intro z hz;cases hz)⟩ (λj ys H3 s3=>SqL.of (s3.1 _ _ (sG _ _ hnl))) ?_ ?_
  ·rintro j y ys H3 hy ⟨s3,h3,zs,rfl,lz,mz⟩;obtain ⟨z,hz,rfl⟩:=A1r hy;have hj:j<nm.length:=(Z03.mp hz).1;have ll:=lz.length_le;rw [Z0x] at ll;have et:nm.take (j+1)=nm.take j++[z]:=by rw [Z14,hz,Z2f]
   refine ⟨⟨rfl,True.intro⟩,_,rfl,_,rfl,o,_,rfl,.inl (SqL.of (s3 _ _ hG)),rfl,A3h own,_,rfl,?_⟩;show if (!inV (V.str z) (own.map V.str))=true then _ else _
   rw [A4w];refine A8n (λnz=> ?_) (λ_=> ?_)
   ·refine ⟨_,rfl,h3,A1j (by rw [Z08];lia),A0u s3 hD2,A0b,zs++[z],by simp,(by rw [et];exact lz.append (List.Sublist.refl _)),λy hy=> ?_⟩;rcases Z07.mp hy with hy | hy
    ·exact mz y hy
    ·rw [Z0w.mp hy];exact nz
   ·exact ⟨s3,h3,zs,rfl,by rw [et];exact lz.trans (List.sublist_append_left _ _),mz⟩
  rintro ys G2 ⟨s2,h2,zs,rfl,lz,mz⟩;rw [Z08,Z18] at lz;obtain ⟨m2,em2,m24⟩:∃m:Nat,c/8%3=(m:Int)/\m<=2:=⟨(c/8%3).toNat,by lia,by lia⟩;refine ⟨_,rfl,_,_,rfl,rfl,⟨by decide,by decide⟩,_,_,rfl,rfl,E0w,?_⟩;dsimp only;rw [em2];refine ⟨_,rfl,D2,_,rfl,SqL.of h2,λS hSS=> ?_⟩;rw [B1w];obtain ⟨G3,s3,h3,e0⟩:=nH (o:= .lst ((zs.take m2).map V.str)) hSS;have sH:H S=none:=sG.free (s2.free hSS);rw [e0];have s23:=s2.trans s3;have s03:=sG.trans s23;obtain ⟨zz,ez,subz⟩:=D6q V.str nm (some (c/24%4)) none;refine ⟨_,rfl,_,rfl,_,rfl,_,rfl,_,_,rfl,rfl,⟨by decide,by decide⟩,_,_,rfl,rfl,D3c,_,rfl,nl,_,rfl,SqL.of (s03 _ _ hnl),λz1 hz1=> ?_⟩;rw [ez];obtain ⟨G4,s4,h4,e0⟩:=nH (o:= .lst (zz.map V.str)) hz1;rw [e0];refine ⟨_,rfl,z1,_,rfl,SqL.of h4,λZ hZ=> ?_⟩;have e3:B7s (zz.map V.str) none (some 3)=(zz.take 3).map V.str:=B1w (i:=3);rw [e3];obtain ⟨G5,s5,h5,e0⟩:=nH (o:= .lst ((zz.take 3).map V.str)) hZ;have zH:H Z=none:=s03.free (s4.free hZ);rw [e0];refine ⟨A0q rfl,λq hq=> ?_⟩;have s6:=A0f (o:= .tup [.ref o,.ref S,.ref Z]) hq;have s36:=s4.trans (s5.trans s6);have mm:∀y∈zs.take m2,y∉own:=λy hy=>mz y (Z2p hy);have ns:(zs.take m2).Nodup:=((Z2o m2 zs).trans lz).nodup ndn;exact k q o S Z own (zs.take m2) (zz.take 3) _ ho sH zH (s03.trans s36) A0b ((s23.trans s36) _ _ hG) (s36 _ _ h3) (s6 _ _ h5) ⟨Z0l.mpr ⟨on,ns,λa ha b hb e=>mm b hb (e▸ha)⟩,om,λy hy=>lz.subset (Z2p hy),((Z2o 3 zz).trans subz).nodup ndn,λy hy=>subz.subset (Z2p hy),ol,by rw [Z0x];lia,by rw [Z0x];lia⟩
theorem B5a (T:Txt K mg t):FO P w base T.i7 1 D7x:=by
 refine T.i7.F.ok A1o (by walk_at "ln") λ_ A _ s H _ Q E hr h=> ?_
 ·obtain ⟨o,s,z,d,own,sm,sh,lk,L,rfl,ho,hs,hz,hd,tlo,tls,tlz,k⟩:=h;have hu:=B0m hr
  have gk:∀{ys:List Str} {i:Nat} {y:Str},A4t lk L ys->ys[i]? =some y->B2h H d (.str y) (some (.int (L y)))/\0<=L y/\L y<=60:=λ{ys i y} tl hy=>by
   obtain ⟨v1,v2⟩:=tl y (Z13 hy);have g:=B2h.k (H:=H) (a:=d) (k:=Sum.inr y) hd;rw [v1] at g;exact ⟨g,v2⟩
  refine ⟨_,(A0c (A0n (i:=4) A1o.nd rfl (.inl rfl) A0l)
   (A0c (A1k PassesOwn.never rfl (A1b (pv 2)) (A0h (i:=5) A1o.nd rfl (.inl rfl))
    (A0e (A0n (i:=4) A1o.nd rfl (.inl rfl) (A0x B0k (pv 4) (A3j hu (pv 3) (pv 5) (λ_ _=>rfl))))))
   (A0c (A0n (i:=6) A1o.nd rfl (.inl rfl) A0l)
   (A0c (A1k PassesOwn.never rfl (A1b (pv 0)) (A0h (i:=5) A1o.nd rfl (.inl rfl))
    (A0e (A0n (i:=6) A1o.nd rfl (.inl rfl) (A0x B0k (pv 6) (A3j hu (pv 3) (pv 5) (λ_ _=>rfl))))))
   (A0c (A1k PassesOwn.never rfl (A1b (pv 1)) (A0h (i:=5) A1o.nd rfl (.inl rfl))
    (A0c (A0n (i:=4) A1o.nd rfl (.inl rfl) (A0x A6n (pv 4) (pv 6)))
    (A0e (A0n (i:=6) A1o.nd rfl (.inl rfl) (A0x B0k (pv 6) (A3j hu (pv 3) (pv 5) (λ_ _=>rfl)))))))
   (A0e (A0v (A2g (A0a (A0x A6n (pv 4) (pv 6)) (A0a (pv 6) A0d)))))))))),?_⟩
  refine ⟨_,rfl,z,rfl,⟨_,SqL.of hz⟩,?_⟩;refine A1f (K:=K) (a:=z) (xs:=sh.map V.str) (λi σ H2=>H=H2/\∃o5:Option V,σ=[Sro o,Sro s,Sro z,Sro d,Sio (prd L (sh.take i)),o5,none]) ⟨rfl,none,rfl⟩ (λi σ H2 _ h=>by rw [<-h.1];exact SqL.of hz) ?_ ?_
  ·rintro i x σ H2 hx ⟨rfl,o3,rfl⟩;obtain ⟨y,hy,rfl⟩:=A1r hx;obtain ⟨g,v2,v3⟩:=gk tlz hy;refine ⟨_,rfl,_,rfl,_,rfl,d,_,rfl,g,_,_,rfl,rfl,.inr ⟨by lia,by lia⟩,rfl,some (.str y),?_⟩;rw [Z14,hy,Z2f,A5i];rfl
  rintro σ H2 ⟨rfl,o5,rfl⟩;rw [Z08,Z18];refine ⟨_,rfl,o,rfl,⟨_,SqL.of ho⟩,?_⟩;refine A1f (K:=K) (a:=o) (xs:=own.map V.str) (λi σ H2=>H=H2/\∃o5:Option V,σ=[Sro o,Sro s,Sro z,Sro d,Sio (prd L sh),o5,Sio (prd L (own.take i))]) ⟨rfl,_,rfl⟩ (λi σ H2 _ h=>by rw [<-h.1];exact SqL.of ho) ?_ ?_
  ·rintro i x σ H2 hx ⟨rfl,o3,rfl⟩;obtain ⟨y,hy,rfl⟩:=A1r hx;obtain ⟨g,v2,v3⟩:=gk tlo hy;refine ⟨_,rfl,_,rfl,_,rfl,d,_,rfl,g,_,_,rfl,rfl,.inr ⟨by lia,by lia⟩,rfl,some (.str y),?_⟩;rw [Z14,hy,Z2f,A5i];rfl
  rintro σ H2 ⟨rfl,o5,rfl⟩;rw [Z08,Z18];refine ⟨_,rfl,s,rfl,⟨_,SqL.of hs⟩,?_⟩;refine A1f (K:=K) (a:=s) (xs:=sm.map V.str) (λi σ H2=>H=H2/\∃(o5:Option V) (wk:Int),σ=[Sro o,Sro s,Sro z,Sro d,Sio wk,o5,Sio (prd L (own++sm.take i))]/\wk+wS L (sm.drop i) (prd L (own++sm.take i))=prd L sh+wS L sm (prd L own)) ⟨rfl,_,prd L sh,by rw [List.take_zero,Z0u],by rw [List.take_zero,Z0u];rfl⟩ (λi σ H2 _ h=>by rw [<-h.1];exact SqL.of hs) ?_ ?_
  ·rintro i x σ H2 hx ⟨rfl,o3,wk,rfl,ew⟩;obtain ⟨y,hy,rfl⟩:=A1r hx;obtain ⟨g,v2,v3⟩:=gk tls hy;rw [A5e hy] at ew;have et:prd L (own++sm.take (i+1))=prd L (own++sm.take i)*L y:=by rw [Z14,hy,Z2f,<-Z0z,A5i]
   refine ⟨_,rfl,_,rfl,_,_,rfl,rfl,?_⟩;refine ⟨_,rfl,_,rfl,_,rfl,d,_,rfl,g,_,_,rfl,rfl,.inr ⟨by lia,by lia⟩,rfl,some (.str y),wk+prd L (own++sm.take i),by rw [et];rfl,?_⟩;rw [et];have ew:wk+(prd L (own++sm.take i)+wS L (sm.drop (i+1)) (prd L (own++sm.take i)*L y))=_:=ew
   lia
  rintro σ H2 ⟨rfl,o5,wk,rfl,ew⟩;rw [Z08,Z2i,Z18] at ew;have ew:wk+0=_:=ew;rw [Z08,Z18];refine ⟨_,rfl,_,rfl,_,_,rfl,rfl,_,rfl,A0q rfl,λq hq=>k q _ (A0f hq) ?_⟩;rw [A0b,<-ew,Int.add_zero]
abbrev Rd:=Str×List Int×List (Str×Int)×List Gd×List Str
def B5s (S:Addr->Prop) (H:Hp) (v:V) (r:Rd):Prop:=∃(q sl il gl nl:Addr) (xs gv:List V),v= .ref q/\H q=some (.tup [.str r.1,.ref sl,.ref il,.ref gl,.ref nl])/\S sl/\H sl=some (.lst (r.2.1.map V.int))/\S il/\H il=some (.lst xs)/\Paired (C5k H) xs r.2.2.1/\S gl/\H gl=some (.lst gv)/\Paired (C1v H) gv r.2.2.2.1/\S nl/\H nl=some (.lst (r.2.2.2.2.map V.str))
theorem B5s.keep {S S':Addr->Prop} {H H':Hp} {v:V} {r:Rd} (h:B5s S H v r) (i:∀b,S b->S' b) (f:∀b xs,H b=some (.tup xs)->H' b=some (.tup xs)) (g:∀b xs,S b->H b=some (.lst xs)->H' b=some (.lst xs)):B5s S' H' v r:=by
 obtain ⟨q,sl,il,gl,nl,xs,gv,e,h1,z2,h2,z3,h3,p3,z4,h4,p4,z5,h5⟩:=h;exact ⟨q,sl,il,gl,nl,xs,gv,e,f _ _ h1,i _ z2,g _ _ z2 h2,i _ z3,g _ _ z3 h3,Paired.mapP p3 λ_ _ z=>z.kt f,i _ z4,g _ _ z4 h4,Paired.mapP p4 λ_ _ z=>z.kt f,i _ z5,g _ _ z5 h5⟩
theorem B5s.same {S:Addr->Prop} {H H':Hp} {v:V} {r:Rd} (h:B5s S H v r) (s:A0p H H'):B5s S H' v r:=h.keep (λ_ z=>z) (λ_ _ e=>s _ _ e) λ_ _ _ e=>s _ _ e
def arM (b:Bool):Str:=if b=true then "mine" else "tab"
theorem E0a (b:Bool):atI [V.str "tab",V.str "mine"] (if b=true then 1 else 0)=some (.str (arM b)):=by cases b <;> rfl
def axM (b:Bool) (own sh:List Str):List Str:=if b=true then own else sh
structure C1z (nm own sm sh:List Str) (L:Str->Int) (r:Rd):Prop where
 ar:∃b,r.1=arM b/\r.2.1=(axM b own sh).map L/\(b=true->r.2.2.2.2=[])
 lx:r.2.2.1.length=r.2.1.length
 xi:∀e∈r.2.2.1,¬e.1=""->e.1∈own++sm++r.2.2.2.2
 gi:∀g∈r.2.2.2.1,g.1∈own++sm++r.2.2.2.2
 gl:r.2.2.2.1.length<=3
 il:r.2.2.2.2.length<=1
 im:∀y∈r.2.2.2.2,y∈nm/\y∉own++sm
def D4e:Sp:=λvs H Q _=>∃(D nl o s z d:Addr) (ms:List Int) (nm own sm sh:List Str) (lk:List (Key×V)) (L:Str->Int),vs=[.ref D,.ref nl,.ref o,.ref s,.ref z,.ref d]/\H D=some (.lst (ms.map V.int))/\H nl=some (.lst (nm.map V.str))/\H o=some (.lst (own.map V.str))/\H s=some (.lst (sm.map V.str))/\H z=some (.lst (sh.map V.str))/\H d=some (.dK lk)/\D≠nl/\D≠o/\D≠s/\D≠z/\AxB nm own sm sh/\nm.length<=4/\A4t lk L nm/\
 ∀(q:Addr) (rv:List V) (rs:List Rd) (ms':List Int) (H':Hp),H q=none->KB D H H'->H' D=some (.lst (ms'.map V.int))->H' q=some (.lst rv)->Paired (B5s (λb=>b≠D) H') rv rs->rs.length=2->(∀r∈rs,C1z nm own sm sh L r)->(∀r,rs[0]? =some r->r.2.2.2.2=[])->Q (.ref q) H'
theorem A4t.sub {lk:List (Key×V)} {L:Str->Int} {nm ys:List Str} (h:A4t lk L nm) (s:∀y∈ys,y∈nm):A4t lk L ys:=λy hy=>h y (s y hy)
theorem C9i (T:Txt K mg t):FO P w base T.ue 3 D4e:=by
 have Ge6:= @B0y P w K mg base t T;have Ge9:= @C1d P w K mg base t T;have Gf0:= @B9f P w K mg base t T;have Gf1:= @C4o P w K mg base t T;refine T.ue.F.ok A3n (λvs H Q E h=> ?_) (λcdv A outer s' H vs Q E hr h=> ?_)
 ·obtain ⟨D,nl,o,s,z,d,ms,nm,own,sm,sh,lk,L,rfl,_⟩:=h;rfl
 ·obtain ⟨D,nl,o,s,z,d,ms,nm,own,sm,sh,lk,L,rfl,hD,hnl,ho,hs,hz,hd,nDn,nDo,nDs,nDz,axb,lnm,tl,k⟩:=h;have hu:=B0m hr;have ol:=axb.ol;have sl:=axb.sl;have zl:=axb.zl
  have bdm:∀y∈own++sm,y∈nm:=λy hy=>by
   rcases Z07.mp hy with hy | hy
   ·exact axb.os y hy
   ·exact axb.ss y hy
  refine ⟨_,(A0c (A0n (i:=6) A3n.nd rfl (.inl rfl) (A2d A0d))
   (A0c (A0n (i:=7) A3n.nd rfl (.inl rfl) (A0x A5c (pv 2) (pv 3)))
   (A0c (A1k PassesOwn.never rfl (A6l rfl T.ku (A0a A0l A0d)) (A0h (i:=8) A3n.nd rfl (.inl rfl))
    (A0c (A0n (i:=9) A3n.nd rfl (.inl rfl) (pcl Ge6 hr T.cm (A0a (pv 0) A0d)))
    (A0c (A0n (i:=10) A3n.nd rfl (.inl rfl) (A3q B0f (A0x A2o (pv 9) A0l) A0l (A1i _)))
    (A0c (A0n (i:=11) A3n.nd rfl (.inl rfl) (A3y A3b (A2d (A0a A1w (A0a A1w A0d))) (A3a B3l (by rfl) T.vg PyProof.Rows.boot_int (A0a (pv 10) A0d)) (λ_ _=>rfl)))
    (A0c (A0n (i:=12) A3n.nd rfl (.inl rfl) (A3y A3b (A2d (A0a (pv 4) (A0a (pv 2) A0d))) (A3a B3l (by rfl) T.vg PyProof.Rows.boot_int (A0a (pv 10) A0d)) (λ_ _=>rfl)))
    (A0c (A0n (i:=13) A3n.nd rfl (.inl rfl) (A2d A0d))
    (A7z (A1n (A0z A5x (pv 8) A0l (A1i _))
     (A0e (A0n (i:=13) A3n.nd rfl (.inl rfl) (pcl Gf1 hr T.qe (A0a (pv 9) (A0a (pv 11) (A0a (pv 1) (A0a (pv 7) A0d)))))))
     A0r)
    (A0c (B6v (i₀:=14) (N':=["_law_name","_law_lengths"]) (ix:=(List.replicate 1 none++[some 5])) A3n.nd rfl (.inl rfl) rfl (A5h (x:="_law_lengths") rfl rfl rfl (by decide +kernel) (by decide +kernel)) (A4g (N0:=["_law_name"]) rfl (.inl rfl) (by walk_at "ix")) (A1b (pv 12)) (λ_ _ _ _=>(A0h (i:=0) C4c rfl (.inl rfl))) (λ_ _ _ _=>(A3j hu (pv 1) (pv 0) (λ_ _=>rfl))))
    (A0c (A0n (i:=15) A3n.nd rfl (.inl rfl) (pcl Gf0 hr T.jq (A0a (pv 0) (A0a (pv 2) (A0a (A0x A5c (pv 7) (pv 13)) (A0a (pv 12) (A0a (pv 5) (A0a (pv 10) A0d))))))))
    (A0c (A0n (i:=16) A3n.nd rfl (.inl rfl) (pcl Ge9 hr T.mn (A0a (pv 0) (A0a (A0x A5c (pv 7) (pv 13)) (A0a (pv 15) (A0a (pv 14) A0d))))))
    (A0e (A1y (B5j Z0k Z0n Z0o A3i (pv 6) (A0a (A2g (A0a (pv 11) (A0a (pv 14) (A0a (pv 15) (A0a (pv 16) (A0a (pv 13) A0d)))))) A0d))))))))))))))
   (A0e (A0v (pv 6)))))),?_⟩
  refine ⟨A0q rfl,λRL hRL=> ?_⟩;obtain ⟨H1,s1,h1,e0⟩:=nH (o:= .lst []) hRL;rw [e0];refine ⟨_,rfl,_,rfl,o,s,_,_,rfl,rfl,s1 _ _ ho,s1 _ _ hs,A0o (by simp;lia),λBD hBD=> ?_⟩;have s2:A0p H1 (upd H1 BD (.lst (own.map V.str++sm.map V.str))):=A0f hBD;have h2:upd H1 BD (.lst (own.map V.str++sm.map V.str)) BD=some (.lst ((own++sm).map V.str)):=by rw [A0b,Z0s]
  generalize upd H1 BD (.lst (own.map V.str++sm.map V.str))=H2 at s2 h2⊢;have s12:=s1.trans s2;have DR:D≠RL:=A0g hD hRL;have bdH:H BD=none:=s1.free hBD;have DB:D≠BD:=A0g hD bdH;have BR:BD≠RL:=λe=>by rw [e,h1] at hBD;cases hBD
  refine ⟨_,rfl,by decide,by decide,?_⟩
  refine A6r (λi σ G=>∃(o8 o9 o10 o11 o12 o13 o14 o15 o16:Option V) (ms:List Int) (rv:List V) (rs:List Rd),σ=[Sro D,Sro nl,Sro o,Sro s,Sro z,Sro d,Sro RL,Sro BD,o8,o9,o10,o11,o12,o13,o14,o15,o16]/\KB D H G/\G D=some (.lst (ms.map V.int))/\G BD=some (.lst ((own++sm).map V.str))/\G RL=some (.lst rv)/\Paired (B5s (λb=>b≠D/\b≠RL) G) rv rs/\rs.length=i/\(∀r∈rs,C1z nm own sm sh L r)/\∀r,rs[0]? =some r->r.2.2.2.2=[])
   ⟨none,none,none,none,none,none,none,none,none,ms,[],[],rfl,KB.of s12,s12 _ _ hD,h2,s2 _ _ h1,.nil,rfl,(by intro e he;cases he),(by intro r hr;cases hr)⟩ ?_ ?_
  ·rintro i σ G hi ⟨o8,o9,o10,o11,o12,o13,o14,o15,o16,ms,rv,rs,rfl,kb,hD',hBD',hRL',pr,lrs,okr,fst⟩;rw [Int.zero_add];have hi2:i<2:=by lia
   have lrv:=Paired.length pr;refine ⟨_,rfl,D,ms,rfl,hD',λc ms1 G1 _ hD1 o1 _=> ?_⟩;have kb1:=kb.trans (B7z o1);have hBD1:=(o1 BD DB.symm).trans hBD';have hRL1:=(o1 RL DR.symm).trans hRL';have pr1:Paired (B5s (λb=>b≠D/\b≠RL) G1) rv rs:=Paired.mapP pr λ_ _ z=>z.keep (λ_ z=>z) (λb xs e=>(o1 b (A2n e hD' (by intro z;cases z))).trans e) λb xs z e=>(o1 b z.1).trans e;have hnl1:=kb1 _ _ nDn.symm hnl;have ho1:=kb1 _ _ nDo.symm ho;have hz1:=kb1 _ _ nDz.symm hz;have hd1:=kb1 _ _ (A2n hd hD (by intro z;cases z)) hd;refine ⟨_,rfl,_,_,rfl,rfl,D3c,rfl,?_⟩;generalize (!decide (V.int (c%4)=V.int 1))=it;refine ⟨A0q rfl,λz1 hz1'=> ?_⟩;have u1:A0p G1 (upd G1 z1 (.lst [V.str "tab",V.str "mine"])):=A0f hz1';have e1:upd G1 z1 (.lst [V.str "tab",V.str "mine"]) z1=some (.lst [V.str "tab",V.str "mine"]):=A0b;generalize upd G1 z1 (.lst [V.str "tab",V.str "mine"])=G2 at u1 e1⊢;refine ⟨_,rfl,.inr ⟨_,rfl,z1,_,_,_,rfl,rfl,SqL.of e1,E0a it,?_⟩⟩;refine ⟨_,rfl,_,rfl,A0q rfl,λz2 hz2'=> ?_⟩;have u2:A0p G2 (upd G2 z2 (.lst [V.ref z,V.ref o])):=A0f hz2';have e2:upd G2 z2 (.lst [V.ref z,V.ref o]) z2=some (.lst [V.ref z,V.ref o]):=A0b;generalize upd G2 z2 (.lst [V.ref z,V.ref o])=G3 at u2 e2⊢;have u12:=u1.trans u2
   obtain ⟨ax,eax,nDa,hax⟩:∃ax,atI [V.ref z,V.ref o] (if it=true then 1 else 0)=some (.ref ax)/\D≠ax/\G3 ax=some (.lst ((axM it own sh).map V.str)):=by
    cases it
    ·exact ⟨z,rfl,nDz,u12 _ _ hz1⟩
    ·exact ⟨o,rfl,nDo,u12 _ _ ho1⟩
   have lax:(axM it own sh).length<=3:=by unfold axM;split <;> lia
   have axn:∀y∈axM it own sh,y∈nm:=λy hy=>by
    unfold axM at hy;split at hy
    ·exact axb.os y hy
    ·exact axb.zs y hy
   refine ⟨_,rfl,.inr ⟨_,rfl,z2,_,_,_,rfl,rfl,SqL.of e2,eax,?_⟩⟩;refine ⟨A0q rfl,λN0 hN0=> ?_⟩;have u3:A0p G3 (upd G3 N0 (.lst [])):=A0f hN0;have e3:upd G3 N0 (.lst []) N0=some (.lst (([]:List Str).map V.str)):=A0b;generalize upd G3 N0 (.lst [])=G4 at u3 e3⊢;have u13:=u12.trans u3;refine ⟨λσ G'=>∃(N:Addr) (inn:List Str),σ=[Sro D,Sro nl,Sro o,Sro s,Sro z,Sro d,Sro RL,Sro BD,Sio (i:Int),Sio c,Sbo it,Sso (arM it),Sro ax,Sro N,o14,o15,o16]/\A0p G4 G'/\N≠D/\N≠RL/\G' N=some (.lst (inn.map V.str))/\inn.length<=1/\(∀y∈inn,y∈nm/\y∉own++sm)/\(it=true->inn=[])/\(i=0->inn=[]),?_,?_⟩
   ·refine ⟨_,rfl,rfl,_,rfl,A9m (λh=> ?_) (λ_=>⟨N0,[],rfl,A0p.refl _,(A0g (u12 _ _ hD1) hN0).symm,(A0g (u12 _ _ hRL1) hN0).symm,e3,by simp,by simp,λ_=>rfl,λ_=>rfl⟩)⟩;have h:(i:Int)=1:=V.int.inj h;refine ⟨_,rfl,_,rfl,_,rfl,_,rfl,c,arM it,nl,BD,nm,own++sm,rfl,u13 _ _ hnl1,u13 _ _ hBD1,by lia,λN inn G' hN s3 eN li mi ti=> ?_⟩;exact ⟨N,inn,rfl,s3,(A0g (u13 _ _ hD1) hN).symm,(A0g (u13 _ _ hRL1) hN).symm,eN,li,mi,λhit=>ti (by rw [hit];decide +kernel),λh0=>by lia⟩
   rintro σ G5 ⟨N,inn,rfl,s5,nND,nNR,eN,li,mi,ti,i0⟩;have u15:=u13.trans s5;have hD5:=u15 _ _ hD1;have hRL5:=u15 _ _ hRL1;have hBD5:=u15 _ _ hBD1;have hax5:=s5 _ _ (u3 _ _ hax);have hd5:=u15 _ _ hd1;have ho5:=u15 _ _ ho1;have kb5:=kb1.trans (KB.of u15);have pr5:Paired (B5s (λb=>b≠D/\b≠RL) G5) rv rs:=Paired.mapP pr1 λ_ _ z=>z.same u15
   have bim:∀y∈own++sm++inn,y∈nm:=λy hy=>by
    rcases Z07.mp hy with hy | hy
    ·exact bdm y hy
    ·exact (mi y hy).1
   have lbi:(own++sm++inn).length<=6:=by simp only [Z06];lia
   refine ⟨_,rfl,ax,rfl,⟨_,SqL.of hax5⟩,λS hSS=> ?_⟩;refine A2l (K:=K) (a:=ax) (D:=S) (xs:=(axM it own sh).map V.str) (λj ys' G=>A0p G5 G/\G S=some (.lst ys')/\ys'=(((axM it own sh).take j).map L).map V.int) ⟨A0f hSS,A0b,rfl⟩ (λj ys' G sG=>SqL.of (sG.1 _ _ hax5)) ?_ ?_
   ·rintro j y ys' G hy ⟨sG,hG,rfl⟩;obtain ⟨x,hx,rfl⟩:=A1r hy;have g:=B2h.k (H:=G) (a:=d) (k:=Sum.inr x) (sG _ _ hd5);rw [(tl x (axn x (Z13 hx))).1] at g;refine ⟨⟨rfl,True.intro⟩,_,rfl,_,rfl,d,_,rfl,g,hG,A1j (by rw [Z08,Z08,Z0x];lia),A0u sG hSS,A0b,?_⟩;rw [Z14,hx,Z2f,Z0s,Z0s];rfl
   rintro ys' G6 ⟨s6,h6,rfl⟩;rw [Z08,Z18] at h6;have SD:S≠D:=(A0g hD5 hSS).symm;have SR:S≠RL:=(A0g hRL5 hSS).symm;refine ⟨_,rfl,_,rfl,_,rfl,_,rfl,BD,N,_,_,rfl,rfl,s6 _ _ hBD5,s6 _ _ eN,A0o (by simp;lia),λb1 hb1=> ?_⟩;have s7:A0p G6 (upd G6 b1 (.lst ((own++sm).map V.str++inn.map V.str))):=A0f hb1;have h7:upd G6 b1 (.lst ((own++sm).map V.str++inn.map V.str)) b1=some (.lst ((own++sm++inn).map V.str)):=by rw [A0b,<-Z0s]
   generalize upd G6 b1 (.lst ((own++sm).map V.str++inn.map V.str))=G7 at s7 h7⊢;have s67:=s6.trans s7;have Db1:D≠b1:=A0g (s6 _ _ hD5) hb1;have Rb1:RL≠b1:=A0g (s6 _ _ hRL5) hb1;refine ⟨_,rfl,_,rfl,_,rfl,D,o,b1,ax,d,it,ms1,own,own++sm++inn,axM it own sh,lk,L,rfl,s67 _ _ hD5,s67 _ _ ho5,h7,s67 _ _ hax5,s67 _ _ hd5,nDo,Db1,nDa,tl.sub bim,tl.sub axn,by lia,lax,λhit=>by rw [hit];exact Z09 _,λy hy=>Z05 _ (Z05 _ hy),λIL xs ix ms2 G8 hIL kb8 hD8 hIL8 px lix xin=> ?_⟩;have ILD:IL≠D:=(A0g (s67 _ _ hD5) hIL).symm;have ILR:IL≠RL:=(A0g (s67 _ _ hRL5) hIL).symm;have h68:=kb8 _ _ SD (s7 _ _ h6);have hBD8:=kb8 _ _ DB.symm (s67 _ _ hBD5);have hN8:=kb8 _ _ nND (s67 _ _ eN);have hRL8:=kb8 _ _ DR.symm (s67 _ _ hRL5);have pr8:Paired (B5s (λb=>b≠D/\b≠RL) G8) rv rs:=Paired.mapP pr5 λ_ _ z=>z.keep (λ_ z=>z) (λb xs e=>kb8 _ _ (A2n e hD5 (by intro z;cases z)) (s67 _ _ e)) λb xs z e=>kb8 _ _ z.1 (s67 _ _ e);have kbA:=kb5.trans ((KB.of s67).trans kb8);refine ⟨_,rfl,_,rfl,_,rfl,BD,N,_,_,rfl,rfl,hBD8,hN8,A0o (by simp;lia),λb2 hb2=> ?_⟩;have s9:A0p G8 (upd G8 b2 (.lst ((own++sm).map V.str++inn.map V.str))):=A0f hb2;have h9:upd G8 b2 (.lst ((own++sm).map V.str++inn.map V.str)) b2=some (.lst ((own++sm++inn).map V.str)):=by rw [A0b,<-Z0s]
   generalize upd G8 b2 (.lst ((own++sm).map V.str++inn.map V.str))=G9 at s9 h9⊢;have Db2:D≠b2:=A0g hD8 hb2;refine ⟨_,rfl,_,rfl,D,b2,IL,S,ms2,own++sm++inn,xs,ix,(axM it own sh).map L,rfl,s9 _ _ hD8,h9,s9 _ _ hIL8,Paired.mapP px λ_ _ z=>z.kt λb xs e=>s9 _ _ e,s9 _ _ h68,by rw [lix,Z08],xin,Db2,ILD.symm,SD.symm,by lia,λGL gv gs ms3 G10 hGL kb10 hD10 hGL10 pg gin lgs=> ?_⟩;have GLD:GL≠D:=(A0g (s9 _ _ hD8) hGL).symm;have GLR:GL≠RL:=(A0g (s9 _ _ hRL8) hGL).symm;have k910:∀b o',b≠D->G8 b=some o'->G10 b=some o':=λb o' hb e=>kb10 _ _ hb (s9 _ _ e);have tk:∀b xs,G8 b=some (.tup xs)->G10 b=some (.tup xs):=λb xs e=>k910 _ _ (A2n e hD8 (by intro z;cases z)) e;refine ⟨_,rfl,.inl ⟨rfl,_,SqL.of (k910 _ _ DR.symm hRL8)⟩,_,rfl,_,rfl,_,rfl,_,rfl,_,rfl,A0q rfl,λq hq=> ?_⟩;obtain ⟨G11,sq,hqq,e0⟩:=nH (o:= .tup [.str (arM it),.ref S,.ref IL,.ref GL,.ref N]) hq;rw [e0];have hRL11:=sq _ _ (k910 _ _ DR.symm hRL8);refine ⟨RL,_,_,rfl,rfl,hRL11,A1j (by lia),?_⟩;have kt:∀b xs,G11 b=some (.tup xs)->upd G11 RL (.lst (rv++[.ref q])) b=some (.tup xs):=λb xs e=>(A0j (A2n e hRL11 (by intro z;cases z))).trans e;have kl:∀b o',b≠RL->G11 b=some o'->upd G11 RL (.lst (rv++[.ref q])) b=some o':=λb o' hb e=>(A0j hb).trans e;refine ⟨_,_,_,_,_,_,_,_,_,ms3,rv++[.ref q],rs++[(arM it,(axM it own sh).map L,ix,gs,inn)],rfl,B7m ((kbA.trans ((KB.of s9).trans kb10)).trans (KB.of sq)) hRL,kl _ _ DR (sq _ _ hD10),kl _ _ BR (sq _ _ (k910 _ _ DB.symm hBD8)),A0b,Paired.snoc ?_ (Paired.mapP pr8 λ_ _ z=>z.keep (λ_ z=>z) (λb xs e=>kt _ _ (sq _ _ (tk _ _ e))) λb xs z e=>kl _ _ z.2 (sq _ _ (k910 _ _ z.1 e))),by rw [Z06,lrs];rfl,λr hr'=> ?_,λr hr'=> ?_⟩
   ·exact ⟨q,S,IL,GL,N,xs,gv,rfl,kt _ _ hqq,⟨SD,SR⟩,kl _ _ SR (sq _ _ (k910 _ _ SD h68)),⟨ILD,ILR⟩,kl _ _ ILR (sq _ _ (k910 _ _ ILD hIL8)),Paired.mapP px λ_ _ z=>z.kt λb xs e=>kt _ _ (sq _ _ (tk _ _ e)),⟨GLD,GLR⟩,kl _ _ GLR (sq _ _ hGL10),Paired.mapP pg λ_ _ z=>z.kt λb xs e=>kt _ _ (sq _ _ e),⟨nND,nNR⟩,kl _ _ nNR (sq _ _ (k910 _ _ nND hN8))⟩
   ·rcases Z07.mp hr' with hr' | hr'
    ·exact okr r hr'
    ·rw [Z0w.mp hr'];exact ⟨⟨it,rfl,rfl,ti⟩,by show ix.length=((axM it own sh).map L).length;rw [lix,Z08],xin,gin,lgs,li,mi⟩
   ·by_cases h0:i=0
    ·have e0:rs=[]:=Z2n.mp (by lia);subst e0;cases hr';exact i0 h0
    ·rw [Z26 (by lia)] at hr';exact fst r hr'
  ·rintro σ G ⟨o8,o9,o10,o11,o12,o13,o14,o15,o16,ms,rv,rs,rfl,kb,hD',hBD',hRL',pr,lrs,okr,fst⟩;exact ⟨_,rfl,k RL rv rs ms G hRL kb hD' hRL' (Paired.mapP pr λ_ _ z=>z.keep (λ_ z=>z.1) (λ_ _ e=>e) λ_ _ _ e=>e) lrs okr fst⟩
def jG (b:Bool) (js:List Jt):List Gd:=js.map λj=>(j.1,j.2.1,j.2.2,b)
def D2l (L:Str->Int) (bd:List Str) (js:List Jt) (b:Bool) (r:Rd):Du:=D2v r.1 r.2.1 (A4a L (bd++r.2.2.2.2) (r.2.2.2.1++jG b js) r.2.2.1) r.2.1.length
def D2a (L:Str->Int) (bd:List Str) (js:List Jt):Bool->List Rd->Du->Du
 | _,[],d=>d
 | b,r::rest,d=>D2a L bd js false rest (if d.1="by" then D2l L bd js b r else d)
def rdT (r:Rd):Tm:=smT r.2.2.2.2 (gdT r.2.2.2.1 (.read r.1 r.2.2.1))
def jtT:List Jt->Tm->Tm->Tm
 | [],a,b=> .pair .minus a b
 | g::_,a,b=> .guard g.1 g.2.1 g.2.2 a b
theorem C6p {L:Str->Int} {ys:List Str} {gg:List Gd} {ix:List (Str×Int)} {e:List Int×List Int} (h:e∈A4a L ys gg ix):e.1.length=ys.length:=by
 obtain ⟨c,hc',hc⟩:=List.mem_filterMap.mp h;unfold A8o at hc;split at hc
 ·cases hc
  show c.length=ys.length;rw [(A4r _ c hc').1,Z08]
 ·cases hc
structure E0h (bd:List Str) (L:Str->Int) (r:Rd):Prop where
 gd:C0q ((bd++r.2.2.2.2).map L)
 ne:("":Str)∉bd++r.2.2.2.2
 lz:r.2.1.length<=3
 lx:r.2.2.1.length=r.2.1.length
 xi:∀e∈r.2.2.1,¬e.1=""->e.1∈bd++r.2.2.2.2
 gi:∀g∈r.2.2.2.1,g.1∈bd++r.2.2.2.2
 gl:r.2.2.2.1.length<=3
 il:r.2.2.2.2.length<=1
 mi:r.1="mine"->r.2.1.length<=bd.length
def D1e:Sp:=λvs H Q _=>∃(rl jl bl d:Addr) (S:Addr->Prop) (rv jv:List V) (rs:List Rd) (js:List Jt) (bd:List Str) (lk:List (Key×V)) (L:Str->Int),vs=[.ref rl,.ref jl,.ref bl,.ref d]/\H rl=some (.lst rv)/\Paired (B5s S H) rv rs/\rs.length=2/\H jl=some (.lst jv)/\Paired (D4s H) jv js/\js.length<=1/\(∀j∈js,j.1∈bd)/\H bl=some (.lst (bd.map V.str))/\bd.length<=6/\H d=some (.dK lk)/\(∀r∈rs,A4t lk L (bd++r.2.2.2.2)/\E0h bd L r)/\∀(v:V) (H':Hp),A0p H H'->D1w H' v (D2a L bd js true rs (("by":Str),("":Str),(([]:List Int),([]:List Int))))->Q v H'
def D1a (A:Adr):Sp:=λvs H Q _=>∃(rl jl sl:Addr) (S:Addr->Prop) (v0 v1:V) (jv:List V) (r0 r1:Rd) (js:List Jt) (sm:List Str),vs=[.ref rl,.ref jl,.ref sl]/\H rl=some (.lst [v0,v1])/\B5s S H v0 r0/\B5s S H v1 r1/\(∀r∈[r0,r1],r.2.2.1.length<=1000/\r.2.2.2.2.length<=1)/\H jl=some (.lst jv)/\Paired (D4s H) jv js/\js.length<=1/\H sl=some (.lst (sm.map V.str))/\∀(v:V) (H':Hp),A0p H H'->Ob A H' v (smT sm (jtT js (rdT r0) (rdT r1)))->Q v H'
theorem B5g (T:Txt K mg t):FO P w base T.ib 3 D1e:=by
 have Gf2:= @C9k P w K mg base t T;have Gf3:= @C3i P w K mg base t T;refine T.ib.F.ok A1p (by walk_at "ln") λ_ A _ s H _ Q E hr h=> ?_
 ·obtain ⟨rl,jl,bl,d,S,rv,jv,rs,js,bd,lk,L,rfl,hrl,pr,lrs,hjl,pj,ljs,jin,hbl,lbd,hd,okr,k⟩:=h;have lrv:=Paired.length pr;have ljv:=Paired.length pj
  refine ⟨_,(A0c (A0n (i:=4) A1p.nd rfl (.inl rfl) (A2g (A0a A1w (A0a A1w (A0a (A2g A0d) (A0a (A2g A0d) A0d))))))
   (A0c (A1k PassesOwn.never rfl (A6l rfl T.ku (A0a A0l A0d)) (A0h (i:=5) A1p.nd rfl (.inr rfl))
    (A0c (C5i (A3y A3b (pv 0) (pv 5) (λ_ _=>rfl)) (A2p (n:=5) rfl (A0k (A0h (i:=6) A1p.nd rfl (.inl rfl)) (A0k (A0h (i:=7) A1p.nd rfl (.inl rfl)) (A0k (A0h (i:=8) A1p.nd rfl (.inl rfl)) (A0k (A0h (i:=9) A1p.nd rfl (.inl rfl)) (A0k (A0h (i:=10) A1p.nd rfl (.inl rfl)) A1s)))))))
    (A0c (B6v (i₀:=11) (N':=["_law_axis","_law_low","_law_high","_law_k"]) (ix:=(List.replicate 3 none++[some 5])) (g:=D2c K 3 (A8z (A6m 0) (A8z (A6m 1) (A8z (A6m 2) D2k)))) A1p.nd rfl (.inl rfl) rfl (A5h (x:="_law_k") rfl rfl rfl (by decide +kernel) (by decide +kernel)) (A4g (N0:=["_law_axis","_law_low","_law_high"]) rfl (.inl rfl) (by walk_at "ix")) (A1b (pv 1)) (λ_ _ _ _=>(A2p (n:=3) rfl (A0k (A0h (i:=0) B1x rfl (.inl rfl)) (A0k (A0h (i:=1) B1x rfl (.inl rfl)) (A0k (A0h (i:=2) B1x rfl (.inl rfl)) A1s))))) (λ_ _ _ _=>(A2g (A0a (pv 0) (A0a (pv 1) (A0a (pv 2) (A0a (A3q A5x (pv 3) A0l (A1i _)) A0d)))))))
    (A0e (A1n (A0z A5x (A3y B5y (pv 4) A0l (λ_ _=>rfl)) A1w (A1i _))
     (A0e (A0n (i:=4) A1p.nd rfl (.inl rfl) (pcl Gf2 hr T.u6 (A0a (pcl Gf3 hr T.pf (A0a (A0x A5c (pv 2) (pv 10)) (A0a (pv 3) (A0a (A0x A5c (pv 9) (pv 11)) (A0a (pv 8) A0d))))) (A0a (pv 6) (A0a (pv 7) A0d))))))
     A0r)))))
   (A0e (A0v (pv 4))))),?_⟩
  refine ⟨A0q rfl,λq1 hq1=> ?_⟩;obtain ⟨H1,u1,h1,e0⟩:=nH (o:= .tup []) hq1;rw [e0];refine ⟨A0q rfl,λq2 hq2=> ?_⟩;obtain ⟨H2,u2,h2,e0⟩:=nH (o:= .tup []) hq2;rw [e0];refine ⟨A0q rfl,λq hq=> ?_⟩;obtain ⟨H3,u3,h3,e0⟩:=nH (o:= .tup [.str "by",.str "",.ref q1,.ref q2]) hq;rw [e0];have u13:=u1.trans (u2.trans u3);refine ⟨_,rfl,by decide,by decide,?_⟩
  refine A6r (λi σ G=>∃(v:V) (dd:Du) (o5 o6 o7 o8 o9 o10 o11:Option V),σ=[Sro rl,Sro jl,Sro bl,Sro d,some v,o5,o6,o7,o8,o9,o10,o11]/\A0p H G/\D1w G v dd/\D2a L bd js (decide (i=0)) (rs.drop i) dd=D2a L bd js true rs (("by":Str),("":Str),(([]:List Int),([]:List Int))))
   ⟨.ref q,(("by":Str),("":Str),(([]:List Int),([]:List Int))),none,none,none,none,none,none,none,rfl,u13,⟨q,q1,q2,rfl,h3,u3 _ _ (u2 _ _ h1),u3 _ _ h2⟩,rfl⟩ ?_ ?_
  ·rintro i σ G hi ⟨v,dd,o5,o6,o7,o8,o9,o10,o11,rfl,sG,da,ed⟩;rw [Int.zero_add];have hi2:i<2:=by lia
   obtain ⟨rvv,hrv⟩:∃x,rv[i]? =some x:=⟨_,Z0b (by lia)⟩;obtain ⟨r,hr',rq,sl,il,gl,nl,xs,gv,rfl,e1,_,e2,_,e3,p3,_,e4,p4,_,e5⟩:=B2k pr hrv;obtain ⟨tl,rk⟩:=okr r (Z13 hr');rw [A5e hr'] at ed;have ed:D2a L bd js false (rs.drop (i+1)) (if dd.1="by" then D2l L bd js (decide (i=0)) r else dd)=_:=ed;obtain ⟨dt,ds,dc,rfl,f1,f2,f3⟩:=da;have a0:atI [V.str dd.1,.str dd.2.1,.ref ds,.ref dc] 0=some (.str dd.1):=A4c (j:=0) rfl
   have fl:decide (V.int (i:Int)=V.int 0)=decide (i=0):=by
    by_cases h0:i=0
    ·rw [h0];rfl
    ·rw [Z1j h0,Z1j (λz=>h0 (by have:=V.int.inj z;lia))]
   refine ⟨_,rfl,_,rfl,rl,_,_,_,rfl,rfl,SqL.of (sG _ _ hrl),A4c hrv,rq,_,rfl,SqT.of (sG _ _ e1),rfl,_,_,rfl,_,_,rfl,_,_,rfl,_,_,rfl,_,_,rfl,rfl,?_⟩;refine ⟨_,rfl,jl,rfl,⟨_,SqL.of (sG _ _ hjl)⟩,λML hML=> ?_⟩;refine A2l (K:=K) (a:=jl) (D:=ML) (xs:=jv) (λj zs G3=>A0p G G3/\G3 ML=some (.lst zs)/\Paired (C1v G3) zs (jG (decide (i=0)) (js.take j))) ⟨A0f hML,A0b,.nil⟩ (λj zs G3 s4=>SqL.of (s4.1 _ _ (sG _ _ hjl))) ?_ ?_
   ·rintro j x zs G3 hx ⟨s4,hC,pz⟩;obtain ⟨e,he,eq,rfl,heq⟩:=B2k pj hx;have lzs:=Paired.length pz;have lj:(jG (decide (i=0)) (js.take j)).length<=1:=by unfold jG;rw [Z08,Z0x];lia
    refine ⟨eq,_,rfl,SqT.of (s4 _ _ (sG _ _ heq)),rfl,_,_,rfl,_,_,rfl,_,_,rfl,rfl,⟨rfl,True.intro⟩,_,rfl,_,rfl,_,rfl,_,rfl,rfl,?_⟩;rw [fl];refine ⟨A0q rfl,λnq hnq=> ?_⟩;have sq:=A0f (o:= .tup [.str e.1,.int e.2.1,.int e.2.2,.bl (decide (i=0))]) hnq;have nML:nq≠ML:=(A0g hC hnq).symm;refine ⟨sq _ _ hC,A1j (by lia),A0u (s4.trans sq) hML,A0b,?_⟩;rw [Z14,he,Z2f];unfold jG at pz⊢;rw [Z0s];exact Paired.snoc ⟨nq,rfl,(A0j nML).trans A0b⟩ (Paired.mapP pz λ_ _ z=>z.kt λb xs e=>(A0j (A2n e hC (by intro z;cases z))).trans (sq _ _ e))
   rintro zs G3 ⟨s3,hC,pz⟩;rw [ljv,Z18] at pz;have lzs:=Paired.length pz;have lj:(jG (decide (i=0)) js).length<=1:=by unfold jG;rw [Z08];lia
   have sG3:=sG.trans s3;refine ⟨_,rfl,dt,_,_,_,rfl,rfl,SqT.of (s3 _ _ f1),a0,rfl,_,rfl,A9m (λhb=> ?_) (λhb=> ?_)⟩
   ·have hb:dd.1="by":=V.str.inj hb;rw [Z12 hb] at ed;refine ⟨_,rfl,_,rfl,bl,nl,_,_,rfl,rfl,sG3 _ _ hbl,sG3 _ _ e5,A0o (by have:=rk.il;simp;lia),λb1 hb1=> ?_⟩;have s4:A0p G3 (upd G3 b1 (.lst (bd.map V.str++r.2.2.2.2.map V.str))):=A0f hb1;have h4:upd G3 b1 (.lst (bd.map V.str++r.2.2.2.2.map V.str)) b1=some (.lst ((bd++r.2.2.2.2).map V.str)):=by rw [A0b,<-Z0s]
    generalize upd G3 b1 (.lst (bd.map V.str++r.2.2.2.2.map V.str))=G4 at s4 h4⊢;have sG4:=sG3.trans s4;have lgv:=Paired.length p4;refine ⟨_,rfl,_,rfl,_,rfl,gl,ML,_,_,rfl,rfl,sG4 _ _ e4,s4 _ _ hC,A0o (by have:=rk.gl;lia),λg1 hg1=> ?_⟩;obtain ⟨G5,s5,h5,e0⟩:=nH (o:= .lst (gv++zs)) hg1;rw [e0];have sG5:=sG4.trans s5;have pgg:Paired (C1v G5) (gv++zs) (r.2.2.2.1++jG (decide (i=0)) js):=D6v (Paired.mapP p4 λ_ _ z=>z.same sG5) (Paired.mapP pz λ_ _ z=>z.same (s4.trans s5))
    have gin:∀g∈r.2.2.2.1++jG (decide (i=0)) js,g.1∈bd++r.2.2.2.2:=λg hg=>by
     rcases Z07.mp hg with hg | hg
     ·exact rk.gi g hg
     ·obtain ⟨j,hj,rfl⟩:=Z2c.mp hg;exact Z05 _ (jin j hj)
    refine ⟨_,rfl,b1,d,g1,il,bd++r.2.2.2.2,lk,L,_,_,xs,r.2.2.1,rfl,s5 _ _ h4,sG5 _ _ hd,tl,rk.gd,rk.ne,h5,pgg,gin,sG5 _ _ e3,Paired.mapP p3 λ_ _ z=>z.kt λb xs e=>sG5 _ _ e,rk.xi,by have:=rk.lx;have:=rk.lz;lia,λLL lv G6 hLL s6 h6 pl=> ?_⟩;have sG6:=sG5.trans s6;refine ⟨_,rfl,_,rfl,LL,sl,r.1,lv,_,r.2.1,rfl,h6,pl,sG6 _ _ e2,λe he=>by rw [C2s he,rk.lx],λhm e he=>by rw [C6p he,Z06];have:=rk.mi hm;lia,λv' G7 s7 da'=> ?_⟩;refine ⟨v',_,_,_,_,_,_,_,_,rfl,sG6.trans s7,da',?_⟩;rw [show decide (i+1=0)=false from rfl];exact ed
   ·have hb:¬dd.1="by":=λz=>hb (by rw [z]);rw [Z0t hb] at ed;exact ⟨_,dd,_,_,_,_,_,_,_,rfl,sG3,⟨dt,ds,dc,rfl,s3 _ _ f1,s3 _ _ f2,s3 _ _ f3⟩,ed⟩
  ·rintro σ G ⟨v,dd,o5,o6,o7,o8,o9,o10,o11,rfl,sG,da,ed⟩;have e2:rs.drop ((2:Int)-0).toNat=[]:=Z24 (by rw [lrs];decide);have ed:D2a L bd js _ (rs.drop ((2:Int)-0).toNat) dd=_:=ed;rw [e2] at ed;have ed:dd=_:=ed;rw [ed] at da;exact ⟨_,rfl,k v G sG da⟩
theorem C5a (T:Txt K mg t):FO P w base T.sr 7 (D1a t):=by
 have Gf4:= @B9g P w K mg base t T;have Gf5:= @C0p P w K mg base t T;have Gf6:= @B9m P w K mg base t T;have Ge7:= @B0s P w K mg base t T;have Gf7:= @B8g P w K mg base t T;refine T.sr.F.ok A1z (by walk_at "ln") λ_ A _ s H _ Q E hr h=> ?_
 ·obtain ⟨rl,jl,sl,S,v0,v1,jv,r0,r1,js,sm,rfl,hrl,ra0,ra1,okr,hjl,pj,ljs,hsl,k⟩:=h;have pr:Paired (B5s S H) [v0,v1] [r0,r1]:= .cons ra0 (.cons ra1 .nil);have ljv:=Paired.length pj
  refine ⟨_,(A0c (A0n (i:=3) A1z.nd rfl (.inl rfl) (A2d A0d))
   (A0c (A1k PassesOwn.never rfl (A1b (pv 0)) (A2p (n:=5) rfl (A0k (A0h (i:=4) A1z.nd rfl (.inl rfl)) (A0k (A0h (i:=5) A1z.nd rfl (.inl rfl)) (A0k (A0h (i:=6) A1z.nd rfl (.inl rfl)) (A0k (A0h (i:=7) A1z.nd rfl (.inl rfl)) (A0k (A0h (i:=8) A1z.nd rfl (.inl rfl)) A1s))))))
    (A0c (A0n (i:=9) A1z.nd rfl (.inl rfl) (pcl Gf7 hr T.jy (A0a (pmk T.vO Gf4 hr T.vd T.j_.b (A0a (pv 4) (A0a (pv 6) A0d))) (A0a (pv 7) A0d))))
    (A0c (A1k PassesOwn.never rfl (A1b (pv 8)) (A0h (i:=10) A1z.nd rfl (.inl rfl))
     (A0e (A0n (i:=9) A1z.nd rfl (.inl rfl) (pmk T.vG Gf5 hr T.uz T.ja.b (A0a (pv 10) (A0a (pv 9) A0d))))))
    (A0e (A1y (B5j Z0k Z0n Z0o A3i (pv 3) (A0a (pv 9) A0d)))))))
   (A0c (A0n (i:=11) A1z.nd rfl (.inl rfl) (pmk T.vH Gf6 hr T.vU T.kf.b (A0a (A3y A3b (pv 3) A0l (λ_ _=>rfl)) (A0a (A3y A3b (pv 3) A0l (λ_ _=>rfl)) A0d))))
   (A0c (A1k PassesOwn.never rfl (A1b (pv 1)) (A2p (n:=3) rfl (A0k (A0h (i:=12) A1z.nd rfl (.inl rfl)) (A0k (A0h (i:=13) A1z.nd rfl (.inl rfl)) (A0k (A0h (i:=14) A1z.nd rfl (.inl rfl)) A1s))))
    (A0e (A0n (i:=11) A1z.nd rfl (.inl rfl) (pmk T.t6 Ge7 hr T.m_ T.cz.b (A0a (pv 12) (A0a (pv 13) (A0a (pv 14) (A0a (A3y A3b (pv 3) A0l (λ_ _=>rfl)) (A0a (A3y A3b (pv 3) A0l (λ_ _=>rfl)) A0d)))))))))
   (A0c (A1k PassesOwn.never rfl (C2t rfl T.j7 (A0a (pv 2) A0d)) (A0h (i:=10) A1z.nd rfl (.inl rfl))
    (A0e (A0n (i:=11) A1z.nd rfl (.inl rfl) (pmk T.vG Gf5 hr T.uz T.ja.b (A0a (pv 10) (A0a (pv 11) A0d))))))
   (A0e (A0v (pv 11)))))))),?_⟩
  refine ⟨A0q rfl,λTL hTL=> ?_⟩;obtain ⟨H1,u1,h1,e0⟩:=nH (o:= .lst []) hTL;rw [e0];refine ⟨_,rfl,rl,rfl,⟨_,SqL.of (u1 _ _ hrl)⟩,?_⟩
  refine A1f (K:=K) (a:=rl) (xs:=[v0,v1]) (λi σ G=>∃(o4 o5 o6 o7 o8 o9 o10:Option V) (tv:List V),σ=[Sro rl,Sro jl,Sro sl,Sro TL,o4,o5,o6,o7,o8,o9,o10,none,none,none,none]/\A0p H G/\G TL=some (.lst tv)/\Paired (Ob t (A2h (λb=>b≠TL) G)) tv (([r0,r1].take i).map rdT))
   ⟨none,none,none,none,none,none,none,[],rfl,u1,h1,.nil⟩ (by rintro i σ G _ ⟨_,_,_,_,_,_,_,_,_,sG,_⟩;exact SqL.of (sG _ _ hrl)) ?_ ?_
  ·rintro i x σ G hx ⟨o4,o5,o6,o7,o8,o9,o10,tv,rfl,sG,hTG,pt⟩;obtain ⟨r,hr',rq,szl,il,gl,nl,xs,gv,rfl,e1,_,e2,_,e3,p3,_,e4,p4,_,e5⟩:=B2k pr hx;obtain ⟨l1000,li⟩:=okr r (Z13 hr');have ltv:=Paired.length pt;have lt2:(([r0,r1].take i).map rdT).length<=2:=by rw [Z08,Z0x];exact Nat.min_le_right _ _
   refine ⟨rq,_,rfl,SqT.of (sG _ _ e1),rfl,_,_,rfl,_,_,rfl,_,_,rfl,_,_,rfl,_,_,rfl,rfl,?_⟩;refine ⟨_,rfl,_,rfl,λra rd hra hrd nrd=> ?_⟩;have sR0:A0p G (upd (upd G rd (.own ra)) ra (.ins t.ah rd [])):=(A0f hrd).trans (A0f (by rw [A0j nrd.symm];exact hra));have hra2:upd (upd G rd (.own ra)) ra (.ins t.ah rd []) ra=some (.ins t.ah rd []):=A0b;generalize upd (upd G rd (.own ra)) ra (.ins t.ah rd [])=G1 at sR0 hra2⊢;have sG1:=sG.trans sR0;refine ⟨ra,rd,il,r.1,r.2.2.1,rfl,hra2,.lst (sG1 _ _ e3) (C1s (Paired.mapP p3 λ_ _ z=>z.kt λb' xs' e=>sG1 _ _ e)),l1000,λil' G2 era ril kp=>⟨rfl,?_⟩⟩;have sR:A0p G G2:=λb' o e=>kp b' o (A0g e hra) (sR0 _ _ e);have hT2:=sR _ _ hTG;have fr2:∀{G':Hp},A0p G2 G'->Fr (λb=>b≠TL) G':=λs' b hb=>A0g (s' _ _ hT2) hb |>.symm;have raT:ra≠TL:=(A0g hTG hra).symm;have obR:Ob t (A2h (λb=>b≠TL) G2) (.ref ra) (.read r.1 r.2.2.1):= .read (A1e raT era) (ril.same λb o e=>A1e (A0g (sR0 _ _ hTG) (A1a e).1 |>.symm) (A1a e).2);have sG2:=sG.trans sR;refine ⟨_,rfl,.ref ra,gl,.read r.1 r.2.2.1,gv,r.2.2.2.1,λb=>b≠TL,rfl,fr2 (A0p.refl _),obR,sG2 _ _ e4,Paired.mapP p4 λ_ _ z=>z.same sG2,λtv0 G3 s3 ob3=> ?_⟩;have sG3:=sG2.trans s3;generalize hu':gdT r.2.2.2.1 (.read r.1 r.2.2.1)=u at ob3;refine ⟨_,rfl,nl,rfl,⟨_,SqL.of (sG3 _ _ e5)⟩,?_⟩
   refine A1f (K:=K) (a:=nl) (xs:=r.2.2.2.2.map V.str) (λj σ G4=>∃(v:V) (o10:Option V),σ=[Sro rl,Sro jl,Sro sl,Sro TL,Sso r.1,Sro szl,Sro il,Sro gl,Sro nl,some v,o10,none,none,none,none]/\A0p G3 G4/\Ob t (A2h (λb=>b≠TL) G4) v (smT (r.2.2.2.2.take j) u))
    ⟨tv0,_,rfl,A0p.refl _,ob3⟩ (by rintro j σ G4 _ ⟨_,_,_,s4,_⟩;exact SqL.of (s4 _ _ (sG3 _ _ e5))) ?_ ?_
   ·rintro j y σ G4 hy ⟨v,o10,rfl,s4,ob4⟩;obtain ⟨x,hx,rfl⟩:=A1r hy;have hj:=(Z03.mp hx).1;have hj0:j=0:=by lia
    subst hj0;refine ⟨_,rfl,_,rfl,λx' dx hx' hdx hne=>⟨x',_,dx,_,_,rfl,A0b,T.d_,T.dw,T.gu,rfl,?_⟩⟩;have si:=A2i (o:= .own x') (u:= .ins t.bp dx []) (v:= .ins t.bp dx [("axis",.str x),("body",v)]) hx' hdx;refine ⟨_,_,rfl,s4.trans si,?_⟩;rw [Z14,hx,Z2f];exact .sum (A1e (fr2 (s3.trans s4) _ hx') A0b) (ob4.imp (A0w si))
   rintro σ G4 ⟨v,o10,rfl,s4,ob4⟩;rw [Z08,Z18] at ob4;have sG4:=sG3.trans s4;have s04:A0p G G4:=sR.trans (s3.trans s4);have hT4:=s04 _ _ hTG;refine ⟨_,rfl,.inl ⟨rfl,_,SqL.of hT4⟩,_,rfl,TL,_,_,rfl,rfl,hT4,A1j (by lia),?_⟩;have nT:¬((λb=>b≠TL) TL):=λz=>z rfl;refine ⟨_,_,_,_,_,_,_,tv++[v],rfl,A0u sG4 hTL,A0b,?_⟩;have er:List.map rdT [r]=[smT r.2.2.2.2 u]:=by rw [<-hu'];rfl
   rw [Z14,hr',Z2f,Z0s,er];exact Paired.snoc (ob4.imp (A5o (S:=λb=>b≠TL) (A0p.refl _) nT)) (Paired.mapP pt λ_ _ z=>z.imp (A5o (S:=λb=>b≠TL) (A0w s04) nT))
  rintro σ G ⟨o4,o5,o6,o7,o8,o9,o10,tv,rfl,sG,hTG,pt⟩;have pt:Paired (Ob t (A2h (λb=>b≠TL) G)) tv [rdT r0,rdT r1]:=pt
  obtain ⟨t0,t1,rfl,ob0,ob1⟩:∃t0 t1,tv=[t0,t1]/\Ob t G t0 (rdT r0)/\Ob t G t1 (rdT r1):=by
   cases pt with
   | cons a r =>
    cases r with
    | cons b r2 =>
     cases r2
     exact ⟨_,_,rfl,a.imp A1l,b.imp A1l⟩
  generalize rdT r0=u0 at ob0 k;generalize rdT r1=u1 at ob1 k;have a0:atI [t0,t1] 0=some t0:=A4c (j:=0) rfl;have a1:atI [t0,t1] 1=some t1:=A4c (j:=1) rfl;refine ⟨_,rfl,TL,_,_,_,rfl,rfl,SqL.of hTG,a0,_,rfl,TL,_,_,_,rfl,rfl,SqL.of hTG,a1,λx dx hx hdx hne=>⟨x,_,dx,_,_,rfl,A0b,T.fw,T.dk,T.cx,rfl,?_⟩⟩;have si:=A2i (o:= .own x) (u:= .ins t.be dx []) (v:= .ins t.be dx [("left",t0),("right",t1)]) hx hdx;have obw:Ob t (upd (upd (upd G dx (.own x)) x (.ins t.be dx [])) x (.ins t.be dx [("left",t0),("right",t1)])) (.ref x) (.pair .minus u0 u1):= .pair (k:= .minus) A0b (ob0.imp si) (ob1.imp si);generalize upd (upd (upd G dx (.own x)) x (.ins t.be dx [])) x (.ins t.be dx [("left",t0),("right",t1)])=G1 at si obw⊢;have sG1:=sG.trans si;have hTG1:=si _ _ hTG;have ob0:=ob0.imp si;have ob1:=ob1.imp si;refine ⟨_,rfl,jl,rfl,⟨_,SqL.of (sG1 _ _ hjl)⟩,?_⟩
  refine A1f (K:=K) (a:=jl) (xs:=jv) (λj σ G2=>∃(v:V) (o12 o13 o14:Option V),σ=[Sro rl,Sro jl,Sro sl,Sro TL,o4,o5,o6,o7,o8,o9,o10,some v,o12,o13,o14]/\A0p G1 G2/\Ob t G2 v (jtT (js.take j) u0 u1))
   ⟨.ref x,none,none,none,rfl,A0p.refl _,obw⟩ (by rintro j σ G2 _ ⟨_,_,_,_,_,s2,_⟩;exact SqL.of (s2 _ _ (sG1 _ _ hjl))) ?_ ?_
  ·rintro j y σ G2 hy ⟨v,o12,o13,o14,rfl,s2,ob2⟩;obtain ⟨g,hg,q,rfl,hq⟩:=B2k pj hy;have hj:=(Z03.mp hg).1;have hj0:j=0:=by lia
   subst hj0;refine ⟨q,_,rfl,SqT.of (s2 _ _ (sG1 _ _ hq)),rfl,_,_,rfl,_,_,rfl,_,_,rfl,rfl,?_⟩;refine ⟨_,rfl,_,rfl,_,rfl,_,rfl,TL,_,_,_,rfl,rfl,SqL.of (s2 _ _ hTG1),a0,_,rfl,TL,_,_,_,rfl,rfl,SqL.of (s2 _ _ hTG1),a1,λx dx hx hdx hne=>⟨x,dx,_,_,_,_,_,rfl,A0b,rfl,?_⟩⟩;have si:=A2i (o:= .own x) (u:= .ins t.ae dx []) (v:= .ins t.ae dx [("axis",.str g.1),("low",.int g.2.1),("high",.int g.2.2),("inner",t0),("outer",t1)]) hx hdx;refine ⟨_,_,_,_,rfl,s2.trans si,?_⟩;rw [Z14,hg,Z2f];exact .guard A0b (ob0.imp (s2.trans si)) (ob1.imp (s2.trans si))
  rintro σ G2 ⟨v,o12,o13,o14,rfl,s2,ob2⟩;rw [ljv,Z18] at ob2;have sG2:=sG1.trans s2;generalize jtT js u0 u1=u at ob2 k;refine ⟨_,rfl,sl,_,rfl,SqL.of (sG2 _ _ hsl),?_⟩
  refine C6v (K:=K) (a:=sl) (xs:=sm.map V.str) (λj σ G3=>∃(v:V) (o10:Option V),σ=[Sro rl,Sro jl,Sro sl,Sro TL,o4,o5,o6,o7,o8,o9,o10,some v,o12,o13,o14]/\A0p G2 G3/\Ob t G3 v (smT (sm.drop (sm.length-j)) u))
   ⟨v,_,rfl,A0p.refl _,by rw [Nat.sub_zero,Z2i];exact ob2⟩ (by rintro j σ G3 ⟨_,_,_,s3,_⟩;exact SqL.of (s3 _ _ (sG2 _ _ hsl))) ?_ ?_
  ·rintro j y σ G3 hj hy ⟨v,o10,rfl,s3,ob3⟩;rw [Z08] at hy hj;obtain ⟨x,hx,rfl⟩:=A1r hy;refine ⟨_,rfl,_,rfl,λx' dx hx' hdx hne=>⟨x',_,dx,_,_,rfl,A0b,T.d_,T.dw,T.gu,rfl,?_⟩⟩;have si:=A2i (o:= .own x') (u:= .ins t.bp dx []) (v:= .ins t.bp dx [("axis",.str x),("body",v)]) hx' hdx;refine ⟨_,_,rfl,s3.trans si,?_⟩;rw [C2v rfl hj hx];exact .sum A0b (ob3.imp si)
  ·rintro σ G3 ⟨v,o10,rfl,s3,ob3⟩;rw [Z08,Nat.sub_self,Z2r] at ob3;exact ⟨_,rfl,k v G3 (sG2.trans s3) ob3⟩
theorem B0d {α β:Type} {f:α->Option β} {x:α} {l:List α} (h:f x=none):(x::l).findSome? f=l.findSome? f:=by rw [List.findSome?_cons,h]
theorem D6h {α β:Type} {f:α->Option β} {a b:List α} (h:a.findSome? f=none):(a++b).findSome? f=b.findSome? f:=by rw [List.findSome?_append,h];rfl
theorem D4i {α β:Type} {f:α->Option β} {a b:List α} (h:b.findSome? f=none):(a++b).findSome? f=a.findSome? f:=by rw [List.findSome?_append,h];cases a.findSome? f <;> rfl
def tel (lk:List (Key×V)) (x:Str):Int:=match A4x lk (Sum.inr x) with | some (.int i)=>i | _=>0
theorem B8a {L:Str->Int}:∀(nm:List Str) (acc:List (Key×V)) (x:Str),(x∈nm\/A4x acc (Sum.inr x)=some (.int (L x)))->A4x (A1c acc (B9b (nm.map λy=>(y,L y)))) (Sum.inr x)=some (.int (L x))
 | [],acc,x,h=>by
  rcases h with h | h
  ·cases h
  ·exact h
 | y::nm,acc,x,h=>by
  show A4x (A1c (A9e acc (Sum.inr y) (.int (L y))) (B9b (nm.map λy=>(y,L y)))) (Sum.inr x)=some (.int (L x));refine B8a nm _ x ?_;by_cases hx:x∈nm
  ·exact .inl hx
  ·refine .inr ?_;rw [A7e];by_cases hxy:x=y
   ·subst hxy;rw [Z12 rfl]
   ·rw [Z0t (λz=>hxy (by injection z))];rcases h with h | h
    ·rcases Z0e.mp h with h | h
     ·exact absurd h hxy
     ·exact absurd h hx
    ·exact h
theorem D9o (L:Str->Int) (ys:List Str):prd L ys=A5t (ys.map L):=by unfold prd A5t;rw [List.foldl_map]
def Bnd (L:Str->Int) (ys:List Str):Prop:=∀y∈ys,1<=L y/\L y<=60
theorem C5g {L:Str->Int}:∀(n:Nat) {ys:List Str},ys.length=n->Bnd L ys->1<=prd L ys/\prd L ys<=60^n
 | 0,ys,hn,_=>by
  rw [Z2n.mp hn];exact ⟨by show (1:Int)<=1;decide,by show (1:Int)<=1;decide⟩
 | n+1,ys,hn,h=>by
  rcases List.eq_nil_or_concat ys with rfl | ⟨zs,y,rfl⟩
  ·cases hn
  ·rw [List.concat_eq_append] at hn h⊢;rw [Z06,Z0j] at hn;obtain ⟨i1,i2⟩:=C5g n (ys:=zs) (by lia) λz hz=>h z (Z05 _ hz);obtain ⟨j1,j2⟩:=h y (Z02 _ (.head _));rw [A5i];refine ⟨?_,?_⟩
   ·have:=Int.mul_le_mul i1 j1 (by lia) (by lia)
    lia
   ·rw [Int.pow_succ];exact Int.mul_le_mul i2 j2 (by lia) (by lia)
def C4i (nm own:List Str) (R:PT->Prop) (q:PT):Prop:=(∀y∈q.2.1,y∈nm)/\match q.1 with
 | .num _=>True
 | .pair _ _ _=>True
 | .place _=>False
 | .sum x _=>x∈nm/\x∉own++q.2.1
 | .guard x _ _ _ _=>x∈own++q.2.1
 | .read _ _=>R q
section
variable {nm own:List Str} {R:PT->Prop} {u:Tm} {L:Str->Int}
theorem A8e {x:Gd} {r:List Gd} (h:x.2.2.2=true):gdT (x::r) u= .guard x.1 x.2.1 x.2.2.1 (gdT r u) (.num x.2.1):=by show (if _ then _ else _)=_;rw [Z12 h]
theorem A8k {x:Gd} {r:List Gd} (h:x.2.2.2=false):gdT (x::r) u= .guard x.1 x.2.1 x.2.2.1 (.num x.2.2.1) (gdT r u):=by show (if _ then _ else _)=_;rw [Z0t (by rw [h];exact Z0v)]
theorem B1v (x:Gd):(x.1,x.2.1,x.2.2.1,x.2.2.2)=x:=rfl
theorem D3b:∀(gs:List Gd) (s:List Str) (g:List Gd),(∀y∈s,y∈nm)->(∀x∈gs,x.1∈own++s)->(∀q∈prT u s (g++gs),C4i nm own R q)->∀q∈prT (gdT gs u) s g,C4i nm own R q
 | [],s,g,_,_,h,q,hq=>h q (by rw [Z0u];exact hq)
 | x::r,s,g,hs,hg,h,q,hq=>by
  have ih:=D3b r s (g++[x]) hs (λy hy=>hg y (.tail _ hy)) (λq hq=>h q (by rw [Z0z] at hq;exact hq)) q
  cases hb:x.2.2.2 with
  | true =>
   rw [A8e hb] at hq;rcases Z0e.mp hq with rfl | hq
   ·exact ⟨hs,hg x (.head _)⟩
   ·rcases Z07.mp hq with hq | hq
    ·rw [<-hb,B1v] at hq;exact ih hq
    ·rw [Z0w.mp hq];exact ⟨hs,True.intro⟩
  | false =>
   rw [A8k hb] at hq;rcases Z0e.mp hq with rfl | hq
   ·exact ⟨hs,hg x (.head _)⟩
   ·rcases Z07.mp hq with hq | hq
    ·rw [Z0w.mp hq];exact ⟨hs,True.intro⟩
    ·rw [<-hb,B1v] at hq;exact ih hq
theorem C7w:∀(ss s:List Str) (g:List Gd),(∀y∈s++ss,y∈nm)->(own++(s++ss)).Nodup->(∀q∈prT u (s++ss) g,C4i nm own R q)->∀q∈prT (smT ss u) s g,C4i nm own R q
 | [],s,g,_,_,h,q,hq=>h q (by rw [Z0u];exact hq)
 | x::r,s,g,hs,nd,h,q,hq=>by
  have e:s++[x]++r=s++x::r:=by rw [Z0z];rfl
  rcases Z0e.mp hq with rfl | hq
  ·refine ⟨λy hy=>hs y (Z05 _ hy),hs x (Z02 _ (.head _)),λhm=> ?_⟩;rw [<-Z0z] at nd;exact (Z0l.mp nd).2.2 x hm x (.head _) rfl
  ·exact C7w r (s++[x]) g (by rw [e];exact hs) (by rw [e];exact nd) (by rw [e];exact h) q hq
theorem le1 {α:Type} {l:List α} (h:l.length<=1):l=[]\/∃x,l=[x]:=by
 obtain _ | ⟨x,_ | ⟨_,r⟩⟩:=l
 ·exact .inl rfl
 ·exact .inr ⟨x,rfl⟩
 ·exact absurd h (by simp)
theorem D8n {a b:Tm} {js:List Jt} {s:List Str} {g:List Gd} (l:js.length<=1) (hs:∀y∈s,y∈nm) (hj:∀j∈js,j.1∈own++s) (ha:∀q∈prT a s (g++jG true js),C4i nm own R q) (hb:∀q∈prT b s (g++jG false js),C4i nm own R q):∀q∈prT (jtT js a b) s g,C4i nm own R q:=λq hq=>by
 rcases le1 l with rfl | ⟨j,rfl⟩
 ·have ha:∀q∈prT a s (g++[]),C4i nm own R q:=ha;have hb:∀q∈prT b s (g++[]),C4i nm own R q:=hb;rw [Z0u] at ha hb;rcases Z0e.mp hq with rfl | hq
  ·exact ⟨hs,True.intro⟩
  ·rcases Z07.mp hq with hq | hq
   ·exact ha q hq
   ·exact hb q hq
 ·rcases Z0e.mp hq with rfl | hq
  ·exact ⟨hs,hj j (.head _)⟩
  ·rcases Z07.mp hq with hq | hq
   ·exact ha q hq
   ·exact hb q hq
theorem D7t {β:Type} {f:PT->Option β} (hf:∀q:PT,(∀a' ix',q.1≠.read a' ix')->f q=none):∀(gs:List Gd) (s:List Str) (g:List Gd),(prT (gdT gs u) s g).findSome? f=(prT u s (g++gs)).findSome? f
 | [],s,g=>by rw [Z0u];rfl
 | x::r,s,g=>by
  have ih:=D7t hf r s (g++[x]);rw [Z0z] at ih
  cases hb:x.2.2.2 with
  | true =>
   rw [A8e hb];show ((_,_,_)::(prT (gdT r u) s (g++[(x.1,x.2.1,x.2.2.1,true)])++[_])).findSome? f=_;rw [B0d (hf _ λ_ _ z=>by cases z),D4i (by rw [B0d (hf _ λ_ _ z=>by cases z)];rfl),<-hb,B1v];exact ih
  | false =>
   rw [A8k hb];show ((_,_,_)::([_]++prT (gdT r u) s (g++[(x.1,x.2.1,x.2.2.1,false)]))).findSome? f=_;rw [B0d (hf _ λ_ _ z=>by cases z),D6h (by rw [B0d (hf _ λ_ _ z=>by cases z)];rfl),<-hb,B1v];exact ih
theorem D4r {β:Type} {f:PT->Option β} (hf:∀q:PT,(∀a' ix',q.1≠.read a' ix')->f q=none):∀(ss s:List Str) (g:List Gd),(prT (smT ss u) s g).findSome? f=(prT u (s++ss) g).findSome? f
 | [],s,g=>by rw [Z0u];rfl
 | x::r,s,g=>by
  have ih:=D4r hf r (s++[x]) g;rw [Z0z] at ih;show ((_,_,_)::prT (smT r u) (s++[x]) g).findSome? f=_;rw [B0d (hf _ λ_ _ z=>by cases z)];exact ih
theorem E2n {β:Type} {f:PT->Option β} (hf:∀q:PT,(∀a' ix',q.1≠.read a' ix')->f q=none) {a b:Tm} {js:List Jt} {s:List Str} {g:List Gd} (l:js.length<=1):(prT (jtT js a b) s g).findSome? f=((prT a s (g++jG true js)).findSome? f).or ((prT b s (g++jG false js)).findSome? f):=by
 rcases le1 l with rfl | ⟨j,rfl⟩
 ·show ((_,_,_)::(prT a s g++prT b s g)).findSome? f=((prT a s (g++[])).findSome? f).or ((prT b s (g++[])).findSome? f);rw [B0d (hf _ λ_ _ z=>by cases z),List.findSome?_append,Z0u]
 ·show ((_,_,_)::(prT a s (g++jG true [j])++prT b s (g++jG false [j]))).findSome? f=_;rw [B0d (hf _ λ_ _ z=>by cases z),List.findSome?_append]
def B2n (L:Str->Int) (own:List Str) (l:List PT):Int:=(l.map λq=>prd L (own++q.2.1)).sum
theorem A7s (q:PT) (l:List PT):B2n L own (q::l)=prd L (own++q.2.1)+B2n L own l:=rfl
theorem B3c (l m:List PT):B2n L own (l++m)=B2n L own l+B2n L own m:=by unfold B2n;rw [Z0s,List.sum_append]
theorem D9d:∀(gs:List Gd) (s:List Str) (g:List Gd),B2n L own (prT (gdT gs u) s g)=2*(gs.length:Int)*prd L (own++s)+B2n L own (prT u s (g++gs))
 | [],s,g=>by
  rw [Z0u];show _=2*0*_+_;rw [show (2:Int)*0=0 from rfl,Int.zero_mul,Int.zero_add];rfl
 | x::r,s,g=>by
  have ih:=D9d r s (g++[x]);rw [Z0z] at ih
  have ec:2*((x::r).length:Int)*prd L (own++s)=2*(r.length:Int)*prd L (own++s)+(prd L (own++s)+prd L (own++s)):=by
   rw [show ((x::r).length:Int)=(r.length:Int)+1 from rfl,Int.mul_add,Int.add_mul]
   lia
  rw [ec];have ih':B2n L own (prT (gdT r u) s (g++[x]))=2*(r.length:Int)*prd L (own++s)+B2n L own (prT u s (g++x::r)):=ih
  cases hb:x.2.2.2 with
  | true =>
   rw [A8e hb];show B2n L own ((_,s,_)::(prT (gdT r u) s (g++[(x.1,x.2.1,x.2.2.1,true)])++[(_,s,_)]))=_;rw [A7s,B3c,<-hb,B1v,ih'];show prd L (own++s)+(_+(prd L (own++s)+0))=_
   lia
  | false =>
   rw [A8k hb];show B2n L own ((_,s,_)::([(_,s,_)]++prT (gdT r u) s (g++[(x.1,x.2.1,x.2.2.1,false)])))=_;rw [A7s,B3c,<-hb,B1v,ih'];show prd L (own++s)+((prd L (own++s)+0)+_)=_
   lia
theorem D3o:∀(ss s:List Str) (g:List Gd),B2n L own (prT (smT ss u) s g)=wS L ss (prd L (own++s))+B2n L own (prT u (s++ss) g)
 | [],s,g=>by
  rw [Z0u];show _=0+_;rw [Int.zero_add];rfl
 | x::r,s,g=>by
  have ih:=D3o r (s++[x]) g;rw [Z0z,<-Z0z own s [x],A5i] at ih;show B2n L own ((_,s,_)::prT (smT r u) (s++[x]) g)=prd L (own++s)+wS L r (prd L (own++s)*L x)+_;rw [A7s,ih];show prd L (own++s)+(_+B2n L own (prT u (s++x::r) g))=_
  lia
theorem E1d {a b:Tm} {js:List Jt} {s:List Str} {g:List Gd} (l:js.length<=1):B2n L own (prT (jtT js a b) s g)=prd L (own++s)+(B2n L own (prT a s (g++jG true js))+B2n L own (prT b s (g++jG false js))):=by
 rcases le1 l with rfl | ⟨j,rfl⟩
 ·show B2n L own ((_,s,_)::(prT a s g++prT b s g))=prd L (own++s)+(B2n L own (prT a s (g++[]))+B2n L own (prT b s (g++[])));rw [A7s,B3c,Z0u]
 ·show B2n L own ((_,s,_)::(prT a s (g++jG true [j])++prT b s (g++jG false [j])))=_;rw [A7s,B3c]
def ptR (L:Str->Int) (r:Rd):Int:=r.2.2.2.2.foldl (λp x=>1+L x*p) (1+2*(r.2.2.2.1.length:Int))
theorem E0e {r:Rd} {s:List Str} {g:List Gd} (l:r.2.2.2.2.length<=1):B2n L own (prT (rdT r) s g)=prd L (own++s)*ptR L r:=by
 obtain ⟨a,sz,ix,gs,inn⟩:=r;have l:inn.length<=1:=l;show B2n L own (prT (smT inn (gdT gs (.read a ix))) s g)=prd L (own++s)*inn.foldl (λp x=>1+L x*p) (1+2*(gs.length:Int));rw [D3o,D9d];rcases le1 l with rfl | ⟨x,rfl⟩
 ·rw [Z0u];show 0+(2*(gs.length:Int)*prd L (own++s)+(prd L (own++s)+0))=prd L (own++s)*(1+2*(gs.length:Int));rw [Int.mul_add,Int.mul_one,Int.mul_comm (prd L (own++s))]
  lia
 ·rw [<-Z0z,A5i];show prd L (own++s)+0+(2*(gs.length:Int)*(prd L (own++s)*L x)+(prd L (own++(s++[x]))+0))=prd L (own++s)*(1+L x*(1+2*(gs.length:Int)));rw [<-Z0z,A5i];generalize prd L (own++s)=T;generalize L x=y;generalize (gs.length:Int)=n;have e:T*(1+y*(1+2*n))=T+(T*y+2*n*(T*y)):=by rw [Int.mul_add,Int.mul_one,Int.mul_add y,Int.mul_one,Int.mul_add T,<-Int.mul_assoc T y (2*n),Int.mul_comm (T*y) (2*n)]
  rw [e]
  lia
theorem D2w:∀gs:List Gd,dep (gdT gs u)<=gs.length+dep u/\nod (gdT gs u)<=2*gs.length+nod u
 | []=>by
  show dep u<=0+dep u/\nod u<=2*0+nod u
  lia
 | x::r=>by
  obtain ⟨i1,i2⟩:=D2w r;have p:=C0o u;have:(x::r).length=r.length+1:=rfl
  cases hb:x.2.2.2 with
  | true =>
   rw [A8e hb,this];show max (dep (gdT r u)) 1+1<=_/\nod (gdT r u)+1+1<=_
   lia
  | false =>
   rw [A8k hb,this];show max 1 (dep (gdT r u))+1<=_/\1+nod (gdT r u)+1<=_
   lia
theorem C5h:∀ss:List Str,dep (smT ss u)=ss.length+dep u/\nod (smT ss u)=ss.length+nod u
 | []=>by
  show dep u=0+dep u/\nod u=0+nod u
  lia
 | x::r=>by
  obtain ⟨i1,i2⟩:=C5h r;have:(x::r).length=r.length+1:=rfl;rw [this];show dep (smT r u)+1=_/\nod (smT r u)+1=_
  lia
theorem D3f (hu:OkT u):∀gs:List Gd,(∀g∈gs,OkX g.1)->OkT (gdT gs u)
 | [],_=>hu
 | x::r,h=>by
  have ih:=D3f hu r λg hg=>h g (.tail _ hg)
  cases hb:x.2.2.2 with
  | true=>rw [A8e hb];exact ⟨h x (.head _),ih,True.intro⟩
  | false=>rw [A8k hb];exact ⟨h x (.head _),True.intro,ih⟩
theorem C8e (hu:OkT u):∀ss:List Str,(∀x∈ss,OkX x)->OkT (smT ss u)
 | [],_=>hu
 | x::r,h=>⟨h x (.head _),C8e hu r λg hg=>h g (.tail _ hg)⟩
theorem D1y:∀ss:List Str,B1h (smT ss u)=ss++B1h u
 | []=>rfl
 | x::r=>by show x::B1h (smT r u)=_;rw [D1y r];rfl
theorem C4d {ys:List Str} {a b:List Gd} {ix:List (Str×Int)}:A4a L ys (a++b) ix=A4a L ys (b++a) ix:=by
 unfold A4a;congr 1;funext c;unfold A8o;rw [List.all_append,List.all_append,Bool.and_comm]
end
theorem B6z {x:Str} (h:(PyData.strOk x&&decide (x.length<=4000))=true):OkX x:=by
 rw [Z1x] at h;exact ⟨h.1,of_decide_eq_true h.2⟩
theorem B4d:OkX "mine"/\nmB "mine"=true:=⟨B6z (by decide +kernel),by decide +kernel⟩
theorem C9f {nm:List Str} {L:Str->Int}:axN (nm.map λy=>(y,L y))=nm:=by
 unfold axN;rw [List.map_map];exact List.map_id' nm
theorem B7o {p:Str->Prop} {ns:List Str} (nd:ns.Nodup) (h:∀x∈ns,p x):B5u p ns:=λi x e=>by
 refine ⟨h x (Z13 e),λhm=> ?_⟩;have hi:=(Z03.mp e).1;have ey:ns[i]=x:=(Z03.mp e).2;have e2:ns=ns.take i++x::ns.drop (i+1):=by rw [<-ey,List.getElem_cons_drop,Z2e]
 rw [e2] at nd;exact (Z0l.mp nd).2.2 x hm x (.head _) rfl
def nm4:List Str:=["x","yy","zed","w"]
theorem C4v:∀x∈nm4,OkX x/\nmB x=true/\¬x="":=by
 intro x hx;unfold nm4 at hx;simp only [Z0e,Z1i,or_false] at hx;rcases hx with rfl | rfl | rfl | rfl <;> exact ⟨B6z (by decide +kernel),by decide +kernel,by decide +kernel⟩
theorem C7k:OkX "tab"/\nmB "tab"=true:=⟨B6z (by decide +kernel),by decide +kernel⟩
theorem D8w:(nm4++(["tab","mine"]:List Str)).Nodup:=by decide +kernel
theorem D7g (b:Bool):OkX (arM b):=by
 cases b
 ·exact C7k.1
 ·exact B4d.1
def trm (sm:List Str) (js:List Jt) (r0 r1:Rd):Tm:=smT sm (jtT js (rdT r0) (rdT r1))
noncomputable def rq (sm:List Str) (js:List Jt) (b:Bool) (r:Rd):PT:=(.read r.1 r.2.2.1,sm++r.2.2.2.2,jG b js++r.2.2.2.1)
structure Pg (nm own sm sh:List Str) (js:List Jt) (r0 r1:Rd) (L:Str->Int):Prop where
 sub:∃k,nm=nm4.take k
 ax:AxB nm own sm sh
 jl:js.length<=1
 ji:∀j∈js,j.1∈own++sm
 k0:C1z nm own sm sh L r0
 k1:C1z nm own sm sh L r1
 i0:r0.2.2.2.2=[]
 bn:∀y∈nm,1<=L y/\L y<=5
theorem E2h {L:Str->Int}:∀(n:Nat) {ys:List Str},ys.length=n->(∀y∈ys,1<=L y/\L y<=5)->1<=prd L ys/\prd L ys<=5^n
 | 0,ys,hn,_=>by
  rw [Z2n.mp hn];exact ⟨by show (1:Int)<=1;decide,by show (1:Int)<=1;decide⟩
 | n+1,ys,hn,h=>by
  rcases List.eq_nil_or_concat ys with rfl | ⟨zs,y,rfl⟩
  ·cases hn
  ·rw [List.concat_eq_append] at hn h⊢;rw [Z06,Z0j] at hn;obtain ⟨i1,i2⟩:=E2h n (ys:=zs) (by lia) λz hz=>h z (Z05 _ hz);obtain ⟨j1,j2⟩:=h y (Z02 _ (.head _));rw [A5i];refine ⟨?_,?_⟩
   ·have:=Int.mul_le_mul i1 j1 (by lia) (by lia)
    lia
   ·rw [Int.pow_succ];exact Int.mul_le_mul i2 j2 (by lia) (by lia)
theorem C7b:∀{n m:Nat},n<=m->(5:Int)^n<=5^m:=λ{n m} h=>by
 induction m with
 | zero=>rw [Nat.le_zero.mp h];exact Int.le_refl _
 | succ m ih =>
  rcases Nat.eq_or_lt_of_le h with rfl | h
  ·exact Int.le_refl _
  ·have:=ih (by lia);have p:(0:Int)<5^m:=Int.pow_pos (by decide);rw [Int.pow_succ]
   lia
section
variable {nm own sm sh:List Str} {js:List Jt} {r0 r1:Rd} {L:Str->Int}
theorem Pg.mem (h:Pg nm own sm sh js r0 r1 L) {x:Str} (hx:x∈nm):x∈nm4:=by
 obtain ⟨k,rfl⟩:=h.sub;exact Z2p hx
theorem Pg.len (h:Pg nm own sm sh js r0 r1 L):nm.length<=4:=by
 obtain ⟨k,rfl⟩:=h.sub;rw [Z0x];have:nm4.length=4:=rfl
 lia
theorem Pg.nd (h:Pg nm own sm sh js r0 r1 L):(nm++(["tab","mine"]:List Str)).Nodup:=by
 obtain ⟨k,rfl⟩:=h.sub;exact ((Z2o k nm4).append (List.Sublist.refl _)).nodup D8w
theorem Pg.bd (h:Pg nm own sm sh js r0 r1 L):∀y∈own++sm,y∈nm:=λy hy=>by
 rcases Z07.mp hy with hy | hy
 ·exact h.ax.os y hy
 ·exact h.ax.ss y hy
theorem Pg.bi (h:Pg nm own sm sh js r0 r1 L) {r:Rd} (k:C1z nm own sm sh L r):∀y∈own++sm++r.2.2.2.2,y∈nm:=λy hy=>by
 rcases Z07.mp hy with hy | hy
 ·exact h.bd y hy
 ·exact (k.im y hy).1
theorem Pg.ndi (h:Pg nm own sm sh js r0 r1 L) {r:Rd} (k:C1z nm own sm sh L r):(own++sm++r.2.2.2.2).Nodup:=by
 refine Z0l.mpr ⟨h.ax.nd,?_,λa ha b hb e=>(k.im b hb).2 (e▸ha)⟩;have l:=k.il;generalize r.2.2.2.2=inn at l;rcases le1 l with rfl | ⟨x,rfl⟩
 ·exact List.nodup_nil
 ·exact (by simp)
theorem Pg.noE (h:Pg nm own sm sh js r0 r1 L) {ys:List Str} (hy:∀y∈ys,y∈nm):("":Str)∉ys:=λhm=>(C4v _ (h.mem (hy _ hm))).2.2 rfl
theorem C0d:∀{ys nm:List Str},ys.Nodup->(∀y∈ys,y∈nm)->ys.length<=nm.length
 | [],nm,_,_=>Z1e _
 | y::r,nm,nd,hs=>by
  obtain ⟨a,c,rfl⟩:=List.append_of_mem (hs y (.head _));have nd:=Z15.mp nd
  have ih:=C0d (ys:=r) (nm:=a++c) nd.2 λz hz=>by
   have hm:=hs z (.tail _ hz);rcases Z07.mp hm with hm | hm
   ·exact Z05 _ hm
   ·rcases Z0e.mp hm with e | hm
    ·exact absurd (e▸hz) nd.1
    ·exact Z02 _ hm
  rw [Z06] at ih⊢;simp only [Z0y]
  lia
theorem Pg.good (h:Pg nm own sm sh js r0 r1 L) {ys:List Str} (nd:ys.Nodup) (hy:∀y∈ys,y∈nm):C0q (ys.map L):=by
 have l4:=C0d nd hy;have ln:=h.len;refine ⟨λn hn=> ?_,by rw [Z08];lia,?_⟩
 ·obtain ⟨y,hm,rfl⟩:=Z2c.mp hn;have:=h.bn y (hy y hm)
  lia
 ·rw [<-D9o];have p:=(E2h ys.length rfl λy hm=>h.bn y (hy y hm)).2;have q:=C7b (show ys.length<=4 by lia);have:(5:Int)^4=625:=by decide
  lia
theorem Pg.tells (h:Pg nm own sm sh js r0 r1 L) {ys:List Str} (hy:∀y∈ys,y∈nm):A4t (A1c [] (B9b (nm.map λy=>(y,L y)))) L ys:=λy hm=>by
 have:=h.bn y (hy y hm);exact ⟨B8a nm [] y (.inl (hy y hm)),by lia,by lia⟩
theorem Pg.wk (h:Pg nm own sm sh js r0 r1 L):wrk L [("tab",sh)] [("mine",own,trm sm js r0 r1)]=prd L sh+wS L sm (prd L own)+prd L (own++sm)+prd L (own++sm)*ptR L r0+prd L (own++sm)*ptR L r1:=by
 have e:wkL L ("mine",own,trm sm js r0 r1)=wS L sm (prd L own)+(prd L (own++sm)+(prd L (own++sm)*ptR L r0+prd L (own++sm)*ptR L r1)):=by
  show B2n L own (prT (smT sm (jtT js (rdT r0) (rdT r1))) [] [])=_;rw [D3o,Z0u,List.nil_append,E1d h.jl,E0e h.k0.il,E0e h.k1.il]
 show (prd L sh+0)+(wkL L ("mine",own,trm sm js r0 r1)+0)=_;rw [e]
 lia
theorem Pg.pt (h:Pg nm own sm sh js r0 r1 L):∀q∈prT (trm sm js r0 r1) [] [],C4i nm own (λq=>q=rq sm js true r0\/q=rq sm js false r1) q:=by
 have rd:∀(b:Bool) (r:Rd),C1z nm own sm sh L r->∀q∈prT (rdT r) sm (jG b js),C4i nm own (λq=>q=rq sm js b r) q:=λb r k=>by
  refine C7w _ _ _ ?_ ?_ ?_
  ·intro y hy;exact h.bi k y (by rw [Z0z];exact Z02 _ hy)
  ·rw [<-Z0z];exact h.ndi k
  ·refine D3b _ _ _ ?_ ?_ ?_
   ·intro y hy;exact h.bi k y (by rw [Z0z];exact Z02 _ hy)
   ·intro x hx;rw [<-Z0z];exact k.gi x hx
   ·intro q hq;have hq:q∈[((.read r.1 r.2.2.1:Tm),sm++r.2.2.2.2,jG b js++r.2.2.2.1)]:=hq;rw [Z0w.mp hq];exact ⟨λy hy=>h.bi k y (by rw [Z0z];exact Z02 _ hy),rfl⟩
 have up:∀{R R':PT->Prop} {q:PT},(∀q,R q->R' q)->C4i nm own R q->C4i nm own R' q:=λ{R R' q} f z=>by
  obtain ⟨u,s,g⟩:=q
  cases u with
  | read a ix=>exact ⟨z.1,f _ z.2⟩
  | _=>exact z
 refine C7w _ _ _ (λy hy=>h.bd y (Z02 _ hy)) h.ax.nd ?_;exact D8n h.jl (λy hy=>h.bd y (Z02 _ hy)) h.ji (λq hq=>up (λ_=> .inl) (rd true r0 h.k0 q hq)) (λq hq=>up (λ_=> .inr) (rd false r1 h.k1 q hq))
theorem C1a {own sh:List Str} (b:Bool):shp [(("tab":Str),sh),(("mine":Str),own)] (arM b)=some (axM b own sh):=by
 cases b
 ·unfold shp;rw [Z2h,Z20 (show ("tab":Str)=arM false from rfl)];rfl
 ·unfold shp;rw [Z2h,Z1j (show¬("tab":Str)=arM true by decide +kernel),Z2h,Z20 (show ("mine":Str)=arM true from rfl)];rfl
theorem Pg.top (h:Pg nm own sm sh js r0 r1 L):B1h (trm sm js r0 r1)=sm:=by
 show B1h (smT sm _)=sm;rw [D1y];have l:=h.jl;rcases le1 l with rfl | ⟨j,rfl⟩
 ·exact Z0u _
 ·exact Z0u _
theorem Pg.el (h:Pg nm own sm sh js r0 r1 L):B7a nm [("tab",sh)] [("mine",own,trm sm js r0 r1)]=none:=by
 have hm:D6w nm [("tab",sh)] ("mine",own,trm sm js r0 r1)=none:=by
  show (prT (trm sm js r0 r1) [] []).findSome? (pOk nm [(("tab":Str),sh),(("mine":Str),own)] "mine" own (B1h (trm sm js r0 r1)).length)=none;rw [List.findSome?_eq_none_iff];intro q hq;have p:=h.pt q hq
  have rk:∀(b:Bool) (r:Rd),C1z nm own sm sh L r->pOk nm [(("tab":Str),sh),(("mine":Str),own)] "mine" own (B1h (trm sm js r0 r1)).length (rq sm js b r)=none:=λb r k=>by
   obtain ⟨i,e1,e2,e3⟩:=k.ar
   have er:C4u [(("tab":Str),sh),(("mine":Str),own)] (own++(sm++r.2.2.2.2)) r.1 r.2.2.1=none:=by
    unfold C4u;rw [e1,C1a];show (if r.2.2.1.length≠(axM i own sh).length then some false else if ixB (own++(sm++r.2.2.2.2)) r.2.2.1=true then none else some false)=none
    have hb:ixB (own++(sm++r.2.2.2.2)) r.2.2.1=true:=by
     unfold ixB;rw [List.all_eq_true];intro x hx;by_cases h0:x.1=""
     ·rw [Z20 h0];rfl
     ·rw [<-Z0z,Z20 (k.xi x hx h0),Bool.or_true]
    rw [Z0t (by rw [k.lx,e2,Z08];exact λz=>z rfl),Z12 hb]
   show (match C4u [(("tab":Str),sh),(("mine":Str),own)] (own++(sm++r.2.2.2.2)) r.1 r.2.2.1 with | some b=>some b | none=>if r.1="mine"/\(B1h (trm sm js r0 r1)).length<(sm++r.2.2.2.2).length then some false else none)=none
   rw [er,h.top];show (if r.1="mine"/\sm.length<(sm++r.2.2.2.2).length then some false else none)=none;refine Z0t λz=> ?_
   cases i with
   | true=>rw [e3 rfl,Z0u] at z;exact absurd z.2 (Nat.lt_irrefl _)
   | false=>rw [e1] at z;exact absurd z.1 (by decide +kernel)
  obtain ⟨u,s,g⟩:=q
  cases u with
  | num z=>rfl
  | pair o l r=>rfl
  | place x=>exact absurd p.2 (λz=>z)
  | sum x b =>
   obtain ⟨_,m,n⟩:=p;show (if x∈nm then (if x∈own++s then some false else none) else some false)=none;rw [Z12 m,Z0t n]
  | guard x lo hi l r =>
   show (if x∈own++s then none else some false)=none;exact Z12 p.2
  | read a ix =>
   rcases p.2 with e | e
   ·rw [e];exact rk true r0 h.k0
   ·rw [e];exact rk false r1 h.k1
 show (match D6w nm [("tab",sh)] ("mine",own,trm sm js r0 r1) with | some b=>some b | none=>none)=none
 rw [hm]
theorem D1t (b:Bool):¬B4t b="by":=by cases b <;> decide +kernel
theorem Pg.rim (h:Pg nm own sm sh js r0 r1 L):D4l (D6x L [(("tab":Str),sh),(("mine":Str),own)] [(("mine":Str),own,trm sm js r0 r1)]) (D2a L (own++sm) js true [r0,r1] (("by":Str),("":Str),(([]:List Int),([]:List Int)))):=by
 have rp:∀(b:Bool) (r:Rd),C1z nm own sm sh L r->C8r L [(("tab":Str),sh),(("mine":Str),own)] (("mine":Str),own,trm sm js r0 r1) (rq sm js b r)=(B3d (A4a L (own++sm++r.2.2.2.2) (r.2.2.2.1++jG b js) r.2.2.1) r.2.1 (decide (r.1="mine")) r.2.1.length).map λe=>(r.1,e):=λb r k=>by
  obtain ⟨i,e1,e2,e3⟩:=k.ar;show (B3d (A4a L (own++(sm++r.2.2.2.2)) (jG b js++r.2.2.2.1) r.2.2.1) (((shp [(("tab":Str),sh),(("mine":Str),own)] r.1).getD []).map L) (decide (r.1="mine")) own.length).map (λe=>(r.1,e))=_;rw [<-Z0z,C4d (a:=jG b js),e1,C1a,e2]
  cases i with
  | true=>show Option.map _ (B3d _ (own.map L) _ own.length)=Option.map _ (B3d _ (own.map L) _ (own.map L).length);rw [Z08]
  | false =>
   have ef:decide (arM false=("mine":Str))=false:=by decide +kernel
   rw [ef];rfl
 have hl:D2f L [(("tab":Str),sh),(("mine":Str),own)] (("mine":Str),own,trm sm js r0 r1)=(C8r L [(("tab":Str),sh),(("mine":Str),own)] (("mine":Str),own,trm sm js r0 r1) (rq sm js true r0)).or (C8r L [(("tab":Str),sh),(("mine":Str),own)] (("mine":Str),own,trm sm js r0 r1) (rq sm js false r1)):=by
  have hf:∀q:PT,(∀a' ix',q.1≠.read a' ix')->C8r L [(("tab":Str),sh),(("mine":Str),own)] (("mine":Str),own,trm sm js r0 r1) q=none:=λq hq=>by
   unfold C8r
   cases hu:q.1 with
   | read a' ix'=>exact absurd hu (hq a' ix')
   | _=>rfl
  unfold D2f;generalize C8r L [(("tab":Str),sh),(("mine":Str),own)] (("mine":Str),own,trm sm js r0 r1)=f at hf;show (prT (smT sm (jtT js (rdT r0) (rdT r1))) [] []).findSome? f=_;rw [D4r hf,E2n hf h.jl]
  have one:∀(b:Bool) (r:Rd),(prT (rdT r) ([]++sm) ([]++jG b js)).findSome? f=f (rq sm js b r):=λb r=>by
   show (prT (smT r.2.2.2.2 (gdT r.2.2.2.1 (.read r.1 r.2.2.1))) sm (jG b js)).findSome? f=_;rw [D4r hf,D7t hf];show ([rq sm js b r]).findSome? f=f (rq sm js b r);generalize rq sm js b r=y;rw [List.findSome?_cons];cases f y <;> rfl
  rw [one,one]
 show D4l (([(("mine":Str),own,trm sm js r0 r1)]:List Lt).findSome? λle=>(D2f L [(("tab":Str),sh),(("mine":Str),own)] le).map λr=>(le.1,r)) (D2a L (own++sm) js false [r1] (D2l L (own++sm) js true r0));rw [List.findSome?_cons];dsimp only;rw [hl,rp true r0 h.k0,rp false r1 h.k1];have d0:D2l L (own++sm) js true r0=match B3d (A4a L (own++sm++r0.2.2.2.2) (r0.2.2.2.1++jG true js) r0.2.2.1) r0.2.1 (decide (r0.1="mine")) r0.2.1.length with | some (b,e)=>(B4t b,r0.1,e) | none=>(("by":Str),r0.1,(([]:List Int),([]:List Int))):=rfl
 have d1:D2l L (own++sm) js false r1=match B3d (A4a L (own++sm++r1.2.2.2.2) (r1.2.2.2.1++jG false js) r1.2.2.1) r1.2.1 (decide (r1.1="mine")) r1.2.1.length with | some (b,e)=>(B4t b,r1.1,e) | none=>(("by":Str),r1.1,(([]:List Int),([]:List Int))):=rfl
 show D4l _ (if (D2l L (own++sm) js true r0).1="by" then D2l L (own++sm) js false r1 else D2l L (own++sm) js true r0);rw [d0,d1];generalize B3d (A4a L (own++sm++r0.2.2.2.2) (r0.2.2.2.1++jG true js) r0.2.2.1) r0.2.1 (decide (r0.1="mine")) r0.2.1.length=x0;generalize B3d (A4a L (own++sm++r1.2.2.2.2) (r1.2.2.2.1++jG false js) r1.2.2.1) r1.2.1 (decide (r1.1="mine")) r1.2.1.length=x1
 cases x0 with
 | some e =>
  obtain ⟨b,e⟩:=e;show D4l (some ("mine",(r0.1,(b,e)))) (if B4t b="by" then _ else (B4t b,r0.1,e));rw [Z0t (D1t b)];exact ⟨rfl,rfl⟩
 | none =>
  show D4l _ (if ("by":Str)="by" then _ else _);rw [Z12 rfl]
  cases x1 with
  | some e =>
   obtain ⟨b,e⟩:=e;exact ⟨rfl,rfl⟩
  | none=>exact rfl
theorem Pg.in2 (h:Pg nm own sm sh js r0 r1 L) {r:Rd} (k:C1z nm own sm sh L r):E0h (own++sm) L r:=by
 obtain ⟨i,e1,e2,e3⟩:=k.ar
 have la:(axM i own sh).length<=3:=by
  cases i
  ·exact h.ax.zl
  ·exact h.ax.ol
 refine ⟨h.good (h.ndi k) (h.bi k),h.noE (h.bi k),by rw [e2,Z08];exact la,k.lx,k.xi,k.gi,k.gl,k.il,λhm=> ?_⟩
 cases i with
 | true =>
  rw [e2,Z08,Z06];exact Nat.le_add_right _ _
 | false=>rw [e1] at hm;exact absurd hm (by decide +kernel)
theorem Pg.dep (h:Pg nm own sm sh js r0 r1 L):dep (trm sm js r0 r1)<=9/\nod (trm sm js r0 r1)<=1000:=by
 have rd:∀r:Rd,C1z nm own sm sh L r->My.dep (rdT r)<=5/\nod (rdT r)<=8:=λr k=>by
  have a:=C5h (u:=gdT r.2.2.2.1 (.read r.1 r.2.2.1)) r.2.2.2.2;have c:=D2w (u:= .read r.1 r.2.2.1) r.2.2.2.1;have e1:My.dep (.read r.1 r.2.2.1)=1:=rfl;have e2:nod (.read r.1 r.2.2.1)=1:=rfl;have g3:=k.gl;have i1:=k.il;show My.dep (smT _ _)<=5/\nod (smT _ _)<=8
  lia
 have a0:=rd r0 h.k0;have a1:=rd r1 h.k1;have s2:=h.ax.sl;have d:=C5h (u:=jtT js (rdT r0) (rdT r1)) sm
 have dj:My.dep (jtT js (rdT r0) (rdT r1))<=6/\nod (jtT js (rdT r0) (rdT r1))<=17:=by
  have l:=h.jl;rcases le1 l with rfl | ⟨j,rfl⟩
  ·show max (My.dep (rdT r0)) (My.dep (rdT r1))+1<=6/\nod (rdT r0)+nod (rdT r1)+1<=17;lia
  ·show max (My.dep (rdT r0)) (My.dep (rdT r1))+1<=6/\nod (rdT r0)+nod (rdT r1)+1<=17;lia
 show My.dep (smT _ _)<=9/\nod (smT _ _)<=1000
 lia
theorem D2t:∀{sm:List Str} {f B:Int},(∀y∈sm,1<=L y/\L y<=5)->0<=f->f<=B->0<=wS L sm f/\wS L sm f<=B*6^sm.length
 | [],f,B,_,h0,h1=>by
  show (0:Int)<=0/\0<=B*1
  lia
 | x::r,f,B,h,h0,h1=>by
  obtain ⟨l1,l2⟩:=h x (.head _);have fl:0<=f*L x:=Int.mul_nonneg h0 (by lia);have fu:f*L x<=B*5:=Int.mul_le_mul h1 l2 (by lia) (by lia);obtain ⟨i1,i2⟩:=D2t (sm:=r) (f:=f*L x) (B:=B*5) (λy hy=>h y (.tail _ hy)) fl fu;show 0<=f+wS L r (f*L x)/\f+wS L r (f*L x)<=B*6^(r.length+1);have p6:(1:Int)<=6^r.length:=Int.pow_pos (by decide)
  have e:B*6^(r.length+1)=B*5*6^r.length+B*6^r.length:=by
   rw [Int.pow_succ,<-Int.mul_assoc,Int.mul_assoc B 5,Int.mul_comm 5,<-Int.mul_assoc]
   lia
  have q:B<=B*6^r.length:=by
   have:=Z29 p6 (show 0<=B by lia)
   lia
  rw [e]
  lia
theorem C6t (h:∀y∈nm,1<=L y/\L y<=5) {r:Rd} (k:C1z nm own sm sh L r):0<=ptR L r/\ptR L r<=36:=by
 obtain ⟨a,sz,ix,gs,inn⟩:=r;have g3:gs.length<=3:=k.gl;have i1:inn.length<=1:=k.il;have im:∀y∈inn,y∈nm/\y∉own++sm:=k.im;show 0<=inn.foldl (λp x=>1+L x*p) (1+2*(gs.length:Int))/\inn.foldl (λp x=>1+L x*p) (1+2*(gs.length:Int))<=36;rcases le1 i1 with rfl | ⟨x,rfl⟩
 ·show 0<=1+2*(gs.length:Int)/\1+2*(gs.length:Int)<=36;lia
 ·obtain ⟨l1,l2⟩:=h x (im x (.head _)).1;show 0<=1+L x*(1+2*(gs.length:Int))/\1+L x*(1+2*(gs.length:Int))<=36;have a1:0<=L x*(1+2*(gs.length:Int)):=Int.mul_nonneg (by lia) (by lia);have a2:L x*(1+2*(gs.length:Int))<=5*7:=Int.mul_le_mul l2 (by lia) (by lia) (by lia)
  lia
theorem Pg.sm' (h:Pg nm own sm sh js r0 r1 L):Sm (wrk L [("tab",sh)] [("mine",own,trm sm js r0 r1)]):=by
 rw [h.wk];have p4:(5:Int)^4=625:=by decide
 have ln:=h.len
 have bn:∀{ys:List Str},ys.Nodup->(∀y∈ys,y∈nm)->1<=prd L ys/\prd L ys<=625:=λ{ys} nd hy=>by
  have l4:=C0d nd hy;have p:=E2h ys.length rfl λy hm=>h.bn y (hy y hm);have q:=C7b (show ys.length<=4 by lia)
  lia
 have b1:=bn h.ax.zd h.ax.zs;have b2:=bn h.ax.nd h.bd;have b3:=bn (Z0l.mp h.ax.nd).1 h.ax.os;have b4:=D2t (L:=L) (sm:=sm) (f:=prd L own) (B:=625) (λy hy=>h.bn y (h.ax.ss y hy)) (by lia) b3.2;have b5:=C6t h.bn h.k0;have b6:=C6t h.bn h.k1;have s2:=h.ax.sl
 have e6:(6:Int)^sm.length<=36:=by
  generalize sm.length=n at s2
  match n,s2 with
  | 0,_=>decide
  | 1,_=>decide
  | 2,_=>decide
 have c0:0<=prd L (own++sm)*ptR L r0:=Int.mul_nonneg (by lia) b5.1;have c1:prd L (own++sm)*ptR L r0<=625*36:=Int.mul_le_mul b2.2 b5.2 b5.1 (by lia);have d0:0<=prd L (own++sm)*ptR L r1:=Int.mul_nonneg (by lia) b6.1;have d1:prd L (own++sm)*ptR L r1<=625*36:=Int.mul_le_mul b2.2 b6.2 b6.1 (by lia);have e7:(625:Int)*6^sm.length<=625*36:=Z29 e6 (by decide);unfold Sm;have h32:(100000:Int)<=((10^32:Nat):Int):=by decide
 generalize (10:Nat)^32=T at h32⊢
 lia
theorem Pg.lk (h:Pg nm own sm sh js r0 r1 L):E3i (nm.map λy=>(y,L y)) [("tab",sh)] [("mine",own,trm sm js r0 r1)] ["mine"] L:=by
 have l4:=h.len;have z3:=h.ax.zl;have o3:=h.ax.ol;have hok:OkN nm:=λx hx=>(C4v x (h.mem hx)).1;obtain ⟨d9,n1000⟩:=h.dep;have odn:=(Z0l.mp h.ax.nd).1;have nar:(["tab","mine"]:List Str).Nodup:=by decide +kernel
 have rkT:∀r:Rd,C1z nm own sm sh L r->OkT (rdT r):=λr k=>by
  obtain ⟨i,e1,e2,e3⟩:=k.ar;have hx:=h.in2 k;refine C8e (D3f (u:= .read r.1 r.2.2.1) ⟨by rw [e1];exact D7g i,by rw [k.lx];have:=hx.lz;lia,λe he=> ?_⟩ _ λg hg=>hok _ (h.bi k _ (k.gi g hg))) _ λx hx=>hok x (k.im x hx).1;by_cases h0:e.1=""
  ·rw [h0];exact B6z (by decide +kernel)
  ·exact hok _ (h.bi k _ (k.xi e he h0))
 have okt:OkT (trm sm js r0 r1):=by
  refine C8e ?_ _ λx hx=>hok x (h.ax.ss x hx);have l:=h.jl;have hj:=h.ji;rcases le1 l with rfl | ⟨j,rfl⟩
  ·exact ⟨rkT r0 h.k0,rkT r1 h.k1⟩
  ·exact ⟨hok _ (h.bd _ (hj j (.head _))),rkT r0 h.k0,rkT r1 h.k1⟩
 refine ⟨⟨by rw [Z08];lia,by show 1<=100;decide,by show 1<=100;decide,by simp,?_,?_,?_⟩,⟨?_,by simp,?_⟩,?_,⟨by rw [Z08];lia,by show 1<=100;decide,by show 1<=100;decide,nar,?_⟩,by rw [C9f];exact h.el,⟨by show 1<=100;decide,by show 1<=100;decide,?_,?_⟩,h.sm',λh4=> ?_⟩
 ·rw [C9f];intro x hx;rcases Z07.mp hx with hx | hx
  ·exact hok x hx
  ·have hx:x∈(["tab","mine"]:List Str):=hx;rcases Z0e.mp hx with rfl | hx
   ·exact C7k.1
   ·rw [Z0w.mp hx];exact B4d.1
 ·intro x hx;rw [Z0w.mp hx];exact B4d.1
 ·intro e he;have he:e∈[(("tab":Str),sh),(("mine":Str),own)]:=he;rcases Z0e.mp he with rfl | he
  ·exact ⟨by show sh.length<=20;lia,λx hx=>hok x (h.ax.zs x hx)⟩
  ·rw [Z0w.mp he];exact ⟨by show own.length<=20;lia,λx hx=>hok x (h.ax.os x hx)⟩
 ·rw [C9f];refine B7o h.nd λx hx=> ?_;rcases Z07.mp hx with hx | hx
  ·exact (C4v x (h.mem hx)).2.1
  ·have hx:x∈(["tab","mine"]:List Str):=hx;rcases Z0e.mp hx with rfl | hx
   ·exact C7k.2
   ·rw [Z0w.mp hx];exact B4d.2
 ·refine B7o (by simp) λx hx=> ?_;rw [Z0w.mp hx];exact .tail _ (.head _)
 ·intro e he;have he:e∈[(("tab":Str),sh),(("mine":Str),own)]:=he;rw [C9f];rcases Z0e.mp he with rfl | he
  ·exact ⟨z3,B7o h.ax.zd h.ax.zs⟩
  ·rw [Z0w.mp he];exact ⟨o3,B7o odn h.ax.os⟩
 ·intro e he;rw [Z0w.mp he];exact ⟨by show own.length<=100;lia,B4d.1,okt,d9,n1000⟩
 ·intro e he;rw [Z0w.mp he];exact ⟨by show sh.length<=10;lia,h.tells h.ax.zs⟩
 ·intro e he;rw [Z0w.mp he];exact ⟨by show own.length<=10;lia,h.tells h.ax.os,d9,n1000,λq hq=>h.tells (h.pt q hq).1⟩
 ·refine ⟨nar,by show 1<=100;decide,by show 1<=100;decide,?_,λle hle=> ?_⟩
  ·intro e he;have he:e∈[(("tab":Str),sh),(("mine":Str),own)]:=he;rcases Z0e.mp he with rfl | he
   ·exact h.tells h.ax.zs
   ·rw [Z0w.mp he];exact h.tells h.ax.os
  ·rw [Z0w.mp hle];refine ⟨d9,n1000,λq hq a ix hqa=> ?_⟩;have p:=(h.pt q hq).2;rw [hqa] at p
   have rk:∀(b:Bool) (r:Rd),C1z nm own sm sh L r->q=rq sm js b r->E0u L (A1c [] (B9b (nm.map λy=>(y,L y)))) ("mine",own,trm sm js r0 r1) q.2.1 q.2.2 ix/\∃zs,shp (arr [("tab",sh)] [("mine",own,trm sm js r0 r1)]) a=some zs/\zs.length=ix.length:=λb r k e=>by
    subst e;cases hqa;obtain ⟨i,e1,e2,e3⟩:=k.ar;have i2:=h.in2 k;have ea:own++(sm++r.2.2.2.2)=own++sm++r.2.2.2.2:=(Z0z _ _ _).symm;refine ⟨⟨?_,?_,?_,?_,?_⟩,axM i own sh,?_,?_⟩
    ·show A4t _ _ (own++(sm++r.2.2.2.2));rw [ea];exact h.tells (h.bi k)
    ·show C0q ((own++(sm++r.2.2.2.2)).map L);rw [ea];exact i2.gd
    ·show r.2.2.1.length<=3;rw [i2.lx];exact i2.lz
    ·intro e he h0;show e.1∈own++(sm++r.2.2.2.2);rw [ea];exact k.xi e he h0
    ·intro g hg;show g.1∈own++(sm++r.2.2.2.2);rw [ea];rcases Z07.mp hg with hg | hg
     ·obtain ⟨j,hj,rfl⟩:=Z2c.mp hg;exact Z05 _ (h.ji j hj)
     ·exact k.gi g hg
    ·rw [e1];exact C1a i
    ·rw [k.lx,e2,Z08]
   rcases p with e | e
   ·exact rk true r0 h.k0 e
   ·exact rk false r1 h.k1 e
end
def C9e (K:Frag):Sp:=λvs H Q _=>∃(a:Addr) (ns:List Int),vs=[.ref a]/\SqL K H a (ns.map V.int)/\ns.length<=63/\∀H',Q (.bl true) H'
theorem D4w {α:Type} (f:α->V) (nm:List α) (lo hi:Option Int):∃zs:List α,B7s (nm.map f) lo hi=zs.map f/\zs.length<=nm.length/\∀x∈zs,x∈nm:=by
 refine ⟨(nm.drop (HT.sIx nm.length 0 lo)).take (HT.sIx nm.length nm.length hi-HT.sIx nm.length 0 lo),?_,?_,λx hx=> ?_⟩
 ·unfold B7s;rw [Z08,<-List.map_drop,<-List.map_take]
 ·rw [Z0x,Z19];lia
 ·exact List.mem_of_mem_drop (Z2p hx)
theorem C5e:nm4.Nodup:=by decide +kernel
theorem D7e {α:Type} {l:List α} (h:l.length=2):∃a b,l=[a,b]:=by
 obtain _ | ⟨a,_ | ⟨b,_ | ⟨_,_⟩⟩⟩:=l <;> cases h;exact ⟨a,b,rfl⟩
theorem E0k (T:Txt K mg t):FO P w base T.vW 19 (C9e K):=by
 have Gf8:= @C0m P w K mg base t T;have Gf9:= @B3o P w K mg base t T;have Gg0:= @B9r P w K mg base t T;have Ge6:= @B0y P w K mg base t T;have Gg1:= @B5a P w K mg base t T;have Gg2:= @C3c P w K mg base t T;have Gg3:= @C4f P w K mg base t T;have Gg4:= @B5g P w K mg base t T;have Gg5:= @C5a P w K mg base t T;have Gg6:= @C9i P w K mg base t T;refine T.vW.F.ok A2u (by walk_at "ln") λ_ A _ s H _ Q E hr h=> ?_
 ·obtain ⟨a,ns,rfl,hS,hn,k⟩:=h;have hu:=B0m hr
  refine ⟨_,(A0c (B6v (i₀:=1) (N':=["_law_cell_here"]) (ix:=(List.replicate 1 none)) A2u.nd rfl (.inl rfl) rfl (A2q rfl (by decide +kernel) (by decide +kernel)) (A2r rfl) (C2t rfl T.j7 (A0a (A4b A6j (pv 0) A5m (A5r A0l)) A0d)) (λ_ _ _ _=>(A0h (i:=0) C3n rfl (.inl rfl))) (λ_ _ _ _=>(pv 0)))
   (A0c (A0n (i:=2) A2u.nd rfl (.inl rfl) (A4b A6j (A2d (A0a A1w (A0a A1w (A0a A1w (A0a A1w A0d))))) A5m (A5r (A0x A6n A0l (A0x A2o (pcl Ge6 hr T.cm (A0a (pv 1) A0d)) A0l)))))
   (A0c (A0n (i:=3) A2u.nd rfl (.inr rfl) C2a)
   (A0c (A1k PassesOwn.never rfl (A1b (pv 2)) (A0h (i:=4) A2u.nd rfl (.inl rfl))
    (A0e (B3r hu (pv 3) (pv 4) (A0x A6n A0l (A0x A2o (pcl Ge6 hr T.cm (A0a (pv 1) A0d)) A0l)) rfl)))
   (A0c (C5i (pcl Gg0 hr T.jx (A0a (pcl Ge6 hr T.cm (A0a (pv 1) A0d)) (A0a (pv 2) A0d))) (A2p (n:=3) rfl (A0k (A0h (i:=5) A2u.nd rfl (.inl rfl)) (A0k (A0h (i:=6) A2u.nd rfl (.inl rfl)) (A0k (A0h (i:=7) A2u.nd rfl (.inl rfl)) A1s)))))
   (A0c (C5i (pcl Gg1 hr T.i7 (A0a (pv 5) (A0a (pv 6) (A0a (pv 7) (A0a (pv 3) A0d))))) (A2p (n:=2) rfl (A0k (A0h (i:=8) A2u.nd rfl (.inl rfl)) (A0k (A0h (i:=9) A2u.nd rfl (.inl rfl)) A1s))))
   (A0c (A0n (i:=10) A2u.nd rfl (.inl rfl) (pcl Gg6 hr T.ue (A0a (pv 1) (A0a (pv 2) (A0a (pv 5) (A0a (pv 6) (A0a (pv 7) (A0a (pv 3) A0d))))))))
   (A0c (A1k PassesOwn.never rfl (A1b (pv 10)) (A2p (n:=5) rfl (A0k (A0h (i:=11) A2u.nd rfl (.inl rfl)) (A0k (A0h (i:=12) A2u.nd rfl (.inl rfl)) (A0k (A0h (i:=13) A2u.nd rfl (.inl rfl)) (A0k (A0h (i:=14) A2u.nd rfl (.inl rfl)) (A0k (A0h (i:=15) A2u.nd rfl (.inl rfl)) A1s))))))
    (A0c (A0n (i:=16) A2u.nd rfl (.inl rfl) (A0x A6n A0l (A0x B0k A0l (A0s A1d (by rfl) T.cw Z0r (A0a (pv 14) A0d)))))
    (A0c (A1k PassesOwn.never rfl (A1b (pv 15)) (A0h (i:=4) A2u.nd rfl (.inl rfl))
     (A0e (A0n (i:=16) A2u.nd rfl (.inl rfl) (A0x A6n A0l (A0x B0k (A3j hu (pv 3) (pv 4) (λ_ _=>rfl)) (pv 16))))))
    (A0e (A0n (i:=8) A2u.nd rfl (.inl rfl) (A0x A6n (pv 8) (A0x B0k (pv 9) (pv 16))))))))
   (A0c (A0n (i:=17) A2u.nd rfl (.inl rfl) (pcl Gg3 hr T.ph (A0a (pcl Ge6 hr T.cm (A0a (pv 1) A0d)) (A0a (A0x A5c (pv 5) (pv 6)) A0d))))
   (A0c (A0n (i:=18) A2u.nd rfl (.inl rfl) (A2g (A0a A1w (A0a A1w (A0a (A2g A0d) (A0a (A2g A0d) A0d))))))
   (A7z (A1n (A0z C5x (pv 8) A0l (A1i _))
    (A0e (A0n (i:=18) A2u.nd rfl (.inl rfl) (pcl Gg4 hr T.ib (A0a (pv 10) (A0a (pv 17) (A0a (A0x A5c (pv 5) (pv 6)) (A0a (pv 3) A0d)))))))
    A0r)
   (A0c (B6v (i₀:=19) (N':=["_law_name","_law_lengths"]) (ix:=(List.replicate 1 none++[some 3])) A2u.nd rfl (.inl rfl) rfl (A5h (x:="_law_lengths") rfl rfl rfl (by decide +kernel) (by decide +kernel)) (A4g (N0:=["_law_name"]) rfl (.inl rfl) (by walk_at "ix")) (A1b (pv 2)) (λ_ _ _ _=>(A0h (i:=0) C3r rfl (.inl rfl))) (λ_ _ _ _=>(A2g (A0a (pv 0) (A0a (A3j hu (pv 1) (pv 0) (λ_ _=>rfl)) A0d)))))
   (A0c (A0n (i:=20) A2u.nd rfl (.inl rfl) (A2d (A0a (pmk T.vX Gf8 hr T.w8 T.mq.b (A0a A1w (A0a (pv 5) (A0a (pcl Gg5 hr T.sr (A0a (pv 10) (A0a (pv 17) (A0a (pv 6) A0d)))) A0d)))) A0d)))
   (A0c (A0n (i:=21) A2u.nd rfl (.inl rfl) (pmk T.uV Gf9 hr T.vi T.g9.b (A0a A0l (A0a (pv 19) (A0a (A2d (A0a (A2g (A0a A1w (A0a (pv 7) A0d))) A0d)) (A0a (pv 20) (A0a (A2d (A0a A1w A0d)) A0d)))))))
   (A0e (A0v (A7m (pcl Gg2 hr T.kx (A0a (pv 21) (A0a (pv 18) A0d))) (B0n (pcl Gg2 hr T.kx (A0a (pv 21) (A0a (pv 18) A0d))))))))))))))))))))),?_⟩
  refine C3k λM hM=> ?_;obtain ⟨zs0,ez,lz,_⟩:=D4w V.int ns none (some 40);refine ⟨_,rfl,_,rfl,a,_,rfl,hS,λp0 hp0=> ?_⟩;rw [ez];have sp0:=A0f (o:= .lst (zs0.map V.int)) hp0;refine ⟨p0,_,rfl,SqL.of A0b,λr hr0=> ?_⟩;have pD:p0≠r:=λz=>by subst z;rw [A0b] at hr0;cases hr0
  refine B1c (D:=r) (zs0.map V.int).length (λi ys H2=>H2 p0=some (.lst (zs0.map V.int))/\H2 r=some (.lst ys)/\∃ms:List Int,ys=ms.map V.int/\ms.length=i) ⟨by rw [A0j pD];exact A0b,A0b,[],rfl,rfl⟩ (λi ys H2 hi ⟨h,_⟩=> ?_) (λys H2 _=>rfl) ?_ ?_
  ·exact ⟨_,(zs0.map V.int)[(zs0.map V.int).length-1-i],SqL.of h,rfl,hi,Z0b (by lia)⟩
  ·rintro i ys H2 hi ⟨h,hD2,ms,rfl,hms⟩ x H3 ⟨rfl,hx⟩;have hx:=hx _ (SqL.of h);rw [Z1z] at hx;obtain ⟨z,_,rfl⟩:=Z0i.mp hx;refine ⟨True.intro,_,rfl,hD2,A1j (by simp at hi⊢;lia),by rw [A0j pD];exact h,A0b,ms++[z],by simp,by simp [hms]⟩
  rintro ys H3 ⟨_,h3,ms1,rfl,hms⟩;refine hM _ _ ?_;refine C3k λM hM=> ?_;refine ⟨A0q rfl,λz0 hz0=> ?_⟩;have sz:A0p H3 (upd H3 z0 (.lst [V.str "x",.str "yy",.str "zed",.str "w"])):=A0f hz0;have hz1:upd H3 z0 (.lst [V.str "x",.str "yy",.str "zed",.str "w"]) z0=some (.lst (nm4.map V.str)):=A0b;have z0r:z0≠r:=(A0g h3 hz0).symm;generalize upd H3 z0 (.lst [V.str "x",.str "yy",.str "zed",.str "w"])=H4 at sz hz1⊢;have h4:=sz _ _ h3;refine ⟨_,rfl,r,ms1,rfl,h4,λi2 ms2 H5 _ h5 o5 e5=>⟨_,_,rfl,rfl,D3c,_,_,rfl,rfl,?_⟩⟩;obtain ⟨kk,ekk,k1,k5⟩:∃m:Nat,1+i2%4=(m:Int)/\1<=m/\m<=4:=⟨(1+i2%4).toNat,by lia,by lia,by lia⟩;dsimp only;rw [ekk];refine ⟨_,rfl,z0,_,rfl,SqL.of ((o5 _ z0r).trans hz1),λN hN=> ?_⟩;rw [B1w];have hsub:∃k,nm4.take kk=nm4.take k:=⟨kk,rfl⟩;have lnm:(nm4.take kk).length<=4:=by rw [Z0x];show min kk 4<=4;lia
  have ndn:(nm4.take kk).Nodup:=(Z2o kk nm4).nodup C5e;generalize nm4.take kk=nm at hsub lnm ndn⊢;obtain ⟨H6,s6,n6,e0⟩:=nH (o:= .lst (nm.map V.str)) hN;rw [e0];have r6:=s6 _ _ h5;have Nr:N≠r:=(A0g h5 hN).symm;refine hM _ _ ?_;refine C3k λM hM=> ?_;refine λld hld=> ?_;obtain ⟨H7,s7,d7,e0⟩:=nH (o:= .dK []) hld;rw [e0];have n7:=s7 _ _ n6;have r7:=s7 _ _ r6;refine hM _ _ ?_;refine C3k λM hM=> ?_;refine ⟨_,rfl,N,rfl,⟨_,SqL.of n7⟩,?_⟩
  refine A1f (K:=K) (a:=N) (xs:=nm.map V.str) (λi σ G=>∃(o4:Option V) (lk:List (Key×V)) (ms:List Int),σ=[Sro a,Sro r,Sro N,Sro ld,o4,none,none,none,none,none,none,none,none,none,none,none,none,none,none,none,none,none]/\G N=some (.lst (nm.map V.str))/\G r=some (.lst (ms.map V.int))/\G ld=some (.dK lk)/\lk.length<=i/\i<=nm.length/\∀x∈nm.take i,∃v:Int,A4x lk (Sum.inr x)=some (.int v)/\1<=v/\v<=5)
   ⟨none,[],ms2,rfl,n7,r7,d7,Z09 _,Z1e _,by simp⟩ (by rintro i σ G _ ⟨_,_,_,_,h,_⟩;exact SqL.of h) ?_ ?_
  ·rintro i y σ G hy ⟨o4,lk,ms,rfl,nG,rG,lG,llk,lin,vk⟩;obtain ⟨x,hx,rfl⟩:=A1r hy;have hi:i<nm.length:=(Z03.mp hx).1;refine ⟨_,rfl,r,ms,rfl,rG,λc ms' G1 l1 g1 o1 e1=>⟨_,_,rfl,rfl,D7c,_,_,rfl,rfl,?_⟩⟩;have ldr:ld≠r:=A2n lG rG (by intro z;cases z);have lG1:=(o1 _ ldr).trans lG;refine ⟨_,rfl,_,rfl,ld,_,rfl,C9l.k (k:=Sum.inr x) lG1 (A1j (by lia)),?_⟩;refine ⟨some (.str x),_,ms',rfl,by rw [A0j (A2n nG lG (by intro z;cases z))];exact (o1 _ Nr).trans nG,by rw [A0j ldr.symm];exact g1,A0b,Z1n (A7d _ _ _) (by lia),by lia,λy hy=> ?_⟩;rw [A7e];by_cases hyx:y=x
   ·subst hyx;exact ⟨1+c%5,by rw [Z12 rfl],by lia,by lia⟩
   ·rw [Z0t (λz=>hyx (by injection z))];rw [Z14,hx,Z2f] at hy;rcases Z07.mp hy with hy | hy
    ·exact vk y hy
    ·exact absurd (Z0w.mp hy) hyx
  rintro σ G1 ⟨o4,lk,ms3,rfl,n1,r1,l1,llk,_,vk⟩;refine hM _ _ ?_;rw [Z08,Z18] at vk
  have tl1:∀y∈nm,A4x lk (Sum.inr y)=some (.int (tel lk y))/\1<=tel lk y/\tel lk y<=5:=λy hy=>by
   obtain ⟨v,hv,v0,v60⟩:=vk y hy;have e:tel lk y=v:=by unfold tel;rw [hv]
   rw [e];exact ⟨hv,v0,v60⟩
  generalize tel lk=L at tl1
  have tln:A4t lk L nm:=λy hy=>by
   obtain ⟨z1,z2,z3⟩:=tl1 y hy;exact ⟨z1,by lia,by lia⟩
  have bn:∀y∈nm,1<=L y/\L y<=5:=λy hy=>(tl1 y hy).2;refine C3k λM hM=> ?_;refine ⟨_,rfl,r,ms3,rfl,r1,λc1 ms4 G2 _ r2 o2 _=>⟨_,rfl,c1,N,nm,rfl,(o2 _ Nr).trans n1,by lia,ndn,λq o s z own sm sh G3 ho hs hz s3 hq eo es ez axb=>⟨q,_,rfl,SqT.of hq,rfl,_,_,rfl,_,_,rfl,_,_,rfl,rfl,?_⟩⟩⟩;refine hM _ _ ?_;have n3:=s3 _ _ ((o2 _ Nr).trans n1);have d3:=s3 _ _ ((o2 _ (A2n l1 r1 (by intro z;cases z))).trans l1);have r3:=s3 _ _ r2;have ro:r≠o:=A0g r2 ho;have rs':r≠s:=A0g r2 hs;have rz:r≠z:=A0g r2 hz;have ldr:ld≠r:=A2n d3 r3 (by intro z;cases z);refine C3k λM hM=> ?_;refine ⟨_,rfl,_,rfl,_,rfl,_,rfl,o,s,z,ld,own,sm,sh,lk,L,rfl,eo,es,ez,d3,tln.sub axb.os,tln.sub axb.ss,tln.sub axb.zs,λq G4 s4 hq=>⟨q,_,rfl,SqT.of hq,rfl,_,_,rfl,_,_,rfl,rfl,?_⟩⟩;refine hM _ _ ?_;refine C3k λM hM=> ?_;refine ⟨_,rfl,_,rfl,_,rfl,_,rfl,_,rfl,_,rfl,r,N,o,s,z,ld,ms4,nm,own,sm,sh,lk,L,rfl,s4 _ _ r3,s4 _ _ n3,s4 _ _ eo,s4 _ _ es,s4 _ _ ez,s4 _ _ d3,Nr.symm,ro,rs',rz,axb,lnm,tln,λRL rv rs ms5 G5 hRL kb5 r5 hRL5 pr lrs okr fst=> ?_⟩;refine hM _ _ ?_;have rRL:r≠RL:=A0g (s4 _ _ r3) hRL;have n5:=kb5 _ _ Nr (s4 _ _ n3);have d5:=kb5 _ _ ldr (s4 _ _ d3);have o5:=kb5 _ _ ro.symm (s4 _ _ eo);have es5:=kb5 _ _ rs'.symm (s4 _ _ es);have z5:=kb5 _ _ rz.symm (s4 _ _ ez);have lrv:=Paired.length pr;obtain ⟨v0,v1,rfl⟩:=D7e (lrv.trans lrs);obtain ⟨q0,q1,rfl⟩:=D7e lrs;have ok0:=okr q0 (.head _);have ok1:=okr q1 (.tail _ (.head _));have in0:=fst q0 rfl
  have bd4:1<=prd L (own++sm)/\prd L (own++sm)<=60^(own++sm).length:=C5g _ rfl λy hy=>by
   rcases Z07.mp hy with hy | hy
   ·have:=bn y (axb.os y hy);lia
   ·have:=bn y (axb.ss y hy);lia
  have bd5:(60:Int)^(own++sm).length<=60^5:=by
   have:(own++sm).length<=5:=by rw [Z06];have:=axb.ol;have:=axb.sl;lia
   generalize (own++sm).length=n at this
   match n,this with
   | 0,_=>decide
   | 1,_=>decide
   | 2,_=>decide
   | 3,_=>decide
   | 4,_=>decide
   | 5,_=>decide
  have bd6:(60:Int)^5<1000000000:=by decide
  generalize hT:prd L (own++sm)=TT at bd4⊢;generalize hW0:prd L sh+wS L sm (prd L own)+TT=W0;refine C3k λM hM=> ?_;refine ⟨_,rfl,RL,rfl,⟨_,SqL.of hRL5⟩,?_⟩
  refine A1f (K:=K) (a:=RL) (xs:=[v0,v1]) (λi σ G=>∃(o4 o11 o12 o13 o14 o15 o16:Option V) (wk:Int),σ=[Sro a,Sro r,Sro N,Sro ld,o4,Sro o,Sro s,Sro z,Sio wk,Sio TT,Sro RL,o11,o12,o13,o14,o15,o16,none,none,none,none,none]/\A0p G5 G/\wk=W0+(([q0,q1].take i).map λr=>TT*ptR L r).sum)
   ⟨_,none,none,none,none,none,none,W0,rfl,A0p.refl _,by rw [List.take_zero];show W0=W0+0;lia⟩ (by rintro i σ G _ ⟨_,_,_,_,_,_,_,_,_,sG,_⟩;exact SqL.of (sG _ _ hRL5)) ?_ ?_
  ·rintro i x σ G hx ⟨o4,o11,o12,o13,o14,o15,o16,wk,rfl,sG,ewk⟩;obtain ⟨rr,hr',rq',szl,il,gl,nl,xs,gv,rfl,e1,_,e2,_,e3,p3,_,e4,p4,_,e5⟩:=B2k pr hx;have okk:=okr rr (Z13 hr');have lgv:=Paired.length p4;have g3:=okk.gl;refine ⟨rq',_,rfl,SqT.of (sG _ _ e1),rfl,_,_,rfl,_,_,rfl,_,_,rfl,_,_,rfl,_,_,rfl,rfl,?_⟩;refine ⟨_,rfl,gl,_,rfl,.inl (SqL.of (sG _ _ e4)),_,_,rfl,rfl,.inl ⟨by decide,by decide⟩,_,_,rfl,rfl,?_⟩;rw [lgv];refine ⟨_,rfl,nl,rfl,⟨_,SqL.of (sG _ _ e5)⟩,?_⟩
   refine A1f (K:=K) (a:=nl) (xs:=rr.2.2.2.2.map V.str) (λj σ G2=>G=G2/\∃(o4:Option V),σ=[Sro a,Sro r,Sro N,Sro ld,o4,Sro o,Sro s,Sro z,Sio wk,Sio TT,Sro RL,Sso rr.1,Sro szl,Sro il,Sro gl,Sro nl,Sio ((rr.2.2.2.2.take j).foldl (λp x=>1+L x*p) (1+2*(rr.2.2.2.1.length:Int))),none,none,none,none,none])
    ⟨rfl,_,rfl⟩ (λj σ G2 _ h=>by rw [<-h.1];exact SqL.of (sG _ _ e5)) ?_ ?_
   ·rintro j y σ G2 hy ⟨rfl,o4,rfl⟩;obtain ⟨x,hx,rfl⟩:=A1r hy;have xm:=(okk.im x (Z13 hx)).1;have g:=B2h.k (H:=G) (a:=ld) (k:=Sum.inr x) (sG _ _ d5);rw [(tl1 x xm).1] at g;have:=bn x xm;refine ⟨_,rfl,_,rfl,ld,_,rfl,g,_,rfl,_,_,rfl,rfl,.inl ⟨by lia,by lia⟩,_,_,rfl,rfl,rfl,some (.str x),?_⟩;rw [Z14,hx,Z2f,List.foldl_append];rfl
   rintro σ G2 ⟨rfl,o4',rfl⟩;rw [Z08,Z18];refine ⟨_,rfl,_,rfl,_,rfl,_,_,rfl,rfl,.inl ⟨by lia,by lia⟩,_,_,rfl,rfl,_,_,_,_,_,_,_,_,rfl,sG,?_⟩;rw [ewk,Z14,hr',Z2f,Z0s,List.sum_append];show W0+_+TT*ptR L rr=W0+(_+(TT*ptR L rr+0))
   lia
  rintro σ G6 ⟨o4',o11,o12,o13,o14,o15,o16,wk,rfl,s6,ewk⟩;refine hM _ _ ?_;have ewk:wk=W0+(TT*ptR L q0+(TT*ptR L q1+0)):=ewk;have n6:=s6 _ _ n5;have d6:=s6 _ _ d5;have o6:=s6 _ _ o5;have es6:=s6 _ _ es5;have z6:=s6 _ _ z5;have r6:=s6 _ _ r5;have hRL6:=s6 _ _ hRL5;have pr6:Paired (B5s (λb=>b≠r) G6) [v0,v1] [q0,q1]:=Paired.mapP pr λ_ _ z=>z.same s6;refine C3k λM hM=> ?_;refine ⟨_,rfl,r,ms5,rfl,r6,λc2 ms6 G7 _ r7 o7 _=> ?_⟩;have kb7:=B7z o7;have n7:=kb7 _ _ Nr n6;have d7:=kb7 _ _ ldr d6;have eo7:=kb7 _ _ ro.symm o6;have es7:=kb7 _ _ rs'.symm es6;have z7:=kb7 _ _ rz.symm z6;have hRL7:=kb7 _ _ rRL.symm hRL6;have pr7:Paired (B5s (λb=>b≠r) G7) [v0,v1] [q0,q1]:=Paired.mapP pr6 λ_ _ z=>z.keep (λ_ z=>z) (λb xs e=>kb7 _ _ (A2n e r6 (by intro z;cases z)) e) λb xs z e=>kb7 _ _ z e;have lob:own.length+sm.length<=5:=by have:=axb.ol;have:=axb.sl;lia
  refine ⟨_,rfl,_,rfl,o,s,_,_,rfl,rfl,eo7,es7,A0o (by simp;lia),λb1 hb1=> ?_⟩;have s8:A0p G7 (upd G7 b1 (.lst (own.map V.str++sm.map V.str))):=A0f hb1;have h8:upd G7 b1 (.lst (own.map V.str++sm.map V.str)) b1=some (.lst ((own++sm).map V.str)):=by rw [A0b,<-Z0s]
  generalize upd G7 b1 (.lst (own.map V.str++sm.map V.str))=G8 at s8 h8⊢;refine ⟨c2,b1,own++sm,rfl,h8,λjl jv js G9 hjl s9 ej pj lj ji=> ?_⟩;refine hM _ _ ?_;have s79:=s8.trans s9;have pg:Pg nm own sm sh js q0 q1 L:=⟨hsub,axb,lj,ji,ok0,ok1,in0,bn⟩;refine C3k λM hM=> ?_;refine ⟨A0q rfl,λx1 hx1=> ?_⟩;obtain ⟨J1,u1,e1,e0⟩:=nH (o:= .tup []) hx1;rw [e0];refine ⟨A0q rfl,λx2 hx2=> ?_⟩;obtain ⟨J2,u2,e2,e0⟩:=nH (o:= .tup []) hx2;rw [e0];refine ⟨A0q rfl,λx3 hx3=> ?_⟩;obtain ⟨J3,u3,e3,e0⟩:=nH (o:= .tup [.str "much",.str "",.ref x1,.ref x2]) hx3;rw [e0];refine hM _ _ ?_;have u93:=u1.trans (u2.trans u3);have s73:=s79.trans u93;have ew:=pg.wk;rw [hT,hW0] at ew;have ewk':wk=wrk L [("tab",sh)] [("mine",own,trm sm js q0 q1)]:=by rw [ew,ewk];lia
  refine ⟨λσ G=>∃(v:V) (du:Du),σ=[Sro a,Sro r,Sro N,Sro ld,o4',Sro o,Sro s,Sro z,Sio wk,Sio TT,Sro RL,o11,o12,o13,o14,o15,o16,Sro jl,some v,none,none,none]/\A0p J3 G/\D1w G v du/\(4000<wk->du.1="much")/\(wk<=4000->D4l (D6x L [(("tab":Str),sh),(("mine":Str),own)] [(("mine":Str),own,trm sm js q0 q1)]) du),?_,?_⟩
  ·refine ⟨_,rfl,_,_,rfl,rfl,_,rfl,A9m (λh=> ?_) (λh=>⟨.ref x3,(("much":Str),("":Str),(([]:List Int),([]:List Int))),rfl,A0p.refl _,⟨x3,x1,x2,rfl,e3,u3 _ _ (u2 _ _ e1),u3 _ _ e2⟩,λ_=>rfl,λz=>absurd z h⟩)⟩;have h:wk<=4000:=h;refine ⟨_,rfl,_,rfl,_,rfl,_,rfl,o,s,_,_,rfl,rfl,s73 _ _ eo7,s73 _ _ es7,A0o (by simp;lia),λb2 hb2=> ?_⟩;have s10:A0p J3 (upd J3 b2 (.lst (own.map V.str++sm.map V.str))):=A0f hb2;have h10:upd J3 b2 (.lst (own.map V.str++sm.map V.str)) b2=some (.lst ((own++sm).map V.str)):=by rw [A0b,<-Z0s]
   generalize upd J3 b2 (.lst (own.map V.str++sm.map V.str))=J4 at s10 h10⊢;have s74:=s73.trans s10;refine ⟨_,rfl,RL,jl,b2,ld,λb=>b≠r,[v0,v1],jv,[q0,q1],js,own++sm,lk,L,rfl,s74 _ _ hRL7,Paired.mapP pr7 λ_ _ z=>z.same s74,rfl,(u93.trans s10) _ _ ej,Paired.mapP pj λ_ _ z=>z.kt λb xs e=>(u93.trans s10) _ _ e,lj,ji,h10,by rw [Z06];lia,s74 _ _ d7,λrr hrr=>⟨tln.sub (pg.bi (okr rr hrr)),pg.in2 (okr rr hrr)⟩,λv J5 s11 da=>⟨v,_,rfl,s10.trans s11,da,λz=>absurd h (by lia),λ_=>pg.rim⟩⟩
  rintro σ J5 ⟨v,du,rfl,s35,da,du0,du1⟩;have s75:=s73.trans s35;have n5:=s75 _ _ n7;have d5:=s75 _ _ d7;have o5:=s75 _ _ eo7;have es5:=s75 _ _ es7;have z5:=s75 _ _ z7;have hRL5:=s75 _ _ hRL7;have pr5:Paired (B5s (λb=>b≠r) J5) [v0,v1] [q0,q1]:=Paired.mapP pr7 λ_ _ z=>z.same s75;have ej5:=(u93.trans s35) _ _ ej;have pj5:Paired (D4s J5) jv js:=Paired.mapP pj λ_ _ z=>z.kt λb xs e=>(u93.trans s35) _ _ e;refine C3k λM hM=> ?_;refine ⟨_,rfl,N,rfl,⟨_,SqL.of n5⟩,λAX hAX=> ?_⟩
  refine A2l (K:=K) (a:=N) (D:=AX) (xs:=nm.map V.str) (λj ys G3=>A0p J5 G3/\G3 AX=some (.lst ys)/\Paired (C5k G3) ys ((nm.take j).map λy=>(y,L y)))
   ⟨A0f hAX,A0b,.nil⟩ (λj ys G3 s3=>SqL.of (s3.1 _ _ n5)) ?_ ?_
  ·rintro j y ys G3 hy ⟨s3,h3,re⟩;obtain ⟨x,hx,rfl⟩:=A1r hy;have hj:j<nm.length:=(Z03.mp hx).1;have g:=B2h.k (H:=G3) (a:=ld) (k:=Sum.inr x) (s3 _ _ d5);rw [(tl1 x (Z13 hx)).1] at g;have lys:ys.length<=nm.length:=by rw [Paired.length re,Z08,Z0x];lia
   refine ⟨⟨rfl,True.intro⟩,_,rfl,_,rfl,_,rfl,ld,_,rfl,g,A0q rfl,λq hq=> ?_⟩;have qD:q≠AX:=(A0g h3 hq).symm;refine ⟨by rw [A0j qD.symm];exact h3,A1j (by lia),A0u (s3.trans (A0f hq)) hAX,A0b,?_⟩;rw [Z14,hx,Z2f,Z0s];exact Paired.snoc ⟨q,rfl,(A0j qD).trans A0b⟩ (Paired.mapP re (by rintro _ _ ⟨q',e1,e2⟩;exact ⟨q',e1,(A0j (A2n e2 h3 (by intro z;cases z))).trans ((A0j (A0g e2 hq)).trans e2)⟩))
  rintro axv J6 ⟨s6,h6,pax⟩;refine hM _ _ ?_;rw [Z08,Z18] at pax
  obtain ⟨ra0,ra1⟩:B5s (λb=>b≠r) J6 v0 q0/\B5s (λb=>b≠r) J6 v1 q1:=by
   cases pr5 with
   | cons x y =>
    cases y with
    | cons y _=>exact ⟨x.same s6,y.same s6⟩
  refine C3k λM hM=> ?_;refine ⟨_,rfl,_,rfl,_,rfl,_,rfl,RL,jl,s,λb=>b≠r,v0,v1,jv,q0,q1,js,sm,rfl,s6 _ _ hRL5,ra0,ra1,λrr hrr=> ?_,s6 _ _ ej5,Paired.mapP pj5 λ_ _ z=>z.kt λb xs e=>s6 _ _ e,lj,s6 _ _ es5,λtv J7 s7 obT=> ?_⟩
  ·have i2:=pg.in2 (okr rr hrr);exact ⟨by rw [i2.lx];have:=i2.lz;lia,i2.il⟩
  have s67:=s6.trans s7;refine λlt dl hlt hdl ndl=> ?_;have sL0:A0p J7 (upd (upd J7 dl (.own lt)) lt (.ins t.cj dl [])):=(A0f hdl).trans (A0f (by rw [A0j ndl.symm];exact hlt));have hlt2:upd (upd J7 dl (.own lt)) lt (.ins t.cj dl []) lt=some (.ins t.cj dl []):=A0b;generalize upd (upd J7 dl (.own lt)) lt (.ins t.cj dl [])=J8 at sL0 hlt2⊢;refine ⟨lt,dl,o,tv,"mine",own,rfl,hlt2,sL0 _ _ (s67 _ _ o5),by lia,λcc J9 hcc elt ecc kp=>⟨rfl,?_⟩⟩;have sL:A0p J7 J9:=λb' o e=>kp b' o (A0g e hlt) (sL0 _ _ e);have lmine:B2z t (λ_=>True) J9 (.ref lt) ("mine",own,trm sm js q0 q1):=⟨lt,dl,cc,tv,(),rfl,elt,True.intro,ecc,obT.imp sL⟩;refine ⟨A0q rfl,λLL hLL=> ?_⟩;obtain ⟨K1,sLL,hLL2,e0⟩:=nH (o:= .lst [.ref lt]) hLL;rw [e0];refine hM _ _ ?_;have s79:=sL.trans sLL;have s5K:=s67.trans s79;have h6K:=s7.trans s79;refine C3k λM hM=> ?_;refine ⟨_,rfl,_,rfl,A0q rfl,λtq htq=>⟨A0q rfl,λTL hTL=> ?_⟩⟩;have w1:A0p K1 (upd K1 tq (.tup [.str "tab",.ref z])):=A0f htq;have f1:upd K1 tq (.tup [.str "tab",.ref z]) tq=some (.tup [.str "tab",.ref z]):=A0b;generalize upd K1 tq (.tup [.str "tab",.ref z])=K2 at w1 f1 hTL⊢;obtain ⟨K3,w2,f2,e0⟩:=nH (o:= .lst [.ref tq]) hTL;rw [e0];refine ⟨_,rfl,A0q rfl,λou hou=> ?_⟩;have w3:A0p K3 (upd K3 ou (.lst [V.str "mine"])):=A0f hou;have hou2:upd K3 ou (.lst [V.str "mine"]) ou=some (.lst ((["mine"]:List Str).map V.str)):=A0b;generalize upd K3 ou (.lst [V.str "mine"])=K4 at w3 hou2⊢;have w13:=w1.trans (w2.trans w3);refine λp dp hp hdp ndp=> ?_;have sP:A0p K4 (upd (upd K4 dp (.own p)) p (.ins t.ag dp [])):=(A0f hdp).trans (A0f (by rw [A0j ndp.symm];exact hp));have hpP:upd (upd K4 dp (.own p)) p (.ins t.ag dp []) p=some (.ins t.ag dp []):=A0b;generalize upd (upd K4 dp (.own p)) p (.ins t.ag dp [])=K5 at sP hpP⊢;have w15:=w13.trans sP;have wJ6:=h6K.trans w15;have RT:Rep K5 (.ref TL) (B4p [("tab",sh)]):= .lst (sP _ _ (w3 _ _ f2)) (.cons (E2q (e:=("tab",sh)) (sP _ _ (w3 _ _ (w2 _ _ f1))) ((s5K.trans w15) _ _ z5)) .nil);refine ⟨p,dp,AX,TL,LL,ou,10,nm.map λy=>(y,L y),[("tab",sh)],[.ref lt],["mine"],rfl,hpP,.lst (wJ6 _ _ h6) (C1s (Paired.mapP pax λ_ _ z=>z.kt λb' xs' e=>wJ6 _ _ e)),by rw [Z08];lia,RT,by simp,?_,w15 _ _ hLL2,by simp,λx hx=> ?_,D6r (sP _ _ hou2),by simp,λa' t' l' o' K6 ep ra' rt' hl' el' ro' kp=>⟨rfl,?_⟩⟩
  ·intro e he;rw [Z0w.mp he];show sh.length<=10;have:=axb.zl
   lia
  ·rw [Z0w.mp hx];have el4:=w13 _ _ (sLL _ _ elt);exact ⟨lt,dl,_,rfl,A0g el4 hp,sP _ _ el4⟩
  refine hM _ _ ?_;have s46:A0p K4 K6:=λb' u' e=>kp b' u' (A0g e hp) (sP _ _ e);have sA:A0p J9 K6:=sLL.trans (w13.trans s46);have pr':B9v t K6 p 10 (nm.map λy=>(y,L y)) [("tab",sh)] [("mine",own,trm sm js q0 q1)] ["mine"]:=⟨dp,a',t',l',o',ep,ra'.same A1l,rt'.same A1l,⟨[.ref lt],el',.cons (lmine.same sA) .nil⟩,ro'.same A1l⟩;have da6:=da.same ((s67.trans sL).trans sA);have lkk:=pg.lk;rw [ewk'] at du0 du1;refine ⟨_,rfl,_,rfl,p,v,10,_,_,_,_,L,du,rfl,pr',lkk,du0,du1,da6,λK7 s7'=>⟨true,rfl,B2r ?_⟩⟩;exact ⟨_,rfl,_,rfl,p,v,10,_,_,_,_,L,du,rfl,pr'.same s7',lkk,du0,du1,da6.same s7',λK8 _=>k K8⟩
end My
namespace PySem.W.Fast
def tw2983328122386382390:=()
def tw10317290853372123056:=()
def tw7368731799833112922:=()
def tw15501624627951966228:=()
def tw14198714209594020061:=()
def tw111315663139068671:=()
def tw17998149529270226570:=()
def tw7758121778163045456:=()
def tw9606205300476570777:=()
def tw12397644445551857567:=()
def tw8471679548268910114:=()
def tw14404558064842665784:=()
def tw3745363471445584057:=()
def tw3843992740371597305:=()
def tw15880361851014393916:=()
def tw12432939051756297265:=()
def tw11657807804070422396:=()
def tw10370187492998663727:=()
def tw4710907797718705831:=()
def tw17505692562632817679:=()
def tw16623784647656385527:=()
def tw13875195708719558091:=()
def tw2462782592187702342:=()
def tw18147772392363549229:=()
def tw1327832238137074088:=()
def tw4643364196860028932:=()
def tw14745646076085828195:=()
def tw5831385357218610987:=()
def tw5586849905559823390:=()
def tw3855232938518786018:=()
def tw2028127409861492428:=()
def tw5468121475276675870:=()
def tw84307015827921716:=()
def tw12732028184362044143:=()
def tw14281247604697806019:=()
def tw11369112259644267033:=()
def tw7081398550940910541:=()
def tw7313126353848730074:=()
def tw8591747547792434367:=()
def tw10196531718193241425:=()
def tw8626689626322278362:=()
def tw11827959998522043399:=()
def tw4611043829123591820:=()
def tw13567206216952768862:=()
def tw7433247685623916918:=()
def tw15460663063971387277:=()
def tw13410731232495355988:=()
def tw15441720178316961134:=()
def tw3059049355614284686:=()
def tw6878751018650369623:=()
def tw5786667487819848165:=()
def tw10278854991260942300:=()
def tw7114498633169337545:=()
def tw13600240252396957656:=()
def tw11574414796708435348:=()
def tw8075544567493318713:=()
def tw7692779566060016361:=()
def tw6496205889199348519:=()
def tw6815862434580889697:=()
def tw14586696449465317035:=()
def tw11979317841484802382:=()
def tw16812381971699107219:=()
def tw11886671424982586195:=()
def tw3612268342626633432:=()
def tw13537538202373512193:=()
def tw3491088025211006723:=()
def tw2208983147729854607:=()
def tw11655733955298860084:=()
def tw14035106330180202103:=()
def tw6210717078863289809:=()
def tw3867689762824843787:=()
def tw8363734553772160212:=()
def tw17134693517595821019:=()
def tw6886078573196347210:=()
def tw2926705900152111180:=()
def tw15714470759214248631:=()
def tw6853978680134119005:=()
def tw2061710265625966988:=()
def tw17004214623568753570:=()
def tw14978707696929390668:=()
def tw14900636773369552510:=()
def tw1022851834285888264:=()
def tw13917608526495073441:=()
def tw7677771792677197039:=()
def tw7058680732910798518:=()
def tw6136485399930431022:=()
def tw13086081693136929886:=()
def tw1517330435070746084:=()
def tw7463357621406724754:=()
def tw13472757009478117352:=()
def tw12307684487840783231:=()
def tw16677677689296620630:=()
def tw3131912444860936720:=()
def tw5062734735012064635:=()
def tw3286890709926292925:=()
def tw15848449846687593636:=()
def tw12514402301671695424:=()
def tw4293229446017645845:=()
def tw12264177348665073937:=()
def tw5439494147970622150:=()
def tw4449527977085906197:=()
def tw502725674795227709:=()
def tw3324076142060139253:=()
def tw2343500408040828584:=()
def tw2892553327478586421:=()
def tw5930369075945820703:=()
def tw5176946036994325626:=()
def tw14799579562795974838:=()
def tw3326711876153764777:=()
def tw13322424251231172639:=()
def tw13893204465888247238:=()
def tw7995847249185917878:=()
def tw8151967343743430700:=()
def tw6808879978658051243:=()
def tw10733741777989398768:=()
def tw13302958058479398018:=()
def tw7139737636172580691:=()
def tw13172779652886760346:=()
def tw9304263407826007286:=()
def tw3145278152990998709:=()
def tw12899328196331405714:=()
def tw14994697266308617971:=()
def tw6058195917731230290:=()
def tw16367925956793416292:=()
def tw15154026101391166355:=()
def tw9062145669962670184:=()
def tw3270589531268077416:=()
def tw13606820573083969054:=()
def tw8696088725348201860:=()
def tw17015504557868352512:=()
def tw11824554052566711857:=()
def tw3867321998668372882:=()
def tw7142845102041613677:=()
def tw7577250260550143897:=()
def tw9036470334068941510:=()
def tw7224336559338005762:=()
def tw7938355378710309579:=()
def tw18360309073697670510:=()
def tw12147096079289651460:=()
def tw5263546642440730038:=()
def tw3466505811445820073:=()
def tw10176926010058437387:=()
def tw13841173502995344265:=()
def tw12003710906829769503:=()
def tw17454056056722266512:=()
def tw9489630740381369340:=()
def tw16445586243714404405:=()
def tw9783414023257876720:=()
def tw3362287380086235046:=()
def tw8021696996288434153:=()
def tw12404332910401410395:=()
def tw1800074229404247289:=()
def tw14384233281014015076:=()
def tw10394527039105104972:=()
def tw7115180193763713446:=()
def tw12387025805632012089:=()
def tw17557256172264640511:=()
def tw17655692753992995863:=()
def tw8366767321790356909:=()
def tw7839701478141841477:=()
def tw17570623272564924578:=()
def tw1456462645683900984:=()
def tw13249733870978798944:=()
def tw12660049385255494497:=()
def tw16109472512523868546:=()
def tw15529571971114179056:=()
def tw2637445000917525387:=()
def tw3536246089762541823:=()
def tw16616522770261244875:=()
def tw3157354098740789417:=()
def tw17862062865131878546:=()
def tw18017237988164396803:=()
def tw1639211083273383179:=()
def tw10824879575219241463:=()
def tw8608509577950318729:=()
def tw6687671952250321483:=()
def tw13862790154063076322:=()
def tw14316105664203122081:=()
def tw14098500426777808204:=()
def tw11281370686352714823:=()
def tw7727130753746308550:=()
def tw4745407950496532551:=()
def tw790322669657281696:=()
def tw468295574056137566:=()
def tw9964797480890218838:=()
def tw15280434249646025256:=()
def tw5666392280439565359:=()
def tw11738674009988559465:=()
def tw10449613592353111386:=()
def tw5182276831482503979:=()
def tw13226636517605054775:=()
def tw10741479863865947296:=()
def tw11979731187520863598:=()
def tw17171276364838340873:=()
def tw10455805573664895626:=()
def tw17293047285301175573:=()
def tw1445563398069576244:=()
def tw8615506980565295079:=()
def tw17504693708601004778:=()
def tw14630391860996250204:=()
def tw8547950034244851946:=()
def tw15576926223644458822:=()
def tw8908614534657015256:=()
def tw4784785210511066669:=()
def tw3396906193305029503:=()
def tw5322186171257619307:=()
def tw16142812056193732468:=()
def tw6594932548797979142:=()
def tw2859150115928473434:=()
def tw4269976507831570936:=()
def tw4512334244712901921:=()
def tw10893425954799652532:=()
def tw398622852145776935:=()
def tw8749039406323550568:=()
def tw7556104616369372508:=()
def tw2155724657604361416:=()
def tw7503429336032202553:=()
def tw11447888182831458738:=()
def tw8884034879688630860:=()
def tw14216506739257412932:=()
def tw2808547627903953109:=()
def tw14175807413518662421:=()
def tw17593871460113174883:=()
def tw15959738209954206922:=()
def tw15679266248174888928:=()
def tw13604373577781688592:=()
def tw3723304574820276907:=()
def tw5475188522986485184:=()
def tw6905668030082117354:=()
def tw2897281869179392659:=()
def tw9208803665380792372:=()
def tw16825754623365589233:=()
def tw7354952513689700191:=()
def tw5817280336519802210:=()
def tw10397583483676667169:=()
def tw6820013760235193824:=()
def tw15793299596836859609:=()
def tw986993017210790345:=()
def tw986923744865899133:=()
def tw9310177943027169492:=()
def tw2942389645787446149:=()
def tw580231800904643593:=()
def tw6480857935153518599:=()
def tw17473089474192918160:=()
def tw671500818541955643:=()
def tw174658576294482658:=()
def tw17171367023227065846:=()
def tw8401630947658548529:=()
def tw12635151566247787152:=()
def tw8657256397488638331:=()
def tw7822317373506991312:=()
def tw14196014362254209134:=()
def tw11944995254692923977:=()
def tw12695691218852841524:=()
def tw8756038209052269590:=()
def tw9968190239247411459:=()
def tw15948702447158865230:=()
def tw5506309725647091105:=()
def tw7722119631764569082:=()
def tw68987535197872455:=()
def tw12970082207307005790:=()
def tw16185932476604780558:=()
def tw11691740274823383807:=()
def tw1417685750870323839:=()
def tw4706740295523016950:=()
def tw4288567869716294023:=()
def tw12643397425740045397:=()
def tw17286949042403265273:=()
def tw13796933269690203304:=()
def tw4050785749573240895:=()
def tw3157095534766567396:=()
def tw3762351153673409089:=()
def tw12137356125844637905:=()
def tw7485406932062192549:=()
def tw12353596440515420937:=()
def tw9397103101280023141:=()
def tw12135321964390201720:=()
def tw10312009710513346197:=()
def tw4209063682562656113:=()
def tw16929325907175570814:=()
def tw5846708143643112390:=()
def tw1637619453938553933:=()
def tw5836942815342077935:=()
def tw9882821012615506017:=()
def tw16971150574310585375:=()
def tw10396371072565898855:=()
def tw9266989835745181262:=()
def tw5003350610708240437:=()
def tw12161507653611585329:=()
def tw15441231323230020984:=()
def tw7360664148849556092:=()
def tw1425448756472088836:=()
def tw6129614420374837879:=()
def tw7741385922015424032:=()
def tw14642444533814589289:=()
def tw17270600291608556480:=()
def tw8530147957150744206:=()
def tw15876177899095809958:=()
def tw5094301278832624893:=()
def tw15348169314296577050:=()
def tw5953895672816425376:=()
def tw9770389260746266962:=()
def tw6393111822592262018:=()
def tw6215639227783187104:=()
def tw16137961746097706140:=()
def tw8108730106669484859:=()
def tw3315266396153425742:=()
def tw11749719032949112073:=()
def tw9556394801985457216:=()
def tw14120789393093596004:=()
def tw13891411054165410614:=()
def tw7034159259148567892:=()
def tw1888025502595318939:=()
def tw2683429126737589939:=()
def tw4791097599886348142:=()
def tw16261223117850378209:=()
def tw274618597956698587:=()
def tw8553781328284082148:=()
def tw15195085658379980833:=()
def tw7658903172153181125:=()
def tw3123580436593873568:=()
def tw7110006483296688117:=()
def tw1277798106807601318:=()
def tw1214654821623449180:=()
def tw14862846136872431069:=()
def tw365820013489443635:=()
def tw3706817077451571237:=()
def tw15498227745821762961:=()
def tw1198856194302891638:=()
def tw16866337603273435179:=()
def tw17395010088416402540:=()
def tw10829821019064503629:=()
def tw8824279494826765050:=()
def tw1832887177380759817:=()
def tw12215391347996167750:=()
def tw12023203830364418741:=()
def tw14401568518124997607:=()
def tw5810527711306359917:=()
def tw11028521941865424817:=()
def tw5507530484731833538:=()
def tw13473535494888043080:=()
def tw9787132947466505218:=()
def tw2070934597962720129:=()
def tw3719421240749340967:=()
def tw15700590666497427331:=()
def tw11070585368052513314:=()
def tw9972229415063375863:=()
def tw7670746829363738356:=()
def tw12336684820757528436:=()
def tw10201449165010931498:=()
def tw12254212897835328422:=()
def tw8755363962159279120:=()
def tw9504055913886008746:=()
def tw9334731503987081328:=()
def tw7460660269857617056:=()
def tw2374918261672408271:=()
def tw4137099074579633934:=()
def tw4257047389226925073:=()
def tw13637443564046031817:=()
def tw10523213065155502607:=()
def tw8370393546574046373:=()
def tw8260182501787968179:=()
def tw6381828331277994132:=()
def tw5937893441997823217:=()
def tw1374107534957842697:=()
def tw1907360156380447162:=()
def tw15931634500196722402:=()
def tw4608595290290395657:=()
def tw3778655295030769730:=()
def tw10850628477214165943:=()
def tw4963475596076047848:=()
def tw10950369403081378994:=()
def tw13940333708375101756:=()
def tw7960858264188448997:=()
def tw18135771682031619216:=()
def tw17927125764400491449:=()
def tw8638986235109357306:=()
def tw13488671204231312159:=()
def tw12405731805532397123:=()
def tw7675702678723313744:=()
def tw5756193706288741705:=()
def tw17364032293291589606:=()
def tw11154949336336149272:=()
def tw882089788888450294:=()
def tw12535917547273095971:=()
def tw8478294180986755287:=()
def tw7649192784725586214:=()
def tw5997468929666777849:=()
def tw2049134456836599954:=()
def tw10579124559508086785:=()
def tw976897129007864562:=()
def tw8194399542400530687:=()
def tw3171948652440958862:=()
def tw2325437824825535011:=()
def tw12589261555470152968:=()
def tw4811694016619940041:=()
def tw9002902464284039837:=()
def tw8659091311644272086:=()
def tw17142348075872596548:=()
def tw16605514278517139994:=()
def tw14717979376303339803:=()
def tw14280764321205291006:=()
def tw5177090149141597660:=()
def tw17767380017367966313:=()
def tw1753337860590584894:=()
def tw11009861950690234458:=()
def tw10174726069739391859:=()
def tw4837661324681775642:=()
def tw10079620774751855534:=()
def tw9532521754698037724:=()
def tw2240984195635142623:=()
def tw14388571383795137657:=()
def tw12864301713984338893:=()
def tw12521321220910285092:=()
def tw14388572711360147409:=()
def tw12627112104072504460:=()
def tw10373959164122414068:=()
def tw3820384925982576764:=()
def tw12906601830530972843:=()
def tw7969889354688959789:=()
def tw11106003962708065582:=()
def tw5117839010878052532:=()
def tw2194201978669300447:=()
def tw12735623840010027239:=()
def tw5996159043899337207:=()
def tw12852987467335075736:=()
def tw7970729420505483950:=()
def tw15025647162838447978:=()
def tw13614091274514372754:=()
def tw12973624686368686756:=()
def tw12314482462121157355:=()
def tw437071835071688353:=()
def tw13620470230759240058:=()
def tw6349610680786370589:=()
def tw8997607627214438577:=()
def tw8568429627595208864:=()
def tw3290594841952751339:=()
def tw8997880584889483022:=()
def tw4569931194042895118:=()
def tw16783230458211714257:=()
def tw14046938709211541198:=()
def tw13677126841268197182:=()
def tw5002658339068746187:=()
def tw17674032830482956304:=()
def tw16313802672040138826:=()
def tw2391468026016258623:=()
def tw13151183772956898079:=()
def tw11971610396060132188:=()
def tw13411306456903283535:=()
def tw4362680627629674123:=()
def tw10111138661468622991:=()
def tw11412667928139090738:=()
def tw743626283353328448:=()
def tw12315712697744195181:=()
def tw9639051137876041461:=()
def tw8293136226820293269:=()
def tw6389194906268416052:=()
def tw16173647498395310940:=()
def tw11562675570191964123:=()
def tw11624097265634689741:=()
def tw14326449600523040521:=()
def tw3759694530576200918:=()
def tw13655878836177156333:=()
def tw3131352701631216472:=()
def tw18048706711976522113:=()
def tw10209876438368520166:=()
def tw15828408347180135052:=()
def tw1005314000813027171:=()
def tw13339670498755122921:=()
def tw10391964921883748934:=()
def tw17362217061139070163:=()
def tw2085424485877433734:=()
def tw11571229165442517317:=()
def tw3668767666170719418:=()
def tw4597254316128947324:=()
def tw10114810404168954491:=()
def tw10392705791199852458:=()
def tw9770924132898024188:=()
def tw3415247857876674055:=()
def tw16552775002653476078:=()
def tw9739658595420788734:=()
def tw8071659297937061334:=()
def tw7707284209599927775:=()
def tw6575835317861124341:=()
def tw5127279841355760138:=()
def tw3462064447654400064:=()
def tw2552513099615139561:=()
def tw17341692542379959179:=()
def tw15577646636808362874:=()
def tw15543053500848134993:=()
def tw13832082246306146946:=()
def tw13132400694454536345:=()
def tw640736139223300116:=()
def tw3724689965404915564:=()
def tw2735327245072136957:=()
def tw13892000083835128152:=()
def tw10805858986431054093:=()
def tw2806226361799945149:=()
def tw16933501344808955681:=()
def tw14551639286570450486:=()
def tw1590981053423990486:=()
def tw2461290997303958256:=()
def tw15174625695536667340:=()
def tw16635275000039111489:=()
def tw8502578286345847117:=()
def tw6032024164613579379:=()
def tw5115854684251534042:=()
def tw3283237667436744703:=()
def tw18005097470967915713:=()
def tw10209218044607540949:=()
def tw869604721790838868:=()
def tw2303470269434729773:=()
def tw16316037341769762758:=()
def tw12839810875472937502:=()
def tw1102899191070081798:=()
def tw10395371918102453045:=()
def tw9444352392175008774:=()
def tw8783898207972700591:=()
def tw7817054285429234579:=()
def tw5238539404981477590:=()
def tw3022210758159368911:=()
def tw2767985514322778252:=()
def tw14930377734799967766:=()
def tw12370689280908407111:=()
def tw12283379569559909844:=()
def tw12199483320008905983:=()
def tw9424762423322245932:=()
def tw9056869024209695033:=()
def tw8679819838457427919:=()
def tw5370684772821809576:=()
def tw2152924070864385295:=()
def tw16912868926115515436:=()
def tw12482165602596290936:=()
def tw10406388960233636848:=()
def tw1822783434479538209:=()
def tw5589682905749485069:=()
def tw4963506990221042450:=()
def tw1997069052014659948:=()
def tw12955095443527574259:=()
def tw12070641613753538648:=()
def tw17606779302059199483:=()
end PySem.W.Fast
namespace My
open PySem L2
abbrev LkF (K:Frag) (x q:Str) (st:Stmt) (f:Addr):Prop:=∃(oc:Value) (od:Option Addr) (kV dc pm:Value) (an:Option Addr) (cd ct:Value) (sl:Array (Option Value)),K.lookup f=some ⟨oc,od,.func (fnOf x q (A9f st) (A6i st) (A0i st) .none kV dc pm an cd ct),sl⟩/\codeIn K cd q=true/\keepIn K (.ref f)=true
theorem D7z {K:Frag} {x q:Str} {st:Stmt} {f:Addr} {oc:Value} {od:Option Addr} {kV dc pm:Value} {an:Option Addr} {cd ct:Value} {sl:Array (Option Value)} (l:K.lookup f=some ⟨oc,od,.func (fnOf x q (A9f st) (A6i st) (A0i st) .none kV dc pm an cd ct),sl⟩) (c:codeIn K cd q=true) (k:keepIn K (.ref f)=true):LkF K x q st f:=⟨_,_,_,_,_,_,_,_,_,l,c,k⟩
theorem A1m {K:Frag} {x q:Str} {st:Stmt} {f:Addr} {ps:List Str} (l:LkF K x q st f) (h:∀(kV doc pm:Value) (an:Option Addr) (cdv ct:Value) (us:List Value),us.length=ps.length->bindArgs (fnOf x q (A9f st) (A6i st) (A0i st) .none kV doc pm an cdv ct) ⟨us,[]⟩=pure (ps.zip us)):∃d,Fun K x q st f d/\A8w K d ps []/\keepIn K (.ref f)=true:=by
 obtain ⟨_,_,_,_,_,_,_,_,_,l,c,k⟩:=l;have F:=D3d (st:=st) l c k;exact ⟨_,F,F.binds h,k⟩
theorem len0 {p:List Value->Prop} (h:p []):∀us:List Value,us.length=0->p us:=λus e=>by rw [Z2n.mp e];exact h
theorem lenS {n:Nat} {p:List Value->Prop} (h:∀(a:Value) (us:List Value),us.length=n->p (a::us)):∀us:List Value,us.length=n+1->p us
 | a::r,e=>h a r (Nat.succ.inj e)
local macro_rules | `(tactic| walk_at "le") => `(tactic| (intro _ _ _ _ _ _; (repeat (refine lenS fun _ => ?_)); exact len0 rfl))
theorem D7y {l:PySem.W.OpenLaw} {w:World} {K:Frag} {h:Heap} {mg:Str->Option Value} {fa:Addr} (X:K.In h) (G:h.Ns mainGlobals mg) (hfa:mg "law"=some (.ref fa))
  {bV jX iP aF aA aC lZ aG aD aE bP aI aJ aB bU cF aH:Addr}
  (fG:nsIn K mainGlobals "LoomError"=some (some (.ref bV)))
  (hZ:nsIn K mainGlobals "NoName"=some (some (.ref jX)))
  (gV:nsIn K mainGlobals "NoShape"=some (some (.ref iP)))
  (gW:nsIn K mainGlobals "TooMuch"=some (some (.ref aF)))
  (fH:nsIn K mainGlobals "BeyondRim"=some (some (.ref aA)))
  (iA:nsIn K mainGlobals "NotYet"=some (some (.ref aC)))
  (lU:nsIn K mainGlobals "Term"=some (some (.ref lZ)))
  (iB:nsIn K mainGlobals "Number"=some (some (.ref aG)))
  (iR:nsIn K mainGlobals "Place"=some (some (.ref aD)))
  (jY:nsIn K mainGlobals "Read"=some (some (.ref aE)))
  (jZ:nsIn K mainGlobals "Pair"=some (some (.ref bP)))
  (iS:nsIn K mainGlobals "Minus"=some (some (.ref aI)))
  (kX:nsIn K mainGlobals "Sum"=some (some (.ref aJ)))
  (iT:nsIn K mainGlobals "Guard"=some (some (.ref aB)))
  (kA:nsIn K mainGlobals "Part"=some (some (.ref bU)))
  (kY:nsIn K mainGlobals "Let"=some (some (.ref cF)))
  (gX:nsIn K mainGlobals "Program"=some (some (.ref aH)))
  {f0:Addr}
  (a0:findIn K (.ref aA) "__init__"=some (some (.ref f0)))
  (l0:LkF K "__init__" "BeyondRim.__init__" A5a f0)
  (i0:isFn K (.ref f0)=true)
  {f1:Addr}
  (a1:findIn K (.ref aC) "__init__"=some (some (.ref f1)))
  (l1:LkF K "__init__" "NotYet.__init__" A7b f1)
  (i1:isFn K (.ref f1)=true)
  {f2:Addr}
  (a2:nsIn K mainGlobals "copied"=some (some (.ref f2)))
  (l2:LkF K "copied" "copied" B6s f2)
  {f3:Addr}
  (a3:findIn K (.ref aG) "__init__"=some (some (.ref f3)))
  (l3:LkF K "__init__" "Number.__init__" A6x f3)
  (i3:isFn K (.ref f3)=true)
  {f4:Addr}
  (a4:findIn K (.ref aD) "__init__"=some (some (.ref f4)))
  (l4:LkF K "__init__" "Place.__init__" B2m f4)
  (i4:isFn K (.ref f4)=true)
  {f5:Addr}
  (a5:findIn K (.ref aE) "__init__"=some (some (.ref f5)))
  (l5:LkF K "__init__" "Read.__init__" A9j f5)
  (i5:isFn K (.ref f5)=true)
  {f6:Addr}
  (a6:findIn K (.ref aE) "cell_at"=some (some (.ref f6)))
  (l6:LkF K "cell_at" "Read.cell_at" A6f f6)
  (i6:isFn K (.ref f6)=true)
  {f7:Addr}
  (a7:nsIn K mainGlobals "index_at"=some (some (.ref f7)))
  (l7:LkF K "index_at" "index_at" B1l f7)
  {f8:Addr}
  (a8:findIn K (.ref bP) "__init__"=some (some (.ref f8)))
  (l8:LkF K "__init__" "Pair.__init__" A9u f8)
  (i8:isFn K (.ref f8)=true)
  {f9:Addr}
  (a9:findIn K (.ref aJ) "__init__"=some (some (.ref f9)))
  (l9:LkF K "__init__" "Sum.__init__" B1z f9)
  (i9:isFn K (.ref f9)=true)
  {mB:Addr}
  (tA:findIn K (.ref aB) "__init__"=some (some (.ref mB)))
  (mH:LkF K "__init__" "Guard.__init__" A8d mB)
  (mI:isFn K (.ref mB)=true)
  {mC:Addr}
  (tB:findIn K (.ref aB) "lets_in"=some (some (.ref mC)))
  (mJ:LkF K "lets_in" "Guard.lets_in" A5l mC)
  (mK:isFn K (.ref mC)=true)
  {mD:Addr}
  (tC:findIn K (.ref bU) "__init__"=some (some (.ref mD)))
  (mL:LkF K "__init__" "Part.__init__" A9n mD)
  (mM:isFn K (.ref mD)=true)
  {qX:Addr}
  (mN:nsIn K mainGlobals "parts_of"=some (some (.ref qX)))
  (mO:LkF K "parts_of" "parts_of" B2e qX)
  {qY:Addr}
  (mP:nsIn K mainGlobals "parts_from"=some (some (.ref qY)))
  (mQ:LkF K "parts_from" "parts_from" A7u qY)
  {qZ:Addr}
  (mR:nsIn K mainGlobals "parts_right_within"=some (some (.ref qZ)))
  (mS:LkF K "parts_right_within" "parts_right_within" A3r qZ)
  {rA:Addr}
  (mT:nsIn K mainGlobals "sums_at_top"=some (some (.ref rA)))
  (mU:LkF K "sums_at_top" "sums_at_top" A7g rA)
  {rB:Addr}
  (mV:nsIn K mainGlobals "cells_of"=some (some (.ref rB)))
  (mW:LkF K "cells_of" "cells_of" B1q rB)
  {rC:Addr}
  (mX:nsIn K mainGlobals "lengthened"=some (some (.ref rC)))
  (mY:LkF K "lengthened" "lengthened" A7w rC)
  {mE:Addr}
  (tD:findIn K (.ref cF) "__init__"=some (some (.ref mE)))
  (mZ:LkF K "__init__" "Let.__init__" B1i mE)
  (nA:isFn K (.ref mE)=true)
  {mF:Addr}
  (tE:findIn K (.ref aH) "__init__"=some (some (.ref mF)))
  (nB:LkF K "__init__" "Program.__init__" A6g mF)
  (nC:isFn K (.ref mF)=true)
  {rD:Addr}
  (nD:nsIn K mainGlobals "axis_names"=some (some (.ref rD)))
  (nE:LkF K "axis_names" "axis_names" A7t rD)
  {rE:Addr}
  (nF:nsIn K mainGlobals "table_names"=some (some (.ref rE)))
  (nG:LkF K "table_names" "table_names" A6u rE)
  {rF:Addr}
  (nH:nsIn K mainGlobals "array_names"=some (some (.ref rF)))
  (nI:LkF K "array_names" "array_names" A7a rF)
  {rG:Addr}
  (nJ:nsIn K mainGlobals "lengths_of"=some (some (.ref rG)))
  (nK:LkF K "lengths_of" "lengths_of" A8i rG)
  {rH:Addr}
  (nL:nsIn K mainGlobals "arrays_of"=some (some (.ref rH)))
  (nM:LkF K "arrays_of" "arrays_of" B0a rH)
  {rI:Addr}
  (nN:nsIn K mainGlobals "lengths_along"=some (some (.ref rI)))
  (nO:LkF K "lengths_along" "lengths_along" A5u rI)
  {rJ:Addr}
  (nP:nsIn K mainGlobals "cells_along"=some (some (.ref rJ)))
  (nQ:LkF K "cells_along" "cells_along" A6t rJ)
  {rK:Addr}
  (nR:nsIn K mainGlobals "look_names"=some (some (.ref rK)))
  (nS:LkF K "look_names" "look_names" A7o rK)
  {rL:Addr}
  (nT:nsIn K mainGlobals "look_told_names"=some (some (.ref rL)))
  (nU:LkF K "look_told_names" "look_told_names" A4k rL)
  {rM:Addr}
  (nV:nsIn K mainGlobals "is_name"=some (some (.ref rM)))
  (nW:LkF K "is_name" "is_name" B3e rM)
  {rN:Addr}
  (nX:nsIn K mainGlobals "is_of_letters"=some (some (.ref rN)))
  (nY:LkF K "is_of_letters" "is_of_letters" A5p rN)
  {rO:Addr}
  (nZ:nsIn K mainGlobals "look_outs"=some (some (.ref rO)))
  (oA:LkF K "look_outs" "look_outs" B0g rO)
  {rP:Addr}
  (oB:nsIn K mainGlobals "look_axes"=some (some (.ref rP)))
  (oC:LkF K "look_axes" "look_axes" B0b rP)
  {rQ:Addr}
  (oD:nsIn K mainGlobals "look_terms"=some (some (.ref rQ)))
  (oE:LkF K "look_terms" "look_terms" A8q rQ)
  {rR:Addr}
  (oF:nsIn K mainGlobals "look_part"=some (some (.ref rR)))
  (oG:LkF K "look_part" "look_part" B0c rR)
  {rS:Addr}
  (oH:nsIn K mainGlobals "look_bound"=some (some (.ref rS)))
  (oI:LkF K "look_bound" "look_bound" A7r rS)
  {rT:Addr}
  (oJ:nsIn K mainGlobals "look_sum"=some (some (.ref rT)))
  (oK:LkF K "look_sum" "look_sum" B1s rT)
  {rU:Addr}
  (oL:nsIn K mainGlobals "look_read"=some (some (.ref rU)))
  (oM:LkF K "look_read" "look_read" A9k rU)
  {rV:Addr}
  (oN:nsIn K mainGlobals "look_own_read"=some (some (.ref rV)))
  (oO:LkF K "look_own_read" "look_own_read" A5s rV)
  {rW:Addr}
  (oP:nsIn K mainGlobals "work_of"=some (some (.ref rW)))
  (oQ:LkF K "work_of" "work_of" B4j rW)
  {rX:Addr}
  (oR:nsIn K mainGlobals "cell_count"=some (some (.ref rX)))
  (oS:LkF K "cell_count" "cell_count" A8a rX)
  {rY:Addr}
  (oT:nsIn K mainGlobals "look"=some (some (.ref rY)))
  (oU:LkF K "look" "look" C8l rY)
  {rZ:Addr}
  (oV:nsIn K mainGlobals "look_work"=some (some (.ref rZ)))
  (oW:LkF K "look_work" "look_work" A9t rZ)
  {sA:Addr}
  (oX:nsIn K mainGlobals "look_reads"=some (some (.ref sA)))
  (oY:LkF K "look_reads" "look_reads" A8f sA)
  {sB:Addr}
  (oZ:nsIn K mainGlobals "look_spots"=some (some (.ref sB)))
  (pA:LkF K "look_spots" "look_spots" A8l sB)
  {sC:Addr}
  (pB:nsIn K mainGlobals "leads_of"=some (some (.ref sC)))
  (pC:LkF K "leads_of" "leads_of" B2d sC)
  {sD:Addr}
  (pD:nsIn K mainGlobals "is_reached"=some (some (.ref sD)))
  (pE:LkF K "is_reached" "is_reached" A7x sD)
  {sE:Addr}
  (pF:nsIn K mainGlobals "look_rims"=some (some (.ref sE)))
  (pG:LkF K "look_rims" "look_rims" A9g sE)
  {sF:Addr}
  (pH:nsIn K mainGlobals "is_within"=some (some (.ref sF)))
  (pI:LkF K "is_within" "is_within" A9h sF)
  {sG:Addr}
  (pJ:nsIn K mainGlobals "look_ahead"=some (some (.ref sG)))
  (pK:LkF K "look_ahead" "look_ahead" A7y sG)
  {sH:Addr}
  (pL:nsIn K mainGlobals "_law_cell"=some (some (.ref sH)))
  (pM:LkF K "_law_cell" "_law_cell" B6d sH)
  {sI:Addr}
  (pN:nsIn K mainGlobals "_law_indexes"=some (some (.ref sI)))
  (pO:LkF K "_law_indexes" "_law_indexes" B0e sI)
  {sJ:Addr}
  (pP:nsIn K mainGlobals "_law_guards"=some (some (.ref sJ)))
  (pQ:LkF K "_law_guards" "_law_guards" B1j sJ)
  {sK:Addr}
  (pR:nsIn K mainGlobals "_law_guarded"=some (some (.ref sK)))
  (pS:LkF K "_law_guarded" "_law_guarded" A9z sK)
  {sL:Addr}
  (pT:nsIn K mainGlobals "_law_longer"=some (some (.ref sL)))
  (pU:LkF K "_law_longer" "_law_longer" B1m sL)
  {sM:Addr}
  (pV:nsIn K mainGlobals "_law_outside"=some (some (.ref sM)))
  (pW:LkF K "_law_outside" "_law_outside" A9d sM)
  {sN:Addr}
  (pX:nsIn K mainGlobals "_law_ahead"=some (some (.ref sN)))
  (pY:LkF K "_law_ahead" "_law_ahead" B3i sN)
  {sO:Addr}
  (pZ:nsIn K mainGlobals "_law_leads"=some (some (.ref sO)))
  (qA:LkF K "_law_leads" "_law_leads" B4h sO)
  {sP:Addr}
  (qB:nsIn K mainGlobals "_law_due"=some (some (.ref sP)))
  (qC:LkF K "_law_due" "_law_due" C0s sP)
  {sQ:Addr}
  (qD:nsIn K mainGlobals "_law_wholes"=some (some (.ref sQ)))
  (qE:LkF K "_law_wholes" "_law_wholes" B1k sQ)
  {sR:Addr}
  (qF:nsIn K mainGlobals "_law_told"=some (some (.ref sR)))
  (qG:LkF K "_law_told" "_law_told" B7d sR)
  {sS:Addr}
  (qH:nsIn K mainGlobals "_law_holds"=some (some (.ref sS)))
  (qI:LkF K "_law_holds" "_law_holds" B3p sS)
  {sT:Addr}
  (qJ:nsIn K mainGlobals "_law_axes_by"=some (some (.ref sT)))
  (qK:LkF K "_law_axes_by" "_law_axes_by" A9r sT)
  {sU:Addr}
  (qL:nsIn K mainGlobals "_law_head_work"=some (some (.ref sU)))
  (qM:LkF K "_law_head_work" "_law_head_work" A7c sU)
  {sV:Addr}
  (qN:nsIn K mainGlobals "_law_inner"=some (some (.ref sV)))
  (qO:LkF K "_law_inner" "_law_inner" B3w sV)
  {sW:Addr}
  (qP:nsIn K mainGlobals "_law_two"=some (some (.ref sW)))
  (qQ:LkF K "_law_two" "_law_two" C0z sW)
  {sX:Addr}
  (qR:nsIn K mainGlobals "_law_joint"=some (some (.ref sX)))
  (qS:LkF K "_law_joint" "_law_joint" B4g sX)
  {sY:Addr}
  (qT:nsIn K mainGlobals "_law_reads_due"=some (some (.ref sY)))
  (qU:LkF K "_law_reads_due" "_law_reads_due" A6y sY)
  {sZ:Addr}
  (qV:nsIn K mainGlobals "_law_term"=some (some (.ref sZ)))
  (qW:LkF K "_law_term" "_law_term" B7p sZ)
  {tF:Addr}
  (mG:nsIn K mainGlobals "law"=some (some (.ref tF)))
  (mA:LkF K "law" "law" D0a tF)
  {iQ:Tok}
  (cW:nsIn K mainGlobals "MOST_LETTERS"=some (some (.int (8) iQ)))
  {kV:Tok}
  (fI:nsIn K mainGlobals "MOST_AXES"=some (some (.int (3) kV)))
  {cR:Addr} {hV:Option Addr} {hW:Nat} {hX:Array (Option Value)} {hT hU:Tok}
  (bW:nsIn K mainGlobals "WORDS_OF_TERMS"=some (some (.ref cR)))
  (bX:K.lookup cR=some ⟨.type "tuple",hV,.seq #[.str "if" hT,.str "sum" hU] hW,hX⟩)
  {kW:Tok}
  (fJ:nsIn K mainGlobals "MOST_WORK"=some (some (.int (4000) kW)))
  (fK:PySem.W.excInI K aA f0 [.type "ValueError",.type "Exception",.type "BaseException",.type "object"] "ValueError.__new__"=true)
  (fL:keepIn K (.ref aA)=true)
  (bH:findIn K (.ref aA) "__setattr__"=some (some (.builtin "object.__setattr__")))
  (bI:PySem.W.excOver K aA=true)
  (aK:(clsIn K aA).any (·.hasDict)=true)
  (aZ:findIn K (.ref aA) "name"=some none)
  (aO:findIn K (.ref aA) "array"=some none)
  (bA:findIn K (.ref aA) "spot"=some none)
  (bB:findIn K (.ref aA) "cell"=some none)
  (iC:PySem.W.excInI K aC f1 [.type "ValueError",.type "Exception",.type "BaseException",.type "object"] "ValueError.__new__"=true)
  (iD:keepIn K (.ref aC)=true)
  (dJ:findIn K (.ref aC) "__setattr__"=some (some (.builtin "object.__setattr__")))
  (dK:PySem.W.excOver K aC=true)
  (aY:(clsIn K aC).any (·.hasDict)=true)
  (bY:findIn K (.ref aC) "name"=some none)
  (bQ:findIn K (.ref aC) "array"=some none)
  (bZ:findIn K (.ref aC) "spot"=some none)
  (cA:findIn K (.ref aC) "cell"=some none)
  (aN:mroIn K aA (.type "ValueError")=some true)
  (bD:mroIn K aC (.type "ValueError")=some true)
  (iE:excIn K jX [.type "ValueError",.type "Exception",.type "BaseException",.type "object"] "ValueError.__new__"=true)
  (gY:excIn K iP [.type "ValueError",.type "Exception",.type "BaseException",.type "object"] "ValueError.__new__"=true)
  (gZ:excIn K aF [.type "ValueError",.type "Exception",.type "BaseException",.type "object"] "ValueError.__new__"=true)
  (hA:findIn K (.ref aF) "__getattribute__"=some (some (.builtin "BaseException.__getattribute__")))
  (hB:findIn K (.ref aF) "__getattr__"=some none)
  (hC:mroIn K aF (.type "BaseException")=some true)
  (hD:mroIn K aF (.type "object")=some true)
  (hE:findIn K (.ref aF) "__class__"=some (some (.builtin "object.__class__")))
  (hF:specialIn K (.builtin "object.__class__") "__get__"=some (some (.builtin "getset_descriptor.__get__")))
  (hG:takesIn K (.builtin "object.__class__")=some true)
  (bJ:isClsIn K aA=true)
  (bK:typeIn K (.ref aA)=some (.type "type"))
  (bE:mroIn K aF (.ref aA)=some false)
  (bF:(Value.ref aF == Value.ref aA)=false)
  (fE:isClsIn K aC=true)
  (fF:typeIn K (.ref aC)=some (.type "type"))
  (cB:mroIn K aF (.ref aC)=some false)
  (cC:(Value.ref aF == Value.ref aC)=false)
  (aP:findIn K (.ref aA) "__getattribute__"=some (some (.builtin "BaseException.__getattribute__")))
  (aQ:findIn K (.ref aA) "__getattr__"=some none)
  (aR:mroIn K aA (.type "BaseException")=some true)
  (aS:mroIn K aA (.type "object")=some true)
  (aT:findIn K (.ref aA) "__class__"=some (some (.builtin "object.__class__")))
  (aU:specialIn K (.builtin "object.__class__") "__get__"=some (some (.builtin "getset_descriptor.__get__")))
  (aV:takesIn K (.builtin "object.__class__")=some true)
  (bR:isClsIn K aF=true)
  (bS:typeIn K (.ref aF)=some (.type "type"))
  (aL:mroIn K aA (.ref aF)=some false)
  (bG:(Value.ref aA == Value.ref aF)=false)
  (bL:mroIn K aA (.ref aC)=some false)
  (bM:(Value.ref aA == Value.ref aC)=false)
  (dG:isClsIn K bV=true)
  (dH:typeIn K (.ref bV)=some (.type "type"))
  (aW:mroIn K aA (.ref bV)=some true)
  (cG:findIn K (.ref aC) "__getattribute__"=some (some (.builtin "BaseException.__getattribute__")))
  (cH:findIn K (.ref aC) "__getattr__"=some none)
  (cI:mroIn K aC (.type "BaseException")=some true)
  (cJ:mroIn K aC (.type "object")=some true)
  (cK:findIn K (.ref aC) "__class__"=some (some (.builtin "object.__class__")))
  (cL:specialIn K (.builtin "object.__class__") "__get__"=some (some (.builtin "getset_descriptor.__get__")))
  (cM:takesIn K (.builtin "object.__class__")=some true)
  (bC:mroIn K aC (.ref aF)=some false)
  (cD:(Value.ref aC == Value.ref aF)=false)
  (aM:mroIn K aC (.ref aA)=some false)
  (bN:(Value.ref aC == Value.ref aA)=false)
  (bO:mroIn K aC (.ref bV)=some true)
  (bT:mroIn K aF (.ref aF)=some true)
  (dL:mroIn K aF (.type "BaseException")=some true)
  (aX:mroIn K aA (.ref aA)=some true)
  (dI:mroIn K aA (.type "BaseException")=some true)
  (cN:mroIn K aC (.ref aC)=some true)
  (iF:mroIn K aC (.type "BaseException")=some true)
  (iU:plainGet K aB Str.empty=true)
  (iV:hasDictIn K aB=true)
  (iW:plainOver K aB=true)
  (iX:findIn K (.ref aB) "__setattr__"=some (some (.builtin "object.__setattr__")))
  (iY:makesIn K aB=true)
  (iZ:keepIn K (.ref aB)=true)
  (jA:findIn K (.ref aB) "__init__"=some (some (.ref mB)))
  (eI:findIn K (.ref aB) "axis"=some none)
  (fM:findIn K (.ref aB) "low"=some none)
  (eJ:findIn K (.ref aB) "high"=some none)
  (dM:findIn K (.ref aB) "inner"=some none)
  (dN:findIn K (.ref aB) "outer"=some none)
  (cO:findIn K (.ref aB) "lets_in"=some (some (.ref mC)))
  (jB:findIn K (.ref aB) "__class__"=some (some (.builtin "object.__class__")))
  (jC:specialIn K (.builtin "object.__class__") "__get__"=some (some (.builtin "getset_descriptor.__get__")))
  (jD:takesIn K (.builtin "object.__class__")=some true)
  (jE:mroIn K aB (.type "object")=some true)
  (cS:isClsIn K aB=true)
  (cT:typeIn K (.ref aB)=some (.type "type"))
  (dO:mroIn K aB (.ref aB)=some true)
  (eE:isClsIn K bP=true)
  (eF:typeIn K (.ref bP)=some (.type "type"))
  (eK:mroIn K aB (.ref bP)=some false)
  (eL:(Value.ref aB == Value.ref bP)=false)
  (eG:isClsIn K aE=true)
  (eH:typeIn K (.ref aE)=some (.type "type"))
  (eM:mroIn K aB (.ref aE)=some false)
  (eN:(Value.ref aB == Value.ref aE)=false)
  (gF:isClsIn K aJ=true)
  (gG:typeIn K (.ref aJ)=some (.type "type"))
  (fN:mroIn K aB (.ref aJ)=some false)
  (fO:(Value.ref aB == Value.ref aJ)=false)
  (cU:isClsIn K aD=true)
  (cV:typeIn K (.ref aD)=some (.type "type"))
  (dP:mroIn K aB (.ref aD)=some false)
  (dQ:(Value.ref aB == Value.ref aD)=false)
  (kZ:plainGet K cF Str.empty=true)
  (lA:hasDictIn K cF=true)
  (lB:plainOver K cF=true)
  (lC:findIn K (.ref cF) "__setattr__"=some (some (.builtin "object.__setattr__")))
  (lD:makesIn K cF=true)
  (lE:keepIn K (.ref cF)=true)
  (lF:findIn K (.ref cF) "__init__"=some (some (.ref mE)))
  (gH:findIn K (.ref cF) "name"=some none)
  (gI:findIn K (.ref cF) "axes"=some none)
  (gJ:findIn K (.ref cF) "term"=some none)
  (lG:findIn K (.ref cF) "__class__"=some (some (.builtin "object.__class__")))
  (lH:mroIn K cF (.type "object")=some true)
  (gK:mroIn K cF (.type "list")=some false)
  (fP:mroIn K cF (.type "tuple")=some false)
  (gL:mroIn K cF (.type "dict")=some false)
  (jF:plainGet K aI Str.empty=true)
  (jG:hasDictIn K aI=true)
  (jH:plainOver K aI=true)
  (jI:findIn K (.ref aI) "__setattr__"=some (some (.builtin "object.__setattr__")))
  (jJ:makesIn K aI=true)
  (jK:keepIn K (.ref aI)=true)
  (jL:findIn K (.ref aI) "__init__"=some (some (.ref f8)))
  (eO:findIn K (.ref aI) "left"=some none)
  (dR:findIn K (.ref aI) "right"=some none)
  (jM:findIn K (.ref aI) "__class__"=some (some (.builtin "object.__class__")))
  (jN:mroIn K aI (.type "object")=some true)
  (dS:mroIn K aI (.ref aB)=some false)
  (dT:(Value.ref aI == Value.ref aB)=false)
  (eP:mroIn K aI (.ref bP)=some true)
  (eQ:mroIn K aI (.ref aE)=some false)
  (eR:(Value.ref aI == Value.ref aE)=false)
  (fQ:mroIn K aI (.ref aJ)=some false)
  (fR:(Value.ref aI == Value.ref aJ)=false)
  (dU:mroIn K aI (.ref aD)=some false)
  (dV:(Value.ref aI == Value.ref aD)=false)
  (iG:plainGet K aG Str.empty=true)
  (iH:hasDictIn K aG=true)
  (iI:plainOver K aG=true)
  (iJ:findIn K (.ref aG) "__setattr__"=some (some (.builtin "object.__setattr__")))
  (iK:makesIn K aG=true)
  (iL:keepIn K (.ref aG)=true)
  (iM:findIn K (.ref aG) "__init__"=some (some (.ref f3)))
  (cP:findIn K (.ref aG) "number"=some none)
  (iN:findIn K (.ref aG) "__class__"=some (some (.builtin "object.__class__")))
  (iO:mroIn K aG (.type "object")=some true)
  (cX:mroIn K aG (.ref aB)=some false)
  (cY:(Value.ref aG == Value.ref aB)=false)
  (dW:mroIn K aG (.ref bP)=some false)
  (dX:(Value.ref aG == Value.ref bP)=false)
  (dY:mroIn K aG (.ref aE)=some false)
  (dZ:(Value.ref aG == Value.ref aE)=false)
  (eS:mroIn K aG (.ref aJ)=some false)
  (eT:(Value.ref aG == Value.ref aJ)=false)
  (cZ:mroIn K aG (.ref aD)=some false)
  (dA:(Value.ref aG == Value.ref aD)=false)
  (kB:plainGet K bU Str.empty=true)
  (kC:hasDictIn K bU=true)
  (kD:plainOver K bU=true)
  (kE:findIn K (.ref bU) "__setattr__"=some (some (.builtin "object.__setattr__")))
  (kF:makesIn K bU=true)
  (kG:keepIn K (.ref bU)=true)
  (kH:findIn K (.ref bU) "__init__"=some (some (.ref mD)))
  (fS:findIn K (.ref bU) "term"=some none)
  (fT:findIn K (.ref bU) "sums"=some none)
  (eA:findIn K (.ref bU) "guards"=some none)
  (kI:findIn K (.ref bU) "__class__"=some (some (.builtin "object.__class__")))
  (kJ:mroIn K bU (.type "object")=some true)
  (jO:plainGet K aD Str.empty=true)
  (jP:hasDictIn K aD=true)
  (jQ:plainOver K aD=true)
  (jR:findIn K (.ref aD) "__setattr__"=some (some (.builtin "object.__setattr__")))
  (jS:makesIn K aD=true)
  (jT:keepIn K (.ref aD)=true)
  (jU:findIn K (.ref aD) "__init__"=some (some (.ref f4)))
  (eU:findIn K (.ref aD) "axis"=some none)
  (jV:findIn K (.ref aD) "__class__"=some (some (.builtin "object.__class__")))
  (jW:mroIn K aD (.type "object")=some true)
  (eB:mroIn K aD (.ref aB)=some false)
  (eC:(Value.ref aD == Value.ref aB)=false)
  (eV:mroIn K aD (.ref bP)=some false)
  (eW:(Value.ref aD == Value.ref bP)=false)
  (eX:mroIn K aD (.ref aE)=some false)
  (eY:(Value.ref aD == Value.ref aE)=false)
  (fU:mroIn K aD (.ref aJ)=some false)
  (fV:(Value.ref aD == Value.ref aJ)=false)
  (eD:mroIn K aD (.ref aD)=some true)
  (hH:plainGet K aH Str.empty=true)
  (hI:hasDictIn K aH=true)
  (hJ:plainOver K aH=true)
  (hK:findIn K (.ref aH) "__setattr__"=some (some (.builtin "object.__setattr__")))
  (hL:makesIn K aH=true)
  (hM:keepIn K (.ref aH)=true)
  (hN:findIn K (.ref aH) "__init__"=some (some (.ref mF)))
  (cQ:findIn K (.ref aH) "wheel"=some none)
  (dB:findIn K (.ref aH) "axes"=some none)
  (cE:findIn K (.ref aH) "tables"=some none)
  (dC:findIn K (.ref aH) "lets"=some none)
  (dD:findIn K (.ref aH) "outs"=some none)
  (hO:findIn K (.ref aH) "__class__"=some (some (.builtin "object.__class__")))
  (hP:mroIn K aH (.type "object")=some true)
  (kK:plainGet K aE Str.empty=true)
  (kL:hasDictIn K aE=true)
  (kM:plainOver K aE=true)
  (kN:findIn K (.ref aE) "__setattr__"=some (some (.builtin "object.__setattr__")))
  (kO:makesIn K aE=true)
  (kP:keepIn K (.ref aE)=true)
  (kQ:findIn K (.ref aE) "__init__"=some (some (.ref f5)))
  (eZ:findIn K (.ref aE) "array"=some none)
  (dE:findIn K (.ref aE) "indexes"=some none)
  (dF:findIn K (.ref aE) "cell_at"=some (some (.ref f6)))
  (kR:findIn K (.ref aE) "__class__"=some (some (.builtin "object.__class__")))
  (kS:mroIn K aE (.type "object")=some true)
  (fA:mroIn K aE (.ref aB)=some false)
  (fB:(Value.ref aE == Value.ref aB)=false)
  (fW:mroIn K aE (.ref bP)=some false)
  (fX:(Value.ref aE == Value.ref bP)=false)
  (fY:mroIn K aE (.ref aE)=some true)
  (gM:mroIn K aE (.ref aJ)=some false)
  (gN:(Value.ref aE == Value.ref aJ)=false)
  (fC:mroIn K aE (.ref aD)=some false)
  (fD:(Value.ref aE == Value.ref aD)=false)
  (lI:plainGet K aJ Str.empty=true)
  (lJ:hasDictIn K aJ=true)
  (lK:plainOver K aJ=true)
  (lL:findIn K (.ref aJ) "__setattr__"=some (some (.builtin "object.__setattr__")))
  (lM:makesIn K aJ=true)
  (lN:keepIn K (.ref aJ)=true)
  (lO:findIn K (.ref aJ) "__init__"=some (some (.ref f9)))
  (gO:findIn K (.ref aJ) "axis"=some none)
  (gP:findIn K (.ref aJ) "body"=some none)
  (lP:findIn K (.ref aJ) "__class__"=some (some (.builtin "object.__class__")))
  (lQ:mroIn K aJ (.type "object")=some true)
  (fZ:mroIn K aJ (.ref aB)=some false)
  (gA:(Value.ref aJ == Value.ref aB)=false)
  (gQ:mroIn K aJ (.ref bP)=some false)
  (gR:(Value.ref aJ == Value.ref bP)=false)
  (gS:mroIn K aJ (.ref aE)=some false)
  (gT:(Value.ref aJ == Value.ref aE)=false)
  (hQ:mroIn K aJ (.ref aJ)=some true)
  (gB:mroIn K aJ (.ref aD)=some false)
  (gC:(Value.ref aJ == Value.ref aD)=false)
  (gD:nsIn K mainGlobals "isinstance"=some none)
  (lR:nsIn K mainGlobals "list"=some none)
  (kT:nsIn K mainGlobals "tuple"=some none)
  (lS:nsIn K mainGlobals "dict"=some none)
  (kU:nsIn K mainGlobals "range"=some none)
  (gU:nsIn K mainGlobals "enumerate"=some none)
  (lV:nsIn K mainGlobals "len"=some none)
  (lW:nsIn K mainGlobals "all"=some none)
  (lX:nsIn K mainGlobals "zip"=some none)
  (lY:nsIn K mainGlobals "int"=some none)
  (hR:nsIn K mainGlobals "reversed"=some none)
  (lT:nsIn K mainGlobals "bool"=some none)
  (gE:nsIn K mainGlobals "ValueError"=some none)
  :∃fd:FuncData,(∀(s:Shared) (v:Value),BindsTo s fd ⟨[v],[]⟩ [("_law_script",v)])/\∀base:Heap,K.In base->base.Ns mainGlobals mg->A4m l.prog w K mg base CX0 19 fa fd ["_law_script"] (C9e K):=by
 have e:=hfa.symm.trans (Z0f X G mG);cases e;obtain ⟨d0,F0,b0,k0⟩:=A1m (ps:=D7d) l0 (by walk_at "le");obtain ⟨d1,F1,b1,k1⟩:=A1m (ps:=D7d) l1 (by walk_at "le");obtain ⟨d2,F2,b2,k2⟩:=A1m (ps:=["value"]) l2 (by walk_at "le");obtain ⟨d3,F3,b3,k3⟩:=A1m (ps:=["self","number"]) l3 (by walk_at "le");obtain ⟨d4,F4,b4,k4⟩:=A1m (ps:=["self","axis"]) l4 (by walk_at "le");obtain ⟨d5,F5,b5,k5⟩:=A1m (ps:=E2r) l5 (by walk_at "le");obtain ⟨d6,F6,b6,k6⟩:=A1m (ps:=D6z) l6 (by walk_at "le");obtain ⟨d7,F7,b7,k7⟩:=A1m (ps:=E2c) l7 (by walk_at "le");obtain ⟨d8,F8,b8,k8⟩:=A1m (ps:=E2j) l8 (by walk_at "le");obtain ⟨d9,F9,b9,k9⟩:=A1m (ps:=E2d) l9 (by walk_at "le");obtain ⟨d10,F10,b10,k10⟩:=A1m (ps:=E1w) mH (by walk_at "le");obtain ⟨d11,F11,b11,k11⟩:=A1m (ps:=D6z) mJ (by walk_at "le");obtain ⟨d12,F12,b12,k12⟩:=A1m (ps:=E2b) mL (by walk_at "le");obtain ⟨d13,F13,b13,k13⟩:=A1m (ps:=["term"]) mO (by walk_at "le");obtain ⟨d14,F14,b14,k14⟩:=A1m (ps:=["part"]) mQ (by walk_at "le");obtain ⟨d15,F15,b15,k15⟩:=A1m (ps:=["part"]) mS (by walk_at "le");obtain ⟨d16,F16,b16,k16⟩:=A1m (ps:=["term"]) mU (by walk_at "le");obtain ⟨d17,F17,b17,k17⟩:=A1m (ps:=["lengths"]) mW (by walk_at "le");obtain ⟨d18,F18,b18,k18⟩:=A1m (ps:=["cells","length"]) mY (by walk_at "le");obtain ⟨d19,F19,b19,k19⟩:=A1m (ps:=E2u) mZ (by walk_at "le");obtain ⟨d20,F20,b20,k20⟩:=A1m (ps:=E1g) nB (by walk_at "le");obtain ⟨d21,F21,b21,k21⟩:=A1m (ps:=A2z) nE (by walk_at "le");obtain ⟨d22,F22,b22,k22⟩:=A1m (ps:=A2z) nG (by walk_at "le");obtain ⟨d23,F23,b23,k23⟩:=A1m (ps:=A2z) nI (by walk_at "le");obtain ⟨d24,F24,b24,k24⟩:=A1m (ps:=A2z) nK (by walk_at "le");obtain ⟨d25,F25,b25,k25⟩:=A1m (ps:=A2z) nM (by walk_at "le");obtain ⟨d26,F26,b26,k26⟩:=A1m (ps:=B7k) nO (by walk_at "le");obtain ⟨d27,F27,b27,k27⟩:=A1m (ps:=B7k) nQ (by walk_at "le");obtain ⟨d28,F28,b28,k28⟩:=A1m (ps:=A2z) nS (by walk_at "le");obtain ⟨d29,F29,b29,k29⟩:=A1m (ps:=["names"]) nU (by walk_at "le");obtain ⟨d30,F30,b30,k30⟩:=A1m (ps:=["text"]) nW (by walk_at "le");obtain ⟨d31,F31,b31,k31⟩:=A1m (ps:=["text"]) nY (by walk_at "le");obtain ⟨d32,F32,b32,k32⟩:=A1m (ps:=["outs","names"]) oA (by walk_at "le");obtain ⟨d33,F33,b33,k33⟩:=A1m (ps:=["axes","known"]) oC (by walk_at "le");obtain ⟨d34,F34,b34,k34⟩:=A1m (ps:=A2z) oE (by walk_at "le");obtain ⟨d35,F35,b35,k35⟩:=A1m (ps:=D1u) oG (by walk_at "le");obtain ⟨d36,F36,b36,k36⟩:=A1m (ps:=D0l) oI (by walk_at "le");obtain ⟨d37,F37,b37,k37⟩:=A1m (ps:=D1i) oK (by walk_at "le");obtain ⟨d38,F38,b38,k38⟩:=A1m (ps:=C9s) oM (by walk_at "le");obtain ⟨d39,F39,b39,k39⟩:=A1m (ps:=["part","let"]) oO (by walk_at "le");obtain ⟨d40,F40,b40,k40⟩:=A1m (ps:=A2z) oQ (by walk_at "le");obtain ⟨d41,F41,b41,k41⟩:=A1m (ps:=B7k) oS (by walk_at "le");obtain ⟨d42,F42,b42,k42⟩:=A1m (ps:=A2z) oU (by walk_at "le");obtain ⟨d43,F43,b43,k43⟩:=A1m (ps:=A2z) oW (by walk_at "le");obtain ⟨d44,F44,b44,k44⟩:=A1m (ps:=A2z) oY (by walk_at "le");obtain ⟨d45,F45,b45,k45⟩:=A1m (ps:=D0c) pA (by walk_at "le");obtain ⟨d46,F46,b46,k46⟩:=A1m (ps:=["let","part","lengths"]) pC (by walk_at "le");obtain ⟨d47,F47,b47,k47⟩:=A1m (ps:=["guards","at"]) pE (by walk_at "le");obtain ⟨d48,F48,b48,k48⟩:=A1m (ps:=D1h) pG (by walk_at "le");obtain ⟨d49,F49,b49,k49⟩:=A1m (ps:=["cell","lengths"]) pI (by walk_at "le");obtain ⟨d50,F50,b50,k50⟩:=A1m (ps:=C9v) pK (by walk_at "le");obtain ⟨d51,F51,b51,k51⟩:=A1m (ps:=["_law_rest"]) pM (by walk_at "le");obtain ⟨d52,F52,b52,k52⟩:=A1m (ps:=D5p) pO (by walk_at "le");obtain ⟨d53,F53,b53,k53⟩:=A1m (ps:=D3h) pQ (by walk_at "le");obtain ⟨d54,F54,b54,k54⟩:=A1m (ps:=D5r) pS (by walk_at "le");obtain ⟨d55,F55,b55,k55⟩:=A1m (ps:=D6j) pU (by walk_at "le");obtain ⟨d56,F56,b56,k56⟩:=A1m (ps:=D4m) pW (by walk_at "le");obtain ⟨d57,F57,b57,k57⟩:=A1m (ps:=D6k) pY (by walk_at "le");obtain ⟨d58,F58,b58,k58⟩:=A1m (ps:=D4j) qA (by walk_at "le");obtain ⟨d59,F59,b59,k59⟩:=A1m (ps:=D5w) qC (by walk_at "le");obtain ⟨d60,F60,b60,k60⟩:=A1m (ps:=D0e) qE (by walk_at "le");obtain ⟨d61,F61,b61,k61⟩:=A1m (ps:=C9g) qG (by walk_at "le");obtain ⟨d62,F62,b62,k62⟩:=A1m (ps:=D3t) qI (by walk_at "le");obtain ⟨d63,F63,b63,k63⟩:=A1m (ps:=D3w) qK (by walk_at "le");obtain ⟨d64,F64,b64,k64⟩:=A1m (ps:=D4g) qM (by walk_at "le");obtain ⟨d65,F65,b65,k65⟩:=A1m (ps:=D4u) qO (by walk_at "le");obtain ⟨d66,F66,b66,k66⟩:=A1m (ps:=D6m) qQ (by walk_at "le");obtain ⟨d67,F67,b67,k67⟩:=A1m (ps:=D3z) qS (by walk_at "le");obtain ⟨d68,F68,b68,k68⟩:=A1m (ps:=D3i) qU (by walk_at "le");obtain ⟨d69,F69,b69,k69⟩:=A1m (ps:=D4o) qW (by walk_at "le");obtain ⟨_,_,_,_,_,_,_,_,_,mA,c,k70⟩:=mA;have F70:=D3d (st:=D0a) mA c k70;have b70:=F70.binds (ps:=["_law_script"]) (by walk_at "le");exact ⟨_,λs v=> .of_eq rfl,λbase _ _=>E0k (t:=⟨bV,jX,iP,aF,aA,aC,lZ,aG,aD,aE,bP,aI,aJ,aB,bU,cF,aH,cR,f0,_,f1,_,f2,_,f3,_,f4,_,f5,_,f6,_,f7,_,f8,_,f9,_,mB,_,mC,_,mD,_,qX,_,qY,_,qZ,_,rA,_,rB,_,rC,_,mE,_,mF,_,rD,_,rE,_,rF,_,rG,_,rH,_,rI,_,rJ,_,rK,_,rL,_,rM,_,rN,_,rO,_,rP,_,rQ,_,rR,_,rS,_,rT,_,rU,_,rV,_,rW,_,rX,_,rY,_,rZ,_,sA,_,sB,_,sC,_,sD,_,sE,_,sF,_,sG,_,sH,_,sI,_,sJ,_,sK,_,sL,_,sM,_,sN,_,sO,_,sP,_,sQ,_,sR,_,sS,_,sT,_,sU,_,sV,_,sW,_,sX,_,sY,_,sZ,_,fa,_⟩) ⟨⟨F0,b0⟩,⟨F1,b1⟩,⟨F2,Z0f X G a2,b2⟩,⟨F3,b3⟩,⟨F4,b4⟩,⟨F5,b5⟩,⟨F6,b6⟩,⟨F7,Z0f X G a7,b7⟩,⟨F8,b8⟩,⟨F9,b9⟩,⟨F10,b10⟩,⟨F11,b11⟩,⟨F12,b12⟩,⟨F13,Z0f X G mN,b13⟩,⟨F14,Z0f X G mP,b14⟩,⟨F15,Z0f X G mR,b15⟩,⟨F16,Z0f X G mT,b16⟩,⟨F17,Z0f X G mV,b17⟩,⟨F18,Z0f X G mX,b18⟩,⟨F19,b19⟩,⟨F20,b20⟩,⟨F21,Z0f X G nD,b21⟩,⟨F22,Z0f X G nF,b22⟩,⟨F23,Z0f X G nH,b23⟩,⟨F24,Z0f X G nJ,b24⟩,⟨F25,Z0f X G nL,b25⟩,⟨F26,Z0f X G nN,b26⟩,⟨F27,Z0f X G nP,b27⟩,⟨F28,Z0f X G nR,b28⟩,⟨F29,Z0f X G nT,b29⟩,⟨F30,Z0f X G nV,b30⟩,⟨F31,Z0f X G nX,b31⟩,⟨F32,Z0f X G nZ,b32⟩,⟨F33,Z0f X G oB,b33⟩,⟨F34,Z0f X G oD,b34⟩,⟨F35,Z0f X G oF,b35⟩,⟨F36,Z0f X G oH,b36⟩,⟨F37,Z0f X G oJ,b37⟩,⟨F38,Z0f X G oL,b38⟩,⟨F39,Z0f X G oN,b39⟩,⟨F40,Z0f X G oP,b40⟩,⟨F41,Z0f X G oR,b41⟩,⟨F42,Z0f X G oT,b42⟩,⟨F43,Z0f X G oV,b43⟩,⟨F44,Z0f X G oX,b44⟩,⟨F45,Z0f X G oZ,b45⟩,⟨F46,Z0f X G pB,b46⟩,⟨F47,Z0f X G pD,b47⟩,⟨F48,Z0f X G pF,b48⟩,⟨F49,Z0f X G pH,b49⟩,⟨F50,Z0f X G pJ,b50⟩,⟨F51,Z0f X G pL,b51⟩,⟨F52,Z0f X G pN,b52⟩,⟨F53,Z0f X G pP,b53⟩,⟨F54,Z0f X G pR,b54⟩,⟨F55,Z0f X G pT,b55⟩,⟨F56,Z0f X G pV,b56⟩,⟨F57,Z0f X G pX,b57⟩,⟨F58,Z0f X G pZ,b58⟩,⟨F59,Z0f X G qB,b59⟩,⟨F60,Z0f X G qD,b60⟩,⟨F61,Z0f X G qF,b61⟩,⟨F62,Z0f X G qH,b62⟩,⟨F63,Z0f X G qJ,b63⟩,⟨F64,Z0f X G qL,b64⟩,⟨F65,Z0f X G qN,b65⟩,⟨F66,Z0f X G qP,b66⟩,⟨F67,Z0f X G qR,b67⟩,⟨F68,Z0f X G qT,b68⟩,⟨F69,Z0f X G qV,b69⟩,⟨F70,Z0f X G mG,b70⟩,⟨_,Z0f X G cW,⟨_,rfl⟩⟩,⟨_,Z0f X G fI,⟨_,rfl⟩⟩,⟨_,Z0f X G bW,rfl⟩,⟨_,_,_,bX,rfl,rfl,(by show 2<=sizeLine;decide),.cons ⟨_,rfl⟩ (.cons ⟨_,rfl⟩ (.nil))⟩,⟨_,Z0f X G fJ,⟨_,rfl⟩⟩,Z0f X G fH,Z0f X G fG,Z0f X G hZ,Z0f X G gV,Z0f X G iA,Z0f X G gW,⟨fK,fL⟩,⟨bH,bI,aK,aZ⟩,⟨bH,bI,aK,aO⟩,⟨bH,bI,aK,bA⟩,⟨bH,bI,aK,bB⟩,⟨iC,iD⟩,⟨dJ,dK,aY,bY⟩,⟨dJ,dK,aY,bQ⟩,⟨dJ,dK,aY,bZ⟩,⟨dJ,dK,aY,cA⟩,⟨⟨aP,aQ,aR,aS,aT,aU,aV⟩,aK,aZ⟩,⟨⟨aP,aQ,aR,aS,aT,aU,aV⟩,aK,aO⟩,⟨⟨aP,aQ,aR,aS,aT,aU,aV⟩,aK,bA⟩,⟨⟨aP,aQ,aR,aS,aT,aU,aV⟩,aK,bB⟩,⟨⟨cG,cH,cI,cJ,cK,cL,cM⟩,aY,bY⟩,⟨⟨cG,cH,cI,cJ,cK,cL,cM⟩,aY,bQ⟩,⟨⟨cG,cH,cI,cJ,cK,cL,cM⟩,aY,bZ⟩,⟨⟨cG,cH,cI,cJ,cK,cL,cM⟩,aY,cA⟩,aN,bD,iE,gY,gZ,⟨hA,hB,hC,hD,hE,hF,hG⟩,A0y bF bJ bK bE,A0y cC fE fF cB,⟨aP,aQ,aR,aS,aT,aU,aV⟩,A0y bG bR bS aL,A0y bM fE fF bL,A6v dG dH aW,⟨cG,cH,cI,cJ,cK,cL,cM⟩,A0y cD bR bS bC,A0y bN bJ bK aM,A6v dG dH bO,B5k dL bR bS bT,B5k dL bR bS aL,B5k dI bJ bK aX,B5k dL bR bS bC,B5k dI bJ bK aM,B5k iF fE fF cN,Z0f X G iB,Z0f X G iR,Z0f X G jY,Z0f X G jZ,Z0f X G iS,Z0f X G kX,Z0f X G iT,Z0f X G kA,Z0f X G kY,Z0f X G gX,⟨iU,iV,iW,iX⟩,⟨iY,jA,mI,iZ⟩,eI,fM,eJ,dM,dN,⟨cO,mK,k11⟩,⟨jB,jC,jD,jE⟩,A6v cS cT dO,A0y eL eE eF eK,A0y eN eG eH eM,A0y fO gF gG fN,A0y dQ cU cV dP,⟨kZ,lA,lB,lC⟩,⟨lD,lF,nA,lE⟩,gH,gI,gJ,⟨lG,jC,jD,lH⟩,gK,fP,gL,⟨jF,jG,jH,jI⟩,⟨jJ,jL,i8,jK⟩,eO,dR,⟨jM,jC,jD,jN⟩,A0y dT cS cT dS,A6v eE eF eP,A0y eR eG eH eQ,A0y fR gF gG fQ,A0y dV cU cV dU,⟨iG,iH,iI,iJ⟩,⟨iK,iM,i3,iL⟩,cP,⟨iN,jC,jD,iO⟩,A0y cY cS cT cX,A0y dX eE eF dW,A0y dZ eG eH dY,A0y eT gF gG eS,A0y dA cU cV cZ,⟨kB,kC,kD,kE⟩,⟨kF,kH,mM,kG⟩,fS,fT,eA,⟨kI,jC,jD,kJ⟩,⟨jO,jP,jQ,jR⟩,⟨jS,jU,i4,jT⟩,eU,⟨jV,jC,jD,jW⟩,A0y eC cS cT eB,A0y eW eE eF eV,A0y eY eG eH eX,A0y fV gF gG fU,A6v cU cV eD,⟨hH,hI,hJ,hK⟩,⟨hL,hN,nC,hM⟩,cQ,dB,cE,dC,dD,⟨hO,jC,jD,hP⟩,⟨kK,kL,kM,kN⟩,⟨kO,kQ,i5,kP⟩,eZ,dE,⟨dF,i6,k6⟩,⟨kR,jC,jD,kS⟩,A0y fB cS cT fA,A0y fX eE eF fW,A6v eG eH fY,A0y gN gF gG gM,A0y fD cU cV fC,⟨lI,lJ,lK,lL⟩,⟨lM,lO,i9,lN⟩,gO,gP,⟨lP,jC,jD,lQ⟩,A0y gA cS cT fZ,A0y gR eE eF gQ,A0y gT eG eH gS,A6v gF gG hQ,A0y gC cU cV gB,Z1c X G gD,Z1c X G lR,Z1c X G kT,Z1c X G lS,Z1c X G kU,Z1c X G gU,Z1c X G lV,Z1c X G lW,Z1c X G lX,Z1c X G lY,Z1c X G hR,Z1c X G lT,Z1c X G gE⟩⟩
theorem walk {l:PySem.W.OpenLaw} {q:Program} {loose:List Str} {XP:(Str->Option Value)->Heap->Prop} {YP:World->Heap->Prop} {d:DefRec} {K:Params->Frag} (hn:l.most=some 63) (hdf:d.params.defaults=[])
  (hY:∀(w:World) (h:Heap),YP w h->(K w.params).In h)
  (F:∀(w:World) (mg:Str->Option Value) (fa:Addr) (h:Heap),(K w.params).In h->h.Ns mainGlobals mg->mg d.name=some (.ref fa)->
   ∃fd:FuncData,(∀(s:Shared) (u:Value),BindsTo s fd ⟨[u],[]⟩ [("_law_script",u)])/\∀base:Heap,(K w.params).In base->base.Ns mainGlobals mg->A4m l.prog w (K w.params) mg base CX0 19 fa fd ["_law_script"] (C9e (K w.params))) :
  PySem.W.WalkO q loose XP YP l.row.toRowW d [] (λf vs=>PySem.call f vs) :=
 L2.D5m (n:=63) (k:=19) (x:="_law_script") (CX:=λ_=>CX0) (sp:=λw=>C9e (K w.params)) hn (by decide) hdf ⟨rfl,by decide,by decide,rfl⟩ hY F (λ_ _ a ns hl _ hS=>⟨a,ns,rfl,hS,hl,λ_=>rfl⟩) λ_ _ _ _ _ z=>z
end My
local macro_rules | `(tactic| walk_at "kf") => `(tactic| (refine' My.D7z ?l ?c ?k; (case l => k_is); (case c => k_is); (case k => k_is)))
open PySem PySem.W PyProof.Rows
set_option maxRecDepth 100000 in
set_option maxHeartbeats 0 in
theorem PySem.Challenge.cw_arrayloom_k16_not_yet_holds : PySem.Challenge.rw_arrayloom_k16_not_yet.Holds := by
 w_on;o_law;k_head;(case hw=>w_witness2)
 k_fill
 refine My.walk (l:=PySem.Challenge.rw_arrayloom_k16_not_yet) rfl rfl (λw h Y=>PySem.W.kIn_of Y) ?F
 case F =>
  intro w mg fa h KX G hmg;refine' My.D7y KX G hmg ?fG ?hZ ?gV ?gW ?fH ?iA ?lU ?iB ?iR ?jY ?jZ ?iS ?kX ?iT ?kA ?kY ?gX ?a0 ?l0 ?i0 ?a1 ?l1 ?i1 ?a2 ?l2 ?a3 ?l3 ?i3 ?a4 ?l4 ?i4 ?a5 ?l5 ?i5 ?a6 ?l6 ?i6 ?a7 ?l7 ?a8 ?l8 ?i8 ?a9 ?l9 ?i9 ?tA ?mH ?mI ?tB ?mJ ?mK ?tC ?mL ?mM ?mN ?mO ?mP ?mQ ?mR ?mS ?mT ?mU ?mV ?mW ?mX ?mY ?tD ?mZ ?nA ?tE ?nB ?nC ?nD ?nE ?nF ?nG ?nH ?nI ?nJ ?nK ?nL ?nM ?nN ?nO ?nP ?nQ ?nR ?nS ?nT ?nU ?nV ?nW ?nX ?nY ?nZ ?oA ?oB ?oC ?oD ?oE ?oF ?oG ?oH ?oI ?oJ ?oK ?oL ?oM ?oN ?oO ?oP ?oQ ?oR ?oS ?oT ?oU ?oV ?oW ?oX ?oY ?oZ ?pA ?pB ?pC ?pD ?pE ?pF ?pG ?pH ?pI ?pJ ?pK ?pL ?pM ?pN ?pO ?pP ?pQ ?pR ?pS ?pT ?pU ?pV ?pW ?pX ?pY ?pZ ?qA ?qB ?qC ?qD ?qE ?qF ?qG ?qH ?qI ?qJ ?qK ?qL ?qM ?qN ?qO ?qP ?qQ ?qR ?qS ?qT ?qU ?qV ?qW ?mG ?mA ?cW ?fI ?bW ?bX ?fJ ?fK ?fL ?bH ?bI ?aK ?aZ ?aO ?bA ?bB ?iC ?iD ?dJ ?dK ?aY ?bY ?bQ ?bZ ?cA ?aN ?bD ?iE ?gY ?gZ ?hA ?hB ?hC ?hD ?hE ?hF ?hG ?bJ ?bK ?bE ?bF ?fE ?fF ?cB ?cC ?aP ?aQ ?aR ?aS ?aT ?aU ?aV ?bR ?bS ?aL ?bG ?bL ?bM ?dG ?dH ?aW ?cG ?cH ?cI ?cJ ?cK ?cL ?cM ?bC ?cD ?aM ?bN ?bO ?bT ?dL ?aX ?dI ?cN ?iF ?iU ?iV ?iW ?iX ?iY ?iZ ?jA ?eI ?fM ?eJ ?dM ?dN ?cO ?jB ?jC ?jD ?jE ?cS ?cT ?dO ?eE ?eF ?eK ?eL ?eG ?eH ?eM ?eN ?gF ?gG ?fN ?fO ?cU ?cV ?dP ?dQ ?kZ ?lA ?lB ?lC ?lD ?lE ?lF ?gH ?gI ?gJ ?lG ?lH ?gK ?fP ?gL ?jF ?jG ?jH ?jI ?jJ ?jK ?jL ?eO ?dR ?jM ?jN ?dS ?dT ?eP ?eQ ?eR ?fQ ?fR ?dU ?dV ?iG ?iH ?iI ?iJ ?iK ?iL ?iM ?cP ?iN ?iO ?cX ?cY ?dW ?dX ?dY ?dZ ?eS ?eT ?cZ ?dA ?kB ?kC ?kD ?kE ?kF ?kG ?kH ?fS ?fT ?eA ?kI ?kJ ?jO ?jP ?jQ ?jR ?jS ?jT ?jU ?eU ?jV ?jW ?eB ?eC ?eV ?eW ?eX ?eY ?fU ?fV ?eD ?hH ?hI ?hJ ?hK ?hL ?hM ?hN ?cQ ?dB ?cE ?dC ?dD ?hO ?hP ?kK ?kL ?kM ?kN ?kO ?kP ?kQ ?eZ ?dE ?dF ?kR ?kS ?fA ?fB ?fW ?fX ?fY ?gM ?gN ?fC ?fD ?lI ?lJ ?lK ?lL ?lM ?lN ?lO ?gO ?gP ?lP ?lQ ?fZ ?gA ?gQ ?gR ?gS ?gT ?hQ ?gB ?gC ?gD ?lR ?kT ?lS ?kU ?gU ?lV ?lW ?lX ?lY ?hR ?lT ?gE
  (case fG | hZ | gV | gW | fH | iA | lU | iB | iR | jY | jZ=>k_is)
  (case iS | kX | iT | kA | kY | gX=>k_is)
  (case a0=>k_is);(case l0=>walk_at "kf")
  (case i0=>k_is)
  (case a1=>k_is);(case l1=>walk_at "kf")
  (case i1=>k_is)
  (case a2=>k_is);(case l2=>walk_at "kf")
  (case a3=>k_is);(case l3=>walk_at "kf")
  (case i3=>k_is)
  (case a4=>k_is);(case l4=>walk_at "kf")
  (case i4=>k_is)
  (case a5=>k_is);(case l5=>walk_at "kf")
  (case i5=>k_is)
  (case a6=>k_is);(case l6=>walk_at "kf")
  (case i6=>k_is)
  (case a7=>k_is);(case l7=>walk_at "kf")
  (case a8=>k_is);(case l8=>walk_at "kf")
  (case i8=>k_is)
  (case a9=>k_is);(case l9=>walk_at "kf")
  (case i9=>k_is)
  (case tA=>k_is);(case mH=>walk_at "kf")
  (case mI=>k_is)
  (case tB=>k_is);(case mJ=>walk_at "kf")
  (case mK=>k_is)
  (case tC=>k_is);(case mL=>walk_at "kf")
  (case mM=>k_is)
  (case mN=>k_is);(case mO=>walk_at "kf")
  (case mP=>k_is);(case mQ=>walk_at "kf")
  (case mR=>k_is);(case mS=>walk_at "kf")
  (case mT=>k_is);(case mU=>walk_at "kf")
  (case mV=>k_is);(case mW=>walk_at "kf")
  (case mX=>k_is);(case mY=>walk_at "kf")
  (case tD=>k_is);(case mZ=>walk_at "kf")
  (case nA=>k_is)
  (case tE=>k_is);(case nB=>walk_at "kf")
  (case nC=>k_is)
  (case nD=>k_is);(case nE=>walk_at "kf")
  (case nF=>k_is);(case nG=>walk_at "kf")
  (case nH=>k_is);(case nI=>walk_at "kf")
  (case nJ=>k_is);(case nK=>walk_at "kf")
  (case nL=>k_is);(case nM=>walk_at "kf")
  (case nN=>k_is);(case nO=>walk_at "kf")
  (case nP=>k_is);(case nQ=>walk_at "kf")
  (case nR=>k_is);(case nS=>walk_at "kf")
  (case nT=>k_is);(case nU=>walk_at "kf")
  (case nV=>k_is);(case nW=>walk_at "kf")
  (case nX=>k_is);(case nY=>walk_at "kf")
  (case nZ=>k_is);(case oA=>walk_at "kf")
  (case oB=>k_is);(case oC=>walk_at "kf")
  (case oD=>k_is);(case oE=>walk_at "kf")
  (case oF=>k_is);(case oG=>walk_at "kf")
  (case oH=>k_is);(case oI=>walk_at "kf")
  (case oJ=>k_is);(case oK=>walk_at "kf")
  (case oL=>k_is);(case oM=>walk_at "kf")
  (case oN=>k_is);(case oO=>walk_at "kf")
  (case oP=>k_is);(case oQ=>walk_at "kf")
  (case oR=>k_is);(case oS=>walk_at "kf")
  (case oT=>k_is);(case oU=>walk_at "kf")
  (case oV=>k_is);(case oW=>walk_at "kf")
  (case oX=>k_is);(case oY=>walk_at "kf")
  (case oZ=>k_is);(case pA=>walk_at "kf")
  (case pB=>k_is);(case pC=>walk_at "kf")
  (case pD=>k_is);(case pE=>walk_at "kf")
  (case pF=>k_is);(case pG=>walk_at "kf")
  (case pH=>k_is);(case pI=>walk_at "kf")
  (case pJ=>k_is);(case pK=>walk_at "kf")
  (case pL=>k_is);(case pM=>walk_at "kf")
  (case pN=>k_is);(case pO=>walk_at "kf")
  (case pP=>k_is);(case pQ=>walk_at "kf")
  (case pR=>k_is);(case pS=>walk_at "kf")
  (case pT=>k_is);(case pU=>walk_at "kf")
  (case pV=>k_is);(case pW=>walk_at "kf")
  (case pX=>k_is);(case pY=>walk_at "kf")
  (case pZ=>k_is);(case qA=>walk_at "kf")
  (case qB=>k_is);(case qC=>walk_at "kf")
  (case qD=>k_is);(case qE=>walk_at "kf")
  (case qF=>k_is);(case qG=>walk_at "kf")
  (case qH=>k_is);(case qI=>walk_at "kf")
  (case qJ=>k_is);(case qK=>walk_at "kf")
  (case qL=>k_is);(case qM=>walk_at "kf")
  (case qN=>k_is);(case qO=>walk_at "kf")
  (case qP=>k_is);(case qQ=>walk_at "kf")
  (case qR=>k_is);(case qS=>walk_at "kf")
  (case qT=>k_is);(case qU=>walk_at "kf")
  (case qV=>k_is);(case qW=>walk_at "kf")
  (case mG=>k_is);(case mA=>walk_at "kf")
  (case cW | fI | bW | bX | fJ=>k_is)
  (case fK=>first | kernel_rfl | rfl | decide | k_is)
  (case fL | bH=>k_is)
  (case bI | aK=>first | kernel_rfl | rfl | decide | k_is)
  (case aZ | aO | bA | bB=>k_is)
  (case iC=>first | kernel_rfl | rfl | decide | k_is)
  (case iD | dJ=>k_is)
  (case dK | aY=>first | kernel_rfl | rfl | decide | k_is)
  (case bY | bQ | bZ | cA | aN | bD=>k_is)
  (case iE | gY | gZ=>k_exc)
  (case hA | hB | hC | hD | hE | hF | hG | bJ | bK | bE=>k_is)
  (case bF=>first | rfl | decide)
  (case fE | fF | cB=>k_is)
  (case cC=>first | rfl | decide)
  (case aP | aQ | aR | aS | aT | aU | aV | bR | bS | aL=>k_is)
  (case bG=>first | rfl | decide)
  (case bL=>k_is)
  (case bM=>first | rfl | decide)
  (case dG | dH | aW | cG | cH | cI | cJ | cK | cL | cM | bC=>k_is)
  (case cD=>first | rfl | decide)
  (case aM=>k_is)
  (case bN=>first | rfl | decide)
  (case bO | bT | dL | aX | dI | cN | iF | iU | iV | iW | iX=>k_is)
  (case iY | iZ | jA | eI | fM | eJ | dM | dN | cO | jB | jC=>k_is)
  (case jD | jE | cS | cT | dO | eE | eF | eK=>k_is)
  (case eL=>first | rfl | decide)
  (case eG | eH | eM=>k_is)
  (case eN=>first | rfl | decide)
  (case gF | gG | fN=>k_is)
  (case fO=>first | rfl | decide)
  (case cU | cV | dP=>k_is)
  (case dQ=>first | rfl | decide)
  (case kZ | lA | lB | lC | lD | lE | lF | gH | gI | gJ | lG=>k_is)
  (case lH | gK | fP | gL | jF | jG | jH | jI | jJ | jK | jL=>k_is)
  (case eO | dR | jM | jN | dS=>k_is)
  (case dT=>first | rfl | decide)
  (case eP | eQ=>k_is)
  (case eR=>first | rfl | decide)
  (case fQ=>k_is)
  (case fR=>first | rfl | decide)
  (case dU=>k_is)
  (case dV=>first | rfl | decide)
  (case iG | iH | iI | iJ | iK | iL | iM | cP | iN | iO | cX=>k_is)
  (case cY=>first | rfl | decide)
  (case dW=>k_is)
  (case dX=>first | rfl | decide)
  (case dY=>k_is)
  (case dZ=>first | rfl | decide)
  (case eS=>k_is)
  (case eT=>first | rfl | decide)
  (case cZ=>k_is)
  (case dA=>first | rfl | decide)
  (case kB | kC | kD | kE | kF | kG | kH | fS | fT | eA | kI=>k_is)
  (case kJ | jO | jP | jQ | jR | jS | jT | jU | eU | jV | jW=>k_is)
  (case eB=>k_is)
  (case eC=>first | rfl | decide)
  (case eV=>k_is)
  (case eW=>first | rfl | decide)
  (case eX=>k_is)
  (case eY=>first | rfl | decide)
  (case fU=>k_is)
  (case fV=>first | rfl | decide)
  (case eD | hH | hI | hJ | hK | hL | hM | hN | cQ | dB | cE=>k_is)
  (case dC | dD | hO | hP | kK | kL | kM | kN | kO | kP | kQ=>k_is)
  (case eZ | dE | dF | kR | kS | fA=>k_is)
  (case fB=>first | rfl | decide)
  (case fW=>k_is)
  (case fX=>first | rfl | decide)
  (case fY | gM=>k_is)
  (case gN=>first | rfl | decide)
  (case fC=>k_is)
  (case fD=>first | rfl | decide)
  (case lI | lJ | lK | lL | lM | lN | lO | gO | gP | lP | lQ=>k_is)
  (case fZ=>k_is)
  (case gA=>first | rfl | decide)
  (case gQ=>k_is)
  (case gR=>first | rfl | decide)
  (case gS=>k_is)
  (case gT=>first | rfl | decide)
  (case hQ | gB=>k_is)
  (case gC=>first | rfl | decide)
  (case gD | lR | kT | lS | kU | gU | lV | lW | lX | lY | hR=>k_is)
  (case lT | gE=>k_is)
