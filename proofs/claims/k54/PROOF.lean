import PyProof.Rows.All
import Wide.All
import OpenK.AllK
import Wide.FinOn
import Lean
import PyProof.EqAt
import PyProof.EqKinds
import PyProof.TupleCall
import KE.KDictLaws
import KE.KDictList
import KE.KDictOf
import KE.KEqDict
import KE.KIntText
import KE.KTabLook
import KE.KTryMore
import KE.KUnpack
import PyProof.AttrMissHeap
import PyProof.CompUse
import PyProof.ConsumeWalk
import PyProof.Conv_int_bool
import PyProof.DictItems
import PyProof.DictValues
import PyProof.DictWalks
import PyProof.Draws
import PyProof.EnumFor
import PyProof.EnumMake
import PyProof.EnumStmt
import PyProof.ExcClass3
import PyProof.ExcInit
import PyProof.FString5
import PyProof.FactsAll.set
import PyProof.FactsAll.subtypes_5
import PyProof.FactsAll.zip
import PyProof.NeKinds
import PyProof.P3Eq
import PyProof.RangeIter
import PyProof.Rows.SetFrom
import PyProof.Rows.StrNews
import PyProof.SetRoads
import PyProof.StrWalks
import PyProof.SumAny
import PyProof.TupleKey
import PyProof.Walks
import PySem.Challenge.RW_arrayloom_k54_rows_of_moves
set_option Elab.async false
set_option bootstrap.genMatcherCode false
set_option linter.all false
set_option maxRecDepth 100000
set_option maxHeartbeats 4000000
section
open PySem PySem.Spec PyProof.Rows PySem.Calls
abbrev Z00:=@wpAny_bind
abbrev Z01:=@Heap.get?_push_of_some
abbrev Z02:=@List.mem_append_right
abbrev Z03:=@List.getElem?_eq_some_iff
abbrev Z04:=@wpAny_pure
abbrev Z05:=@List.mem_append_left
abbrev Z06:=@List.length_append
abbrev Z07:=@List.mem_append
abbrev Z08:=@List.length_map
abbrev Z09:=@Nat.le_refl
abbrev Z0a:=@Heap.lt_size
abbrev Z0b:=@List.getElem?_eq_getElem
abbrev Z0c:=@Heap.get?_push_size
abbrev Z0d:=@PyProof.Rows.boot_isinstance
abbrev Z0e:=@List.mem_cons
abbrev Z0f:=@PySem.W.mg_of
abbrev Z0g:=@List.size_toArray
abbrev Z0h:=@Nat.ne_of_lt
abbrev Z0i:=@Option.map_eq_some_iff
abbrev Z0j:=@List.length_singleton
abbrev Z0k:=@PySem.F.plainAttrs_list
abbrev Z0l:=@List.nodup_append
abbrev Z0m:=@PyProof.Rows.boot_tuple
abbrev Z0n:=@PySem.F.slot_list_append
abbrev Z0o:=@PySem.F.type_list_append
abbrev Z0p:=@List.map_cons
abbrev Z0q:=@Nat.lt_of_lt_of_le
abbrev Z0r:=@PySem.boot_len
abbrev Z0s:=@List.map_append
abbrev Z0t:=@if_neg
abbrev Z0u:=@List.append_nil
abbrev Z0v:=@Bool.false_ne_true
abbrev Z0w:=@List.mem_singleton
abbrev Z0x:=@List.length_take
abbrev Z0y:=@List.length_cons
abbrev Z0z:=@List.append_assoc
abbrev Z10:=@wpAny_mono
abbrev Z11:=@wpAny_field
abbrev Z12:=@if_pos
abbrev Z13:=@List.mem_of_getElem?
abbrev Z14:=@List.take_add_one
abbrev Z15:=@List.nodup_cons
abbrev Z16:=@wpAny_newObj_type
abbrev Z17:=@List.cons_append
abbrev Z18:=@List.take_length
abbrev Z19:=@List.length_drop
abbrev Z1a:=@Option.some.inj
abbrev Z1b:=@wpAny_callSpecial?_slot
abbrev Z1c:=@PySem.W.mg_none_of
abbrev Z1d:=@Heap.get?_update_other
abbrev Z1e:=@Nat.zero_le
abbrev Z1f:=@List.mem_cons_of_mem
abbrev Z1g:=@wpAny_call_entry
abbrev Z1h:=@wpAny_setField_rec
abbrev Z1i:=@List.not_mem_nil
abbrev Z1j:=@decide_eq_false
abbrev Z1k:=@wpAny_loadPart_at
abbrev Z1l:=@List.getElem?_append_right
abbrev Z1m:=@Array.getElem?_eq_some_iff
abbrev Z1n:=@Nat.le_trans
abbrev Z1o:=@PyProof.Rows.boot_list
abbrev Z1p:=@Int.emod_lt_of_pos
abbrev Z1q:=@Nat.ne_of_gt
abbrev Z1r:=@Heap.get?_update_self
abbrev Z1s:=@Heap.size_push
abbrev Z1t:=@wpAny_setField
abbrev Z1u:=@List.drop_eq_getElem_cons
abbrev Z1v:=@Int.emod_nonneg
abbrev Z1w:=@wpAny_holding
abbrev Z1x:=@Bool.and_eq_true
abbrev Z1y:=@wpAny_standAt
abbrev Z1z:=@List.getElem?_map
abbrev Z20:=@decide_eq_true
abbrev Z21:=@wpAny_seqItems
abbrev Z22:=@beq_eq_false_iff_ne
abbrev Z23:=@List.getElem?_set_self
abbrev Z24:=@List.drop_of_length_le
abbrev Z25:=@Array.getElem?_setIfInBounds_ne
abbrev Z26:=@List.getElem?_append_left
abbrev Z27:=@List.mem_cons_self
abbrev Z28:=@List.lookup_cons
abbrev Z29:=@Int.mul_le_mul_of_nonneg_left
abbrev Z2a:=@List.getElem?_set_ne
abbrev Z2b:=@wpAny_execs_nil
abbrev Z2c:=@List.mem_map
abbrev Z2e:=@List.take_append_drop
end
noncomputable section
namespace L2
open PySem PySem.Spec PyProof.Rows
abbrev Key:=Sum Int Str
noncomputable def C0v:Key->Value->Bool
 | .inl k,v=>Value.isInt k v
 | .inr x,v=>Value.isStrOf x v
noncomputable def keyH (w:World):Key->Int
 | .inl k=>hashInt k
 | .inr x=>hashStr w x
theorem A2n:∀{k:Key} {v:Value},C0v k v=true->(∃i t,k=Sum.inl i/\v=Value.int i t)\/(∃x t,k=Sum.inr x/\v=Value.str x t)
 | .inl i,v,h=>by
  obtain ⟨t,e⟩:=Value.isInt_shape (k:=i) (v:=v) h;exact .inl ⟨i,t,rfl,e⟩
 | .inr x,v,h=>by
  obtain ⟨t,e⟩:=Value.isStrOf_shape (x:=x) (v:=v) h;exact .inr ⟨x,t,rfl,e⟩
theorem C8i (i:Int) (t:Tok):C0v (.inl i) (.int i t)=true:=by simp [C0v,Value.isInt]
theorem C7z (x:Str) (t:Tok):C0v (.inr x) (.str x t)=true:=by simp [C0v,Value.isStrOf]
theorem D4z (a b:Int):decide ((Sum.inl a:Key)=Sum.inl b)=(a == b):=by
 by_cases e:a=b
 ·subst e;simp
 ·have h:¬(Sum.inl a:Key)=Sum.inl b:=λq=>e (Sum.inl.inj q);rw [Z1j h];exact (Z22.mpr e).symm
theorem D5z (a b:Str):decide ((Sum.inr a:Key)=Sum.inr b)=decide (a=b):=by
 by_cases e:a=b
 ·subst e;simp
 ·have h:¬(Sum.inr a:Key)=Sum.inr b:=λq=>e (Sum.inr.inj q);rw [Z1j h,Z1j e]
theorem D5e (a:Int) (b:Str):decide ((Sum.inl a:Key)=Sum.inr b)=false:=Z1j (λq=>nomatch q)
theorem D5o (a:Str) (b:Int):decide ((Sum.inr a:Key)=Sum.inl b)=false:=Z1j (λq=>nomatch q)
noncomputable def A2t (prog:Program) (w:World):PySem.KeyKind prog w Key where
 is:=C0v
 hash:=keyH w
 inj:=λv a b ha hb=>by
  rcases A2n ha with ⟨i,t,rfl,rfl⟩ | ⟨x,t,rfl,rfl⟩
  ·rcases A2n hb with ⟨j,u,rfl,e⟩ | ⟨y,u,rfl,e⟩
   ·injection e with e1 _;rw [e1]
   ·exact nomatch e
  ·rcases A2n hb with ⟨j,u,rfl,e⟩ | ⟨y,u,rfl,e⟩
   ·exact nomatch e
   ·injection e with e1 _;rw [e1]
 byValue:=λk v h=>by
  rcases A2n h with ⟨i,t,rfl,rfl⟩ | ⟨x,t,rfl,rfl⟩ <;> rfl
 pyHash:=λhv h=>by
  rcases A2n hv with ⟨i,t,rfl,rfl⟩ | ⟨x,t,rfl,rfl⟩
  ·exact wpAny_pyHash_int h
  ·exact wpAny_pyHash_str h
 eqBool:=λhu hv h=>by
  rcases A2n hu with ⟨i,t,rfl,rfl⟩ | ⟨x,t,rfl,rfl⟩
  ·rcases A2n hv with ⟨j,u,rfl,rfl⟩ | ⟨y,u,rfl,rfl⟩
   ·rw [D4z] at h;exact wpAny_eqBool_int h
   ·rw [D5e] at h;exact SeqAt.EqAt.int_str i t y u _ _ _ _ h
  ·rcases A2n hv with ⟨j,u,rfl,rfl⟩ | ⟨y,u,rfl,rfl⟩
   ·rw [D5o] at h;exact SeqAt.EqAt.str_int x t j u _ _ _ _ h
   ·rw [D5z] at h;exact wpAny_eqBool_str h
 «strs»:=λk x t v h=>by
  rcases A2n h with ⟨i,u,rfl,e⟩ | ⟨y,u,rfl,e⟩
  ·exact nomatch e
  ·injection e with e1 _;subst e1;cases v <;> rfl
theorem C0t (prog:Program) (w:World) (i:Int) (t:Tok):(A2t prog w).is (.inl i) (.int i t)=true:=C8i i t
theorem C0f (prog:Program) (w:World) (x:Str) (t:Tok):(A2t prog w).is (.inr x) (.str x t)=true:=C7z x t
inductive V where
 | non | bl (b:Bool) | int (i:Int) | str (x:Str) | byt (b:Array UInt8) | flt (b:UInt64) | ref (a:Addr) | ty (n:String)
 deriving DecidableEq
noncomputable def A3a:V->Value->Prop
 | .non,u=>u=Value.none
 | .bl b,u=>u=Value.bool b
 | .int i,u=>∃t,u=Value.int i t
 | .str x,u=>∃t,u=Value.str x t
 | .byt b,u=>∃t,u=Value.bytes b t
 | .flt b,u=>∃t,u=Value.float b t
 | .ref a,u=>u=Value.ref a
 | .ty n,u=>u=Value.type n
abbrev A2v:List V->List Value->Prop:=Paired A3a
theorem A2v.length {xs:List V} {us:List Value} (r:A2v xs us):xs.length=us.length:=Paired.length r
theorem A2v.get:∀{xs:List V} {us:List Value} {i:Nat} {x:V},A2v xs us->xs[i]? =some x->∃u,us[i]? =some u/\A3a x u
 | _,_,_,_,.nil,e=>by simp at e
 | _,_,0,_,.cons r _,e=>by simp at e;subst e;exact ⟨_,rfl,r⟩
 | _,_,i+1,x,.cons _ t,e=>by
  obtain ⟨u,h1,h2⟩:=A2v.get (i:=i) (x:=x) t (by simpa using e);exact ⟨u,by simpa using h1,h2⟩
theorem A2v.append:∀{xs ys:List V} {us ws:List Value},A2v xs us->A2v ys ws->A2v (xs++ys) (us++ws)
 | _,_,_,_,.nil,s=>s
 | _,_,_,_,.cons r t,s=> .cons r (A2v.append t s)
theorem A2v.take:∀{xs:List V} {us:List Value} (n:Nat),A2v xs us->A2v (xs.take n) (us.take n)
 | _,_,0,_=> .nil
 | _,_,_+1,.nil=> .nil
 | _,_,n+1,.cons r t=> .cons r (A2v.take n t)
theorem A2v.drop:∀{xs:List V} {us:List Value} (n:Nat),A2v xs us->A2v (xs.drop n) (us.drop n)
 | _,_,0,r=>r
 | _,_,_+1,.nil=> .nil
 | _,_,n+1,.cons _ t=>A2v.drop n t
noncomputable def B9b:Option V->Option Value->Prop
 | some v,some u=>A3a v u
 | none,none=>True
 | _,_=>False
noncomputable def KV {κ:Type}:List (κ×V)->List (κ×Value)->Prop:=Paired λ(p:κ×V) (q:κ×Value)=>p.1=q.1/\A3a p.2 q.2
noncomputable def kV:Key->V
 | .inl i=> .int i
 | .inr x=> .str x
inductive HO where
 | lst (xs:List V)
 | tup (xs:List V)
 | dK (kvs:List (Key×V)) | dT (kvs:List (List Key×V))
 | set (S:Int->Bool) (n:Nat)
 | ins (C dx:Addr) (fs:List (Str×V))
 | own (x:Addr)
 | xd (fs:List (Str×V))
 | met (f x:Addr)
 | rng (lo hi:Int)
 | frz (o:Obj) (u:HO)
 | tbl (ps:Array Value)
 | ext (φ:Heap->Prop)
abbrev Hp:=Addr->Option HO
noncomputable def upd (H:Hp) (a:Addr) (o:HO):Hp:=λb=>if b=a then some o else H b
theorem A0b {H:Hp} {a:Addr} {o:HO}:upd H a o a=some o:=by unfold upd;rw [Z12 rfl]
theorem A0l {H:Hp} {a b:Addr} {o:HO} (h:b≠a):upd H a o b=H b:=by unfold upd;rw [Z0t h]
theorem B5g {H:Hp} {a:Addr} {o u:HO}:upd (upd H a o) a u=upd H a u:=by
 funext b;unfold upd;split <;> rfl
theorem A7s {H:Hp} {a b:Addr} {o u:HO} (h:H a=some o) (h':H b=some u) (d:o≠u):a≠b:=by
 intro e;subst e;rw [h] at h';exact d (Z1a h')
theorem A0t {H:Hp} {a b:Addr} {o:HO} (h:H a=some o) (h':H b=none):a≠b:=by
 intro e;subst e;rw [h] at h';cases h'
section
variable (P:Program) (w:World)
noncomputable def A1v (H:Hp) (h:Heap) (a:Addr):HO->Prop
 | .lst xs=>xs.length<=sizeLine/\∃(its:List Value) (n:Nat),A2v xs its/\h.get? a=some { cls:= .type "list",data:= .seq its.toArray n }
 | .tup xs=>xs.length<=sizeLine/\∃its:List Value,A2v xs its/\IsTup h a its.toArray
 | .dK kvs=>kvs.length<=sizeLine/\(a == sysModules)=false/\∃vs,KV kvs vs/\h.DictOf (A2t P w) a vs
 | .dT kvs=>kvs.length<=sizeLine/\(a == sysModules)=false/\∃xs:List (List Key×Addr×Value),
   Paired (λ(p:List Key×V) (q:List Key×Addr×Value)=>p.1=q.1/\H q.2.1=some (.tup (p.1.map kV))/\A3a p.2 q.2.2) kvs xs/\
   ∃o es ep,h.get? a=some o/\o.ExactDict/\o.data= .dict es ep/\es.toList=xs.map (entryOfKey (tupleKind (A2t P w)))/\(xs.map (·.1)).Nodup
 | .set S n=>h.SetOf (intKind P w) a S n
 | .ins C dx fs=>H dx=some (.own a)/\fs.length<=1000/\dx≠a/\h.get? a=some (PySem.W.instObj C dx)/\
   ∃mA,h.Ns1 dx mA/\(∀f,B9b (fs.lookup f) (mA f))/\PySem.Within mA (fs.map (·.1))
 | .own _=>∃o,h.get? a=some o
 | .xd fs=>∃mA,h.Ns1 a mA/\∀f,B9b (fs.lookup f) (mA f)
 | .rng lo hi=>∃t u v,h.get? a=some { cls:= .type "range",data:= .fields #[.int lo t,.int hi u,.int 1 v] }
 | .frz o u=>h.get? a=some o/\A1v H h a u
 | .tbl ps=>h.get? a=some { cls:= .none,data:= .fields ps }
 | .met f x=>h.get? a=some (PySem.W.methodObj (.ref f) (.ref x))
 | .ext φ=>φ h/\(∃o,h.get? a=some o)/\∀h1 h2:Heap,φ h1->(∀o,h1.get? a=some o->h2.get? a=some o)->φ h2
noncomputable def HOk (H:Hp) (h:Heap):Prop:=∀a o,H a=some o->A1v P w H h a o
end
section
variable {P:Program} {w:World} {H H':Hp} {h h':Heap} {a:Addr} {o:HO}
theorem A1v.lt (x:A1v P w H h a o):a<h.objs.size:=by
 cases o with
 | lst xs=>obtain ⟨_,_,_,_,e⟩:=x;exact Z0a e
 | tup xs=>obtain ⟨_,_,_,p⟩:=x;exact p.lt
 | dK kvs=>obtain ⟨_,_,_,_,o,_,_,e,_⟩:=x;exact Z0a e
 | dT kvs=>obtain ⟨_,_,_,_,o,_,_,e,_⟩:=x;exact Z0a e
 | set S n=>obtain ⟨o,_,_,_,e,_⟩:=x;exact Z0a e
 | ins C dx fs=>obtain ⟨_,_,_,e,_⟩:=x;exact Z0a e
 | own y=>obtain ⟨_,e⟩:=x;exact Z0a e
 | xd fs=>obtain ⟨_,⟨_,_,_,e,_⟩,_⟩:=x;exact Z0a e
 | rng lo hi=>obtain ⟨_,_,_,e⟩:=x;exact Z0a e
 | frz ob u=>obtain ⟨e,_⟩:=x;exact Z0a e
 | tbl ps=>exact Z0a (show h.get? a=some _ from x)
 | met f y=>exact Z0a (show h.get? a=some _ from x)
 | ext φ=>obtain ⟨_,⟨_,e⟩,_⟩:=x;exact Z0a e
theorem Paired.mapP {α β:Type} {F G:α->β->Prop}:∀{l₁:List α} {l₂:List β},Paired F l₁ l₂->(∀a b,F a b->G a b)->Paired G l₁ l₂
 | _,_,.nil,_=> .nil
 | _,_,.cons r t,f=> .cons (f _ _ r) (Paired.mapP t f)
theorem A1v.stay (x:A1v P w H h a o) (k:∀b u,(b=a\/H b=some (.own a))->h.get? b=some u->h'.get? b=some u)
  (ho:∀b,H b=some (.own a)->H' b=some (.own a)) (ht:∀b xs,H b=some (.tup xs)->H' b=some (.tup xs)):A1v P w H' h' a o:=by
 induction o with
 | lst xs=>obtain ⟨z,its,n,r,e⟩:=x;exact ⟨z,its,n,r,k _ _ (.inl rfl) e⟩
 | tup xs=>obtain ⟨z,its,r,ob,e,c⟩:=x;exact ⟨z,its,r,ob,k _ _ (.inl rfl) e,c⟩
 | dK kvs=>obtain ⟨z,y,vs,r,ob,es,ep,e,c⟩:=x;exact ⟨z,y,vs,r,ob,es,ep,k _ _ (.inl rfl) e,c⟩
 | dT kvs =>
  obtain ⟨z,y,xs,r,ob,es,ep,e,c⟩:=x;exact ⟨z,y,xs,Paired.mapP r λp q z=>⟨z.1,ht _ _ z.2.1,z.2.2⟩,ob,es,ep,k _ _ (.inl rfl) e,c⟩
 | set S n=>obtain ⟨ob,es,ep,t,e,c⟩:=x;exact ⟨ob,es,ep,t,k _ _ (.inl rfl) e,c⟩
 | ins C dx fs =>
  obtain ⟨d,z,ne,e,mA,⟨od,es,ep,e2,c⟩,r⟩:=x;exact ⟨ho _ d,z,ne,k _ _ (.inl rfl) e,mA,⟨od,es,ep,k _ _ (.inr d) e2,c⟩,r⟩
 | own y=>obtain ⟨ob,e⟩:=x;exact ⟨ob,k _ _ (.inl rfl) e⟩
 | xd fs=>obtain ⟨mA,⟨od,es,ep,e,c⟩,r⟩:=x;exact ⟨mA,⟨od,es,ep,k _ _ (.inl rfl) e,c⟩,r⟩
 | rng lo hi=>obtain ⟨t,u,v,e⟩:=x;exact ⟨t,u,v,k _ _ (.inl rfl) e⟩
 | frz ob u ih=>obtain ⟨e,q⟩:=x;exact ⟨k _ _ (.inl rfl) e,ih q⟩
 | tbl ps =>
  have e:h.get? a=some { cls:= .none,data:= .fields ps }:=x;show h'.get? a=some { cls:= .none,data:= .fields ps };exact k a _ (.inl rfl) e
 | met f y =>
  have e:h.get? a=some (PySem.W.methodObj (.ref f) (.ref y)):=x;show h'.get? a=some (PySem.W.methodObj (.ref f) (.ref y));exact k a _ (.inl rfl) e
 | ext φ=>obtain ⟨p,⟨o,e⟩,st⟩:=x;exact ⟨st _ _ p λo q=>k _ _ (.inl rfl) q,⟨o,k _ _ (.inl rfl) e⟩,st⟩
theorem HOk.lt (x:HOk P w H h) (e:H a=some o):a<h.objs.size:=(x a o e).lt
theorem HOk.fresh (x:HOk P w H h) (e:h.objs.size<=a):H a=none:=by
 cases q:H a with
 | none=>rfl
 | some u=>exact absurd (Z0q (x.lt q) e) (Nat.lt_irrefl _)
theorem HOk.kept (x:HOk P w H h) (k:∀b u,h.get? b=some u->h'.get? b=some u):HOk P w H h':=λa o e =>
 (x a o e).stay (λb u _ q=>k b u q) (λ_ q=>q) λ_ _ q=>q
theorem HOk.laid (x:HOk P w H h) (k:∀b u,h.get? b=some u->h'.get? b=some u) (hp:h.objs.size<=a) (new:A1v P w (upd H a o) h' a o):HOk P w (upd H a o) h':=λb u e=>by
 have hn:=x.fresh hp;by_cases hb:b=a
 ·subst hb;rw [A0b] at e;cases e;exact new
 ·rw [A0l hb] at e;exact (x b u e).stay (λc v _ q=>k c v q) (λc q=>by rw [A0l (A0t q hn)];exact q) λc xs q=>by rw [A0l (A0t q hn)];exact q
end
noncomputable def Rd (H:Hp) (a:Addr) (u:HO):Prop:=H a=some u\/∃o,H a=some (.frz o u)
theorem Rd.ok {P:Program} {w:World} {H:Hp} {h:Heap} {a:Addr} {u:HO} (r:Rd H a u) (x:HOk P w H h):A1v P w H h a u:=by
 rcases r with r | ⟨o,r⟩
 ·exact x a u r
 ·obtain ⟨_,q⟩:=x a _ r;exact q
noncomputable def Mut:Option HO->Prop
 | some (.lst _)=>True
 | some (.dK _)=>True
 | some (.dT _)=>True
 | some (.set _ _)=>True
 | some (.ins _ _ _)=>True
 | some (.ext _)=>True
 | _=>False
section
variable {P:Program} {w:World} {H:Hp} {h h':Heap} {x e:Addr} {o':HO}
theorem HOk.write (ok:HOk P w H h) (mu:Mut (H x)) (he:e=x\/H e=some (.own x)) (k:∀b u,b≠e->h.get? b=some u->h'.get? b=some u) (heo:∃u,h'.get? e=some u)
  (new:A1v P w (upd H x o') h' x o'):HOk P w (upd H x o') h':=λb u q=>by
 have nown:∀c y,H c=some (.own y)->c≠x:=λc y r z=>by subst z;rw [r] at mu;exact mu
 have ntup:∀c xs,H c=some (.tup xs)->c≠x:=λc xs r z=>by subst z;rw [r] at mu;exact mu
 by_cases hb:b=x
 ·subst hb;rw [A0b] at q;cases q;exact new
 ·rw [A0l hb] at q;by_cases hbe:b=e
  ·have q':H b=some (.own x):=by
    rcases he with z | z
    ·exact absurd (hbe.trans z) hb
    ·rw [hbe];exact z
   rw [q] at q';cases q';obtain ⟨v,hv⟩:=heo;exact ⟨v,by rw [hbe];exact hv⟩
  ·refine (ok b u q).stay (λc v hc r=>k c v ?_ r) (λc r=>by rw [A0l (nown c b r)];exact r) λc xs r=>by rw [A0l (ntup c xs r)];exact r
   rcases hc with rfl | hc
   ·exact hbe
   ·rintro rfl;rcases he with z | z
    ·exact nown c b hc z
    ·rw [hc] at z;cases z;exact hb rfl
end
structure Un (fs ex:List Addr) (H H':Hp) (h h':Heap):Prop where
 keep:∀b o,h.get? b=some o->H b=none->b∉fs->b∉ex->h'.get? b=some o
 slot:∀b o,h.get? b=some o->H b=none->b∈fs->b∉ex->∃sl,h'.get? b=some { o with slots:=sl }
 free:∀b o,h.get? b=some o->H b=none->b∉ex->H' b=none
 there:∀b o,h.get? b=some o->b∉ex->∃o',h'.get? b=some o'
 tups:∀b xs,H b=some (.tup xs)->H' b=some (.tup xs)
 frzs:∀b o u,H b=some (.frz o u)->H' b=some (.frz o u)
 tbls:∀b ps,H b=some (.tbl ps)->∃more,H' b=some (.tbl (ps++more))
section
variable {fs fs' ex ex':List Addr} {H H1 H2:Hp} {h h1 h2 h':Heap} {a x e:Addr} {o:HO}
theorem Un.any (u:Un fs ex H H1 h h1) {b:Addr} {ob:Obj} (q:h.get? b=some ob) (n:H b=none) (hx:b∉ex):∃sl,h1.get? b=some { ob with slots:=sl }:=by
 by_cases hb:b∈fs
 ·exact u.slot b ob q n hb hx
 ·exact ⟨ob.slots,u.keep b ob q n hb hx⟩
theorem Un.kept (k:∀b u,h.get? b=some u->h'.get? b=some u):Un fs ex H H h h' :=
 ⟨λb ob q _ _ _=>k b ob q,λb ob q _ _ _=>⟨ob.slots,k b ob q⟩,λ_ _ _ n _=>n,λb ob q _=>⟨ob,k b ob q⟩,λ_ _ q=>q,λ_ _ _ q=>q,λ_ ps q=>⟨#[],by rw [q];simp⟩⟩
theorem Un.refl:Un fs ex H H h h:=Un.kept λ_ _ q=>q
theorem Un.laid (k:∀b u,h.get? b=some u->h'.get? b=some u) (hp:h.objs.size<=a) (hn:H a=none):Un fs ex H (upd H a o) h h' where
 keep:=λb u q _ _ _=>k b u q
 slot:=λb u q _ _ _=>⟨u.slots,k b u q⟩
 free:=λb u q n _=>by rw [A0l (Z0h (Z0q (Z0a q) hp))];exact n
 there:=λb u q _=>⟨u,k b u q⟩
 tups:=λb xs q=>by rw [A0l (A0t q hn)];exact q
 frzs:=λb u xs q=>by rw [A0l (A0t q hn)];exact q
 tbls:=λb ps q=>⟨#[],by rw [A0l (A0t q hn),q];simp⟩
theorem Un.write (mu:Mut (H x)) (he:e=x\/H e=some (.own x)) (k:∀b u,b≠e->h.get? b=some u->h'.get? b=some u) (heo:∃u,h'.get? e=some u):Un fs ex H (upd H x o) h h':=by
 have hx:∀b,H b=none->b≠x:=λb n z=>by subst z;rw [n] at mu;exact mu
 have hb:∀b,H b=none->b≠e:=λb n z=>by
  subst z;rcases he with r | r
  ·exact hx b n r
  ·rw [n] at r;cases r
 have hm:∀b u,H b=some u->¬Mut (some u)->b≠x:=λb u q nm z=>by subst z;rw [q] at mu;exact nm mu
 refine ⟨λb u q n _ _=>k b u (hb b n) q,λb u q n _ _=>⟨u.slots,k b u (hb b n) q⟩,λb u q n _=>by rw [A0l (hx b n)];exact n,λb u q _=> ?_,
  λb xs q=>by rw [A0l (hm b _ q λz=>z)];exact q,λb u xs q=>by rw [A0l (hm b _ q λz=>z)];exact q,λb ps q=>⟨#[],by rw [A0l (hm b _ q λz=>z),q];simp⟩⟩
 by_cases hbe:b=e
 ·subst hbe;exact heo
 ·exact ⟨u,k b u hbe q⟩
end
noncomputable def trk (h:Heap) (H:Hp):List Addr:=(List.range h.objs.size).filter λa=>(H a).isSome
noncomputable def C8r (h:Heap) (H:Hp):Heap:=PySem.W.hideAll h (trk h H)
theorem C7q (h:Heap) (H:Hp):(C8r h H).objs.size=h.objs.size:=PySem.W.hideAll_size _ _
theorem C9e {h:Heap} {H:Hp} {b:Addr} {o:Obj} (e:h.get? b=some o) (n:H b=none):(C8r h H).get? b=some o :=
 PySem.W.hideAll_get _ e λhm=>by
  have q:(H b).isSome=true:=(List.mem_filter.mp hm).2;rw [n] at q;simp at q
theorem D3a {h:Heap} {H:Hp} {b:Addr} {o:Obj} (e:(C8r h H).get? b=some o):h.get? b=some o/\H b=none:=by
 have e':h.get? b=some o:=PySem.W.of_hideAll (trk h H) e;refine ⟨e',?_⟩
 cases q:H b with
 | none=>rfl
 | some x =>
  have hm:b∈trk h H:=List.mem_filter.mpr ⟨List.mem_range.mpr (Z0a e'),by simp [q]⟩;have z:(C8r h H).get? b=none:=PySem.W.hideAll_none (trk h H) hm;rw [z] at e;cases e
structure Mod (K:PySem.W.Frag) (mg:Str->Option Value) (base:Heap):Prop where
 kin:K.In base
 glob:base.Ns mainGlobals mg
 blt:∃mb,base.Ns builtinsNs mb/\∀x:Str,x≠"__name__"->mb x=bootBuiltins x
 nolimit:base.NoLimit
structure Cx where
 prog:Program
 w:World
 K:PySem.W.Frag
 mg:Str->Option Value
 base:Heap
 A:Around
 N:List Str
 s₀:Shared
 H₀:Hp
 env:Env
 outer:List Env
 stack:List Env
 ex:List Addr
 fn:Str->Bool
 calm:Bool
 pn:List (Addr×Obj)
 xe:Value->Shared->Prop
noncomputable def frs (l:List Env):List Addr:=l.filterMap (·.frame)
abbrev Cx.fs (X:Cx):List Addr:=frs X.outer
noncomputable def Vis (sc:Scope) (x:Str):Prop:=sc.names.lookup x=some .local\/sc.names.lookup x=some .cell\/sc.names.lookup x=some .free
noncomputable def Loc (sc:Scope) (x:Str):Prop:=sc.names.lookup x=some .local\/sc.names.lookup x=some .cell
noncomputable def Look (env:Env) (h:Heap) (m:Str->Option Value) (x:Str) (u:Value):Prop :=
 (env.kindOf x=some .local/\m x=some u)\/((env.kindOf x=some .cell\/env.kindOf x=some .free)/\∃c,env.cells.lookup x=some c/\h.IsCell c (some u))
structure Cx.Ok (X:Cx):Prop where
 mod:Mod X.K X.mg X.base
 kind:X.env.scope.kind= .function
 glob:X.env.globals=mainGlobals
 blt:X.env.builtins=builtinsNs
 above:X.s₀.heap.objs.size<=X.env.locals
 inj:∀x y c,X.env.cells.lookup x=some c->X.env.cells.lookup y=some c->x=y
 has:∀x,(X.env.kindOf x=some .cell\/X.env.kindOf x=some .free)->∃c,X.env.cells.lookup x=some c
 cab:∀x c,X.fn x=true->X.env.cells.lookup x=some c->X.s₀.heap.objs.size<=c
 hd:X.calm=true->X.A.handled=none
 frames:X.A.frames=some X.stack
 stk:X.stack=X.outer\/(X.stack=X.env::X.outer/\X.env.frame=some X.env.locals)
 exf:∀b∈X.ex,b≠X.env.locals/\∀x c,X.env.cells.lookup x=some c->c≠b
 bs:∀b o,X.base.get? b=some o->X.s₀.heap.get? b=some o/\X.H₀ b=none
 bsz:X.base.objs.size<=X.s₀.heap.objs.size
 noex:∀b o,X.base.get? b=some o->b∉X.ex
 exfs:∀b∈X.ex,b∉X.fs
 funs:X.s₀.heap.FunFrames X.base X.outer
 frf:∀b∈X.fs,X.H₀ b=none
structure Inv (X:Cx) (pins:List (Addr×Obj)) (σ:List (Option V)) (H:Hp) (s:Shared):Prop where
 ok:X.Ok
 os:s.os=X.s₀.os
 bare:AllBare s.gens
 base:Un X.fs X.ex X.H₀ H X.s₀.heap s.heap
 loc:∃m,s.heap.Ns X.env.locals m/\∀(i:Nat) (x:Str) (v:V),X.N[i]? =some x->σ[i]? =some (some v)->Vis X.env.scope x->∃u,A3a v u/\Look X.env s.heap m x u
 cell:∀x c,X.env.cells.lookup x=some c->∃v,s.heap.IsCell c v
 free:H X.env.locals=none
 freeC:∀x c,X.env.cells.lookup x=some c->H c=none
 pin:∀p∈X.pn++pins,s.heap.get? p.1=some p.2/\H p.1=none/\p.1≠X.env.locals/\p.1∉X.fs/\∀v,p.2.data≠.cell v
 hok:HOk X.prog X.w H s.heap
 len:σ.length=X.N.length
section
variable {X:Cx} {pins:List (Addr×Obj)} {σ:List (Option V)} {H H':Hp} {s:Shared} {h':Heap}
theorem Cx.Ok.nofr (ok:X.Ok) {b:Addr} {o:Obj} (e:X.base.get? b=some o):b∉X.fs:=λhb=>by
 have:=(ok.funs.mem hb).1;rw [e] at this;cases this
theorem Inv.bs (I:Inv X pins σ H s):∀b o,X.base.get? b=some o->s.heap.get? b=some o/\H b=none:=λb o e =>
 ⟨I.base.keep b o (I.ok.bs b o e).1 (I.ok.bs b o e).2 (I.ok.nofr e) (I.ok.noex b o e),I.base.free b o (I.ok.bs b o e).1 (I.ok.bs b o e).2 (I.ok.noex b o e)⟩
theorem Inv.bk (I:Inv X pins σ H s):∀b o,X.base.get? b=some o->s.heap.get? b=some o:=λb o e=>(I.bs b o e).1
theorem Inv.mod (I:Inv X pins σ H s):Mod X.K X.mg X.base:=I.ok.mod
theorem Inv.kIn (I:Inv X pins σ H s):X.K.In s.heap:=I.ok.mod.kin.keeps I.bk
theorem Inv.lt (I:Inv X pins σ H s):X.env.locals<s.heap.objs.size:=let ⟨_,hn,_⟩:=I.loc;hn.lt
theorem Inv.sz (I:Inv X pins σ H s):X.s₀.heap.objs.size<=s.heap.objs.size:=Z1n I.ok.above (Nat.le_of_lt I.lt)
theorem Inv.nofs (I:Inv X pins σ H s) {a:Addr} (h:s.heap.objs.size<=a):a∉X.fs:=λhb=>by
 obtain ⟨_,o,ho,_⟩:=I.ok.funs.mem hb;exact absurd (Z0q (Z0a ho) (Z1n I.sz h)) (Nat.lt_irrefl _)
theorem Inv.cne (I:Inv X pins σ H s):∀x c,X.env.cells.lookup x=some c->c≠X.env.locals:=λx c e z=>by
 obtain ⟨v,o,ho,hd⟩:=I.cell x c e;obtain ⟨m,⟨o',es,ep,ho',hd',_⟩,_⟩:=I.loc;rw [z,ho'] at ho;cases ho;rw [hd'] at hd;cases hd
theorem Inv.funs (I:Inv X pins σ H s):s.heap.FunFrames X.base X.outer:=by
 have all:∀(l:List Env),(∀b∈frs l,b∈X.fs)->X.s₀.heap.FunFrames X.base l->s.heap.FunFrames X.base l:=by
  intro l
  induction l with
  | nil=>intro _ _;trivial
  | cons env r ih =>
   intro hs hl;obtain ⟨hk,⟨L,o,hf,hn,ho,hd⟩,hr⟩:=hl;have hL:L∈X.fs:=hs L (by unfold frs;rw [List.filterMap_cons,hf];exact Z27);obtain ⟨sl,e⟩:=I.base.slot L o ho (I.ok.frf L hL) hL λz=>I.ok.exfs L z hL;exact ⟨hk,⟨L,_,hf,hn,e,hd⟩,ih (λb hb=>hs b (by unfold frs;rw [List.filterMap_cons,hf];exact Z1f _ hb)) hr⟩
 exact all X.outer (λ_ hb=>hb) I.ok.funs
theorem Inv.stack (I:Inv X pins σ H s):s.heap.FunFrames X.base X.stack:=by
 rcases I.ok.stk with e | ⟨e,hf⟩
 ·rw [e];exact I.funs
 ·rw [e];obtain ⟨m,hn,_⟩:=I.loc;refine .cons (by rw [I.ok.kind];decide) hf hn ?_ I.funs;exact Heap.get?_none_of_le (Z1n I.ok.bsz I.ok.above)
theorem Inv.stkSub (I:Inv X pins σ H s):∀b∈frs X.stack,b∈X.env.locals::X.fs:=λb hb=>by
 rcases I.ok.stk with e | ⟨e,hf⟩
 ·rw [e] at hb;exact Z1f _ hb
 ·rw [e] at hb;unfold frs at hb;rw [List.filterMap_cons,hf] at hb;exact hb
theorem Inv.stkFree (I:Inv X pins σ H s):∀b∈frs X.stack,H b=none:=λb hb=>by
 rcases Z0e.mp (I.stkSub b hb) with e | hb
 ·rw [e];exact I.free
 ·obtain ⟨_,o,ho,_⟩:=I.ok.funs.mem hb;exact I.base.free b o ho (I.ok.frf b hb) λz=>I.ok.exfs b z hb
theorem Inv.step {g':Array GenState} {t':Nat} {d':Drawn} {ch:List Addr} (I:Inv X pins σ H s)
  (hch:∀b∈ch,(b∈X.ex\/X.s₀.heap.objs.size<=b)/\b≠X.env.locals/\(∀x c,X.env.cells.lookup x=some c->c≠b)/\∀p∈X.pn++pins,p.1≠b)
  (keep:∀b o,b≠X.env.locals->b∉X.fs->b∉ch->s.heap.get? b=some o->H b=none->h'.get? b=some o)
  (slot:∀b o,b≠X.env.locals->b∈X.fs->b∉ch->s.heap.get? b=some o->H b=none->∃sl,h'.get? b=some { o with slots:=sl }) (free:∀b o,b∉ch->s.heap.get? b=some o->H b=none->H' b=none)
  (there:∀b o,b∉ch->s.heap.get? b=some o->∃o',h'.get? b=some o')
  (tups:∀b xs,H b=some (.tup xs)->H' b=some (.tup xs)) (frzs:∀b o u,H b=some (.frz o u)->H' b=some (.frz o u)) (tbls:∀b ps,H b=some (.tbl ps)->∃more,H' b=some (.tbl (ps++more)))
  (ns:∀m,s.heap.Ns X.env.locals m->h'.Ns X.env.locals m) (hok:HOk X.prog X.w H' h') (hg:AllBare g') :
  Inv X pins σ H' { s with heap:=h',gens:=g',drawn:=d',toks:=t' }:=by
 have neL:∀b o,X.s₀.heap.get? b=some o->b≠X.env.locals:=λb o e=>Z0h (Z0q (Z0a e) I.ok.above)
 have neC:∀b o,X.s₀.heap.get? b=some o->b∉X.ex->b∉ch:=λb o e hx hb=>by
  rcases (hch b hb).1 with z | z
  ·exact hx z
  ·exact absurd (Z0q (Z0a e) z) (Nat.lt_irrefl _)
 have cellK:∀x c,X.env.cells.lookup x=some c->∀v,s.heap.IsCell c v->h'.IsCell c v:=λx c e v ⟨o,ho,hd⟩=>by
  have nch:c∉ch:=λz=>(hch c z).2.2.1 x c e rfl;by_cases hc:c∈X.fs
  ·obtain ⟨sl,q⟩:=slot c o (I.cne x c e) hc nch ho (I.freeC x c e);exact ⟨_,q,hd⟩
  ·exact ⟨o,keep c o (I.cne x c e) hc nch ho (I.freeC x c e),hd⟩
 refine ⟨I.ok,I.os,hg,⟨λb o e n hb hx=> ?_,λb o e n hb hx=> ?_,λb o e n hx=> ?_,λb o e hx=> ?_,λb xs e=>tups b xs (I.base.tups b xs e),λb o xs e=>frzs b o xs (I.base.frzs b o xs e),λb ps e=> ?_⟩,?_,λx c e=> ?_,?_,λx c e=> ?_,λp hp=> ?_,hok,I.len⟩
 ·exact keep b o (neL b o e) hb (neC b o e hx) (I.base.keep b o e n hb hx) (I.base.free b o e n hx)
 ·obtain ⟨sl,e1⟩:=I.base.slot b o e n hb hx;obtain ⟨sl',e2⟩:=slot b _ (neL b o e) hb (neC b o e hx) e1 (I.base.free b o e n hx);exact ⟨sl',e2⟩
 ·obtain ⟨o',e1⟩:=I.base.there b o e hx;exact free b o' (neC b o e hx) e1 (I.base.free b o e n hx)
 ·obtain ⟨o',e1⟩:=I.base.there b o e hx;exact there b o' (neC b o e hx) e1
 ·obtain ⟨m1,e1⟩:=I.base.tbls b ps e;obtain ⟨m2,e2⟩:=tbls b _ e1;exact ⟨m1++m2,by rw [e2,Array.append_assoc]⟩
 ·obtain ⟨m,hn,hl⟩:=I.loc;refine ⟨m,ns m hn,λi x v e1 e2 e3=> ?_⟩;obtain ⟨u,r,l⟩:=hl i x v e1 e2 e3;refine ⟨u,r,?_⟩;rcases l with l | ⟨k,c,e,z⟩
  ·exact .inl l
  ·exact .inr ⟨k,c,e,cellK x c e _ z⟩
 ·obtain ⟨v,z⟩:=I.cell x c e;exact ⟨v,cellK x c e v z⟩
 ·obtain ⟨m,⟨o,_,_,ho,_⟩,_⟩:=I.loc;exact free _ o (λz=>(hch _ z).2.1 rfl) ho I.free
 ·obtain ⟨v,o,ho,hd⟩:=I.cell x c e;exact free c o (λz=>(hch c z).2.2.1 x c e rfl) ho (I.freeC x c e)
 ·obtain ⟨e,n,ne,nf,d⟩:=I.pin p hp;have nch:p.1∉ch:=λz=>(hch p.1 z).2.2.2 p hp rfl;exact ⟨keep p.1 p.2 ne nf nch e n,free p.1 p.2 nch e n,ne,nf,d⟩
theorem Inv.un {t':Nat} (I:Inv X pins σ H s) (u:Un X.fs [] H H' s.heap h') (hok:HOk X.prog X.w H' h'):Inv X pins σ H' { s with heap:=h',toks:=t' }:=by
 obtain ⟨m,⟨o,es,ep,ho,r⟩,_⟩:=id I.loc;obtain ⟨sl,hL⟩:=u.any ho I.free (by simp)
 exact I.step (g':=s.gens) (d':=s.drawn) (ch:=[]) (λ_ z=>nomatch z) (λb o _ hb _ e n=>u.keep b o e n hb (by simp)) (λb o _ hb _ e n=>u.slot b o e n hb (by simp)) (λb o _ e n=>u.free b o e n (by simp)) (λb o _ e=>u.there b o e (by simp)) u.tups u.frzs u.tbls (λm' hm=>by
  obtain ⟨o',es',ep',ho',r'⟩:=hm;rw [ho] at ho';cases ho'
  exact ⟨_,es',ep',hL,r'⟩) hok I.bare
theorem Inv.call {g':Array GenState} {t':Nat} {d':Drawn} {ch:List Addr} (I:Inv X pins σ H s) (u:Un (frs X.stack) ch H H' s.heap h') (hok:HOk X.prog X.w H' h') (hg:AllBare g')
  (hch:∀b∈ch,(b∈X.ex\/X.s₀.heap.objs.size<=b)/\b≠X.env.locals/\(∀x c,X.env.cells.lookup x=some c->c≠b)/\∀p∈X.pn++pins,p.1≠b) :
  Inv X pins σ H' { s with heap:=h',gens:=g',drawn:=d',toks:=t' }:=by
 obtain ⟨m,⟨o,es,ep,ho,r⟩,_⟩:=id I.loc;obtain ⟨sl,hL⟩:=u.any ho I.free λz=>(hch _ z).2.1 rfl
 exact I.step (ch:=ch) hch (λb o hL hb hc e n=>u.keep b o e n (λz=>(Z0e.mp (I.stkSub b z)).elim hL hb) hc) (λb o _ _ hc e n=>u.any e n hc) (λb o hc e n=>u.free b o e n hc) (λb o hc e=>u.there b o e hc) u.tups u.frzs u.tbls (λm' hm=>by
  obtain ⟨o',es',ep',ho',r'⟩:=hm;rw [ho] at ho';cases ho'
  exact ⟨_,es',ep',hL,r'⟩) hok hg
theorem Inv.turned {t':Nat} {it:Addr} (I:Inv X pins σ H s) (k:∀b o,b≠it->s.heap.get? b=some o->h'.get? b=some o) (hn:H it=none) (hL:it≠X.env.locals)
  (h1:it∈X.ex\/X.s₀.heap.objs.size<=it) (h2:∀x c,X.env.cells.lookup x=some c->c≠it) (h3:∀p∈X.pn++pins,p.1≠it):Inv X pins σ H { s with heap:=h',toks:=t' }:=by
 have nit:∀b u,H b=some u->b≠it:=λb u e z=>by rw [z,hn] at e;cases e
 refine I.step (g':=s.gens) (d':=s.drawn) (ch:=[it]) (λb hb=> ?_) (λb o _ _ hc e _=>k b o (λz=>hc (by simp [z])) e) (λb o _ _ hc e _=>⟨o.slots,k b o (λz=>hc (by simp [z])) e⟩) (λ_ _ _ _ n=>n)
  (λb o hc e=>⟨o,k b o (λz=>hc (by simp [z])) e⟩) (λ_ _ e=>e) (λ_ _ _ e=>e) (λb ps e=>⟨#[],by rw [e];simp⟩) (λm hm=> ?_) (λb u e=> ?_) I.bare
 ·have e:b=it:=by simpa using hb
  subst e;exact ⟨h1,hL,h2,h3⟩
 ·obtain ⟨o,es,ep,ho,r⟩:=hm;exact ⟨o,es,ep,k _ o (Ne.symm hL) ho,r⟩
 ·refine (I.hok b u e).stay (λc v hc q=>k c v ?_ q) (λ_ q=>q) λ_ _ q=>q;rcases hc with z | z
  ·rw [z];exact nit b u e
  ·exact nit c _ z
theorem Inv.tok (I:Inv X pins σ H s) (t:Nat):Inv X pins σ H { s with toks:=t }:=I.un (h':=s.heap) (t':=t) Un.refl I.hok
theorem Inv.kept {t':Nat} (I:Inv X pins σ H s) (k:∀b u,s.heap.get? b=some u->h'.get? b=some u):Inv X pins σ H { s with heap:=h',toks:=t' }:=I.un (Un.kept k) (I.hok.kept k)
theorem Inv.laid {a:Addr} {o:HO} {t':Nat} (I:Inv X pins σ H s) (k:∀b u,s.heap.get? b=some u->h'.get? b=some u) (hp:s.heap.objs.size<=a) (new:A1v X.prog X.w (upd H a o) h' a o) :
  Inv X pins σ (upd H a o) { s with heap:=h',toks:=t' }:=I.un (Un.laid k hp (I.hok.fresh hp)) (I.hok.laid k hp new)
theorem Inv.write {x e:Addr} {o:HO} {t':Nat} (I:Inv X pins σ H s) (mu:Mut (H x)) (he:e=x\/H e=some (.own x)) (k:∀b u,b≠e->s.heap.get? b=some u->h'.get? b=some u) (heo:∃u,h'.get? e=some u)
  (new:A1v X.prog X.w (upd H x o) h' x o):Inv X pins σ (upd H x o) { s with heap:=h',toks:=t' }:=I.un (Un.write mu he k heo) (I.hok.write mu he k heo new)
theorem Inv.weak {σ':List (Option V)} (I:Inv X pins σ H s) (hl:σ'.length=σ.length) (w:∀(i:Nat) v,σ'[i]? =some (some v)->σ[i]? =some (some v)):Inv X pins σ' H s :=
 ⟨I.ok,I.os,I.bare,I.base,let ⟨m,hn,hl'⟩:=I.loc;⟨m,hn,λi x v e1 e2 e3=>hl' i x v e1 (w i v e2) e3⟩,I.cell,I.free,I.freeC,I.pin,I.hok,hl.trans I.len⟩
theorem Inv.pins_of {pins':List (Addr×Obj)} (I:Inv X pins σ H s) (h:∀p∈pins',s.heap.get? p.1=some p.2/\H p.1=none/\p.1≠X.env.locals/\p.1∉X.fs/\∀v,p.2.data≠.cell v):Inv X pins' σ H s :=
 ⟨I.ok,I.os,I.bare,I.base,I.loc,I.cell,I.free,I.freeC,λp hp=>(Z07.mp hp).elim (λz=>I.pin p (Z05 _ z)) (h p),I.hok,I.len⟩
theorem B1p {N:List Str} (hN:N.Nodup) {i j:Nat} {x:Str} (a:N[i]? =some x) (b:N[j]? =some x):i=j:=by
 obtain ⟨h1,e1⟩:=Z03.mp a;obtain ⟨h2,e2⟩:=Z03.mp b;exact (List.getElem_inj hN).mp (e1.trans e2.symm)
theorem B2l {M:Model} {A:Around} {E:Value->Shared->Prop} {i:Nat} {x:Str} {v:V} {u:Value} {Q:Unit->Shared->Prop} (I:Inv X pins σ H s) (hN:X.N.Nodup) (hi:X.N[i]? =some x) (hx:Loc X.env.scope x) (r:A3a v u)
  (h:∀s',Inv X pins (σ.set i (some v)) H s'->(∃a,Heap.SameBut a s.heap s'.heap/\(a=X.env.locals\/X.env.cells.lookup x=some a))->Q () s') (hf:X.fn x=true\/X.env.scope.names.lookup x=some .local:=by first | exact .inl rfl | exact .inr rfl | assumption):wpAny M A (storeName X.env x u) Q E s:=by
 obtain ⟨m,hn,hl⟩:=id I.loc;have hcls:(X.env.scope.kind == .class||(X.env.scope.kind == .module&&X.env.locals != X.env.globals))=false:=by rw [I.ok.kind];rfl
 have hiσ:i<σ.length:=by rw [I.len];exact (Z03.mp hi).1
 have cne:=I.cne
 have tracked:∀{a:Addr} {h':Heap},(∃o,s.heap.get? a=some o/\H a=none)->Heap.SameBut a s.heap h'->HOk X.prog X.w H h':=λ{a h'} ha hs b ob e=>by
  obtain ⟨_,_,hfree⟩:=ha;refine (I.hok b ob e).stay (λc w' hc q=>(hs.2 c ?_).trans q) (λ_ q=>q) λ_ _ q=>q;rintro rfl;rcases hc with rfl | hc
  ·rw [hfree] at e;cases e
  ·rw [hfree] at hc;cases hc
 rcases hx with hk | hk
 ·refine wpAny_storeName_local hk hn (λh' hn' hs=> ?_) hcls;obtain ⟨oL,_,_,hoL,_⟩:=id hn;refine h _ ⟨I.ok,I.os,I.bare,⟨λb o e n hb hx=> ?_,λb o e n hb hx=> ?_,I.base.free,λb o e hx=> ?_,I.base.tups,I.base.frzs,I.base.tbls⟩,⟨_,hn',λj y v' e1 e2 e3=> ?_⟩,λy c e=> ?_,I.free,I.freeC,λp hp=> ?_,tracked ⟨oL,hoL,I.free⟩ hs,by simpa using I.len⟩ ⟨_,hs,.inl rfl⟩
  ·exact (hs.2 b (Z0h (Z0q (Z0a e) I.ok.above))).trans (I.base.keep b o e n hb hx)
  ·obtain ⟨sl,e1⟩:=I.base.slot b o e n hb hx;exact ⟨sl,(hs.2 b (Z0h (Z0q (Z0a e) I.ok.above))).trans e1⟩
  ·obtain ⟨o',e1⟩:=I.base.there b o e hx;exact ⟨o',(hs.2 b (Z0h (Z0q (Z0a e) I.ok.above))).trans e1⟩
  ·by_cases hj:j=i
   ·subst hj;rw [hi] at e1;cases e1;rw [Z23 hiσ] at e2;cases e2;exact ⟨u,r,.inl ⟨hk,by simp⟩⟩
   ·rw [Z2a (Ne.symm hj)] at e2;obtain ⟨u',r',q⟩:=hl j y v' e1 e2 e3;refine ⟨u',r',?_⟩;rcases q with ⟨k,e⟩ | ⟨k,c,e,z⟩
    ·refine .inl ⟨k,?_⟩;have:y≠x:=λe=>hj (B1p hN e1 (e▸hi));simp [this,e]
    ·exact .inr ⟨k,c,e,z.sameBut hs (cne y c e)⟩
  ·obtain ⟨w',z⟩:=I.cell y c e;exact ⟨w',z.sameBut hs (cne y c e)⟩
  ·obtain ⟨e,n,ne,nf,d⟩:=I.pin p hp;exact ⟨(hs.2 p.1 ne).trans e,n,ne,nf,d⟩
 ·have hfn:X.fn x=true:=by
   rcases hf with z | z
   ·exact z
   ·rw [z] at hk;cases hk
  obtain ⟨c,hc⟩:=I.ok.has x (.inl hk);obtain ⟨w',z⟩:=I.cell x c hc;refine wpAny_storeName_cell I.ok.kind hk hc z (λh' hc' hs=> ?_);obtain ⟨oc,hoc,hocd⟩:=id z;refine h { s with heap:=h' } ⟨I.ok,I.os,I.bare,⟨λb o e n hb hx=> ?_,λb o e n hb hx=> ?_,I.base.free,λb o e hx=> ?_,I.base.tups,I.base.frzs,I.base.tbls⟩,⟨m,hn.sameBut hs (Ne.symm (cne x c hc)),λj y v' e1 e2 e3=> ?_⟩,λy c' e=> ?_,I.free,I.freeC,λp hp=> ?_,tracked ⟨oc,hoc,I.freeC x c hc⟩ hs,by simpa using I.len⟩ ⟨c,hs,.inr hc⟩
  ·exact (hs.2 b (Z0h (Z0q (Z0a e) (I.ok.cab x c hfn hc)))).trans (I.base.keep b o e n hb hx)
  ·obtain ⟨sl,e1⟩:=I.base.slot b o e n hb hx;exact ⟨sl,(hs.2 b (Z0h (Z0q (Z0a e) (I.ok.cab x c hfn hc)))).trans e1⟩
  ·obtain ⟨o',e1⟩:=I.base.there b o e hx;exact ⟨o',(hs.2 b (Z0h (Z0q (Z0a e) (I.ok.cab x c hfn hc)))).trans e1⟩
  ·by_cases hj:j=i
   ·subst hj;rw [hi] at e1;cases e1;rw [Z23 hiσ] at e2;cases e2;exact ⟨u,r,.inr ⟨.inl hk,c,hc,hc'⟩⟩
   ·rw [Z2a (Ne.symm hj)] at e2;obtain ⟨u',r',q⟩:=hl j y v' e1 e2 e3;refine ⟨u',r',?_⟩;rcases q with q | ⟨k,c',e,z'⟩
    ·exact .inl q
    ·refine .inr ⟨k,c',e,z'.sameBut hs ?_⟩;rintro rfl;exact hj (B1p hN e1 (I.ok.inj _ _ _ e hc▸hi))
  ·by_cases hcc:c'=c
   ·subst hcc;exact ⟨_,hc'⟩
   ·obtain ⟨w2,z2⟩:=I.cell y c' e;exact ⟨w2,z2.sameBut hs hcc⟩
  ·obtain ⟨e,n,ne,nf,d⟩:=I.pin p hp;refine ⟨(hs.2 p.1 ?_).trans e,n,ne,nf,d⟩;intro q;rw [q,hoc] at e;have q':oc=p.2:=Z1a e;exact d w' (by rw [<-q'];exact hocd)
theorem A8d {M:Model} {A:Around} {E:Value->Shared->Prop} {i:Nat} {x:Str} {v:V} {u:Value} {Q:Unit->Shared->Prop} (I:Inv X pins σ H s) (hN:X.N.Nodup) (hi:X.N[i]? =some x) (hx:Loc X.env.scope x) (r:A3a v u)
  (h:∀s',Inv X pins (σ.set i (some v)) H s'->Q () s') (hf:X.fn x=true\/X.env.scope.names.lookup x=some .local:=by first | exact .inl rfl | exact .inr rfl | assumption):wpAny M A (storeName X.env x u) Q E s :=
 B2l I hN hi hx r (λs' I' _=>h s' I') hf
theorem Inv.call' {s':Shared} {ch:List Addr} (I:Inv X pins σ H s) (ho:s'.os=s.os) (u:Un (frs X.stack) ch H H' s.heap s'.heap) (hok:HOk X.prog X.w H' s'.heap) (hg:AllBare s'.gens)
  (hch:∀b∈ch,(b∈X.ex\/X.s₀.heap.objs.size<=b)/\b≠X.env.locals/\(∀x c,X.env.cells.lookup x=some c->c≠b)/\∀p∈X.pn++pins,p.1≠b):Inv X pins σ H' s':=by
 obtain ⟨h',g',d',t',o'⟩:=s';have e:o'=s.os:=ho;subst e;exact I.call (g':=g') (t':=t') (d':=d') u hok hg hch
end
abbrev XK:=Value->Option Addr->Hp->Prop
abbrev St:=List (Option V)
abbrev VK:=V->Hp->Prop
abbrev TE:=St->Hp->VK->Prop
abbrev TT:=St->Hp->(Bool->Hp->Prop)->Prop
abbrev TA:=St->Hp->(List V->Hp->Prop)->Prop
structure B4d where
 nx:St->Hp->Prop
 rt:VK
 bk:St->Hp->Prop:=λ_ _=>False
 ct:St->Hp->Prop:=λ_ _=>False
abbrev TS:=B4d->St->Hp->Prop
noncomputable def EP (X:Cx) (pins:List (Addr×Obj)) (σ:St) (Q:VK) (u:Value) (s':Shared):Prop:=∃v H',Inv X pins σ H' s'/\A3a v u/\Q v H'
noncomputable def TP (X:Cx) (pins:List (Addr×Obj)) (σ:St) (Q:Bool->Hp->Prop) (b:Bool) (s':Shared):Prop:=∃H',Inv X pins σ H' s'/\Q b H'
noncomputable def AP (X:Cx) (pins:List (Addr×Obj)) (σ:St) (Q:List V->Hp->Prop) (us:List Value) (s':Shared):Prop:=∃vs H',Inv X pins σ H' s'/\A2v vs us/\Q vs H'
noncomputable def SP (X:Cx) (pins:List (Addr×Obj)) (D:B4d) (f:Flow) (s':Shared):Prop :=
 match f with
 | .next=>∃σ' H',Inv X pins σ' H' s'/\D.nx σ' H'
 | .brk=>∃σ' H',Inv X pins σ' H' s'/\D.bk σ' H'
 | .cont=>∃σ' H',Inv X pins σ' H' s'/\D.ct σ' H'
 | .ret u=>∃v σ' H',Inv X pins σ' H' s'/\A3a v u/\D.rt v H'
noncomputable def PE (X:Cx) (e:Expr) (t:TE):Prop :=
 ∀(pins:List (Addr×Obj)) (s:Shared) (σ:St) (H:Hp) (Q:VK),Inv X pins σ H s->t σ H Q->wpAny (model X.prog X.w) X.A (eval e X.env) (EP X pins σ Q) X.xe s
noncomputable def PT (X:Cx) (e:Expr) (t:TT):Prop :=
 ∀(pins:List (Addr×Obj)) (s:Shared) (σ:St) (H:Hp) (Q:Bool->Hp->Prop),Inv X pins σ H s->t σ H Q->wpAny (model X.prog X.w) X.A (isTrue e X.env (eval e X.env)) (TP X pins σ Q) X.xe s
noncomputable def PW (X:Cx) (e:Expr) (t:TT):Prop :=
 ∀(whole:Sem Value) (pins:List (Addr×Obj)) (s:Shared) (σ:St) (H:Hp) (Q:Bool->Hp->Prop),Inv X pins σ H s->t σ H Q->wpAny (model X.prog X.w) X.A (isTrue e X.env whole) (TP X pins σ Q) X.xe s
theorem PW.pt {X:Cx} {e:Expr} {t:TT} (h:PW X e t):PT X e t:=h _
noncomputable def PA (X:Cx) (es:List Expr) (t:TA):Prop :=
 ∀(pos:Pos) (pins:List (Addr×Obj)) (s:Shared) (σ:St) (H:Hp) (Q:List V->Hp->Prop),Inv X pins σ H s->t σ H Q->wpAny (model X.prog X.w) X.A (spliced (backTo pos (starEach es X.env))) (AP X pins σ Q) X.xe s
noncomputable def PS (X:Cx) (st:Stmt) (t:TS):Prop :=
 ∀(pins:List (Addr×Obj)) (s:Shared) (σ:St) (H:Hp) (D:B4d),Inv X pins σ H s->t D σ H->wpAny (model X.prog X.w) X.A (exec st X.env) (SP X pins D) X.xe s
noncomputable def PSs (X:Cx) (st:List Stmt) (t:TS):Prop :=
 ∀(pins:List (Addr×Obj)) (s:Shared) (σ:St) (H:Hp) (D:B4d),Inv X pins σ H s->t D σ H->wpAny (model X.prog X.w) X.A (execs st X.env) (SP X pins D) X.xe s
theorem thn {α:Type} {t:Sem α} {Q Q':α->Shared->Prop} {M:Model} {A:Around} {E:Value->Shared->Prop} {s:Shared} (h:wpAny M A t Q E s) (hQ:∀a s,Q a s->Q' a s):wpAny M A t Q' E s:=Z10 h hQ λ_ _ x=>x
section
variable {X:Cx}
noncomputable def D8m (i:Nat):TE:=λσ H Q=>∃v,σ[i]? =some (some v)/\Q v H
noncomputable def tC (v:V):TE:=λ_ H Q=>Q v H
theorem D6p {i:Nat} {x:Str} {pos:Pos} (hN:X.N[i]? =some x) (hv:Vis X.env.scope x) (hd:(x == ("__debug__":Str))=false:=by decide) (hcd:(x == ("__classdict__":Str))=false:=by decide):PE X (.Name x pos) (D8m i):=by
 intro pins s σ H Q I h;obtain ⟨v,e,h⟩:=h;obtain ⟨m,hn,hl⟩:=I.loc;obtain ⟨u,r,l⟩:=hl i x v hN e hv;have fin:EP X pins σ Q u s:=⟨v,H,I,r,h⟩;rcases l with ⟨hk,hm⟩ | ⟨hk,c,hc,hcell⟩
 ·exact wpAny_Name (wpAny_loadName_local I.ok.kind hk hn hm fin) hd
 ·rcases hk with hk | hk
  ·exact wpAny_Name (wpAny_loadName_cell I.ok.kind hk hc hcell fin) hd
  ·exact wpAny_Name (wpAny_loadName_free I.ok.kind hk hc hcell fin hcd) hd
theorem A0f {i j pos}:PE X (.Constant (.int i) j pos) (tC (.int i)):=λ_ _ _ H _ I h=>wpAny_Constant_int ⟨.int i,H,I.tok _,⟨_,rfl⟩,h⟩
theorem B3s {b j pos}:PE X (.Constant (.bool b) j pos) (tC (.bl b)):=λ_ _ _ H _ I h=>Constant_bool ⟨.bl b,H,I,rfl,h⟩
theorem A6u {j pos}:PE X (.Constant .none j pos) (tC .non):=λ_ _ _ H _ I h=>Constant_none ⟨.non,H,I,rfl,h⟩
theorem A1r {x j pos}:PE X (.Constant (.str x) j pos) (tC (.str x)):=λ_ _ _ H _ I h=>Calls.Constant_str ⟨.str x,H,I.tok _,⟨_,rfl⟩,h⟩
noncomputable def Gl (X:Cx) (x:Str):Prop:=X.env.kindOf x=some .globalImplicit
theorem A5p {E:Value->Shared->Prop} {pins:List (Addr×Obj)} {s:Shared} {σ:St} {H:Hp} {x:Str} {u:Value} {pos:Pos} {Q:Value->Shared->Prop} (I:Inv X pins σ H s) (hg:Gl X x) (hm:X.mg x=some u) (h:Q u s)
  (hd:(x == ("__debug__":Str))=false:=by decide):wpAny (model X.prog X.w) X.A (eval (.Name x pos) X.env) Q E s :=
 Calls.Name_function_global I.ok.kind hg (Calls.loadGlobal_global (by rw [I.ok.glob];exact I.mod.glob.keeps I.bk) hm h) hd
theorem A5v {E:Value->Shared->Prop} {pins:List (Addr×Obj)} {s:Shared} {σ:St} {H:Hp} {x:Str} {u:Value} {pos:Pos} {Q:Value->Shared->Prop} (I:Inv X pins σ H s) (hg:Gl X x) (hm:X.mg x=none) (hv:bootBuiltins x=some u) (h:Q u s)
  (hn:x≠"__name__":=by decide) (hd:(x == ("__debug__":Str))=false:=by decide):wpAny (model X.prog X.w) X.A (eval (.Name x pos) X.env) Q E s:=by
 obtain ⟨mb,h1,h2⟩:=I.mod.blt;exact Calls.Name_function_global I.ok.kind hg (Calls.loadGlobal_builtin (by rw [I.ok.glob];exact I.mod.glob.keeps I.bk) hm (by rw [I.ok.blt];exact h1.keeps I.bk) ((h2 x hn).trans hv) h) hd
theorem A2l {x:Str} {v:V} {u:Value} {pos:Pos} (hg:Gl X x) (hm:X.mg x=none) (hv:bootBuiltins x=some u) (r:A3a v u) (hn:x≠"__name__":=by decide) (hd:(x == ("__debug__":Str))=false:=by decide):PE X (.Name x pos) (tC v) :=
 λ_ _ _ H _ I h=>A5v I hg hm hv ⟨v,H,I,r,h⟩ hn hd
variable {a b:Expr} {ta tb:TE} {pos:Pos}
noncomputable def tB (t:TE):TT:=λσ H Q=>t σ H λx H1=>∃c,x= .bl c/\Q c H1
theorem A2q {e:Expr} {t:TE} (h:PE X e t) (he:∀whole,isTrue e X.env whole=(do let v<-whole;standAt e.pos;holding [v] (truthy v)):=by intro _;rfl):PT X e (tB t):=by
 intro pins s σ H Q I hw;refine isTrue_plain (thn (h pins s σ H _ I hw) λv s1 ⟨x,H1,I1,r1,q1⟩=> ?_) (he _);obtain ⟨d,rfl,q⟩:=q1;cases r1;exact wpAny_truthy_bool ⟨H1,I1,q⟩
variable {tA tB':TT} {rest:List Expr}
noncomputable def tAnd (t u:TT):TT:=λσ H Q=>t σ H λc H1=>if c=true then u σ H1 Q else Q false H1
noncomputable def tOr (t u:TT):TT:=λσ H Q=>t σ H λc H1=>if c=true then Q true H1 else u σ H1 Q
noncomputable def tNot (t:TT):TT:=λσ H Q=>t σ H λc H1=>Q (!c) H1
theorem C6d (ha:PT X a tA):PW X (.BoolOp .And [a] pos) tA:=by
 intro wh pins s σ H Q I h;refine isTrue_and (thn (ha pins s σ H Q I h) λc s1 e=> ?_)
 cases c with
 | true=>exact isTrue_and_nil e
 | false=>exact e
theorem A7p (ha:PT X a tA):PW X (.BoolOp .Or [a] pos) tA:=by
 intro wh pins s σ H Q I h;refine isTrue_or (thn (ha pins s σ H Q I h) λc s1 e=> ?_)
 cases c with
 | false=>exact isTrue_or_nil e
 | true=>exact e
theorem D1z (ha:PT X a tA) (hb:PW X (.BoolOp .And (b::rest) pos) tB'):PW X (.BoolOp .And (a::b::rest) pos) (tAnd tA tB'):=by
 intro wh pins s σ H Q I h;refine isTrue_and (thn (ha pins s σ H _ I h) λc s1 ⟨H1,I1,q1⟩=> ?_)
 cases c with
 | true=>exact hb wh pins s1 σ H1 Q I1 q1
 | false=>exact ⟨H1,I1,q1⟩
theorem B0k (ha:PT X a tA) (hb:PW X (.BoolOp .Or (b::rest) pos) tB'):PW X (.BoolOp .Or (a::b::rest) pos) (tOr tA tB'):=by
 intro wh pins s σ H Q I h;refine isTrue_or (thn (ha pins s σ H _ I h) λc s1 ⟨H1,I1,q1⟩=> ?_)
 cases c with
 | true=>exact ⟨H1,I1,q1⟩
 | false=>exact hb wh pins s1 σ H1 Q I1 q1
theorem A5x (ha:PT X a tA):PT X (.UnaryOp .Not a pos) (tNot tA):=by
 intro pins s σ H Q I h;exact isTrue_not (ha pins s σ H (λc H1=>Q (!c) H1) I h)
noncomputable def D8w (ta tb:TE):TE:=λσ H Q=>ta σ H λx H1=>∃c,x= .bl c/\if c=true then tb σ H1 Q else Q (.bl false) H1
noncomputable def D8e (ta:TE):TE:=λσ H Q=>ta σ H λx H1=>∃c,x= .bl c/\Q (.bl (!c)) H1
theorem C1k {op} {t:TE} (h:PE X a t):PE X (.BoolOp op [a] pos) t:=λpins s σ H Q I hw=>BoolOp_one (h pins s σ H Q I hw)
theorem C0x (ha:PE X a ta) (hb:PE X (.BoolOp .And (b::rest) pos) tb):PE X (.BoolOp .And (a::b::rest) pos) (D8w ta tb):=by
 intro pins s σ H Q I h;refine BoolOp_and (thn (ha pins s σ H _ I h) λv s1 ⟨x,H1,I1,r1,q1⟩=> ?_);obtain ⟨c,rfl,q1⟩:=q1;cases r1;refine wpAny_truthy_bool ?_
 cases c with
 | true=>exact hb pins s1 σ H1 Q I1 q1
 | false=>exact ⟨.bl false,H1,I1,rfl,q1⟩
theorem D6l (ha:PE X a ta):PE X (.UnaryOp .Not a pos) (D8e ta):=by
 intro pins s σ H Q I h;refine UnaryOp_ (thn (ha pins s σ H _ I h) λv s1 ⟨x,H1,I1,r1,q1⟩=> ?_);obtain ⟨c,rfl,q1⟩:=q1;cases r1;exact not_of (wpAny_truthy_bool ⟨.bl (!c),H1,I1,rfl,q1⟩)
noncomputable def tIf (t:TT) (ta tb:TE):TE:=λσ H Q=>t σ H λc H1=>if c=true then ta σ H1 Q else tb σ H1 Q
theorem C9t {c:Expr} (hc:PT X c tA) (ha:PE X a ta) (hb:PE X b tb):PE X (.IfExp c a b pos) (tIf tA ta tb):=by
 intro pins s σ H Q I h;refine wpAny_IfExp (thn (hc pins s σ H _ I h) λd s1 ⟨H1,I1,q1⟩=> ?_)
 cases d with
 | true=>exact ha pins s1 σ H1 Q I1 q1
 | false=>exact hb pins s1 σ H1 Q I1 q1
end
noncomputable def SqL (K:PySem.W.Frag) (H:Hp) (a:Addr) (xs:List V):Prop :=
 Rd H a (.lst xs)\/
  ∃(o:Obj) (its:Array Value) (n:Nat),K.lookup a=some o/\o.cls= .type "list"/\o.dict=none/\o.data= .seq its n/\its.size<=sizeLine/\A2v xs its.toList
noncomputable def SqT (K:PySem.W.Frag) (H:Hp) (a:Addr) (xs:List V):Prop :=
 Rd H a (.tup xs)\/
  ∃(o:Obj) (its:Array Value) (n:Nat),K.lookup a=some o/\o.cls= .type "tuple"/\o.data= .seq its n/\its.size<=sizeLine/\A2v xs its.toList
noncomputable def absV:Value->Option V
 | .none=>some .non
 | .bool b=>some (.bl b)
 | .int i _=>some (.int i)
 | .str x _=>some (.str x)
 | .bytes b _=>some (.byt b)
 | .float b _=>some (.flt b)
 | .ref a=>some (.ref a)
 | .type n=>some (.ty n)
 | _=>none
theorem A3a.abs {x:V} {u:Value} (r:A3a x u):absV u=some x:=by
 cases x with
 | non=>cases r;rfl
 | bl _=>cases r;rfl
 | int _=>obtain ⟨t,rfl⟩:=r;rfl
 | str _=>obtain ⟨t,rfl⟩:=r;rfl
 | byt _=>obtain ⟨t,rfl⟩:=r;rfl
 | flt _=>obtain ⟨t,rfl⟩:=r;rfl
 | ref _=>cases r;rfl
 | ty _=>cases r;rfl
theorem A3a.inj {x y:V} {u:Value} (r:A3a x u) (q:A3a y u):x=y:=Z1a (r.abs.symm.trans q.abs)
theorem A2v.inj:∀{xs ys:List V} {us:List Value},A2v xs us->A2v ys us->xs=ys
 | _,_,_,.nil,.nil=>rfl
 | _,_,_,.cons r t,.cons r' t'=>by rw [r.inj r',A2v.inj t t']
section
variable {X:Cx} {pins:List (Addr×Obj)} {σ:St} {H:Hp} {s:Shared} {a:Addr} {xs ys:List V}
theorem SqL.of {K:PySem.W.Frag} (h:H a=some (.lst xs)):SqL K H a xs:= .inl (.inl h)
theorem SqT.of {K:PySem.W.Frag} (h:H a=some (.tup xs)):SqT K H a xs:= .inl (.inl h)
theorem Inv.list (I:Inv X pins σ H s) (h:SqL X.K H a xs):∃its:List Value,A2v xs its/\PlainL s.heap a its.toArray/\xs.length<=sizeLine:=by
 rcases h with h | ⟨o,its,n,hk,hc,hd,hs,hz,r⟩
 ·obtain ⟨z,its,n,r,e⟩:=h.ok I.hok;exact ⟨its,r,⟨_,n,e,rfl,rfl,rfl⟩,z⟩
 ·refine ⟨its.toList,r,⟨o,n,I.kIn a o hk,hc,hd,by simpa using hs⟩,?_⟩;have e:=r.length;simp only [Array.length_toList] at e
  lia
theorem Inv.tuple (I:Inv X pins σ H s) (h:SqT X.K H a xs):∃its:List Value,A2v xs its/\IsTup s.heap a its.toArray/\xs.length<=sizeLine:=by
 rcases h with h | ⟨o,its,n,hk,hc,hs,hz,r⟩
 ·obtain ⟨z,its,r,p⟩:=h.ok I.hok;exact ⟨its,r,p,z⟩
 ·refine ⟨its.toList,r,⟨o,I.kIn a o hk,hc,n,by simpa using hs⟩,?_⟩;have e:=r.length;simp only [Array.length_toList] at e
  lia
theorem Inv.list_inj (I:Inv X pins σ H s) (h:SqL X.K H a xs) (h':SqL X.K H a ys):xs=ys:=by
 obtain ⟨its,r,⟨o,n,e,_,_,d⟩,_⟩:=I.list h;obtain ⟨its',r',⟨o',n',e',_,_,d'⟩,_⟩:=I.list h';rw [e] at e';cases e';rw [d] at d';injection d' with d1 _;have:its=its':=by simpa using congrArg Array.toList d1
 subst this;exact r.inj r'
theorem Inv.tuple_inj (I:Inv X pins σ H s) (h:SqT X.K H a xs) (h':SqT X.K H a ys):xs=ys:=by
 obtain ⟨its,r,⟨o,e,_,n,d⟩,_⟩:=I.tuple h;obtain ⟨its',r',⟨o',e',_,n',d'⟩,_⟩:=I.tuple h';rw [e] at e';cases e';rw [d] at d';injection d' with d1 _;have:its=its':=by simpa using congrArg Array.toList d1
 subst this;exact r.inj r'
end
abbrev Cx.wish (X:Cx) (E:Value->Shared->Prop):Cx:={ X with xe:=E }
abbrev Cx.nox (X:Cx):Cx:=X.wish λ_ _=>False
theorem Cx.Ok.wish {X:Cx} (ok:X.Ok) (E:Value->Shared->Prop):(X.wish E).Ok :=
 ⟨ok.mod,ok.kind,ok.glob,ok.blt,ok.above,ok.inj,ok.has,ok.cab,ok.hd,ok.frames,ok.stk,ok.exf,ok.bs,ok.bsz,ok.noex,ok.exfs,ok.funs,ok.frf⟩
theorem Cx.Ok.unwish {X:Cx} {E:Value->Shared->Prop} (ok:(X.wish E).Ok):X.Ok :=
 ⟨ok.mod,ok.kind,ok.glob,ok.blt,ok.above,ok.inj,ok.has,ok.cab,ok.hd,ok.frames,ok.stk,ok.exf,ok.bs,ok.bsz,ok.noex,ok.exfs,ok.funs,ok.frf⟩
section
variable {X:Cx} {pins:List (Addr×Obj)} {σ:St} {H:Hp} {s:Shared} {E:Value->Shared->Prop}
theorem Inv.wish (I:Inv X pins σ H s) (E:Value->Shared->Prop):Inv (X.wish E) pins σ H s:=⟨I.ok.wish E,I.os,I.bare,I.base,I.loc,I.cell,I.free,I.freeC,I.pin,I.hok,I.len⟩
theorem Inv.unwish (I:Inv (X.wish E) pins σ H s):Inv X pins σ H s:=⟨I.ok.unwish,I.os,I.bare,I.base,I.loc,I.cell,I.free,I.freeC,I.pin,I.hok,I.len⟩
theorem SP.unwish {D:B4d} {f:Flow} {s':Shared} (h:SP (X.wish E) pins D f s'):SP X pins D f s':=by
 cases f with
 | next=>obtain ⟨σ',H',I,q⟩:=h;exact ⟨σ',H',I.unwish,q⟩
 | brk=>obtain ⟨σ',H',I,q⟩:=h;exact ⟨σ',H',I.unwish,q⟩
 | cont=>obtain ⟨σ',H',I,q⟩:=h;exact ⟨σ',H',I.unwish,q⟩
 | ret u=>obtain ⟨v,σ',H',I,r,q⟩:=h;exact ⟨v,σ',H',I.unwish,r,q⟩
theorem PSs.nox {st:List Stmt} {t:TS} (h:PSs X.nox st t):PSs X st t:=λpins s σ H D I hw =>
 Z10 (h pins s σ H D (I.wish _) hw) (λ_ _ q=>q.unwish) λ_ _ z=>False.elim z
end
section
variable {X:Cx} {st:Stmt} {rest:List Stmt} {t u:TS} {e:Expr} {te:TE} {pos:Pos}
noncomputable def D8k:TS:=λD σ H=>D.nx σ H
noncomputable def tSeq (t u:TS):TS:=λD σ H=>t { D with nx:=u D } σ H
theorem A0u:PSs X [] D8k:=λ_ _ σ H _ I h=>Z2b ⟨σ,H,I,h⟩
theorem A0e (h1:PS X st t) (h2:PSs X rest u):PSs X (st::rest) (tSeq t u):=by
 intro pins s σ H D I h;refine wpAny_execs_cons (thn (h1 pins s σ H { D with nx:=u D } I h) λf s1 q=> ?_)
 cases f with
 | next =>
  obtain ⟨σ',H',I',q⟩:=q;exact h2 pins s1 σ' H' D I' q
 | ret v=>exact q
 | brk=>exact q
 | cont=>exact q
theorem A0g (h1:PS X st t):PSs X [st] t:=by
 intro pins s σ H D I h;refine wpAny_execs_cons (thn (h1 pins s σ H D I h) λf s1 q=> ?_)
 cases f with
 | next=>exact Z2b q
 | ret v=>exact q
 | brk=>exact q
 | cont=>exact q
noncomputable def D5d:TS:=λD σ H=>D.bk σ H
theorem C8x:PS X (.Break pos) D5d:=λ_ _ σ H _ I h=>wpAny_Break ⟨σ,H,I,h⟩
theorem Inv.quiet {pins:List (Addr×Obj)} {σ:St} {H:Hp} {s:Shared} (I:Inv X pins σ H s):interactive X.env=false:=by simp [interactive,I.ok.kind]
noncomputable def D8i (te:TE):TS:=λD σ H=>te σ H λ_ H1=>D.nx σ H1
theorem A2r (he:PE X e te) (hs:swapsWith e none pos.line X.env=pure false:=by rfl):PS X (.Expr e pos) (D8i te):=by
 intro pins s σ H D I h;exact wpAny_Expr_any (thn (he pins s σ H _ I h) λv s1 ⟨x,H1,I1,r1,q1⟩=>⟨σ,H1,I1,q1⟩) I.quiet hs
noncomputable def tRet (te:TE):TS:=λD σ H=>te σ H D.rt
theorem A0r (he:PE X e te):PS X (.Return (some e) pos) (tRet te):=by
 intro pins s σ H D I h;exact wpAny_Return_some (thn (he pins s σ H _ I h) λv s1 ⟨x,H1,I1,r1,q1⟩=>⟨x,σ,H1,I1,r1,q1⟩)
noncomputable def tIfS (c:TT) (t u:TS):TS:=λD σ H=>c σ H λb H1=>if b=true then t D σ H1 else u D σ H1
theorem A1m {c:Expr} {a b:List Stmt} {tc:TT} (hc:PT X c tc) (ha:PSs X a t) (hb:PSs X b u):PS X (.If c a b pos) (tIfS tc t u):=by
 intro pins s σ H D I h;refine wpAny_If (thn (hc pins s σ H _ I h) λd s1 ⟨H1,I1,q1⟩=> ?_)
 cases d with
 | true=>exact ha pins s1 σ H1 D I1 q1
 | false=>exact hb pins s1 σ H1 D I1 q1
end
abbrev TG:=V->St->Hp->(St->Hp->Prop)->Prop
abbrev TGs:=List V->St->Hp->(St->Hp->Prop)->Prop
noncomputable def PG (X:Cx) (target:Expr) (t:TG):Prop :=
 ∀(pins:List (Addr×Obj)) (s:Shared) (σ:St) (H:Hp) (v:V) (u:Value) (Q:St->Hp->Prop),Inv X pins σ H s->A3a v u->t v σ H Q->
  wpAny (model X.prog X.w) X.A (assign target X.env u) (λ_ s'=>∃σ' H',Inv X pins σ' H' s'/\Q σ' H') X.xe s
noncomputable def PGs (X:Cx) (ts:List Expr) (t:TGs):Prop :=
 ∀(pins:List (Addr×Obj)) (s:Shared) (σ:St) (H:Hp) (vs:List V) (us:List Value) (Q:St->Hp->Prop),Inv X pins σ H s->A2v vs us->t vs σ H Q->
  wpAny (model X.prog X.w) X.A (assignInOrder ((assignEach ts X.env).map (·.2)) us) (λ_ s'=>∃σ' H',Inv X pins σ' H' s'/\Q σ' H') X.xe s
section
variable {X:Cx} {pos:Pos}
noncomputable def D0f (i:Nat):TG:=λv σ H Q=>Q (σ.set i (some v)) H
theorem A0k {i:Nat} {x:Str} (hN:X.N.Nodup) (hi:X.N[i]? =some x) (hx:Loc X.env.scope x) (hf:X.fn x=true\/X.env.scope.names.lookup x=some .local:=by first | exact .inl rfl | exact .inr rfl | assumption):PG X (.Name x pos) (D0f i):=by
 intro pins s σ H v u Q I r h;exact wpAny_assign_Name (A8d I hN hi hx r (λs' I'=>⟨_,H,I',h⟩) hf)
noncomputable def gNil:TGs:=λvs σ H Q=>vs=[]/\Q σ H
noncomputable def D9k (t:TG) (u:TGs):TGs:=λvs σ H Q=>∃v r,vs=v::r/\t v σ H λσ' H'=>u r σ' H' Q
theorem A3e:PGs X [] gNil:=by
 intro pins s σ H vs us Q I r h;obtain ⟨e,h⟩:=h;subst e;cases r;exact assignInOrder_nil ⟨σ,H,I,h⟩
theorem A0n {e:Expr} {es:List Expr} {t:TG} {u:TGs} (h1:PG X e t) (h2:PGs X es u)
  (hs:(assignEach (e::es) X.env).map (·.2)=assign e X.env::(assignEach es X.env).map (·.2):=by rfl):PGs X (e::es) (D9k t u):=by
 intro pins s σ H vs us Q I r h;obtain ⟨v,vr,e1,h⟩:=h;subst e1
 cases r with
 | cons r rr =>
  rw [hs];refine assignInOrder_cons (thn (h1 pins s σ H _ _ _ I r h) λ_ s1 ⟨σ1,H1,I1,q1⟩=> ?_);exact h2 pins s1 σ1 H1 _ _ Q I1 rr q1
noncomputable def gTup (K:PySem.W.Frag) (n:Nat) (t:TGs):TG:=λv σ H Q=>∃a xs,v= .ref a/\SqT K H a xs/\xs.length=n/\t xs σ H Q
theorem A4y {es:List Expr} {k:Nat} {t:TGs} {n:Nat} (hc:X.calm=true) (h:PGs X es t)
  (hn:(assignEach es X.env).length=n:=by rfl) (hst:(assignEach es X.env).findIdx? (·.1)=none:=by rfl):PG X (.Tuple es k pos) (gTup X.K n t):=by
 intro pins s σ H v u Q I r hw;obtain ⟨a,xs,e1,hq,hl,hw⟩:=hw;subst e1;cases r;obtain ⟨its,rv,ht,hz⟩:=I.tuple hq;refine assign_Tuple_tuple (I.ok.hd hc) ht (by simp [hn,<-hl,rv.length]) hst λh' hx=> ?_;have I1:Inv X pins σ H { s with heap:=h' }:=I.kept (t':=s.toks) λb o e=>hx b o (Z0h (Z0a e)) e
 exact h pins _ σ H xs _ Q I1 (by simpa using rv) hw
noncomputable def D7s (te:TE) (g:TG):TS:=λD σ H=>te σ H λx H1=>g x σ H1 D.nx
theorem A7f {tg e:Expr} {te:TE} {g:TG} (he:PE X e te) (hg:PG X tg g) (hs:swapsWithSole [tg] e pos.line X.env=pure false:=by rfl) (hw:swappedStores [tg] e X.env=pure none:=by rfl)
  (h1:(assignEach [tg] X.env).map (·.2)=[assign tg X.env]:=by rfl):PS X (.Assign [tg] e pos) (D7s te g):=by
 intro pins s σ H D I h;refine wpAny_Assign_stores (thn (he pins s σ H _ I h) λv s1 ⟨x,H1,I1,r1,q1⟩=> ?_) hs hw;rw [h1];exact thn (hg pins s1 σ H1 x v _ I1 r1 q1) λ_ s2 q=>q
theorem A0x {i:Nat} {x:Str} {e:Expr} {te:TE} {pos':Pos} (hN:X.N.Nodup) (hi:X.N[i]? =some x) (hx:Loc X.env.scope x) (he:PE X e te) (hs:swapsWith e (some (.Name x pos')) pos.line X.env=pure false:=by rfl) (hf:X.fn x=true\/X.env.scope.names.lookup x=some .local:=by first | exact .inl rfl | exact .inr rfl | assumption) :
  PS X (.Assign [.Name x pos'] e pos) (D7s te (D0f i)):=by
 intro pins s σ H D I h;refine wpAny_Assign_Name (thn (he pins s σ H _ I h) λv s1 ⟨y,H1,I1,r1,q1⟩=> ?_) hs;exact A8d I1 hN hi hx r1 (λs2 I2=>⟨_,H1,I2,q1⟩) hf
noncomputable def D6a (c:TT) (tb:TS):TS:=λD σ H=>∃W:Nat->St->Hp->Prop,(∃m,W m σ H)/\∀m σ H,W m σ H->
 c σ H λb H1=>if b=true then∃N:St->Hp->Prop,(∀σ' H',N σ' H'->∃m',m'<m/\W m' σ' H')/\tb { D with nx:=N,ct:=N,bk:=D.nx } σ H1 else D.nx σ H1
theorem C9q {c:Expr} {body:List Stmt} {tc:TT} {tb:TS} (hp:PassesOwn (model X.prog X.w) X.A X.env X.xe) (hc:PT X c tc) (hb:PSs X body tb):PS X (.While c body [] pos) (D6a tc tb):=by
 intro pins s σ H D I h;obtain ⟨W,⟨m0,w0⟩,turn⟩:=h;refine wpAny_While (codeAny_whileLoop (λn s'=>∃σ' H',Inv X pins σ' H' s'/\W n σ' H') ?_ m0 ⟨σ,H,I,w0⟩);rintro n s1 ⟨σ1,H1,I1,w1⟩;refine wpAny_passesOwn hp (thn (hc pins s1 σ1 H1 _ I1 (turn n σ1 H1 w1)) λb s2 ⟨H2,I2,q2⟩=> ?_)
 cases b with
 | true =>
  obtain ⟨N,hN,q2⟩:=q2;rw [Z12 rfl];refine wpAny_passesOwn hp (thn (hb pins s2 σ1 H2 _ I2 q2) λf s3 q3=> ?_)
  cases f with
  | next =>
   obtain ⟨σ3,H3,I3,n3⟩:=q3;obtain ⟨m',hm,w3⟩:=hN σ3 H3 n3;exact ⟨m',hm,σ3,H3,I3,w3⟩
  | cont =>
   obtain ⟨σ3,H3,I3,n3⟩:=q3;obtain ⟨m',hm,w3⟩:=hN σ3 H3 n3;exact ⟨m',hm,σ3,H3,I3,w3⟩
  | brk=>exact q3
  | ret v=>exact q3
 | false =>
  rw [Z0t Z0v];exact Z2b ⟨σ1,H2,I2,q2⟩
end
structure It where
 go:Nat->Hp->Prop
 yld:Nat->Hp->V->Hp->Prop
 stop:Nat->Hp->Prop
noncomputable def B7h (X:Cx) (pins:List (Addr×Obj)) (H:Hp) (b:Addr):Prop :=
 H b=none/\b≠X.env.locals/\b∉X.fs/\(b∈X.ex\/X.s₀.heap.objs.size<=b)/\(∀x c,X.env.cells.lookup x=some c->c≠b)/\∀p∈X.pn++pins,p.1≠b
theorem Inv.fpOk {X:Cx} {pins:List (Addr×Obj)} {σ:St} {H H':Hp} {s:Shared} {b:Addr} (I:Inv X pins σ H s) (hb:s.heap.objs.size<=b) (hn:H' b=none):B7h X pins H' b:=by
 refine ⟨hn,Z1q (Z0q I.lt hb),I.nofs hb,.inr (Z1n I.sz hb),λx c e z=> ?_,λp hp z=> ?_⟩
 ·obtain ⟨v,q⟩:=I.cell x c e;exact absurd (Z0q q.lt (by rw [z];exact hb)) (Nat.lt_irrefl _)
 ·exact absurd (Z0q (Z0a (I.pin p hp).1) (by rw [z];exact hb)) (Nat.lt_irrefl _)
structure D0k (P:Program) (w:World) (K:PySem.W.Frag) (tg:Expr) (J:It) (fp:List Addr) (it:Addr) (tn:Nat->Heap->Prop):Prop where
 mem:it∈fp
 obj:∀i h,tn i h->∀b∈fp,∃o,h.get? b=some o/\∀v,o.data≠.cell v
 keep:∀i h h',tn i h->(∀b∈fp,∀o,h.get? b=some o->h'.get? b=some o)->tn i h'
 item:∀(X:Cx),X.prog=P->X.w=w->X.K=K->X.calm=true->∀(i:Nat) (pins:List (Addr×Obj)) (s:Shared) (σ:St) (H:Hp) (E:Value->Shared->Prop),Inv X pins σ H s->(∀b∈fp,B7h X pins H b)->tn i s.heap->J.go i H->
  wpAny (model P w) X.A (pyNext (.ref it)) (λr s1=>∃u,r=some u/\
   wpAny (model P w) X.A (letOwnedTupleGo tg (.ref it) u) (λ_ s2=>∃x H',Inv X pins σ H' s2/\A3a x u/\J.yld i H x H'/\tn (i+1) s2.heap/\∀b∈fp,H' b=none) E s1) E s
 done:∀(X:Cx),X.prog=P->X.w=w->X.K=K->X.calm=true->∀(i:Nat) (pins:List (Addr×Obj)) (s:Shared) (σ:St) (H:Hp) (E:Value->Shared->Prop),Inv X pins σ H s->(∀b∈fp,B7h X pins H b)->tn i s.heap->J.stop i H->
  wpAny (model P w) X.A (pyNext (.ref it)) (λr s1=>r=none/\Inv X pins σ H s1) E s
 self:∀(A:Around) (i:Nat) (s:Shared) (Q:Value->Shared->Prop) (E:Value->Shared->Prop),tn i s.heap->Q (.ref it) s->wpAny (model P w) A (pyIter (.ref it)) Q E s
abbrev TI:=St->Hp->(It->Hp->Prop)->Prop
noncomputable def PIE (X:Cx) (pins:List (Addr×Obj)) (σ:St) (tg:Expr) (R:It->Hp->Prop) (itv:Value) (s2:Shared):Prop :=
 ∃(it:Addr) (fp:List Addr) (tn:Nat->Heap->Prop) (J:It) (H':Hp),itv= .ref it/\Inv X pins σ H' s2/\D0k X.prog X.w X.K tg J fp it tn/\tn 0 s2.heap/\(∀b∈fp,B7h X pins H' b)/\R J H'
noncomputable def PI (X:Cx) (tg iter:Expr) (wi:TI):Prop :=
 ∀(pins:List (Addr×Obj)) (s:Shared) (σ:St) (H:Hp) (R:It->Hp->Prop),Inv X pins σ H s->wi σ H R->
  wpAny (model X.prog X.w) X.A (eval iter X.env) (λv s1=>wpAny (model X.prog X.w) X.A (pyIter v) (PIE X pins σ tg R) X.xe s1) X.xe s
theorem C5m {M:Model} {A:Around} {E:Value->Shared->Prop} {s:Shared} {tg:Expr} {it:Addr} {u:Value} {o:Obj} {n:String} {vs:Array Value} {Q:Unit->Shared->Prop} (ho:s.heap.get? it=some o) (hc:o.cls= .type n) (hd:o.data= .fields vs)
  (hn:["enumerate","zip","dict_itemiterator","dict_reverseitemiterator","odict_iterator","itertools.zip_longest","itertools.pairwise"].contains n=false) (hQ:Q () s):wpAny M A (letOwnedTupleGo tg (.ref it) u) Q E s:=by
 unfold letOwnedTupleGo
 cases tg <;> first
  | exact Z04 hQ
  | (cases u <;> first
    | exact Z04 hQ
    | (refine Z00 (wpAny_load ho ?_);rw [hc,hd];show wpAny M A (if (["enumerate","zip","dict_itemiterator","dict_reverseitemiterator","odict_iterator","itertools.zip_longest","itertools.pairwise"].contains n&&vs[0]? == some (rawInt _))=true then _ else _) Q E s;rw [Z0t (by intro h;rw [hn,Bool.false_and] at h;cases h)];exact Z04 hQ))
noncomputable def Itl (K:PySem.W.Frag) (a:Addr):It :=
 ⟨λi H=>∃xs x,SqL K H a xs/\xs[i]? =some x,λi H x H'=>H'=H/\∀xs,SqL K H a xs->xs[i]? =some x,λi H=>∃xs,SqL K H a xs/\xs.length<=i⟩
noncomputable def Itt (K:PySem.W.Frag) (a:Addr):It :=
 ⟨λi H=>∃xs x,SqT K H a xs/\xs[i]? =some x,λi H x H'=>H'=H/\∀xs,SqT K H a xs->xs[i]? =some x,λi H=>∃xs,SqT K H a xs/\xs.length<=i⟩
noncomputable def Itr (lo:Int) (n:Nat):It:=⟨λi _=>i<n,λi H x H'=>H'=H/\x= .int (lo+i),λi _=>n<=i⟩
theorem C5u {P:Program} {w:World} {K:PySem.W.Frag} {tg:Expr} (a it:Addr):D0k P w K tg (Itl K a) [it] it (λi h=>h.IsListIter it a i) where
 mem:=by simp
 obj:=λi h st b hb=>by
  have e:b=it:=by simpa using hb
  subst e;obtain ⟨o,e,c,d⟩:=st;exact ⟨o,e,λv z=>by rw [d] at z;cases z⟩
 keep:=λi h h' st k=>st.at λo e=>k it (by simp) o e
 item:=by
  intro X hP hw hK hc i pins s σ H E I hf st hg;subst hP hw hK;obtain ⟨xs,x,hq,hx⟩:=hg;obtain ⟨its,rv,p,hz⟩:=I.list hq;obtain ⟨u,hu,ru⟩:=rv.get hx;obtain ⟨f0,f1,f2,f3,f4,f5⟩:=hf it (by simp);refine wpAny_pyNext_list_item st p.isList (x:=u) (by simpa using hu) λh' st' sb=> ?_;have I1:Inv X pins σ H { s with heap:=h' }:=I.turned (t':=s.toks) (λb o hb e=>(sb.2 b hb).trans e) f0 f1 f3 f4 f5
  obtain ⟨o,e,c,d⟩:=id st';exact ⟨u,rfl,C5m (s:={ s with heap:=h' }) e c d (by decide) ⟨x,H,I1,ru,⟨rfl,λys hy=>by rw [I.list_inj hy hq];exact hx⟩,st',λb hb=>(hf b hb).1⟩⟩
 done:=by
  intro X hP hw hK hc i pins s σ H E I hf st hg;subst hP hw hK;obtain ⟨xs,hq,hx⟩:=hg;obtain ⟨its,rv,p,hz⟩:=I.list hq;obtain ⟨f0,f1,f2,f3,f4,f5⟩:=hf it (by simp);have hl:=rv.length;exact wpAny_pyNext_list_end (I.ok.hd hc) st p.isList (by simp;lia) λh' eb=>⟨rfl,I.turned (t':=s.toks) (λb o hb e=>eb b o hb e) f0 f1 f3 f4 f5⟩
 self:=λ_ _ _ _ _ st h=>wpAny_pyIter_listiter st h
theorem C2n {P:Program} {w:World} {K:PySem.W.Frag} {tg:Expr} (a it:Addr):D0k P w K tg (Itt K a) [it] it (λi h=>h.IsTupleIter it a i) where
 mem:=by simp
 obj:=λi h st b hb=>by
  have e:b=it:=by simpa using hb
  subst e;obtain ⟨o,e,c,d⟩:=st;exact ⟨o,e,λv z=>by rw [d] at z;cases z⟩
 keep:=λi h h' st k=>st.at λo e=>k it (by simp) o e
 item:=by
  intro X hP hw hK hc i pins s σ H E I hf st hg;subst hP hw hK;obtain ⟨xs,x,hq,hx⟩:=hg;obtain ⟨its,rv,p,hz⟩:=I.tuple hq;obtain ⟨u,hu,ru⟩:=rv.get hx;obtain ⟨f0,f1,f2,f3,f4,f5⟩:=hf it (by simp);refine wpAny_pyNext_tuple_item st (show s.heap.IsTuple a its.toArray from p) (x:=u) (by simpa using hu) λh' st' sb=> ?_;have I1:Inv X pins σ H { s with heap:=h' }:=I.turned (t':=s.toks) (λb o hb e=>(sb.2 b hb).trans e) f0 f1 f3 f4 f5
  obtain ⟨o,e,c,d⟩:=id st';exact ⟨u,rfl,C5m (s:={ s with heap:=h' }) e c d (by decide) ⟨x,H,I1,ru,⟨rfl,λys hy=>by rw [I.tuple_inj hy hq];exact hx⟩,st',λb hb=>(hf b hb).1⟩⟩
 done:=by
  intro X hP hw hK hc i pins s σ H E I hf st hg;subst hP hw hK;obtain ⟨xs,hq,hx⟩:=hg;obtain ⟨its,rv,p,hz⟩:=I.tuple hq;obtain ⟨f0,f1,f2,f3,f4,f5⟩:=hf it (by simp);have hl:=rv.length;exact wpAny_pyNext_tuple_end (I.ok.hd hc) st (show s.heap.IsTuple a its.toArray from p) (by simp;lia) λh' eb=>⟨rfl,I.turned (t':=s.toks) (λb o hb e=>eb b o hb e) f0 f1 f3 f4 f5⟩
 self:=λ_ _ _ _ _ st h=>wpAny_pyIter_tupleiter st h
theorem C2m {P:Program} {w:World} {K:PySem.W.Frag} {tg:Expr} (it:Addr) (lo:Int) (n:Nat):D0k P w K tg (Itr lo n) [it] it (λi h=>IsRangeIter h it (lo+(i:Nat)*1) ((n:Int)-(i:Nat)) 1) where
 mem:=by simp
 obj:=λi h st b hb=>by
  have e:b=it:=by simpa using hb
  subst e
  exact ⟨_,st,λv z=>by
   have z':Data.fields _=Data.cell v:=z
   cases z'⟩
 keep:=λi h h' st k=>k it (by simp) _ st
 item:=by
  intro X hP hw hK hc i pins s σ H E I hf st hg;subst hP hw hK;obtain ⟨f0,f1,f2,f3,f4,f5⟩:=hf it (by simp);have W:=Walks.range (prog:=X.prog) (w:=X.w) (I.ok.hd hc) it lo 1 n;refine W.item i s _ _ hg st λv h' tk hv st' kk=> ?_;obtain ⟨t,rfl⟩:=hv;have I1:Inv X pins σ H { s with heap:=h',toks:=tk }:=I.turned (λb o hb e=>kk b o (by simpa using hb) e) f0 f1 f3 f4 f5
  refine ⟨_,rfl,C5m (s:={ s with heap:=h',toks:=tk }) (n:="range_iterator") st' rfl rfl (by decide) ⟨.int (lo+i),H,I1,⟨t,?_⟩,⟨rfl,rfl⟩,st',λb hb=>(hf b hb).1⟩⟩
  rw [Int.mul_one]
 done:=by
  intro X hP hw hK hc i pins s σ H E I hf st hg;subst hP hw hK;obtain ⟨f0,f1,f2,f3,f4,f5⟩:=hf it (by simp);exact wpAny_pyNext_range_end (I.ok.hd hc) st (by have:n<=i:=hg;lia) λh' eb=>⟨rfl,I.turned (t':=s.toks) (λb o hb e=>eb b o hb e) f0 f1 f3 f4 f5⟩
 self:=λ_ _ _ _ _ st h=>wpAny_pyIter_rangeiter st h
section
variable {X:Cx} {tg:Expr}
noncomputable def D6f (K:PySem.W.Frag) (tl:TE):TI:=λσ H R=>tl σ H λx H1=>∃a,x= .ref a/\(∃xs,SqL K H1 a xs)/\R (Itl K a) H1
noncomputable def D9q (K:PySem.W.Frag) (tl:TE):TI:=λσ H R=>tl σ H λx H1=>∃a,x= .ref a/\(∃xs,SqT K H1 a xs)/\R (Itt K a) H1
theorem A6a {l:Expr} {tl:TE} (hl:PE X l tl):PI X tg l (D6f X.K tl):=by
 intro pins s σ H R I h;refine thn (hl pins s σ H _ I h) λv s1 ⟨x,H1,I1,r1,q1⟩=> ?_;obtain ⟨a,e,⟨xs,hq⟩,q⟩:=q1;subst e;cases r1;obtain ⟨its,rv,p,hz⟩:=I1.list hq;refine wpAny_pyIter_list p.isList ?_;refine ⟨s1.heap.objs.size,[s1.heap.objs.size],_,_,H1,rfl,I1.kept (t':=s1.toks) λb o e=>Z01 _ e,C5u a _,⟨_,Z0c _ rfl,rfl,rfl⟩,λb hb=> ?_,q⟩;have e:b=s1.heap.objs.size:=by simpa using hb
 subst e;exact I1.fpOk (Z09 _) (I1.hok.fresh (Z09 _))
theorem B7n {l:Expr} {tl:TE} (hl:PE X l tl):PI X tg l (D9q X.K tl):=by
 intro pins s σ H R I h;refine thn (hl pins s σ H _ I h) λv s1 ⟨x,H1,I1,r1,q1⟩=> ?_;obtain ⟨a,e,⟨xs,hq⟩,q⟩:=q1;subst e;cases r1;obtain ⟨its,rv,p,hz⟩:=I1.tuple hq;refine wpAny_pyIter_tuple (show s1.heap.IsTuple a its.toArray from p) ?_;refine ⟨s1.heap.objs.size,[s1.heap.objs.size],_,_,H1,rfl,I1.kept (t':=s1.toks) λb o e=>Z01 _ e,C2n a _,⟨_,Z0c _ rfl,rfl,rfl⟩,λb hb=> ?_,q⟩;have e:b=s1.heap.objs.size:=by simpa using hb
 subst e;exact I1.fpOk (Z09 _) (I1.hok.fresh (Z09 _))
theorem C1s {pins:List (Addr×Obj)} {σ:St} {H:Hp} {s:Shared} {R:It->Hp->Prop} {E:Value->Shared->Prop} {lo hi:Int} {t u v:Tok} {tk:Nat} (I:Inv X pins σ H s) (h1: -(2^62)<=lo) (h2:lo<2^62) (h3: -(2^62)<=hi) (h4:hi<2^62)
  (q:R (Itr lo (hi-lo).toNat) H):wpAny (model X.prog X.w) X.A (pyIter (.ref s.heap.objs.size)) (PIE X pins σ tg R) E { s with heap:=s.heap.push { cls:= .type "range",data:= .fields #[.int lo t,.int hi u,.int 1 v] },toks:=tk }:=by
 refine wpAny_pyIter_range (IsRange.new ..) (small_one h1 h2 h3 h4) ?_;have I1:Inv X pins σ H { s with heap:=s.heap.push { cls:= .type "range",data:= .fields #[.int lo t,.int hi u,.int 1 v] },toks:=tk }:=I.kept λb o e=>Z01 _ e
 refine ⟨(s.heap.push { cls:= .type "range",data:= .fields #[.int lo t,.int hi u,.int 1 v] }).objs.size,[(s.heap.push { cls:= .type "range",data:= .fields #[.int lo t,.int hi u,.int 1 v] }).objs.size],_,_,H,rfl,
  I1.kept (t':=tk) λb o e=>Z01 _ e,C2m _ lo (hi-lo).toNat,?_,λb hb=> ?_,q⟩
 ·have e1:lo+((0:Nat):Int)*1=lo:=by simp
  have e2:(((hi-lo).toNat:Nat):Int)-((0:Nat):Int)=Builtin.Range.rangeSize lo hi 1:=by rw [rangeSize_one];split <;> lia
  show IsRangeIter _ _ (lo+((0:Nat):Int)*1) ((((hi-lo).toNat:Nat):Int)-((0:Nat):Int)) 1;rw [e1,e2];exact Z0c _ rfl
 ·have e:b=(s.heap.push { cls:= .type "range",data:= .fields #[.int lo t,.int hi u,.int 1 v] }).objs.size:=by simpa using hb
  subst e;exact I1.fpOk (Z09 _) (I1.hok.fresh (Z09 _))
noncomputable def D8s (ta:TA):TI:=λσ H R=>ta σ H λvs H1=>∃j:Int,vs=[.int j]/\-(2^62)<=j/\j<2^62/\R (Itr 0 j.toNat) H1
noncomputable def D8q (ta:TA):TI:=λσ H R=>ta σ H λvs H1=>∃i j:Int,vs=[.int i,.int j]/\(-(2^62)<=i/\i<2^62/\-(2^62)<=j/\j<2^62)/\R (Itr i (j-i).toNat) H1
theorem A5s {a:Expr} {ta:TA} {p pos:Pos} (hg:Gl X "range") (hm:X.mg "range"=none) (ha:PA X [a] ta) (hs:starEach [a] X.env=[(false,eval a X.env)]:=by rfl):PI X tg (.Call (.Name "range" p) [a] [] pos) (D8s ta):=by
 intro pins s σ H R I h;refine Call_ (A5v I hg hm boot_range (PyProof.Rows.callWith_type1 (thn (ha pos pins s σ H _ I h) λus s1 ⟨vs,H1,I1,r1,q1⟩=> ?_) hs rfl));obtain ⟨j,e,q1,q2,q⟩:=q1;subst e
 cases r1 with
 | cons r rr =>
  cases rr
  obtain ⟨t,rfl⟩:=r;exact call_range_1 (C1s I1 (by lia) (by lia) q1 q2 (by simpa using q))
theorem C5i {a b:Expr} {ta:TA} {p pos:Pos} (hg:Gl X "range") (hm:X.mg "range"=none) (ha:PA X [a,b] ta) (hs:starEach [a,b] X.env=[(false,eval a X.env),(false,eval b X.env)]:=by rfl) (hs2:starEach [b] X.env=[(false,eval b X.env)]:=by rfl) :
  PI X tg (.Call (.Name "range" p) [a,b] [] pos) (D8q ta):=by
 intro pins s σ H R I h;refine Call_ (A5v I hg hm boot_range (PyProof.Rows.callWith_type1 (thn (ha pos pins s σ H _ I h) λus s1 ⟨vs,H1,I1,r1,q1⟩=> ?_) (by rw [hs,hs2]) (by rw [hs2];rfl)));obtain ⟨i,j,e,⟨q1,q2,q3,q4⟩,q⟩:=q1;subst e
 cases r1 with
 | cons r rr =>
  cases rr with
  | cons r' rr =>
   cases rr
   obtain ⟨t,rfl⟩:=r;obtain ⟨t',rfl⟩:=r';exact call_range_2 (C1s I1 q1 q2 q3 q4 q)
noncomputable def tFor (wi:TI) (g:TG) (tb:TS):TS:=λD σ H=>wi σ H λJ H1=>∃W:Nat->Nat->St->Hp->Prop,(∃m,W 0 m σ H1)/\∀i m σ H,W i m σ H->
 (J.stop i H/\D.nx σ H)\/(J.go i H/\∃N:St->Hp->Prop,(∀σ' H',N σ' H'->∃m',m'<m/\W (i+1) m' σ' H')/\∀x H',J.yld i H x H'->g x σ H' λσ2 H2=>tb { D with nx:=N,ct:=N,bk:=D.nx } σ2 H2)
noncomputable def B8i (fp:List Addr) (h:Heap):List (Addr×Obj):=fp.filterMap λb=>(h.get? b).map λo=>(b,o)
theorem A4v {fp:List Addr} {h:Heap} {b:Addr} {o:Obj} (hb:b∈fp) (e:h.get? b=some o):(b,o)∈B8i fp h:=List.mem_filterMap.mpr ⟨b,hb,by rw [e];rfl⟩
theorem C7x {fp:List Addr} {h:Heap} {p:Addr×Obj} (hp:p∈B8i fp h):p.1∈fp/\h.get? p.1=some p.2:=by
 obtain ⟨b,hb,e⟩:=List.mem_filterMap.mp hp
 cases q:h.get? b with
 | none=>rw [q] at e;cases e
 | some o =>
  rw [q] at e;have e':(b,o)=p:=Z1a e;subst e';exact ⟨hb,q⟩
theorem Inv.pinned {pins:List (Addr×Obj)} {σ:St} {H:Hp} {s:Shared} {fp:List Addr} (I:Inv X pins σ H s) (hf:∀b∈fp,B7h X pins H b) (ho:∀b∈fp,∃o,s.heap.get? b=some o/\∀v,o.data≠.cell v):Inv X (pins++B8i fp s.heap) σ H s :=
 I.pins_of λp hp=>(Z07.mp hp).elim (λz=>I.pin p (Z02 _ z)) λz=>by
  obtain ⟨hb,e⟩:=C7x z;obtain ⟨f0,f1,f2,_⟩:=hf p.1 hb;obtain ⟨o,e',d⟩:=ho p.1 hb;rw [e] at e';cases e';exact ⟨e,f0,f1,f2,d⟩
theorem Inv.unpinned {pins pl:List (Addr×Obj)} {σ:St} {H:Hp} {s:Shared} (I:Inv X (pins++pl) σ H s):Inv X pins σ H s:=I.pins_of λp hp=>I.pin p (Z02 _ (Z05 _ hp))
theorem A3m {iter:Expr} {body:List Stmt} {wi:TI} {g:TG} {tb:TS} {pos:Pos} (hp:PassesOwn (model X.prog X.w) X.A X.env X.xe) (hc:X.calm=true) (hi:PI X tg iter wi) (hg:PG X tg g) (hb:PSs X body tb)
  (hs:∀x,foldedSetIterable iter X.env x=pure x:=by intro _;rfl):PS X (.For tg iter body [] pos) (tFor wi g tb):=by
 intro pins s σ H D I h;refine wpAny_For (thn (hi pins s σ H _ I h) λv s1 h1=>thn h1 λitv s2 h2=> ?_) hs;obtain ⟨it,fp,tn,J,H2,e,I2,T,st2,f2,W,⟨m0,w0⟩,turn⟩:=h2;subst e;have stat:∀{H':Hp},(∀b∈fp,H' b=none)->∀b∈fp,B7h X pins H' b:=λhn b hb=>⟨hn b hb,(f2 b hb).2⟩;refine codeAny_forLoop_any (λn s'=>∃i σ' H',Inv X pins σ' H' s'/\tn i s'.heap/\(∀b∈fp,H' b=none)/\W i n σ' H') ?_ m0 ⟨0,σ,H2,I2,st2,λb hb=>(f2 b hb).1,w0⟩;rintro n s3 ⟨i,σ3,H3,I3,st3,fr3,w3⟩;rcases turn i n σ3 H3 w3 with ⟨stop,qn⟩ | ⟨go,N,hN,step⟩
 ·refine wpAny_passesOwn hp (thn (T.done X rfl rfl rfl hc i pins s3 σ3 H3 X.xe I3 (stat fr3) st3 stop) λr s4 ⟨hr,I4⟩=> ?_);subst hr;exact Z2b ⟨σ3,H3,I4,qn⟩
 ·refine wpAny_passesOwn hp (thn (T.item X rfl rfl rfl hc i pins s3 σ3 H3 X.xe I3 (stat fr3) st3 go) λr s4 ⟨u,hr,h4⟩=> ?_);subst hr;refine wpAny_passesOwn hp (thn h4 λ_ s5 ⟨x,H5,I5,r5,y5,st5,fr5⟩=> ?_);have I5':=I5.pinned (stat fr5) (T.obj _ _ st5);refine wpAny_passesOwn hp (thn (hg _ s5 σ3 H5 x u _ I5' r5 (step x H5 y5)) λ_ s6 ⟨σ6,H6,I6,q6⟩=> ?_);refine wpAny_passesOwn hp (thn (hb _ s6 σ6 H6 _ I6 q6) λf s7 q7=> ?_)
  have again:∀{σ7:St} {H7:Hp},Inv X (pins++B8i fp s5.heap) σ7 H7 s7->N σ7 H7->∃m,m<n/\∃i σ' H',Inv X pins σ' H' s7/\tn i s7.heap/\(∀b∈fp,H' b=none)/\W i m σ' H':=λ{σ7 H7} I7 n7=>by
   obtain ⟨m',hm,w7⟩:=hN σ7 H7 n7;refine ⟨m',hm,i+1,σ7,H7,I7.unpinned,T.keep _ _ _ st5 λb hb o e=>(I7.pin (b,o) (Z02 _ (Z02 _ (A4v hb e)))).1,λb hb=> ?_,w7⟩;obtain ⟨o,e,d⟩:=T.obj _ _ st5 b hb;exact (I7.pin (b,o) (Z02 _ (Z02 _ (A4v hb e)))).2.1
  cases f with
  | next=>obtain ⟨σ7,H7,I7,n7⟩:=q7;exact again I7 n7
  | cont=>obtain ⟨σ7,H7,I7,n7⟩:=q7;exact again I7 n7
  | brk=>obtain ⟨σ7,H7,I7,q7⟩:=q7;exact ⟨σ7,H7,I7.unpinned,q7⟩
  | ret v=>obtain ⟨x7,σ7,H7,I7,r7,q7⟩:=q7;exact ⟨x7,σ7,H7,I7.unpinned,r7,q7⟩
end
theorem A8c {K:PySem.W.Frag} {a:Addr} {xs:List V} {g:TG} {tb:TS} {D:B4d} {σ:St} {H:Hp} (Pv:Nat->St->Hp->Prop) (h0:Pv 0 σ H) (hl:∀i σ H,i<=xs.length->Pv i σ H->SqL K H a xs)
  (hs:∀i x σ H,xs[i]? =some x->Pv i σ H->g x σ H λσ2 H2=>tb { D with nx:=Pv (i+1),ct:=Pv (i+1),bk:=D.nx } σ2 H2) (hd:∀σ H,Pv xs.length σ H->D.nx σ H) :
  ∃W:Nat->Nat->St->Hp->Prop,(∃m,W 0 m σ H)/\∀i m σ H,W i m σ H->
   ((Itl K a).stop i H/\D.nx σ H)\/((Itl K a).go i H/\∃N:St->Hp->Prop,(∀σ' H',N σ' H'->∃m',m'<m/\W (i+1) m' σ' H')/\∀x H',(Itl K a).yld i H x H'->g x σ H' λσ2 H2=>tb { D with nx:=N,ct:=N,bk:=D.nx } σ2 H2):=by
 refine ⟨λi m σ H=>m=xs.length-i/\i<=xs.length/\Pv i σ H,⟨xs.length,by simp,Z1e _,h0⟩,?_⟩;rintro i m σ H ⟨rfl,hi,p⟩;have q:=hl i σ H hi p;by_cases hlt:i<xs.length
 ·refine .inr ⟨⟨xs,xs[i],q,by simp [hlt]⟩,Pv (i+1),λσ' H' p'=>⟨xs.length-(i+1),by lia,rfl,hlt,p'⟩,λx H' y=> ?_⟩;obtain ⟨e,y⟩:=y;subst e;exact hs i x σ _ (y xs q) p
 ·have e:i=xs.length:=by lia
  subst e;exact .inl ⟨⟨xs,q,Z09 _⟩,hd σ H p⟩
theorem C6o {K:PySem.W.Frag} {a:Addr} {xs:List V} {g:TG} {tb:TS} {D:B4d} {σ:St} {H:Hp} (Pv:Nat->St->Hp->Prop) (h0:Pv 0 σ H) (hl:∀i σ H,i<=xs.length->Pv i σ H->SqT K H a xs)
  (hs:∀i x σ H,xs[i]? =some x->Pv i σ H->g x σ H λσ2 H2=>tb { D with nx:=Pv (i+1),ct:=Pv (i+1),bk:=D.nx } σ2 H2) (hd:∀σ H,Pv xs.length σ H->D.nx σ H) :
  ∃W:Nat->Nat->St->Hp->Prop,(∃m,W 0 m σ H)/\∀i m σ H,W i m σ H->
   ((Itt K a).stop i H/\D.nx σ H)\/((Itt K a).go i H/\∃N:St->Hp->Prop,(∀σ' H',N σ' H'->∃m',m'<m/\W (i+1) m' σ' H')/\∀x H',(Itt K a).yld i H x H'->g x σ H' λσ2 H2=>tb { D with nx:=N,ct:=N,bk:=D.nx } σ2 H2):=by
 refine ⟨λi m σ H=>m=xs.length-i/\i<=xs.length/\Pv i σ H,⟨xs.length,by simp,Z1e _,h0⟩,?_⟩;rintro i m σ H ⟨rfl,hi,p⟩;have q:=hl i σ H hi p;by_cases hlt:i<xs.length
 ·refine .inr ⟨⟨xs,xs[i],q,by simp [hlt]⟩,Pv (i+1),λσ' H' p'=>⟨xs.length-(i+1),by lia,rfl,hlt,p'⟩,λx H' y=> ?_⟩;obtain ⟨e,y⟩:=y;subst e;exact hs i x σ _ (y xs q) p
 ·have e:i=xs.length:=by lia
  subst e;exact .inl ⟨⟨xs,q,Z09 _⟩,hd σ H p⟩
theorem A4p {lo:Int} {n:Nat} {g:TG} {tb:TS} {D:B4d} {σ:St} {H:Hp} (Pv:Nat->St->Hp->Prop) (h0:Pv 0 σ H)
  (hs:∀i σ H,i<n->Pv i σ H->g (.int (lo+i)) σ H λσ2 H2=>tb { D with nx:=Pv (i+1),ct:=Pv (i+1),bk:=D.nx } σ2 H2) (hd:∀σ H,Pv n σ H->D.nx σ H) :
  ∃W:Nat->Nat->St->Hp->Prop,(∃m,W 0 m σ H)/\∀i m σ H,W i m σ H->
   ((Itr lo n).stop i H/\D.nx σ H)\/((Itr lo n).go i H/\∃N:St->Hp->Prop,(∀σ' H',N σ' H'->∃m',m'<m/\W (i+1) m' σ' H')/\∀x H',(Itr lo n).yld i H x H'->g x σ H' λσ2 H2=>tb { D with nx:=N,ct:=N,bk:=D.nx } σ2 H2):=by
 refine ⟨λi m σ H=>m=n-i/\i<=n/\Pv i σ H,⟨n,by simp,Z1e _,h0⟩,?_⟩;rintro i m σ H ⟨rfl,hi,p⟩;by_cases hlt:i<n
 ·refine .inr ⟨hlt,Pv (i+1),λσ' H' p'=>⟨n-(i+1),by lia,rfl,hlt,p'⟩,λx H' y=> ?_⟩;obtain ⟨e,y⟩:=y;subst e y;exact hs i σ _ hlt p
 ·have e:i=n:=by lia
  subst e;exact .inl ⟨Z09 _,hd σ H p⟩
abbrev R2:=V->V->Hp->VK->Prop
noncomputable def OpR (X:Cx) (f:Value->Value->Sem Value) (r:R2):Prop :=
 ∀(pins:List (Addr×Obj)) (s:Shared) (σ:St) (H:Hp) (x y:V) (v u:Value) (Q:VK),Inv X pins σ H s->A3a x v->A3a y u->r x y H Q->
  wpAny (model X.prog X.w) X.A (f v u) (EP X pins σ Q) X.xe s
noncomputable def UnR (X:Cx) (f:Value->Sem Value) (r:V->Hp->VK->Prop):Prop :=
 ∀(pins:List (Addr×Obj)) (s:Shared) (σ:St) (H:Hp) (x:V) (v:Value) (Q:VK),Inv X pins σ H s->A3a x v->r x H Q->
  wpAny (model X.prog X.w) X.A (f v) (EP X pins σ Q) X.xe s
noncomputable def B3q (X:Cx) (f:Value) (r:List V->Hp->VK->Prop):Prop :=
 ∀(pins:List (Addr×Obj)) (s:Shared) (σ:St) (H:Hp) (xs:List V) (us:List Value) (Q:VK),Inv X pins σ H s->A2v xs us->r xs H Q->
  wpAny (model X.prog X.w) X.A (call f us) (EP X pins σ Q) X.xe s
noncomputable def tOp (r:R2) (ta tb:TE):TE:=λσ H Q=>ta σ H λx H1=>tb σ H1 λy H2=>r x y H2 Q
noncomputable def tUn (r:V->Hp->VK->Prop) (ta:TE):TE:=λσ H Q=>ta σ H λx H1=>r x H1 Q
noncomputable def rI (C:Int->Int->Prop) (g:Int->Int->V):R2:=λx y H Q=>∃i j,x= .int i/\y= .int j/\C i j/\Q (g i j) H
noncomputable def rI0 (g:Int->Int->V):R2:=λx y H Q=>∃i j,x= .int i/\y= .int j/\Q (g i j) H
noncomputable def rU (g:Int->V):V->Hp->VK->Prop:=λx H Q=>∃i,x= .int i/\Q (g i) H
section
variable {X:Cx} {a b c:Expr} {ta tb tc:TE} {pos:Pos}
theorem D9l (ha:PE X a ta) (hb:PE X b tb) {pins:List (Addr×Obj)} {s:Shared} {σ:St} {H:Hp} {R:V->V->Hp->Prop} (I:Inv X pins σ H s)
  (h:ta σ H λx H1=>tb σ H1 λy H2=>R x y H2) {Q:Value->Shared->Prop} {f:Value->Value->Sem Value}
  (hf:∀v u s2 x y H2,Inv X pins σ H2 s2->A3a x v->A3a y u->R x y H2->wpAny (model X.prog X.w) X.A (f v u) Q X.xe s2) :
  wpAny (model X.prog X.w) X.A (eval a X.env) (λv s₁=>wpAny (model X.prog X.w) X.A (eval b X.env) (λu s₂=>wpAny (model X.prog X.w) X.A (f v u) Q X.xe s₂) X.xe s₁) X.xe s:=by
 refine thn (ha pins s σ H _ I h) λv s1 ⟨x,H1,I1,r1,q1⟩=> ?_;refine thn (hb pins s1 σ H1 _ I1 q1) λu s2 ⟨y,H2,I2,r2,q2⟩=> ?_;exact hf v u s2 x y H2 I2 r1 r2 q2
theorem A0v {op:Operator} {r:R2} (ho:OpR X (binaryOp op) r) (ha:PE X a ta) (hb:PE X b tb):PE X (.BinOp a op b pos) (tOp r ta tb):=by
 intro pins s σ H Q I h;exact wpAny_BinOp (D9l ha hb I h λv u s2 x y H2 I2 rx ry q=>ho pins s2 σ H2 x y v u Q I2 rx ry q)
theorem B8c {op:UnaryOp} {r:V->Hp->VK->Prop} (ho:UnR X (unaryOp op) r) (ha:PE X a ta):PE X (.UnaryOp op a pos) (tUn r ta):=by
 intro pins s σ H Q I h;exact UnaryOp_ (thn (ha pins s σ H _ I h) λv s1 ⟨x,H1,I1,r1,q1⟩=>ho pins s1 σ H1 x v Q I1 r1 q1)
theorem opI {f:Value->Value->Sem Value} {C:Int->Int->Prop} {g:Int->Int->Int}
  (rule:∀(i j:Int) (t u:Tok) (s:Shared) (Q:Value->Shared->Prop) (E:Value->Shared->Prop),C i j->Q (.int (g i j) s.toks) { s with toks:=s.toks+1 }->wpAny (model X.prog X.w) X.A (f (.int i t) (.int j u)) Q E s) :
  OpR X f (rI C λi j=> .int (g i j)):=by
 intro pins s σ H x y v u Q I rx ry h;obtain ⟨i,j,rfl,rfl,hc,q⟩:=h;obtain ⟨t,rfl⟩:=rx;obtain ⟨t',rfl⟩:=ry;exact rule i j t t' s _ _ hc ⟨.int (g i j),H,I.tok _,⟨_,rfl⟩,q⟩
theorem D9z {f:Value->Value->Sem Value} {g:Int->Int->Int}
  (rule:∀(i j:Int) (t u:Tok) (s:Shared) (Q:Value->Shared->Prop) (E:Value->Shared->Prop),Q (.int (g i j) s.toks) { s with toks:=s.toks+1 }->wpAny (model X.prog X.w) X.A (f (.int i t) (.int j u)) Q E s) :
  OpR X f (rI0 λi j=> .int (g i j)):=by
 intro pins s σ H x y v u Q I rx ry h;obtain ⟨i,j,rfl,rfl,q⟩:=h;obtain ⟨t,rfl⟩:=rx;obtain ⟨t',rfl⟩:=ry;exact rule i j t t' s _ _ ⟨.int (g i j),H,I.tok _,⟨_,rfl⟩,q⟩
theorem D7t {f:Value->Value->Sem Value} {g:Int->Int->Bool}
  (rule:∀(i j:Int) (t u:Tok) (s:Shared) (Q:Value->Shared->Prop) (E:Value->Shared->Prop),Q (.bool (g i j)) s->wpAny (model X.prog X.w) X.A (f (.int i t) (.int j u)) Q E s) :
  OpR X f (rI0 λi j=> .bl (g i j)):=by
 intro pins s σ H x y v u Q I rx ry h;obtain ⟨i,j,rfl,rfl,q⟩:=h;obtain ⟨t,rfl⟩:=rx;obtain ⟨t',rfl⟩:=ry;exact rule i j t t' s _ _ ⟨.bl (g i j),H,I,rfl,q⟩
noncomputable def CDiv (i j:Int):Prop:=0<j/\j<1073741824
noncomputable def CPow (i j:Int):Prop:=0<=j/\j<=1000000/\i.natAbs<2^64
noncomputable def D7u (i j:Int):Prop:=(-(2^64)<i/\i<2^64)\/(-(2^64)<j/\j<2^64)
theorem D7u.ok {i j:Int} (h:D7u i j):IntMulOk i j:=by
 rcases h with ⟨h1,h2⟩ | ⟨h1,h2⟩
 ·exact .of_left (intBits_le_64 h1 h2)
 ·exact .of_right (intBits_le_64 h1 h2)
theorem A2a:OpR X (binaryOp .Add) (rI0 λi j=> .int (i+j)):=D9z λ_ _ _ _ _ _ _ q=>add_int q
theorem A9s:OpR X (binaryOp .Sub) (rI0 λi j=> .int (i-j)):=D9z λ_ _ _ _ _ _ _ q=>sub_int q
theorem D1b:OpR X (binaryOp .Mult) (rI D7u λi j=> .int (i*j)):=opI λ_ _ _ _ _ _ _ hc q=>mul_int q hc.ok
theorem A3d:OpR X (binaryOp .FloorDiv) (rI CDiv λi j=> .int (i/j)):=opI λi j _ _ _ _ _ hc q=>by
 have h1:(0:Int)<j:=hc.1;have h2:j<1073741824:=hc.2;exact floordiv_int (by lia) (by rw [Int.fdiv_eq_ediv_of_nonneg i (by lia)];exact q) (.inl (PyProof.noPylong_small (by lia)))
theorem A2s:OpR X (binaryOp .Mod) (rI (λ_ j=>0<j) λi j=> .int (i%j)):=opI λi j _ _ _ _ _ hc q=>by
 have h1:(0:Int)<j:=hc;exact mod_int' (by lia) (by rw [Int.fmod_eq_emod_of_nonneg i (by lia)];exact q)
theorem C8d:OpR X (binaryOp .Pow) (rI CPow λi j=> .int (i^j.toNat)):=opI λ_ _ _ _ _ _ _ hc q=>pow_int_small hc.1 hc.2.1 hc.2.2 q
theorem unI {f:Value->Sem Value} {g:Int->Int}
  (rule:∀(i:Int) (t:Tok) (s:Shared) (Q:Value->Shared->Prop) (E:Value->Shared->Prop),Q (.int (g i) s.toks) { s with toks:=s.toks+1 }->wpAny (model X.prog X.w) X.A (f (.int i t)) Q E s) :
  UnR X f (rU λi=> .int (g i)):=by
 intro pins s σ H x v Q I rx h;obtain ⟨i,rfl,q⟩:=h;obtain ⟨t,rfl⟩:=rx;exact rule i t s _ _ ⟨.int (g i),H,I.tok _,⟨_,rfl⟩,q⟩
theorem B1e:UnR X (unaryOp .USub) (rU λi=> .int (-i)):=unI λ_ _ _ _ _ q=>neg_int q
end
noncomputable def D9r:V->V->Bool
 | .non,.non=>true | .non,.int _=>true | .int _,.non=>true | .non,.bl _=>true | .bl _,.non=>true | .non,.str _=>true | .str _,.non=>true
 | .int _,.int _=>true | .bl _,.bl _=>true | .str _,.str _=>true | .byt _,.byt _=>true
 | .int _,.str _=>true | .str _,.int _=>true | .bl _,.str _=>true | .str _,.bl _=>true
 | _,_=>false
noncomputable def rEq:R2:=λx y H Q=>D9r x y=true/\Q (.bl (decide (x=y))) H
noncomputable def rNe:R2:=λx y H Q=>D9r x y=true/\Q (.bl (!decide (x=y))) H
theorem C5h {i j:Int}:decide (V.int i=V.int j)=(i == j):=by
 rw [Bool.eq_iff_iff];simp
theorem D2c {i j:Bool}:decide (V.bl i=V.bl j)=(i == j):=by
 rw [Bool.eq_iff_iff];simp
theorem C3z {i j:Str}:decide (V.str i=V.str j)=(i == j):=by
 rw [Bool.eq_iff_iff];simp
theorem C5n {i j:Array UInt8}:decide (V.byt i=V.byt j)=(i.toList == j.toList):=by
 rw [Bool.eq_iff_iff];cases i;cases j;simp
section
variable {X:Cx} {a b c:Expr} {ta tb tc:TE} {pos:Pos}
theorem A1z {pins:List (Addr×Obj)} {σ:St} {H:Hp} {s:Shared} {Q:VK} {k k':Bool} (I:Inv X pins σ H s) (q:Q (.bl k) H) (e:k=k'):EP X pins σ Q (.bool k') s:=by
 subst e;exact ⟨.bl k,H,I,rfl,q⟩
theorem A3t:OpR X (compareOp .Eq) rEq:=by
 intro pins s σ H x y v u Q I rx ry h;obtain ⟨hs,q⟩:=h
 cases x with
 | non =>
  cases rx
  cases y with
  | non=>cases ry;exact PySem.EqNone.eq_none_none (A1z I q (by simp))
  | bl j=>cases ry;exact PySem.EqNone.eq_none_bool (A1z I q (by simp))
  | int j=>obtain ⟨t',rfl⟩:=ry;exact PySem.EqNone.eq_none_int (A1z I q (by simp))
  | str j=>obtain ⟨t',rfl⟩:=ry;exact PySem.EqNone.eq_none_str (A1z I q (by simp))
  | _=>exact absurd (show false=true from hs) Z0v
 | bl i =>
  cases rx
  cases y with
  | non=>cases ry;exact PySem.EqNone.eq_bool_none (A1z I q (by simp))
  | bl j=>cases ry;exact eq_bool (A1z I q D2c)
  | str j=>obtain ⟨t',rfl⟩:=ry;exact PySem.EqMixed.eq_bool_str (A1z I q (by simp))
  | _=>exact absurd (show false=true from hs) Z0v
 | int i =>
  obtain ⟨t,rfl⟩:=rx
  cases y with
  | non=>cases ry;exact PySem.EqNone.eq_int_none (A1z I q (by simp))
  | int j=>obtain ⟨t',rfl⟩:=ry;exact eq_int (A1z I q C5h)
  | str j=>obtain ⟨t',rfl⟩:=ry;exact PySem.EqMixed.eq_int_str (A1z I q (by simp))
  | _=>exact absurd (show false=true from hs) Z0v
 | str i =>
  obtain ⟨t,rfl⟩:=rx
  cases y with
  | non=>cases ry;exact PySem.EqNone.eq_str_none (A1z I q (by simp))
  | bl j=>cases ry;exact PySem.EqMixed.eq_str_bool (A1z I q (by simp))
  | int j=>obtain ⟨t',rfl⟩:=ry;exact PySem.EqMixed.eq_str_int (A1z I q (by simp))
  | str j=>obtain ⟨t',rfl⟩:=ry;exact eq_str (A1z I q C3z)
  | _=>exact absurd (show false=true from hs) Z0v
 | byt i =>
  obtain ⟨t,rfl⟩:=rx
  cases y with
  | byt j=>obtain ⟨t',rfl⟩:=ry;exact PySem.W.eq_bytes (A1z I q C5n)
  | _=>exact absurd (show false=true from hs) Z0v
 | _=>cases y <;> exact absurd (show false=true from hs) Z0v
theorem B1u:OpR X (compareOp .NotEq) rNe:=by
 intro pins s σ H x y v u Q I rx ry h;obtain ⟨hs,q⟩:=h
 cases x with
 | non =>
  cases rx
  cases y with
  | non=>cases ry;exact PySem.EqNone.ne_none_none (A1z I q (by simp))
  | bl j=>cases ry;exact PySem.EqNone.ne_none_bool (A1z I q (by simp))
  | int j=>obtain ⟨t',rfl⟩:=ry;exact PySem.EqNone.ne_none_int (A1z I q (by simp))
  | str j=>obtain ⟨t',rfl⟩:=ry;exact PySem.EqNone.ne_none_str (A1z I q (by simp))
  | _=>exact absurd (show false=true from hs) Z0v
 | bl i =>
  cases rx
  cases y with
  | non=>cases ry;exact PySem.EqNone.ne_bool_none (A1z I q (by simp))
  | bl j=>cases ry;exact ne_bool (A1z I q (congrArg not D2c))
  | str j=>obtain ⟨t',rfl⟩:=ry;exact PySem.EqMixed.ne_bool_str (A1z I q (by simp))
  | _=>exact absurd (show false=true from hs) Z0v
 | int i =>
  obtain ⟨t,rfl⟩:=rx
  cases y with
  | non=>cases ry;exact PySem.EqNone.ne_int_none (A1z I q (by simp))
  | int j=>obtain ⟨t',rfl⟩:=ry;exact ne_int (A1z I q (congrArg not C5h))
  | str j=>obtain ⟨t',rfl⟩:=ry;exact PySem.EqMixed.ne_int_str (A1z I q (by simp))
  | _=>exact absurd (show false=true from hs) Z0v
 | str i =>
  obtain ⟨t,rfl⟩:=rx
  cases y with
  | non=>cases ry;exact PySem.EqNone.ne_str_none (A1z I q (by simp))
  | bl j=>cases ry;exact PySem.EqMixed.ne_str_bool (A1z I q (by simp))
  | int j=>obtain ⟨t',rfl⟩:=ry;exact PySem.EqMixed.ne_str_int (A1z I q (by simp))
  | str j=>obtain ⟨t',rfl⟩:=ry;exact ne_str (A1z I q (congrArg not C3z))
  | _=>exact absurd (show false=true from hs) Z0v
 | byt i =>
  obtain ⟨t,rfl⟩:=rx
  cases y with
  | byt j=>obtain ⟨t',rfl⟩:=ry;exact PySem.W.ne_bytes (A1z I q (congrArg not C5n))
  | _=>exact absurd (show false=true from hs) Z0v
 | _=>cases y <;> exact absurd (show false=true from hs) Z0v
theorem D5p:OpR X (compareOp .Lt) (rI0 λi j=> .bl (decide (i<j))):=D7t λ_ _ _ _ _ _ _ q=>lt_int q
theorem D8u:OpR X (compareOp .LtE) (rI0 λi j=> .bl (decide (i<=j))):=D7t λ_ _ _ _ _ _ _ q=>le_int q
theorem D9g:OpR X (compareOp .GtE) (rI0 λi j=> .bl (decide (j<=i))):=D7t λ_ _ _ _ _ _ _ q=>ge_int q
theorem D5s:OpR X (compareOp .Is) (λx y H Q=>y= .non/\Q (.bl (decide (x= .non))) H):=by
 intro pins s σ H x y v u Q I rx ry h;obtain ⟨rfl,q⟩:=h;cases ry;refine is_none_gen (A1z I q ?_)
 cases x <;> first
  | (cases rx;rfl)
  | (obtain ⟨t,rfl⟩:=rx;rfl)
theorem D2l:OpR X (compareOp .IsNot) (λx y H Q=>y= .non/\Q (.bl (!decide (x= .non))) H):=by
 intro pins s σ H x y v u Q I rx ry h;obtain ⟨rfl,q⟩:=h;cases ry;refine isnot_none_gen (A1z I q ?_)
 cases x <;> first
  | (cases rx;rfl)
  | (obtain ⟨t,rfl⟩:=rx;rfl)
theorem A1c (b:Expr) {op:CmpOp} (h:op≠.In:=by decide) (h2:op≠.NotIn:=by decide):behindInMarks op b=false:=by
 have e1:(op == CmpOp.In)=false:=by cases op <;> first | rfl | exact absurd rfl h
 have e2:(op == CmpOp.NotIn)=false:=by cases op <;> first | rfl | exact absurd rfl h2
 cases b <;> simp [behindInMarks,e1,e2]
theorem B9f {op:CmpOp} {r:R2} (ho:OpR X (compareOp op) r) (ha:PE X a ta) (hb:PE X b tb) (hm:behindInMarks op b=false):PE X (.Compare a [op] [b] pos) (tOp r ta tb):=by
 intro pins s σ H Q I h;exact wpAny_Compare1 (D9l ha hb I h λv u s2 x y H2 I2 rx ry q=>ho pins s2 σ H2 x y v u Q I2 rx ry q) hm
noncomputable def D8n (t:TE):TT:=λσ H Q=>t σ H λx H'=>∃k,x= .bl k/\Q k H'
theorem A0w {op:CmpOp} {r:R2} (ho:OpR X (compareOp op) r) (ha:PE X a ta) (hb:PE X b tb) (hm:behindInMarks op b=false):PT X (.Compare a [op] [b] pos) (D8n (tOp r ta tb)):=by
 intro pins s σ H Q I h
 refine wpAny_isTrue_Compare1 (thn (ha pins s σ H _ I h) λv s1 ⟨x,H1,I1,r1,q1⟩=>thn (hb pins s1 σ H1 _ I1 q1) λu s2 ⟨y,H2,I2,r2,q2⟩ =>
  thn (ho pins s2 σ H2 x y v u _ I2 r1 r2 q2) λc s3 ⟨z,H3,I3,r3,k,e,q3⟩=> ?_) hm
 subst e;cases r3;exact wpAny_truthy_bool ⟨H3,I3,q3⟩
theorem C6x:(sizeLine:Nat)<2^63:=by rw [sizeLine_eq];decide
theorem B4l:OpR X (binaryOp .Add) (λx y H Q=>∃i j,x= .str i/\y= .str j/\i.length+j.length<=sizeLine/\Q (.str (i++j)) H):=by
 intro pins s σ H x y v u Q I rx ry h;obtain ⟨i,j,rfl,rfl,hz,q⟩:=h;obtain ⟨t,rfl⟩:=rx;obtain ⟨t',rfl⟩:=ry;exact add_str (λt' tk=>⟨.str (i++j),H,I.tok _,⟨_,rfl⟩,q⟩) hz
theorem B5q {x:V} {us:List Value} (r:A2v [x] us):∃u,us=[u]/\A3a x u:=by
 cases r with
 | cons r1 r2=>cases r2;exact ⟨_,rfl,r1⟩
theorem D0w {x y:V} {us:List Value} (r:A2v [x,y] us):∃u w',us=[u,w']/\A3a x u/\A3a y w':=by
 cases r with
 | cons r1 r2 =>
  cases r2 with
  | cons r3 r4=>cases r4;exact ⟨_,_,rfl,r1,r3⟩
theorem C7r (hc:X.calm=true):B3q X (.builtin "max") (λxs H Q=>∃i j,xs=[.int i,.int j]/\Q (.int (if j>i then j else i)) H):=by
 intro pins s σ H xs us Q I r h;obtain ⟨i,j,rfl,q⟩:=h;obtain ⟨u,w',rfl,⟨t,rfl⟩,⟨t',rfl⟩⟩:=D0w r;refine max_two_ints (I.ok.hd hc) λh' tk k=>⟨_,H,I.kept k,?_,q⟩;by_cases hj:j>i
 ·rw [Z12 hj,Z12 hj];exact ⟨_,rfl⟩
 ·rw [Z0t hj,Z0t hj];exact ⟨_,rfl⟩
theorem C4y (hc:X.calm=true):B3q X (.builtin "min") (λxs H Q=>∃i j,xs=[.int i,.int j]/\Q (.int (if j<i then j else i)) H):=by
 intro pins s σ H xs us Q I r h;obtain ⟨i,j,rfl,q⟩:=h;obtain ⟨u,w',rfl,⟨t,rfl⟩,⟨t',rfl⟩⟩:=D0w r;refine min_two_ints (I.ok.hd hc) λh' tk k=>⟨_,H,I.kept k,?_,q⟩;by_cases hj:j<i
 ·rw [Z12 hj,Z12 hj];exact ⟨_,rfl⟩
 ·rw [Z0t hj,Z0t hj];exact ⟨_,rfl⟩
theorem B1b:B3q X (.type "str") (λxs H Q=>∃i,xs=[.int i]/\i.natAbs.log2<1920/\Q (.str (toString i)) H):=by
 intro pins s σ H xs us Q I r h;obtain ⟨i,rfl,hz,q⟩:=h;obtain ⟨u,rfl,t,rfl⟩:=B5q r;exact PySem.P.str_of_int hz ⟨.str _,H,I.tok _,⟨_,rfl⟩,q⟩
end
structure D4v (h:Heap) (x dx C:Addr) (mA:Str->Option Value):Prop where
 obj:h.get? x=some (PySem.W.instObj C dx)
 ns:h.Ns1 dx mA
 ne:dx≠x
theorem C6w {h:Heap} {dx:Addr} {mA:Str->Option Value} (n:h.Ns1 dx mA):∃od,h.get? dx=some od/\∀name,PySem.W.lookIn name od=some (mA name):=by
 obtain ⟨o,es,ep,ho,hd,hk,_,hm⟩:=n;refine ⟨o,ho,λname=> ?_⟩;have e:=hm name;unfold nsFind findBy at e;rw [<-Array.find?_toList] at e;unfold PySem.W.lookIn;rw [hd];dsimp only;split
 ·rename_i y q;rw [q] at e;exact congrArg some e
 ·rename_i q;rw [q] at e
  have a:es.toList.any (·.refKey)=false:=by
   rw [List.any_eq_false];intro y hy;obtain ⟨z,t,hkey⟩:=hk y (Array.mem_toList_iff.mp hy);simp [DictEntry.refKey,hkey]
  have a':¬es.toList.any (·.refKey)=true:=by rw [a];exact Z0v
  rw [Z0t a'];exact congrArg some e
theorem D4v.look {h:Heap} {x dx C:Addr} {mA:Str->Option Value} (I:D4v h x dx C mA):∃od,PySem.W.InstAt h x (PySem.W.instObj C dx) C (some od)/\∀name,PySem.W.lookIn name od=some (mA name) :=
 let ⟨od,ho,hl⟩:=C6w I.ns
 ⟨od,⟨I.obj,rfl,rfl,ho⟩,hl⟩
section
variable {prog:Program} {w:World} {A:Around} {E:Value->Shared->Prop} {s:Shared} {K:PySem.W.Frag} {x dx C f:Addr} {mA:Str->Option Value} {name:Str} {v:Value}
theorem A4f {expr:Bool} {Q:Value->Shared->Prop} (X:K.In s.heap) (I:D4v s.heap x dx C mA) (hg:PySem.W.plainGet K C name=true) (hh:PySem.W.hasDictIn K C=true)
  (ha:PySem.W.findIn K (.ref C) name=some none) (hv:mA name=some v) (hv':PySem.W.handedIn v=true) (h:Q v { s with toks:=s.toks+1 }) :
  wpAny (model prog w) A (getAttr (.ref x) name expr) Q E s:=by
 obtain ⟨od,J,hl⟩:=I.look;exact PySem.W.get_value X J (PySem.W.plainGet_of hg).1 (PySem.W.findObj_own hh ha rfl (by rw [hl,hv])) hv' h
theorem D2p {ns:List Str} {Q:Unit->Shared->Prop} (X:K.In s.heap) (I:D4v s.heap x dx C mA)
  (hs:PySem.W.findIn K (.ref C) "__setattr__"=some (some (.builtin "object.__setattr__"))) (hp:PySem.W.plainOver K C=true) (ht:PySem.W.takerIn K C name=some none) (hh:PySem.W.hasDictIn K C=true)
  (hw:PySem.Within mA ns) (hsz:ns.length<=sizeLine)
  (h:∀h',D4v h' x dx C (λy=>if y=name then some v else mA y)->Heap.SameBut dx s.heap h'->Q () { s with heap:=h',toks:=s.toks+2 }) :
  wpAny (model prog w) A (setAttr (.ref x) name v) Q E s:=by
 obtain ⟨od,J,hl⟩:=I.look;refine PySem.W.set_plain X J hs (PySem.W.osa_open (s:={ s with toks:=s.toks+1 }) (r:=none) X J hp ht λb=> ?_)
 obtain ⟨cd,hc,hd'⟩:=PySem.W.any_some hh;have hx:s.heap.get? x=some ⟨.ref C,some dx,.plain,#[]⟩:=I.obj;refine Z00 (Z04 (Z00 (Z00 (wpAny_loadPart hx (Z00 (PySem.W.Looks.here (s:={ s with toks:=s.toks+1 }) (PySem.W.looks_clsIn X hc) ?_))))));rw [hd'];refine Z04 (a:=some dx) (Z00 (Z04 (Z00 ?_)));refine wpAny_nsSet1 (s:={ s with toks:=s.toks+1 }) I.ns λh' hn2 hs2=> ?_
 obtain ⟨oD,esD,epD,hoD,hdD,hcD⟩:=hn2.count (PySem.Within.cons name v hw);refine Z00 (wpAny_lookBehind hoD (by rw [hdD];exact pastItsLine_dict (Z1n hcD (by rw [Z0y];lia))) ?_);exact Z04 (h _ ⟨(hs2.2 _ (Ne.symm I.ne)).trans I.obj,hn2,I.ne⟩ hs2)
theorem D0d {R:Result->Shared->Prop} {vs:List Value} {kw:List (Str×Value)} (X:K.In s.heap) (hm:PySem.W.makesIn K C=true)
  (hi:PySem.W.findIn K (.ref C) "__init__"=some (some (.ref f))) (hf:PySem.W.typeIn K (.ref f)=some (.type "function"))
  (h:codeAny (model prog w) (A.under (.builtin "type.__call__" ⟨.ref C::vs,kw⟩)) (.call (.ref f) ⟨.ref (s.heap.objs.size+1)::vs,kw⟩) (PySem.W.InitBack (s.heap.objs.size+1) R)
   { s with heap:=(s.heap.push PySem.W.emptyDict).push (PySem.W.instObj C s.heap.objs.size) }) :
  codeAny (model prog w) A (.call (.ref C) ⟨vs,kw⟩) R s:=by
 obtain ⟨hh,g,d,t,os⟩:=s;exact PySem.W.make_core (PySem.W.makes_of X hm) (PySem.W.looks_findIn X hi) (λself=>PySem.W.bind_fn X self hf) (.inl rfl) h
end
noncomputable def B0d (f:Str) (v:V):List (Str×V)->List (Str×V)
 | []=>[(f,v)]
 | (g,x)::r=>if g=f then (g,v)::r else (g,x)::B0d f v r
theorem B3g (f g:Str) (v:V):∀fs:List (Str×V),(B0d f v fs).lookup g=if g=f then some v else fs.lookup g
 | []=>by
  show List.lookup g [(f,v)]=_;by_cases h:g=f
  ·have hb:(g == f)=true:=beq_iff_eq.mpr h;simp only [List.lookup,hb,Z12 h]
  ·have hb:(g == f)=false:=Z22.mpr h;simp only [List.lookup,hb,Z0t h]
 | (k,x)::r=>by
  have ih:=B3g f g v r;rw [show B0d f v ((k,x)::r)=(if k=f then (k,v)::r else (k,x)::B0d f v r) from rfl];by_cases hk:k=f
  ·rw [Z12 hk];by_cases h:g=k
   ·have hb:(g == k)=true:=beq_iff_eq.mpr h;simp only [List.lookup,hb,Z12 (h.trans hk)]
   ·have hb:(g == k)=false:=Z22.mpr h;simp only [List.lookup,hb,Z0t (λe:g=f=>h (e.trans hk.symm))]
  ·rw [Z0t hk];by_cases h:g=k
   ·have hb:(g == k)=true:=beq_iff_eq.mpr h;simp only [List.lookup,hb,Z0t (λe:g=f=>hk (h.symm.trans e))]
   ·have hb:(g == k)=false:=Z22.mpr h;simp only [List.lookup,hb];exact ih
theorem B3f (f:Str) (v:V):∀fs:List (Str×V),f∈(B0d f v fs).map (·.1)/\∀g,g∈fs.map (·.1)->g∈(B0d f v fs).map (·.1)
 | []=>⟨by simp [B0d],λg h=>by simp at h⟩
 | (k,x)::r=>by
  obtain ⟨i1,i2⟩:=B3f f v r;rw [show B0d f v ((k,x)::r)=(if k=f then (k,v)::r else (k,x)::B0d f v r) from rfl];by_cases hk:k=f
  ·rw [Z12 hk];subst hk;exact ⟨by simp,λg h=>by simpa using h⟩
  ·rw [Z0t hk];refine ⟨?_,λg h=> ?_⟩
   ·rw [Z0p];exact Z1f _ i1
   ·rw [Z0p] at h⊢;rcases Z0e.mp h with e | e
    ·exact Z0e.mpr (.inl e)
    ·exact Z1f _ (i2 g e)
theorem B3j (f:Str) (v:V):∀fs:List (Str×V),(B0d f v fs).length<=fs.length+1
 | []=>by simp [B0d]
 | (k,x)::r=>by
  have ih:=B3j f v r;rw [show B0d f v ((k,x)::r)=(if k=f then (k,v)::r else (k,x)::B0d f v r) from rfl];by_cases hk:k=f
  ·rw [Z12 hk,Z0y,Z0y];lia
  ·rw [Z0t hk,Z0y,Z0y];lia
theorem B9b.some_of {v:V} {o:Option Value} (r:B9b (some v) o):∃u,o=some u/\A3a v u:=by
 cases o with
 | none=>exact (show False from r).elim
 | some u=>exact ⟨u,rfl,r⟩
theorem B8b {v:V} {u:Value} (r:A3a v u):PySem.W.handedIn u=true:=by
 cases v with
 | non=>cases (show u=Value.none from r);rfl
 | bl b=>cases (show u=Value.bool b from r);rfl
 | int i=>obtain ⟨t,e⟩:=(show∃t,u=Value.int i t from r);cases e;rfl
 | str x=>obtain ⟨t,e⟩:=(show∃t,u=Value.str x t from r);cases e;rfl
 | byt b=>obtain ⟨t,e⟩:=(show∃t,u=Value.bytes b t from r);cases e;rfl
 | flt b=>obtain ⟨t,e⟩:=(show∃t,u=Value.float b t from r);cases e;rfl
 | ref a=>cases (show u=Value.ref a from r);rfl
 | ty n=>cases (show u=Value.type n from r);rfl
section
variable {P:Program} {w:World} {H H':Hp} {h h':Heap} {a C dx:Addr} {fs fs':List (Str×V)}
theorem B9j (hok:HOk P w H h) (e:H a=some (.ins C dx fs)):∃mA,D4v h a dx C mA/\(∀f,B9b (fs.lookup f) (mA f))/\PySem.Within mA (fs.map (·.1))/\fs.length<=1000/\H dx=some (.own a):=by
 obtain ⟨d,z,ne,ob,mA,n,r,q⟩:=(show A1v P w H h a (.ins C dx fs) from hok a _ e);exact ⟨mA,⟨ob,n,ne⟩,r,q,z,d⟩
end
structure Cls (K:PySem.W.Frag) (C:Addr):Prop where
 pg:PySem.W.plainGet K C Str.empty=true
 hd:PySem.W.hasDictIn K C=true
 po:PySem.W.plainOver K C=true
 sa:PySem.W.findIn K (.ref C) "__setattr__"=some (some (.builtin "object.__setattr__"))
theorem Cls.get {K:PySem.W.Frag} {C:Addr} (c:Cls K C) (f:Str):PySem.W.plainGet K C f=true:=c.pg
noncomputable def A4b (K:PySem.W.Frag) (C:Addr) (f:Str):Prop:=PySem.W.findIn K (.ref C) f=some none
theorem A4b.taker {K:PySem.W.Frag} {C:Addr} {f:Str} (n:A4b K C f):PySem.W.takerIn K C f=some none:=by
 unfold PySem.W.takerIn;rw [show PySem.W.findIn K (.ref C) f=some none from n];rfl
section
variable {X:Cx} {pins:List (Addr×Obj)} {σ:St} {H:Hp} {s:Shared} {a C dx:Addr} {fs:List (Str×V)} {f:Str} {v:V} {A:Around} {E:Value->Shared->Prop}
theorem C2t {b:Bool} {Q:Value->Shared->Prop} (I:Inv X pins σ H s) (e:H a=some (.ins C dx fs)) (c:Cls X.K C) (n:A4b X.K C f) (l:fs.lookup f=some v)
  (h:∀u s',Inv X pins σ H s'->A3a v u->Q u s'):wpAny (model X.prog X.w) A (getAttr (.ref a) f b) Q E s:=by
 obtain ⟨mA,O,r,_,_,_⟩:=B9j I.hok e;obtain ⟨u,hu,ru⟩:=B9b.some_of (v:=v) (o:=mA f) (by rw [<-l];exact r f);exact A4f I.kIn O (c.get f) c.hd n hu (B8b ru) (h u _ (I.tok _) ru)
theorem C2y {y:V} {u:Value} {Q:Unit->Shared->Prop} (I:Inv X pins σ H s) (e:H a=some (.ins C dx fs)) (c:Cls X.K C) (n:A4b X.K C f) (hl:fs.length<1000) (ry:A3a y u)
  (h:∀s',Inv X pins σ (upd H a (.ins C dx (B0d f y fs))) s'->Q () s'):wpAny (model X.prog X.w) A (setAttr (.ref a) f u) Q E s:=by
 obtain ⟨mA,O,r,wi,_,ho⟩:=B9j I.hok e;have hz:(fs.map (·.1)).length<=sizeLine:=by rw [Z08,sizeLine_eq];lia
 refine D2p I.kIn O c.sa c.po n.taker c.hd wi hz λh' O' sb=>h _ ?_;have hd:∃o,h'.get? dx=some o:=let ⟨o,_,_,e',_⟩:=O'.ns;⟨o,e'⟩;refine I.write (x:=a) (e:=dx) (by rw [e];exact True.intro) (.inr ho) (λb q hb z=>(sb.2 b hb).trans z) hd ?_;refine ⟨by rw [A0l O.ne];exact ho,?_,O.ne,O'.obj,_,O'.ns,λg=> ?_,λg hg=> ?_⟩
 ·have:=B3j f y fs;lia
 ·show B9b ((B0d f y fs).lookup g) (if g=f then some u else mA g);rw [B3g];by_cases q:g=f
  ·rw [Z12 q,Z12 q];exact ry
  ·rw [Z0t q,Z0t q];exact r g
 ·by_cases q:g=f
  ·rw [q];exact (B3f f y fs).1
  ·refine (B3f f y fs).2 g (wi g λz=>hg ?_);show (if g=f then some u else mA g)=none;rw [Z0t q];exact z
theorem Inv.made (I:Inv X pins σ H s):Inv X pins σ (upd (upd H s.heap.objs.size (.own (s.heap.objs.size+1))) (s.heap.objs.size+1) (.ins C s.heap.objs.size []))
  { s with heap:=(s.heap.push PySem.W.emptyDict).push (PySem.W.instObj C s.heap.objs.size) }:=by
 have e1:(s.heap.push PySem.W.emptyDict).get? s.heap.objs.size=some PySem.W.emptyDict:=Z0c s.heap rfl
 have e2:((s.heap.push PySem.W.emptyDict).push (PySem.W.instObj C s.heap.objs.size)).get? (s.heap.objs.size+1)=some (PySem.W.instObj C s.heap.objs.size):=by
  have:=Z0c (s.heap.push PySem.W.emptyDict) (o:=PySem.W.instObj C s.heap.objs.size) rfl
  rwa [Z1s] at this
 have e3:(s.heap.push PySem.W.emptyDict).Ns s.heap.objs.size (λ_=>none):=⟨PySem.W.emptyDict,#[],_,e1,rfl,(λe he=>absurd he (by simp)),λ_=>rfl⟩;have I1:=I.laid (a:=s.heap.objs.size) (o:= .own (s.heap.objs.size+1)) (h':=s.heap.push PySem.W.emptyDict) (t':=s.toks) (λb u q=>Z01 _ q) (Z09 _) ⟨_,e1⟩;refine I1.laid (a:=s.heap.objs.size+1) (o:= .ins C s.heap.objs.size []) (t':=s.toks) (λb u q=>Z01 _ q) (Nat.le_of_eq (Z1s _ _)) ?_;have ne:s.heap.objs.size≠s.heap.objs.size+1:=Z0h (Nat.lt_succ_self _);refine ⟨by rw [A0l ne,A0b],Z1e _,ne,e2,λ_=>none,(Heap.Ns1.of_empty e3).at λo q=>Z01 _ q,λ_=>True.intro,λy hy=>absurd rfl hy⟩
theorem C5f {prog:Program} {w:World} {env:Env} {e:Expr} {f:Str} {pos:Pos} {s:Shared} {Q:Value->Shared->Prop} (hb:attributeBase e f env (eval e env)=eval e env)
  (h:wpAny (model prog w) A (eval e env) (λo s₁=>wpAny (model prog w) A (getAttr o f true) Q E s₁) E s):wpAny (model prog w) A (eval (.Attribute e f pos) env) Q E s :=
 Attribute_any_ h (by rw [arm_eval_Attribute,hb])
end
noncomputable def tFld (K:PySem.W.Frag) (ta:TE) (f:Str):TE:=λσ H Q=>ta σ H λx H1=>∃a C dx fs v,x= .ref a/\H1 a=some (.ins C dx fs)/\Cls K C/\A4b K C f/\fs.lookup f=some v/\Q v H1
noncomputable def sFld (K:PySem.W.Frag) (ta tv:TE) (f:Str):TS:=λD σ H=>tv σ H λy H1=>ta σ H1 λx H2=>∃a C dx fs,x= .ref a/\H2 a=some (.ins C dx fs)/\Cls K C/\A4b K C f/\fs.length<1000/\
 D.nx σ (upd H2 a (.ins C dx (B0d f y fs)))
section
variable {X:Cx} {o e value:Expr} {f:Str} {pos pos' tpos:Pos} {ta tv:TE}
theorem A6y (he:PE X e ta) (hb:attributeBase e f X.env (eval e X.env)=eval e X.env):PE X (.Attribute e f pos) (tFld X.K ta f):=by
 intro pins s σ H Q I h;refine C5f hb (thn (he pins s σ H _ I h) λu s1 ⟨x,H1,I1,rx,a,C,dx,fs,v,ex,ea,c,n,l,q⟩=> ?_);subst ex;obtain rfl:u=Value.ref a:=rx;exact C2t I1 ea c n l λu' s2 I2 ru=>⟨v,H1,I2,ru,q⟩
theorem A7i (ha:PE X o ta) (hv:PE X value tv) (hs:swapsWith value (some (.Attribute o f pos')) pos.line X.env=pure false):PS X (.Assign [.Attribute o f pos'] value pos) (sFld X.K ta tv f):=by
 intro pins s σ H D I h;refine plainObj_wpAny_Assign_Attribute (thn (hv pins s σ H _ I h) λu s1 ⟨y,H1,I1,ry,q⟩=>thn (ha pins s1 σ H1 _ I1 q) λov s2 ⟨x,H2,I2,rx,a,C,dx,fs,ex,ea,c,n,l,q2⟩=> ?_) hs;subst ex;obtain rfl:ov=Value.ref a:=rx;exact C2y I2 ea c n l ry λs3 I3=>⟨σ,_,I3,q2⟩
end
section
variable {X:Cx} {pins:List (Addr×Obj)} {σ:St} {H:Hp} {s:Shared} {A:Around} {E:Value->Shared->Prop} {Q:Value->Shared->Prop} {c:Value} {b:Bool}
inductive B8z (K:PySem.W.Frag) (H:Hp):V->Value->Prop where
 | non:B8z K H .non (.type "NoneType")
 | bl (x:Bool):B8z K H (.bl x) (.type "bool")
 | int (i:Int):B8z K H (.int i) (.type "int")
 | str (x:Str):B8z K H (.str x) (.type "str")
 | flt (x:UInt64):B8z K H (.flt x) (.type "float")
 | lst {a:Addr} {xs:List V} (e:H a=some (.lst xs)):B8z K H (.ref a) (.type "list")
 | frz {a:Addr} {o:Obj} {xs:List V} (e:H a=some (.frz o (.lst xs))):B8z K H (.ref a) (.type "list")
 | tup {a:Addr} {xs:List V} (e:H a=some (.tup xs)):B8z K H (.ref a) (.type "tuple")
 | dK {a:Addr} {kvs:List (Key×V)} (e:H a=some (.dK kvs)):B8z K H (.ref a) (.type "dict")
 | dT {a:Addr} {kvs:List (List Key×V)} (e:H a=some (.dT kvs)):B8z K H (.ref a) (.type "dict")
 | ins {a C dx:Addr} {fs:List (Str×V)} (e:H a=some (.ins C dx fs)) (cl:Cls K C) (ha:PySem.W.findIn K (.ref C) "__class__"=some (some (.builtin "object.__class__")))
   (hn:PySem.W.specialIn K (.builtin "object.__class__") "__get__"=some (some (.builtin "getset_descriptor.__get__"))) (htk:PySem.W.takesIn K (.builtin "object.__class__")=some true)
   (hm:PySem.W.mroIn K C (.type "object")=some true):B8z K H (.ref a) (.ref C)
theorem C7m {x:V} {u t:Value} (I:Inv X pins σ H s) (rx:A3a x u) (ty:B8z X.K H x t) (e:PySem.W.kitOne X.K t c=some b) (h:∀tk,Q (.bool b) { s with toks:=tk }) :
  wpAny (model X.prog X.w) A (call (.builtin "isinstance") [u,c]) Q E s:=by
 cases ty with
 | non=>cases (show u=Value.none from rx);exact PySem.W.kia_one PySem.W.kitx_none I.kIn True.intro e (λz=>nomatch z) h
 | bl y=>cases (show u=Value.bool y from rx);exact PySem.W.kia_one PySem.W.kitx_bool I.kIn True.intro e (λz=>nomatch z) h
 | int i=>obtain ⟨t,q⟩:=(show∃t,u=Value.int i t from rx);cases q;exact PySem.W.kia_one PySem.W.kitx_int I.kIn True.intro e (λz=>nomatch z) h
 | str y=>obtain ⟨t,q⟩:=(show∃t,u=Value.str y t from rx);cases q;exact PySem.W.kia_one PySem.W.kitx_str I.kIn True.intro e (λz=>nomatch z) h
 | flt y=>obtain ⟨t,q⟩:=(show∃t,u=Value.float y t from rx);cases q;exact PySem.W.kia_one PySem.W.kitx_float I.kIn True.intro e (λz=>nomatch z) h
 | @lst a xs ea =>
  cases (show u=Value.ref a from rx)
  obtain ⟨_,_,n,_,h1⟩:=(show A1v X.prog X.w H s.heap a (.lst xs) from I.hok a _ ea);exact PySem.W.kia_one PySem.W.kitx_list I.kIn ⟨_,h1,rfl⟩ e (λz=>nomatch z) h
 | @frz a ob xs ea =>
  cases (show u=Value.ref a from rx)
  obtain ⟨_,_,_,n,_,h1⟩:=(show A1v X.prog X.w H s.heap a (.frz ob (.lst xs)) from I.hok a _ ea);exact PySem.W.kia_one PySem.W.kitx_list I.kIn ⟨_,h1,rfl⟩ e (λz=>nomatch z) h
 | @tup a xs ea =>
  cases (show u=Value.ref a from rx)
  obtain ⟨_,_,_,p⟩:=(show A1v X.prog X.w H s.heap a (.tup xs) from I.hok a _ ea);obtain ⟨o,h1,h2,_⟩:=p;exact PySem.W.kia_one PySem.W.kitx_tuple I.kIn ⟨o,h1,h2⟩ e (λz=>nomatch z) h
 | @dK a kvs ea =>
  cases (show u=Value.ref a from rx)
  obtain ⟨_,_,vs,_,p⟩:=(show A1v X.prog X.w H s.heap a (.dK kvs) from I.hok a _ ea);obtain ⟨o,es,ep,h1,h2,_⟩:=p;exact PySem.W.kia_one PySem.W.kitx_dict I.kIn ⟨o,h1,h2.1⟩ e (λz=>nomatch z) h
 | @dT a kvs ea =>
  cases (show u=Value.ref a from rx)
  obtain ⟨_,_,xs,_,o,es,ep,h1,h2,_⟩:=(show A1v X.prog X.w H s.heap a (.dT kvs) from I.hok a _ ea);exact PySem.W.kia_one PySem.W.kitx_dict I.kIn ⟨o,h1,h2.1⟩ e (λz=>nomatch z) h
 | @ins a C dx fs ea cl ha hn htk hm =>
  cases (show u=Value.ref a from rx)
  obtain ⟨mA,O,_⟩:=B9j I.hok ea;obtain ⟨od,J,_⟩:=O.look;exact PySem.W.kia_one (PySem.W.kitx_own (cl.get _) cl.hd ha hn htk hm) I.kIn J e (λz=>nomatch z) h
end
structure A6p (k:Nat) (A:Around):Prop where
 hd:A.handled=none
 dp:A.depth+3*k+5<recursionLimit
 un:A.units+16*k+200<cLine
 gd:A.guards=some []
theorem A6p.mono {j k:Nat} {A:Around} (r:A6p k A) (h:j<=k):A6p j A:=⟨r.hd,by have:=r.dp;lia,by have:=r.un;lia,r.gd⟩
theorem A6p.deeper {k:Nat} {A:Around} (r:A6p (k+1) A) (env:Env):A6p k (A.deeper env) :=
 ⟨r.hd,by have:=r.dp;show A.depth+1+3*k+5<_;lia,by have:=r.un;show A.units+3+16*k+200<_;lia,r.gd⟩
theorem C2h {A:Around} {C:Addr} {us:List Value} {kw:List (Str×Value)}:(A.under (.builtin "type.__call__" ⟨.ref C::us,kw⟩)).depth=A.depth+1:=by
 first | rfl | simp [Around.under,Code.weight,Code.isCreation,Code.isGuard,Code.isCaller,Code.frames,Code.isFrame,guardIds]
theorem C3m {A:Around} {C:Addr} {us:List Value} {kw:List (Str×Value)}:(A.under (.builtin "type.__call__" ⟨.ref C::us,kw⟩)).units=A.units+1:=by
 first | rfl | simp [Around.under,Code.cUnits,Code.frames,Code.isFrame]
theorem B9p {A:Around} {C:Addr} {us:List Value} {kw:List (Str×Value)}:(A.under (.builtin "type.__call__" ⟨.ref C::us,kw⟩)).guards=A.guards:=by
 show pushGuards (Code.guards (.builtin "type.__call__" ⟨.ref C::us,kw⟩)) A.guards=A.guards;have h:Code.isGuard (.builtin "type.__call__" ⟨.ref C::us,kw⟩)=false:=by first | rfl | (simp [Code.isGuard,guardIds]) | decide
 unfold Code.guards;rw [h];cases A.guards <;> rfl
theorem A6p.make {k:Nat} {A:Around} (r:A6p (k+1) A) (C:Addr) (us:List Value) (kw:List (Str×Value)):A6p k (A.under (.builtin "type.__call__" ⟨.ref C::us,kw⟩)) :=
 ⟨r.hd,by have:=r.dp;rw [C2h];lia,by have:=r.un;rw [C3m];lia,by rw [B9p];exact r.gd⟩
theorem A6p.depth {k:Nat} {A:Around} (r:A6p k A):A.depth<recursionLimit:=by have:=r.dp;lia
theorem A6p.units {k:Nat} {A:Around} (r:A6p k A):A.units+64<cLine:=by have:=r.un;lia
noncomputable def tNil:TA:=λ_ H Q=>Q [] H
noncomputable def D9h (ta:TE) (tr:TA):TA:=λσ H Q=>ta σ H λx H1=>tr σ H1 λxs H2=>Q (x::xs) H2
section
variable {X:Cx} {e:Expr} {es:List Expr} {te:TE} {t:TA} {pos:Pos}
theorem A0c:PA X [] tNil:=λ_ _ _ _ H Q I h=>Calls.spliced_nil ⟨[],H,I,.nil,h⟩
theorem A0a (ha:PE X e te) (hr:PA X es t) (hs:starEach (e::es) X.env=(false,eval e X.env)::starEach es X.env:=by rfl):PA X (e::es) (D9h te t):=by
 intro pos pins s σ H Q I h;rw [hs];show wpAny _ _ (spliced ((false,eval e X.env)::backTo pos (starEach es X.env))) _ _ s;refine Calls.spliced_cons (thn (ha pins s σ H _ I h) λu s1 ⟨x,H1,I1,r1,q1⟩=> ?_);exact thn (hr pos pins s1 σ H1 _ I1 q1) λus s2 ⟨xs,H2,I2,r2,q2⟩=>⟨x::xs,H2,I2,.cons r1 r2,q2⟩
noncomputable def tTup (t:TA):TE:=λσ H Q=>t σ H λxs H1=>xs.length<=sizeLine/\∀p,H1 p=none->Q (.ref p) (upd H1 p (.tup xs))
noncomputable def tLst (t:TA):TE:=λσ H Q=>t σ H λxs H1=>xs.length<=sizeLine/\∀p,H1 p=none->Q (.ref p) (upd H1 p (.lst xs))
theorem A1i {x1} (h:PA X es t):PE X (.Tuple es x1 pos) (tTup t):=by
 intro pins s σ H Q I hq;refine wpAny_Tuple_spliced (thn (h pos pins s σ H _ I hq) λus s1 ⟨xs,H1,I1,r,z,q⟩=>⟨by rw [<-r.length];exact z,?_⟩);have hf:H1 s1.heap.objs.size=none:=I1.hok.fresh (Z09 _);refine ⟨.ref s1.heap.objs.size,upd H1 s1.heap.objs.size (.tup xs),I1.laid (t':=s1.toks) (λb u e=>Z01 _ e) (Z09 _) ?_,rfl,q _ hf⟩;exact ⟨z,us,r,⟨_,Z0c _ rfl,rfl,_,rfl⟩⟩
theorem A2b (h:PA X es t):PE X (.List es pos) (tLst t):=by
 intro pins s σ H Q I hq;refine wpAny_List_spliced (thn (h pos pins s σ H _ I hq) λus s1 ⟨xs,H1,I1,r,z,q⟩=>⟨by rw [<-r.length];exact z,?_⟩);have hf:H1 s1.heap.objs.size=none:=I1.hok.fresh (Z09 _);refine ⟨.ref s1.heap.objs.size,upd H1 s1.heap.objs.size (.lst xs),I1.laid (t':=s1.toks) (λb u e=>Z01 _ e) (Z09 _) ?_,rfl,q _ hf⟩;exact ⟨z,us,0,r,Z0c _ rfl⟩
end
abbrev Sp:=List V->Hp->VK->XK->Prop
abbrev CXT:=List Env->Hp->Shared->XK->Value->Shared->Prop
structure C8l (P:Program) (w:World) (K:PySem.W.Frag) (mg:Str->Option Value) (base:Heap) (A:Around) (outer:List Env) (s:Shared) (H:Hp):Prop where
 frames:A.frames=some outer
 mod:Mod K mg base
 bs:∀b o,base.get? b=some o->s.heap.get? b=some o/\H b=none
 bsz:base.objs.size<=s.heap.objs.size
 funs:s.heap.FunFrames base outer
 frf:∀b∈frs outer,H b=none
 hok:HOk P w H s.heap
 bare:AllBare s.gens
noncomputable def CE (outer:List Env) (P:Program) (w:World) (H:Hp) (s:Shared) (Q:VK) (u:Value) (s':Shared):Prop :=
 ∃v H',s'.os=s.os/\AllBare s'.gens/\Un (frs outer) [] H H' s.heap s'.heap/\HOk P w H' s'.heap/\A3a v u/\Q v H'
noncomputable def CR (CX:CXT) (outer:List Env) (P:Program) (w:World) (H:Hp) (s:Shared) (Q:VK) (E:XK) (r:Result) (s':Shared):Prop :=
 match r with
 | .ok (.ret u)=>CE outer P w H s Q u s'
 | .ok _=>False
 | .error e=>CX outer H s E e s'
structure A1y (P:Program) (w:World) (K:PySem.W.Frag) (mg:Str->Option Value) (base:Heap) (CX:CXT) (k:Nat) (f:Addr) (fd:FuncData) (ps:List Str) (sp:Sp):Prop where
 len:∀vs H Q E,sp vs H Q E->vs.length=ps.length
 run:∀(A:Around) (outer:List Env) (s:Shared) (H:Hp) (args:Args) (us:List Value) (vs:List V) (Q:VK) (E:XK),A6p k A->C8l P w K mg base A outer s H->BindsTo s fd args (ps.zip us)->A2v vs us->sp vs H Q E->
  codeAny (model P w) A (.call (.ref f) args) (CR CX outer P w H s Q E) s
theorem A1y.mono {P:Program} {w:World} {K:PySem.W.Frag} {mg:Str->Option Value} {base:Heap} {CX:CXT} {j k:Nat} {f:Addr} {fd:FuncData} {ps:List Str} {sp:Sp} (F:A1y P w K mg base CX j f fd ps sp) (h:j<=k) :
  A1y P w K mg base CX k f fd ps sp:=⟨F.len,λA outer s H args us vs Q E hr=>F.run A outer s H args us vs Q E (hr.mono h)⟩
theorem C8l.make {P:Program} {w:World} {K:PySem.W.Frag} {mg:Str->Option Value} {base:Heap} {A:Around} {outer:List Env} {s:Shared} {H:Hp} (e:C8l P w K mg base A outer s H) (C:Addr) (us:List Value) (kw:List (Str×Value)) :
  C8l P w K mg base (A.under (.builtin "type.__call__" ⟨.ref C::us,kw⟩)) outer s H:=⟨by first | exact e.frames | (simpa [Around.under,Code.envs,Code.isFrame,pushEnvs] using e.frames),e.mod,e.bs,e.bsz,e.funs,e.frf,e.hok,e.bare⟩
section
variable {X:Cx} {pins:List (Addr×Obj)} {σ:St} {H:Hp} {s s':Shared}
theorem Inv.env0 (I:Inv X pins σ H s):C8l X.prog X.w X.K X.mg X.base X.A X.stack s H :=
 ⟨I.ok.frames,I.ok.mod,I.bs,Z1n I.ok.bsz I.sz,I.stack,I.stkFree,I.hok,I.bare⟩
theorem Inv.after {Q:VK} {u:Value} (I:Inv X pins σ H s) (h:CE X.stack X.prog X.w H s Q u s'):EP X pins σ Q u s':=by
 obtain ⟨v,H',os,bare,un,hok,r,q⟩:=h;obtain ⟨hh,g,d,t,os'⟩:=s';obtain rfl:os'=s.os:=os;exact ⟨v,H',I.call (h':=hh) (g':=g) (d':=d) (t':=t) (ch:=[]) un hok bare (λb z=>absurd z (by simp)),r,q⟩
end
noncomputable def D5b (sp:Sp) (dvs:List V) (E:XK) (t:TA):TE:=λσ H Q=>t σ H λvs H1=>sp (vs++dvs) H1 Q E
noncomputable def D8z (C:Addr) (sp:Sp) (dvs:List V) (E:XK) (t:TA):TE:=λσ H Q=>t σ H λvs H1=>∀x dx,H1 x=none->H1 dx=none->dx≠x->
 sp (.ref x::(vs++dvs)) (upd (upd H1 dx (.own x)) x (.ins C dx [])) (λv H2=>v= .non/\Q (.ref x) H2) E
noncomputable def A1p (K:PySem.W.Frag) (fd:FuncData) (ps:List Str) (ds:List Value):Prop :=
 ∀(s:Shared) (us:List Value),K.In s.heap->(us++ds).length=ps.length->BindsTo s fd ⟨us,[]⟩ (ps.zip (us++ds))
theorem A1p.all {K:PySem.W.Frag} {fd:FuncData} {ps:List Str} (h:∀us:List Value,us.length=ps.length->bindArgs fd ⟨us,[]⟩=pure (ps.zip us)):A1p K fd ps []:=λs us _ hl=>by
 rw [Z0u] at hl⊢;exact .of_eq (h us hl)
noncomputable def A5r (CX:CXT) (X:Cx) (E:XK):Prop:=∀(pins:List (Addr×Obj)) (σ:St) (H:Hp) (s:Shared) (e:Value) (s':Shared),Inv X pins σ H s->CX X.stack H s E e s'->X.xe e s'
section
variable {X:Cx} {CX:CXT} {k:Nat} {f C:Addr} {fd:FuncData} {ps:List Str} {sp:Sp} {dvs:List V} {ds:List Value} {E:XK} {x m:Str} {p pos apos:Pos} {e o:Expr} {es:List Expr} {ta:TE} {t:TA}
theorem D7i {pins:List (Addr×Obj)} {σ:St} {H:Hp} {s:Shared} {Q:VK} {us:List Value} {vs:List V} (F:A1y X.prog X.w X.K X.mg X.base CX k f fd ps sp) (hr:A6p k X.A) (hb:A1p X.K fd ps ds) (hd:A2v dvs ds) (hx:A5r CX X E)
  (I:Inv X pins σ H s) (r:A2v vs us) (h:sp (vs++dvs) H Q E):wpAny (model X.prog X.w) X.A (call (.ref f) us) (EP X pins σ Q) X.xe s:=by
 have r2:A2v (vs++dvs) (us++ds):=r.append hd;have hl:(us++ds).length=ps.length:=by rw [<-r2.length];exact F.len _ _ _ _ h
 refine wpAny_call (codeAny_mono (F.run X.A X.stack s H ⟨us,[]⟩ (us++ds) (vs++dvs) Q E hr I.env0 (hb s us I.kIn hl) r2 h) λr s' hq=> ?_)
 cases r with
 | error e=>exact hx pins σ H s e s' I hq
 | ok fl =>
  cases fl with
  | ret u=>exact I.after hq
  | next=>exact False.elim hq
  | brk=>exact False.elim hq
  | cont=>exact False.elim hq
theorem A0j (F:A1y X.prog X.w X.K X.mg X.base CX k f fd ps sp) (hr:A6p k X.A) (hg:Gl X x) (hm:X.mg x=some (.ref f)) (hk:PySem.W.keepIn X.K (.ref f)=true) (hb:A1p X.K fd ps ds) (hd:A2v dvs ds) (hx:A5r CX X E)
  (ha:PA X (e::es) t) (hdb:(x == ("__debug__":Str))=false:=by decide) (he:starEach (e::es) X.env=(false,eval e X.env)::starEach es X.env:=by rfl) (hpl:(backTo pos (starEach es X.env)).any (·.1)=false:=by rfl) :
  PE X (.Call (.Name x p) (e::es) [] pos) (D5b sp dvs E t):=by
 intro pins s σ H Q I h;refine wpAny_Call_Name_kw (A5p I hg hm ?_ hdb);refine PySem.W.callWith_K (h₀:=X.base) I.ok.mod.kin hk (thn (ha pos pins s σ H _ I h) λus s1 ⟨vs,H1,I1,r,q⟩=>⟨I1.kIn,?_⟩) he hpl;exact D7i F hr hb hd hx I1 r q
structure Mk (K:PySem.W.Frag) (C f:Addr):Prop where
 makes:PySem.W.makesIn K C=true
 init:PySem.W.findIn K (.ref C) "__init__"=some (some (.ref f))
 fn:PySem.W.isFn K (.ref f)=true
 kp:PySem.W.keepIn K (.ref C)=true
theorem D0s {pins:List (Addr×Obj)} {σ:St} {H:Hp} {s:Shared} {Q:VK} {us:List Value} {vs:List V} (M:Mk X.K C f) (F:A1y X.prog X.w X.K X.mg X.base CX k f fd ps sp) (hr:A6p (k+1) X.A) (hb:A1p X.K fd ps ds) (hd:A2v dvs ds)
  (hx:A5r CX X E) (I:Inv X pins σ H s) (r:A2v vs us)
  (h:∀x dx,H x=none->H dx=none->dx≠x->sp (.ref x::(vs++dvs)) (upd (upd H dx (.own x)) x (.ins C dx [])) (λv H2=>v= .non/\Q (.ref x) H2) E) :
  wpAny (model X.prog X.w) X.A (call (.ref C) us) (EP X pins σ Q) X.xe s:=by
 have hq:=h (s.heap.objs.size+1) s.heap.objs.size (I.hok.fresh (Nat.le_succ _)) (I.hok.fresh (Z09 _)) (Z0h (Nat.lt_succ_self _));have I2:=Inv.made (C:=C) I;have r2:A2v (V.ref (s.heap.objs.size+1)::(vs++dvs)) (Value.ref (s.heap.objs.size+1)::(us++ds)):= .cons rfl (r.append hd)
 have hl:(Value.ref (s.heap.objs.size+1)::us++ds).length=ps.length:=by
  have e:=r2.length;rw [F.len _ _ _ _ hq] at e;exact e.symm
 refine wpAny_call (D0d (f:=f) I.kIn M.makes M.init (beq_iff_eq.mp M.fn) (codeAny_mono (F.run _ X.stack _ _ ⟨Value.ref (s.heap.objs.size+1)::us,[]⟩ (Value.ref (s.heap.objs.size+1)::(us++ds)) _ _ E (hr.make C us [])
  (I2.env0.make C us []) (hb _ (Value.ref (s.heap.objs.size+1)::us) I2.kIn hl) r2 hq) λr s' hq'=> ?_))
 cases r with
 | error e=>exact hx pins σ _ _ e s' I2 hq'
 | ok fl =>
  cases fl with
  | ret u =>
   obtain ⟨v,H',I3,rv,ev,q3⟩:=I2.after hq';subst ev;exact ⟨rv,⟨V.ref (s.heap.objs.size+1),H',I3,rfl,q3⟩⟩
  | next=>exact False.elim hq'
  | brk=>exact False.elim hq'
  | cont=>exact False.elim hq'
theorem C0g (M:Mk X.K C f) (F:A1y X.prog X.w X.K X.mg X.base CX k f fd ps sp) (hr:A6p (k+1) X.A) (hg:Gl X x) (hm:X.mg x=some (.ref C)) (hb:A1p X.K fd ps ds) (hd:A2v dvs ds) (hx:A5r CX X E)
  (ha:PA X (e::es) t) (hdb:(x == ("__debug__":Str))=false:=by decide) (he:starEach (e::es) X.env=(false,eval e X.env)::starEach es X.env:=by rfl) (hpl:(backTo pos (starEach es X.env)).any (·.1)=false:=by rfl) :
  PE X (.Call (.Name x p) (e::es) [] pos) (D8z C sp dvs E t):=by
 intro pins s σ H Q I h;refine wpAny_Call_Name_kw (A5p I hg hm ?_ hdb);refine PySem.W.callWith_K (h₀:=X.base) I.ok.mod.kin M.kp (thn (ha pos pins s σ H _ I h) λus s1 ⟨vs,H1,I1,r,q⟩=>⟨I1.kIn,?_⟩) he hpl;exact D0s M F hr hb hd hx I1 r q
end
section
variable {X:Cx} {CX:CXT} {k:Nat} {f C:Addr} {fd:FuncData} {ps ks:List Str} {sp:Sp} {E:XK} {x m:Str} {p pos apos kpos:Pos} {e o:Expr} {es:List Expr} {kws:List Keyword} {te ta:TE} {t tk:TA} {nm:Option Str}
variable {g:List Value->List Value->List Value} {gV:List V->List V->List V}
end
structure A0y (N P:List Str) (sc:Scope):Prop where
 kind:sc.kind= .function
 co:sc.isCoroutine=false
 gen:sc.isGenerator=false
 nd:N.Nodup
 pre:N.take P.length=P
 par:∀x∈P,sc.names.lookup x=some .local\/sc.names.lookup x=some .cell
 nofree:∀y∈sc.names,y.2≠.free
theorem B8g {kindOf:Str->Option NameKind} {x:Str}:∀{binds:List (Str×Value)} {m:Str->Option Value},(∀v,(x,v)∉binds)->bindL kindOf binds m x=m x
 | [],_,_=>rfl
 | (n,v)::r,m,h=>by
  unfold bindL;rw [B8g λw hw=>h w (Z1f _ hw)];split
  ·have:x≠n:=by rintro rfl;exact h v Z27
   simp [this]
  ·rfl
theorem B8v {kindOf:Str->Option NameKind} {x:Str}:∀{binds:List (Str×Value)} {m:Str->Option Value},(∀v,(x,v)∉binds)->bindC kindOf binds m x=m x
 | [],_,_=>rfl
 | (n,v)::r,m,h=>by
  unfold bindC;rw [B8v λw hw=>h w (Z1f _ hw)];split
  ·rfl
  ·have:x≠n:=by rintro rfl;exact h v Z27
   simp [this]
theorem B8s {kindOf:Str->Option NameKind} {x:Str} {v:Value}:∀{P:List Str} {vs:List Value} {i:Nat} {m:Str->Option Value},P.Nodup->P[i]? =some x->vs[i]? =some v->kindOf x=some .local->
  bindL kindOf (P.zip vs) m x=some v
 | [],_,_,_,_,h,_,_=>by simp at h
 | _::_,[],_,_,_,_,h,_=>by simp at h
 | p::P,w::vs,0,m,nd,h1,h2,hk=>by
  simp at h1 h2;subst h1;subst h2;show bindL kindOf ((p,w)::P.zip vs) m p=_;unfold bindL;rw [B8g λv hv=>(Z15.mp nd).1 (List.of_mem_zip hv).1,Z12 hk];simp
 | p::P,w::vs,i+1,m,nd,h1,h2,hk=>by
  show bindL kindOf ((p,w)::P.zip vs) m x=_;unfold bindL;exact B8s (i:=i) (Z15.mp nd).2 (by simpa using h1) (by simpa using h2) hk
theorem B7o {kindOf:Str->Option NameKind} {x:Str} {v:Value}:∀{P:List Str} {vs:List Value} {i:Nat} {m:Str->Option Value},P.Nodup->P[i]? =some x->vs[i]? =some v->kindOf x≠some .local->
  bindC kindOf (P.zip vs) m x=some v
 | [],_,_,_,_,h,_,_=>by simp at h
 | _::_,[],_,_,_,_,h,_=>by simp at h
 | p::P,w::vs,0,m,nd,h1,h2,hk=>by
  simp at h1 h2;subst h1;subst h2;show bindC kindOf ((p,w)::P.zip vs) m p=_;unfold bindC;rw [B8v λv hv=>(Z15.mp nd).1 (List.of_mem_zip hv).1,Z0t hk];simp
 | p::P,w::vs,i+1,m,nd,h1,h2,hk=>by
  show bindC kindOf ((p,w)::P.zip vs) m x=_;unfold bindC;exact B7o (i:=i) (Z15.mp nd).2 (by simpa using h1) (by simpa using h2) hk
noncomputable def B0i (N:List Str) (vs:List V):St:=vs.map some++List.replicate (N.length-vs.length) none
noncomputable def A6t (CX:CXT) (P:Program) (w:World) (K:PySem.W.Frag) (mg:Str->Option Value) (base:Heap) (N:List Str) (qual:Str) (scope:Scope) (f:Addr) (cd:Value) (A:Around) (outer:List Env) (s:Shared) (H:Hp) (E:XK):Cx where
 prog:=P
 w:=w
 K:=K
 mg:=mg
 base:=base
 A:=A.deeper (envOfC qual scope s.heap.objs.size f cd)
 N:=N
 s₀:=s
 H₀:=H
 env:=envOfC qual scope s.heap.objs.size f cd
 outer:=outer
 stack:=envOfC qual scope s.heap.objs.size f cd::outer
 ex:=[]
 calm:=true
 fn:=λ_=>true
 pn:=[]
 xe:=λe s'=>wpAny (model P w) (A.deeper (envOfC qual scope s.heap.objs.size f cd)) (leaving (envOfC qual scope s.heap.objs.size f cd) e) (λ_ s''=>CX outer H s E e s'') (λe' s''=>CX outer H s E e' s'') s'
theorem C2d {sc:Scope} {n:Nat} {x:Str} (h:sc.names.lookup x=some .cell):∃c,(cellsFrom n sc.names []).lookup x=some c:=by
 have q:=PySem.W.cellsFrom_some sc.names n [] (.inl h);exact Option.isSome_iff_exists.mp q
theorem B8q {CX:CXT} {P:Program} {w:World} {K:PySem.W.Frag} {mg:Str->Option Value} {base:Heap} {N ps:List Str} {qual:Str} {scope:Scope} {f:Addr} {cd:Value} {A:Around} {outer:List Env} {s s1:Shared} {H:Hp} {E:XK} {us:List Value} {vs:List V}
  (S:A0y N ps scope) (hd:A.handled=none) (e0:C8l P w K mg base A outer s H) (hl:vs.length=ps.length) (r:A2v vs us)
  (x:InCallC s s.heap.objs.size (bindL (envOfC qual scope s.heap.objs.size f cd).kindOf (ps.zip us) λ_=>none) (cellsFrom (s.heap.objs.size+1) scope.names []) (bindC (envOfC qual scope s.heap.objs.size f cd).kindOf (ps.zip us) λ_=>none) s1) :
  Inv (A6t CX P w K mg base N qual scope f cd A outer s H E) [] (B0i N vs) H s1:=by
 have hpl:ps.length<=N.length:=by have:=congrArg List.length S.pre;rw [Z0x] at this;lia
 obtain ⟨h1,tk,rfl,hk⟩:=x.done;have noA:∀b:Addr,b∉(A6t CX P w K mg base N qual scope f cd A outer s H E).ex:=λb z=>absurd (show b∈([]:List Addr) from z) (by simp)
 refine ⟨⟨e0.mod,S.kind,rfl,rfl,Z09 _,λy z c h1 h2=> ?_,λy hy=> ?_,λy c _ h=> ?_,λ_=>hd,Around.frames_deeper e0.frames,.inr ⟨rfl,rfl⟩,λb z=>absurd z (noA b),e0.bs,e0.bsz,λb _ _=>noA b,λb z=>absurd z (noA b),e0.funs,e0.frf⟩,
  rfl,e0.bare,Un.kept hk,⟨_,x.toInCall.ns,λi y v h1 h2 h3=> ?_⟩,λy c h=>⟨_,x.cell y c h⟩,e0.hok.fresh (Z09 _),λy c h=> ?_,λp hp=>absurd (show p∈([]:List (Addr×Obj)) from hp) (by simp),e0.hok.kept hk,?_⟩
 ·exact name_of_addr x.apart (PySem.mem_of_lookup h1) (PySem.mem_of_lookup h2)
 ·have hy:scope.names.lookup y=some .cell\/scope.names.lookup y=some .free:=hy;rcases hy with hy | hy
  ·exact C2d hy
  ·exact absurd rfl (S.nofree _ (PySem.mem_of_lookup hy))
 ·exact Nat.le_of_lt (x.above y c (PySem.mem_of_lookup h))
 ·have hi:i<vs.length:=by
   unfold B0i at h2;by_cases hi:i<vs.length
   ·exact hi
   ·rw [Z1l (by simpa using hi)] at h2;rw [List.getElem?_replicate] at h2;split at h2 <;> cases h2
  have ha:vs[i]? =some v:=by
   unfold B0i at h2;rw [Z26 (by simpa using hi),Z1z] at h2
   cases e:vs[i]? with
   | none=>rw [e] at h2;cases h2
   | some a=>rw [e] at h2;cases h2;rfl
  obtain ⟨u,hu,rv⟩:=r.get ha
  have hp:ps[i]? =some y:=by
   rw [<-S.pre,List.getElem?_take_of_lt (by lia)];exact h1
  have ndP:ps.Nodup:=by rw [<-S.pre];exact S.nd.sublist (List.take_sublist _ _)
  refine ⟨u,rv,?_⟩;rcases S.par y (Z13 hp) with k | k
  ·exact .inl ⟨k,B8s ndP hp hu k⟩
  ·obtain ⟨c,e⟩:=C2d (n:=s.heap.objs.size+1) k;refine .inr ⟨.inl k,c,e,?_⟩;have q:=x.cell y c e;rw [B7o ndP hp hu (by show scope.names.lookup y≠_;rw [k];decide)] at q;exact q
 ·exact e0.hok.fresh (Nat.le_of_lt (x.above y c (PySem.mem_of_lookup h)))
 ·unfold B0i;show _=N.length;rw [Z06,Z08,List.length_replicate]
  lia
theorem D3c {CX:CXT} {P:Program} {w:World} {K:PySem.W.Frag} {mg:Str->Option Value} {base:Heap} {k:Nat} {f:Addr} {name qual:Str} {params:Arguments} {body:List Stmt} {scope:Scope} {dV kV doc pm cdv ct oc:Value} {an od:Option Addr}
  {osl:Array (Option Value)} {N ps:List Str} {sp:Sp} (lk:K.lookup f=some ⟨oc,od,.func (PySem.W.fnOf name qual params body scope dV kV doc pm an cdv ct),osl⟩) (hcd:PySem.W.codeIn K cdv qual=true) (S:A0y N ps scope)
  (len:∀vs H Q E,sp vs H Q E->vs.length=ps.length)
  (hbody:∀(A:Around) (outer:List Env) (s:Shared) (H:Hp) (vs:List V) (Q:VK) (E:XK),A6p k (A.deeper (envOfC qual scope s.heap.objs.size f cdv))->sp vs H Q E->
   ∃t,PSs (A6t CX P w K mg base N qual scope f cdv A outer s H E) body t/\t { nx:=λ_ H'=>Q .non H',rt:=Q } (B0i N vs) H) :
  A1y P w K mg base CX (k+1) f (PySem.W.fnOf name qual params body scope dV kV doc pm an cdv ct) ps sp:=by
 refine ⟨len,λA outer s H args us vs Q E hr e0 hb r hsp=> ?_⟩;have hl:=len _ _ _ _ hsp;have KX:K.In s.heap:=e0.mod.kin.keeps λb o e=>(e0.bs b o e).1;have lim:s.heap.NoLimit:=e0.mod.nolimit.keeps λb o e=>(e0.bs b o e).1
 have hkind:∀y∈ps.zip us,scope.names.lookup y.1=some .local\/(scope.names.lookup y.1=some .cell/\((cellsFrom (s.heap.objs.size+1) scope.names []).lookup y.1).isSome=true):=λ⟨n,v⟩ hy=>by
  rcases S.par n (List.of_mem_zip hy).1 with q | q
  ·exact .inl q
  ·exact .inr ⟨q,PySem.W.cellsFrom_some _ _ _ (.inl q)⟩
 refine codeAny_call_function hr.depth (KX _ _ lk) rfl S.co S.gen rfl (PySem.W.codeRec_of KX hcd) (hb _ _ _ _ ?_);refine wpAny_newFunctionEnv_cells S.kind hkind λenv he s1 x=> ?_;subst he;refine ⟨lim.keeps x.toInCall.keep,codeAny_func ?_⟩;obtain ⟨t,ht,hq⟩:=hbody A outer s H vs Q E (hr.deeper _) hsp;have I:Inv (A6t CX P w K mg base N qual scope f cdv A outer s H E) [] (B0i N vs) H s1:=B8q S hr.hd e0 hl r x;refine Z10 (ht [] s1 (B0i N vs) H _ I hq) (λfl s' hs=> ?_) λe s' hs=>hs
 have fin:∀{σ':St} {H':Hp} {v:V} {u:Value},Inv (A6t CX P w K mg base N qual scope f cdv A outer s H E) [] σ' H' s'->A3a v u->Q v H'->CE outer P w H s Q u s' :=
  λ{σ' H' v u} J rv q=>⟨v,H',J.os,J.bare,J.base,J.hok,rv,q⟩
 cases fl with
 | ret u =>
  obtain ⟨v,σ',H',J,rv,q⟩:=hs;exact fin J rv q
 | next =>
  obtain ⟨σ',H',J,q⟩:=hs;exact fin (v:=V.non) (u:=Value.none) J rfl q
 | brk =>
  obtain ⟨_,_,_,q⟩:=hs;exact False.elim q
 | cont =>
  obtain ⟨_,_,_,q⟩:=hs;exact False.elim q
section
variable {X:Cx} {x:Str} {p pos:Pos} {e:Expr} {es:List Expr} {t:TA} {id T:String} {r:List V->Hp->VK->Prop}
noncomputable def tCB (r:List V->Hp->VK->Prop) (t:TA):TE:=λσ H Q=>t σ H λvs H1=>r vs H1 Q
theorem A0q (hc:B3q X (.builtin id) r) (hg:Gl X x) (hm:X.mg x=none) (hv:bootBuiltins x=some (.builtin id)) (ha:PA X (e::es) t) (hn:x≠"__name__":=by decide) (hdb:(x == ("__debug__":Str))=false:=by decide)
  (he:starEach (e::es) X.env=(false,eval e X.env)::starEach es X.env:=by rfl) (hpl:(backTo pos (starEach es X.env)).any (·.1)=false:=by rfl):PE X (.Call (.Name x p) (e::es) [] pos) (tCB r t):=by
 intro pins s σ H Q I h;refine wpAny_Call_Name_kw (A5v I hg hm hv ?_ hn hdb);exact PyProof.Rows.callWith_builtin1 (thn (ha pos pins s σ H _ I h) λus s1 ⟨vs,H1,I1,r1,q1⟩=>hc pins s1 σ H1 vs us Q I1 r1 q1) he hpl
theorem A1u (hc:B3q X (.type T) r) (hg:Gl X x) (hm:X.mg x=none) (hv:bootBuiltins x=some (.type T)) (ha:PA X (e::es) t) (hn:x≠"__name__":=by decide) (hdb:(x == ("__debug__":Str))=false:=by decide)
  (he:starEach (e::es) X.env=(false,eval e X.env)::starEach es X.env:=by rfl) (hpl:(backTo pos (starEach es X.env)).any (·.1)=false:=by rfl):PE X (.Call (.Name x p) (e::es) [] pos) (tCB r t):=by
 intro pins s σ H Q I h;refine wpAny_Call_Name_kw (A5v I hg hm hv ?_ hn hdb);exact PyProof.Rows.callWith_type1 (thn (ha pos pins s σ H _ I h) λus s1 ⟨vs,H1,I1,r1,q1⟩=>hc pins s1 σ H1 vs us Q I1 r1 q1) he hpl
end
end L2
namespace HT
open PySem PyProof.Rows
section
open PySem.SeqAt
open PySem.AutoSeq1 (wpAny_loadPart')
open PySem.MeetsSeq PySem.MeetsSeq2 PySem.MeetsSeq3
end
section
variable {prog:Program} {w:World} {A:Around} {E:Value->Shared->Prop} {s:Shared}
theorem cat_tup {t b:Addr} {vs ws:List Value} {Q:Value->Shared->Prop} (ht:IsTup s.heap t vs.toArray) (hb:IsTup s.heap b ws.toArray) (hv:vs≠[])
  (h1:ws=[]->Q (.ref t) s) (h2:ws≠[]->Q (.ref s.heap.objs.size) { s with heap:=s.heap.push { cls:= .type "tuple",data:= .seq (vs++ws).toArray } })
  (hsz:vs.length+ws.length<=sizeLine):wpAny (model prog w) A (binaryOp .Add (.ref t) (.ref b)) Q E s:=by
 obtain ⟨⟨cls,dd,data,sl⟩,ho,hc,n,hd⟩:=id ht;obtain ⟨⟨cls2,dd2,data2,sl2⟩,ho2,hc2,n2,hd2⟩:=id hb;simp only at hc hd hc2 hd2;subst hc hd hc2 hd2;have e:vs.toArray++ws.toArray=(vs++ws).toArray:=by simp
 by_cases hw:ws=[]
 ·exact concat_meets ⟨_,ho,rfl⟩ ⟨_,ho2,rfl⟩ noFill_tuple_add seq_tuple_add PySem.F.slot_tuple_add PySem.F.entry_tuple_add (PySem.F.args_tuple_add_2 _ _)
   (tuple_addW1 t b vs.toArray ws.toArray n n2 dd dd2 sl sl2 (by simpa using hv) (by simp [hw])) ⟨ho,ho2,h1 hw⟩
 ·refine concat_meets ⟨_,ho,rfl⟩ ⟨_,ho2,rfl⟩ noFill_tuple_add seq_tuple_add PySem.F.slot_tuple_add PySem.F.entry_tuple_add (PySem.F.args_tuple_add_2 _ _)
   (tuple_addW2 t b vs.toArray ws.toArray n n2 dd dd2 sl sl2 (by simpa using hv) (by simpa using hw) (by rw [Z0g,Z0g];exact hsz)) ⟨ho,ho2,?_⟩
  rw [e];exact h2 hw
noncomputable def sIx (n d:Nat):Option Int->Nat
 | none=>d
 | some v=>if v<0 then (v+(n:Int)).toNat else min v.toNat n
theorem sIx_none (n d:Nat):sIx n d none=d:=rfl
theorem sIx_nat (n d k:Nat):sIx n d (some (k:Int))=min k n:=by
 show (if (k:Int)<0 then ((k:Int)+(n:Int)).toNat else min (k:Int).toNat n)=min k n;rw [Z0t (by lia),Int.toNat_natCast]
theorem D5n (n d:Nat) (hd:d<=n) (o:Option Int):sIx n d o<=n:=by
 cases o with
 | none=>exact hd
 | some v =>
  show (if v<0 then (v+(n:Int)).toNat else min v.toNat n)<=n;by_cases hv:v<0
  ·rw [Z12 hv];lia
  ·rw [Z0t hv];exact Nat.min_le_right _ _
theorem C7i (v:Int) (n d:Nat):(if v<0 then max (v+(n:Int)) 0 else min v (n:Int))=((sIx n d (some v):Nat):Int):=by
 show (if v<0 then max (v+(n:Int)) 0 else min v (n:Int))=(((if v<0 then (v+(n:Int)).toNat else min v.toNat n):Nat):Int);by_cases hv:v<0
 ·simp only [Z12 hv];lia
 ·simp only [Z0t hv];lia
theorem C2i (lo hi:Option Int) (n:Nat):Builtin.Slice.sliceAdjust lo hi 1 (n:Int)=(((sIx n 0 lo:Nat):Int),((sIx n n hi:Nat):Int)):=by
 have h1:¬((1:Int)<0):=by lia
 unfold Builtin.Slice.sliceAdjust;simp only [h1,if_false];refine Prod.ext ?_ ?_
 ·cases lo with
  | none=>rfl
  | some v=>exact C7i v n 0
 ·cases hi with
  | none=>rfl
  | some v=>exact C7i v n n
theorem C3r (i j:Nat):Builtin.Slice.slicePlaces (i:Int) (j:Int) 1=j-i:=by
 unfold Builtin.Slice.slicePlaces;have h1:(1:Int)>0:=by lia
 simp only [h1,if_true,Int.ediv_one];split <;> lia
theorem B4m {v:Value} {o:Option Int} {Q:Option Int->Shared->Prop} (p:IsPart v o) (h:Q o s):wpAny (model prog w) A (Builtin.Slice.slicePartIndex v) Q E s:=by
 cases p with
 | none=>exact slicePart_none h
 | int i t=>exact slicePart_int h
theorem B1f {sl:Addr} {vl vu:Value} {lo hi:Option Int} {n:Nat} {Q:Int×Int×Nat->Shared->Prop} (hs:s.heap.IsSliceOf sl vl vu .none) (pl:IsPart vl lo) (pu:IsPart vu hi)
  (h:Q (((sIx n 0 lo:Nat):Int),1,sIx n n hi-sIx n 0 lo) s):wpAny (model prog w) A (Builtin.Slice.sliceApplied (.ref sl) (pure (n:Int))) Q E s:=by
 obtain ⟨os,hos,hcs,hds⟩:=id hs;unfold Builtin.Slice.sliceApplied Builtin.Slice.sliceFields;refine Z00 (Z00 (Z11 hos hds (x:=vl) rfl (Z00 (Z11 hos hds (x:=vu) rfl (Z00 (Z11 hos hds (x:= .none) rfl (Z04 ?_)))))));refine Z00 (slicePart_none ?_);show wpAny _ _ (if ((1:Int) == 0)=true then _ else _) _ _ s;rw [Z0t (by decide)];refine Z00 (B4m pl (Z00 (B4m pu (Z00 (Z04 ?_)))));show wpAny _ _ (match Builtin.Slice.sliceAdjust lo hi 1 (n:Int) with | (lo,hi)=>pure (lo,(1:Int),Builtin.Slice.slicePlaces lo hi 1)) _ _ s
 rw [C2i lo hi n];show wpAny _ _ (pure (((sIx n 0 lo:Nat):Int),(1:Int),Builtin.Slice.slicePlaces ((sIx n 0 lo:Nat):Int) ((sIx n n hi:Nat):Int) 1)) _ _ s;rw [C3r];exact Z04 h
theorem D0h (xs:Array Value) (i k:Nat):((List.range k).filterMap λ(m:Nat)=>xs[((i:Int)+(m:Int)*1).toNat]?).toArray=((xs.toList.drop i).take k).toArray:=by
 have e:(λ(m:Nat)=>xs[((i:Int)+(m:Int)*1).toNat]?)=λm=>xs[i+m]? :=by
  funext m;have:((i:Int)+(m:Int)*1).toNat=i+m:=by lia
  rw [this]
 rw [e];have:=pick_run xs i k;rw [List.filterMap_map] at this;have e2:((λx=>xs[x]?)∘λx=>i+x)=λm=>xs[i+m]? :=rfl;rw [e2] at this;rw [this]
theorem getItem_tuple_cut {t sl:Addr} {items:Array Value} {vl vu:Value} {lo hi:Option Int} {Q:Value->Shared->Prop} (ht:IsTup s.heap t items) (hs:s.heap.IsSliceOf sl vl vu .none) (pl:IsPart vl lo) (pu:IsPart vu hi)
  (hw:¬(sIx items.size 0 lo=0/\sIx items.size items.size hi=items.size))
  (h:Q (.ref s.heap.objs.size) { s with heap:=s.heap.push { cls:= .type "tuple",data:= .seq ((items.toList.drop (sIx items.size 0 lo)).take (sIx items.size items.size hi-sIx items.size 0 lo)).toArray } })
  (hsz:items.size<=sizeLine):wpAny (model prog w) A (getItem (.ref t) (.ref sl)) Q E s:=by
 have htake:sizeOk (.seq ((items.toList.drop (sIx items.size 0 lo)).take (sIx items.size items.size hi-sIx items.size 0 lo)).toArray):=by
  show ((items.toList.drop (sIx items.size 0 lo)).take (sIx items.size items.size hi-sIx items.size 0 lo)).toArray.size<=sizeLine;rw [Z0g,Z0x,Z19,Array.length_toList]
  lia
 have hj:sIx items.size items.size hi<=items.size:=D5n _ _ (Z09 _) hi;obtain ⟨os,hos,hcs,hds⟩:=id hs;have hTs:s.TypeIs (.ref sl) "slice":=⟨os,hos,hcs⟩;unfold getItem
 try with_reducible refine Z1w ?_
 first | refine Z00 (Z04 ?_) | skip
 refine Z00 (wpAny_sequenceKey ht.typeIs (by decide) ?_)
 refine Z00 (Z1b (name:=Str.ofString "__getitem__") ht.typeIs PyProof.Rows.slot_tuple_getitem
  (Z1g PyProof.Rows.slot_tuple_getitem ht.typeIs entry_tuple_getitem ?_ (args_tuple_getitem _ _)))
 show wpAny _ _ (Builtin.Tuple.tupleItemsOf (.ref t) >>= _) _ _ s;refine Z00 (tupleItemsOf_ ht ?_);refine Z00 (wpAny_typeOf hTs ?_);rw [Z12 (by decide)];refine Z00 (B1f hs pl pu ?_)
 have hno:¬((((sIx items.size 0 lo:Nat):Int) == 0&&(1:Int) == 1&&(sIx items.size items.size hi-sIx items.size 0 lo) == items.size)=true):=by
  intro q;rw [Z1x,Z1x] at q;have q1:((sIx items.size 0 lo:Nat):Int)=0:=eq_of_beq q.1.1;have q2:sIx items.size items.size hi-sIx items.size 0 lo=items.size:=eq_of_beq q.2;exact hw ⟨by lia,by lia⟩
 show wpAny _ _ (if (((sIx items.size 0 lo:Nat):Int) == 0&&(1:Int) == 1&&(sIx items.size items.size hi-sIx items.size 0 lo) == items.size)=true then _ else _) _ _ s;rw [Z0t hno,D0h]
 first
  | exact Z00 (m:=Builtin.Tuple.tupleExact _) (Z16 (Z04 ⟨_,rfl,Z04 h⟩) htake)
  | exact Z00 (m:=Builtin.Tuple.tupleExact _) (Z16 (Z00 (Z04 (Z04 ⟨_,rfl,Z04 h⟩))) htake)
  | exact Z00 (Z00 (m:=Builtin.Tuple.tupleExact _) (Z16 (Z04 (Z04 ⟨_,rfl,Z04 h⟩)) htake))
  | exact Z00 (Z00 (m:=Builtin.Tuple.tupleExact _) (Z16 (Z04 ⟨_,rfl,Z04 h⟩) htake))
end
end HT
namespace L2
open PySem PySem.Spec PyProof.Rows
abbrev TO:=St->Hp->(Option Int->Hp->Prop)->Prop
noncomputable def PO (X:Cx) (e:Option Expr) (t:TO):Prop :=
 ∀(pins:List (Addr×Obj)) (s:Shared) (σ:St) (H:Hp) (Q:Option Int->Hp->Prop),Inv X pins σ H s->t σ H Q->
  wpAny (model X.prog X.w) X.A (evalPart e X.env) (λu s'=>∃o H',Inv X pins σ H' s'/\IsPart u o/\Q o H') X.xe s
noncomputable def D2z:TO:=λ_ H Q=>Q none H
noncomputable def D9o (t:TE):TO:=λσ H Q=>t σ H λx H1=>∃i,x= .int i/\Q (some i) H1
section
variable {X:Cx} {e:Expr} {te:TE} {lo hi:Option Expr} {tl th:TO} {pos p2:Pos}
theorem A2d:PO X none D2z:=by
 intro pins s σ H Q I h;rw [evalPart_none];exact Z04 ⟨none,H,I,.none,h⟩
theorem A1g (h:PE X e te):PO X (some e) (D9o te):=by
 intro pins s σ H Q I hw;rw [evalPart_some];refine thn (h pins s σ H _ I hw) λu s1 ⟨x,H1,I1,r1,q1⟩=> ?_;obtain ⟨i,rfl,q⟩:=q1;obtain ⟨t,rfl⟩:=r1;exact ⟨some i,H1,I1,.int i t,q⟩
noncomputable def SlR (X:Cx) (r:V->Option Int->Option Int->Hp->VK->Prop):Prop :=
 ∀(pins:List (Addr×Obj)) (s:Shared) (σ:St) (H:Hp) (x:V) (v vl vu:Value) (lo hi:Option Int) (sl:Addr) (Q:VK),Inv X pins σ H s->A3a x v->s.heap.IsSliceOf sl vl vu .none->IsPart vl lo->IsPart vu hi->r x lo hi H Q->
  ∃T id,typeLookup (.type T) "__getitem__"=pure (some (.builtin id))/\s.TypeIs v T/\wpAny (model X.prog X.w) X.A (getItem v (.ref sl)) (EP X pins σ Q) X.xe s
noncomputable def tSl (r:V->Option Int->Option Int->Hp->VK->Prop) (te:TE) (tl th:TO):TE:=λσ H Q=>te σ H λx H1=>tl σ H1 λl H2=>th σ H2 λu H3=>r x l u H3 Q
theorem A1h {r:V->Option Int->Option Int->Hp->VK->Prop} (hr:SlR X r) (he:PE X e te) (hl:PO X lo tl) (hu:PO X hi th):PE X (.Subscript e (.Slice lo hi none p2) pos) (tSl r te tl th):=by
 intro pins s σ H Q I h;refine Subscript_ (thn (he pins s σ H _ I h) λv s1 ⟨x,H1,I1,r1,q1⟩=> ?_);refine wpAny_Slice (thn (hl pins s1 σ H1 _ I1 q1) λvl s2 ⟨l,H2,I2,pl,q2⟩=>thn (hu pins s2 σ H2 _ I2 q2) λvu s3 ⟨u,H3,I3,pu,q3⟩=> ?_);rw [evalPart_none];refine Z04 ?_;have I4:Inv X pins σ H3 { s3 with heap:=s3.heap.push { cls:= .type "slice",data:= .fields #[vl,vu,.none] } }:=I3.kept (t':=s3.toks) λb ob q=>Z01 _ q
 obtain ⟨T,id,hT,ht,hg⟩:=hr pins { s3 with heap:=s3.heap.push { cls:= .type "slice",data:= .fields #[vl,vu,.none] } } σ H3 x v vl vu l u s3.heap.objs.size Q I4 r1 (Heap.IsSliceOf.new ..) pl pu q3;show wpAny (model X.prog X.w) X.A (subscriptTail e (.Slice lo hi none p2) v (.ref s3.heap.objs.size)) (EP X pins σ Q) X.xe { s3 with heap:=s3.heap.push { cls:= .type "slice",data:= .fields #[vl,vu,.none] } };exact tail_any (ops:=[.ref s3.heap.objs.size,v]) ht hT hg (by with_unfolding_all rfl)
noncomputable def A2u (xs:List V) (lo hi:Option Int):List V:=(xs.drop (HT.sIx xs.length 0 lo)).take (HT.sIx xs.length xs.length hi-HT.sIx xs.length 0 lo)
theorem B2k (xs:List V) (lo hi:Option Int):(A2u xs lo hi).length<=xs.length:=by
 unfold A2u;rw [Z0x,Z19]
 lia
noncomputable def rSlT (K:PySem.W.Frag):V->Option Int->Option Int->Hp->VK->Prop:=λx lo hi H Q=>∃a xs,x= .ref a/\SqT K H a xs/\
 ¬(HT.sIx xs.length 0 lo=0/\HT.sIx xs.length xs.length hi=xs.length)/\∀p,H p=none->Q (.ref p) (upd H p (.tup (A2u xs lo hi)))
theorem A3h:SlR X (rSlT X.K):=by
 intro pins s σ H x v vl vu lo hi sl Q I rx hs pl pu h;obtain ⟨a,xs,rfl,hx,hw,q⟩:=h;cases rx;obtain ⟨its,r,ht,hz⟩:=I.tuple hx;have hlen:its.toArray.size=xs.length:=by rw [Z0g];exact r.length.symm
 refine ⟨"tuple",_,PyProof.Rows.slot_tuple_getitem.lookup,ht.typeIs,?_⟩;refine HT.getItem_tuple_cut ht hs pl pu (by rw [hlen];exact hw) ?_ (by rw [hlen];exact hz);rw [hlen];refine ⟨.ref s.heap.objs.size,_,I.laid (t':=s.toks) (o:= .tup (A2u xs lo hi)) (λb ob q=>Z01 _ q) (Z09 _) ?_,rfl,q _ (I.hok.fresh (Z09 _))⟩;exact ⟨Z1n (B2k xs lo hi) hz,_,(r.drop (HT.sIx xs.length 0 lo)).take (HT.sIx xs.length xs.length hi-HT.sIx xs.length 0 lo),IsTup.new _ _⟩
noncomputable def D8a (K:PySem.W.Frag):R2:=λx y H Q=>∃a b xs ys,x= .ref a/\y= .ref b/\SqT K H a xs/\SqT K H b ys/\xs≠[]/\xs.length+ys.length<=sizeLine/\
 (ys=[]->Q (.ref a) H)/\(ys≠[]->∀p,H p=none->Q (.ref p) (upd H p (.tup (xs++ys))))
theorem A2v.nil_iff {xs:List V} {us:List Value} (r:A2v xs us):us=[]↔xs=[]:=by
 cases r with
 | nil=>simp
 | cons _ _=>simp
theorem C4d:OpR X (binaryOp .Add) (D8a X.K):=by
 intro pins s σ H x y v u Q I rx ry h;obtain ⟨a,b,xs,ys,rfl,rfl,ha,hb,hx,hz,q1,q2⟩:=h;cases rx;cases ry;obtain ⟨its,r1,p1,_⟩:=I.tuple ha;obtain ⟨its2,r2,p2,_⟩:=I.tuple hb;refine HT.cat_tup p1 p2 (λz=>hx (r1.nil_iff.mp z)) (λz=>⟨.ref a,H,I,rfl,q1 (r2.nil_iff.mp z)⟩) (λz=> ?_) (by rw [<-r1.length,<-r2.length];exact hz);refine ⟨.ref s.heap.objs.size,_,I.laid (t':=s.toks) (o:= .tup (xs++ys)) (λb ob q=>Z01 _ q) (Z09 _) ?_,rfl,q2 (λw=>z (r2.nil_iff.mpr w)) _ (I.hok.fresh (Z09 _))⟩;exact ⟨by rw [Z06];exact hz,_,r1.append r2,IsTup.new _ _⟩
end
noncomputable def ixN (n:Nat) (i:Int):Option Nat:=if 0<=i then (if i<n then some i.toNat else none) else if -(n:Int)<=i then some (i+n).toNat else none
noncomputable def atI {α:Type} (xs:List α) (i:Int):Option α:=(ixN xs.length i).bind λj=>xs[j]?
theorem D3s {n:Nat} {i:Int} {j:Nat} (h:ixN n i=some j):seqIndex? i n=some j/\j<n/\-(n:Int)<=i/\i<n:=by
 unfold ixN at h;by_cases h0:0<=i
 ·rw [Z12 h0] at h;by_cases h1:i<n
  ·rw [Z12 h1] at h;have e:i.toNat=j:=Z1a h;exact ⟨by rw [seqIndex_of h0 h1,e],by lia,by lia,h1⟩
  ·rw [Z0t h1] at h;cases h
 ·rw [Z0t h0] at h;by_cases h1: -(n:Int)<=i
  ·rw [Z12 h1] at h;have e:(i+n).toNat=j:=Z1a h;exact ⟨by rw [seqIndex_neg (by lia) h1,e],by lia,h1,by lia⟩
  ·rw [Z0t h1] at h;cases h
theorem C4k {α:Type} {xs:List α} {i:Int} {v:α} (h:atI xs i=some v):∃j,seqIndex? i xs.length=some j/\xs[j]? =some v/\j<xs.length/\-(xs.length:Int)<=i/\i<xs.length:=by
 unfold atI at h
 cases e:ixN xs.length i with
 | none=>rw [e] at h;cases h
 | some j =>
  rw [e] at h;obtain ⟨h1,h2,h3,h4⟩:=D3s e;exact ⟨j,h1,h,h2,h3,h4⟩
theorem A0i {α:Type} {xs:List α} {j:Nat} {v:α} (h:xs[j]? =some v):atI xs (j:Int)=some v:=by
 have hj:j<xs.length:=(Z03.mp h).1
 have e:ixN xs.length (j:Int)=some j:=by
  unfold ixN;rw [Z12 (by lia),Z12 (by lia)];simp
 unfold atI;rw [e];exact h
noncomputable def D2y (b:Expr):Prop:=∀o i,subscripted b false o i=operate [o,i] (getItem o i)
noncomputable def IxR (X:Cx) (r:R2):Prop :=
 ∀(value slice:Expr) (pins:List (Addr×Obj)) (s:Shared) (σ:St) (H:Hp) (x y:V) (v u:Value) (Q:VK),Inv X pins σ H s->A3a x v->A3a y u->r x y H Q->
  subscripted slice false v u=operate [v,u] (getItem v u)->wpAny (model X.prog X.w) X.A (subscriptTail value slice v u) (EP X pins σ Q) X.xe s
noncomputable def MtR (X:Cx) (id:String) (r:V->List V->Hp->VK->Prop):Prop :=
 ∀(pins:List (Addr×Obj)) (s:Shared) (σ:St) (H:Hp) (x:V) (xs:List V) (v:Value) (us:List Value) (Q:VK),Inv X pins σ H s->A3a x v->A2v xs us->r x xs H Q->
  wpAny (model X.prog X.w) X.A (call (.builtin id) (v::us)) (EP X pins σ Q) X.xe s
section
variable {X:Cx} {a b:Expr} {ta tb:TE} {pos:Pos}
theorem A1b {r:R2} (hr:IxR X r) (ha:PE X a ta) (hb:PE X b tb) (hs:D2y b):PE X (.Subscript a b pos) (tOp r ta tb):=by
 intro pins s σ H Q I h;exact Subscript_ (D9l ha hb I h λv u s2 x y H2 I2 rx ry q=>hr a b pins s2 σ H2 x y v u Q I2 rx ry q (hs _ _))
noncomputable def D9v (K:PySem.W.Frag):R2:=λx y H Q=>∃p xs i v,x= .ref p/\y= .int i/\SqL K H p xs/\atI xs i=some v/\Q v H
noncomputable def D9w (K:PySem.W.Frag):R2:=λx y H Q=>∃p xs i v,x= .ref p/\y= .int i/\SqT K H p xs/\atI xs i=some v/\Q v H
theorem A1f:IxR X (D9v X.K):=by
 intro value slice pins s σ H x y v u Q I rx ry h hs;obtain ⟨p,xs,i,z,rfl,rfl,hq,he,q⟩:=h;cases rx;obtain ⟨t,rfl⟩:=ry;obtain ⟨its,r,pl,hz⟩:=I.list hq;obtain ⟨j,h1,h2,h3,h4,h5⟩:=C4k he;obtain ⟨w,ew,rw'⟩:=r.get h2;have hl:=r.length;have hn:=C6x;have fin:EP X pins σ Q w s:=⟨z,H,I,rw',q⟩;by_cases h0:0<=i
 ·have hj:i.toNat=j:=by
   rw [seqIndex_of h0 h5] at h1;exact Z1a h1
  exact item_listR pl.isList h0 (by lia) (by rw [hj];simpa using ew) fin hs
 ·have hj:(i+(its.toArray.size:Int)).toNat=j:=by
   rw [seqIndex_neg (by lia) h4] at h1;rw [Z0g,<-hl];exact Z1a h1
  exact subscriptTail_builtinR (x:=w) pl.isList.typeIs slot_list_getitem.lookup
   (wpAny_getItem_list_neg (Q:=λr s'=>r=w/\EP X pins σ Q r s') pl.isList (by lia) (by rw [Z0g] <;> lia) (by lia) (by rw [hj];simpa using ew) ⟨rfl,fin⟩) hs
theorem A1e:IxR X (D9w X.K):=by
 intro value slice pins s σ H x y v u Q I rx ry h hs;obtain ⟨p,xs,i,z,rfl,rfl,hq,he,q⟩:=h;cases rx;obtain ⟨t,rfl⟩:=ry;obtain ⟨its,r,pl,hz⟩:=I.tuple hq;obtain ⟨j,h1,h2,h3,h4,h5⟩:=C4k he;obtain ⟨w,ew,rw'⟩:=r.get h2;have hl:=r.length;have hn:=C6x;have fin:EP X pins σ Q w s:=⟨z,H,I,rw',q⟩
 exact subscriptTail_builtinR (x:=w) pl.typeIs slot_tuple_getitem.lookup
  (getItem_tuple (j:=j) (Q:=λr s'=>r=w/\EP X pins σ Q r s') pl (by lia) (by lia) (by rw [Z0g,<-hl];exact h1) (by simpa using ew) ⟨rfl,fin⟩) hs
theorem Inv.lst {pins:List (Addr×Obj)} {σ:St} {H:Hp} {s:Shared} {p:Addr} {xs:List V} (I:Inv X pins σ H s) (h:H p=some (.lst xs)) :
  ∃(its:List Value) (n:Nat),A2v xs its/\s.heap.get? p=some { cls:= .type "list",data:= .seq its.toArray n }/\xs.length<=sizeLine:=by
 obtain ⟨z,its,n,r,e⟩:=I.hok p _ h;exact ⟨its,n,r,e,z⟩
theorem B7f (lo hi:Option Int) (n:Nat):(sliceBounds lo hi none n).1=((HT.sIx n 0 lo:Nat):Int)/\(sliceBounds lo hi none n).2.1=((HT.sIx n n hi:Nat):Int)/\(sliceBounds lo hi none n).2.2=1:=by
 refine ⟨?_,?_,rfl⟩
 ·cases lo with
  | none=>simp [sliceBounds,HT.sIx]
  | some i =>
   simp only [sliceBounds,HT.sIx,Option.getD_none,show (1:Int)>0 by decide,if_true];by_cases h:i<0
   ·simp only [h,if_true] <;> lia
   ·simp only [h,if_false] <;> lia
 ·cases hi with
  | none=>simp [sliceBounds,HT.sIx]
  | some i =>
   simp only [sliceBounds,HT.sIx,Option.getD_none,show (1:Int)>0 by decide,if_true];by_cases h:i<0
   ·simp only [h,if_true] <;> lia
   ·simp only [h,if_false] <;> lia
theorem B5h (its:List Value) (lo hi:Option Int):slicePick its.toArray lo hi none=((its.drop (HT.sIx its.length 0 lo)).take (HT.sIx its.length its.length hi-HT.sIx its.length 0 lo)).toArray:=by
 obtain ⟨h1,h2,h3⟩:=B7f lo hi its.toArray.size;unfold slicePick;rw [h1,h2,h3];simp only [sliceRange_one,pick_run,Z0g] <;> rfl
noncomputable def rSlL (K:PySem.W.Frag):V->Option Int->Option Int->Hp->VK->Prop:=λx lo hi H Q=>∃a xs,x= .ref a/\SqL K H a xs/\∀p,H p=none->Q (.ref p) (upd H p (.lst (A2u xs lo hi)))
theorem A6d:SlR X (rSlL X.K):=by
 intro pins s σ H x v vl vu lo hi sl Q I rx hs pl pu h;obtain ⟨a,xs,rfl,hx,q⟩:=h;cases rx;obtain ⟨its,r,ht,hz⟩:=I.list hx;have hlen:=r.length;refine ⟨"list",_,slot_list_getitem.lookup,ht.isList.typeIs,?_⟩;refine wpAny_getItem_list_slice ht.isList hs pl pu .none (by simp) ?_ (by rw [Z0g] <;> lia);rw [B5h,<-hlen];refine ⟨.ref s.heap.objs.size,_,I.laid (t':=s.toks) (o:= .lst (A2u xs lo hi)) (λb ob q=>Z01 _ q) (Z09 _) ?_,rfl,q _ (I.hok.fresh (Z09 _))⟩;exact ⟨Z1n (B2k xs lo hi) hz,_,0,(r.drop (HT.sIx xs.length 0 lo)).take (HT.sIx xs.length xs.length hi-HT.sIx xs.length 0 lo),Z0c _ rfl⟩
theorem A0p:B3q X (.builtin "len") (λxs H Q=>∃p ys,xs=[.ref p]/\(SqL X.K H p ys\/SqT X.K H p ys)/\Q (.int ys.length) H):=by
 intro pins s σ H xs us Q I r h;obtain ⟨p,ys,rfl,hq,q⟩:=h;obtain ⟨u,rfl,rx⟩:=B5q r;cases rx;have hn:=C6x;rcases hq with hq | hq
 ·obtain ⟨its,r',pl,hz⟩:=I.list hq;have hlen:=r'.length;exact Calls.call_len_list pl.isList (by simp only [Z0g] <;> lia) ⟨.int ys.length,H,I.tok _,⟨s.toks+1,by rw [Z0g,hlen]⟩,q⟩
 ·obtain ⟨its,r',pl,hz⟩:=I.tuple hq;have hlen:=r'.length;exact len_tuple pl (by simp only [Z0g] <;> lia) ⟨.int ys.length,H,I.tok _,⟨s.toks+1,by rw [Z0g,hlen]⟩,q⟩
theorem A5n:B3q X (.type "list") (λxs H Q=>∃p ys,xs=[.ref p]/\(SqL X.K H p ys\/SqT X.K H p ys)/\∀l,H l=none->Q (.ref l) (upd H l (.lst ys))):=by
 intro pins s σ H xs us Q I r h;obtain ⟨p,ys,rfl,hq,q⟩:=h;obtain ⟨u,rfl,rx⟩:=B5q r;cases rx
 have fin:∀(its:List Value),A2v ys its->ys.length<=sizeLine->∀(h':Heap) (c':Nat),(∀b o',s.heap.get? b=some o'->h'.get? b=some o')->
   h'.get? s.heap.objs.size=some { cls:= .type "list",dict:=none,data:= .seq its.toArray c',slots:= #[] }->EP X pins σ Q (.ref s.heap.objs.size) { s with heap:=h' }:=λits r' hz h' c' kp e =>
  ⟨.ref s.heap.objs.size,_,I.laid (t':=s.toks) kp (Z09 _) (show A1v X.prog X.w _ h' _ (.lst ys) from ⟨hz,its,c',r',e⟩),rfl,q _ (I.hok.fresh (Z09 _))⟩
 rcases hq with hq | hq
 ·obtain ⟨its,r',pl,hz⟩:=I.list hq;have hlen:=r'.length;obtain ⟨o,ho,hc,n,hd⟩:=pl.isList;exact call_list_seq p (.inl rfl) ho hc hd (λh' c' kp e=>fin its r' hz h' c' kp e) (by simp only [Z0g] <;> lia)
 ·obtain ⟨its,r',pl,hz⟩:=I.tuple hq;have hlen:=r'.length;obtain ⟨o,ho,hc,n,hd⟩:=pl;exact call_list_seq p (.inr rfl) ho hc hd (λh' c' kp e=>fin its r' hz h' c' kp e) (by simp only [Z0g] <;> lia)
theorem A1s:B3q X (.type "tuple") (λxs H Q=>∃p ys,xs=[.ref p]/\((SqL X.K H p ys/\∀l,H l=none->Q (.ref l) (upd H l (.tup ys)))\/(SqT X.K H p ys/\Q (.ref p) H))):=by
 intro pins s σ H xs us Q I r h;obtain ⟨p,ys,rfl,h⟩:=h;obtain ⟨u,rfl,rx⟩:=B5q r;cases rx;rcases h with ⟨hq,q⟩ | ⟨hq,q⟩
 ·obtain ⟨its,r',pl,hz⟩:=I.list hq;have hlen:=r'.length;refine call_tuple_list pl.isList (λh' kp=> ?_) (by simp only [Z0g] <;> lia);have I1:Inv X pins σ H { s with heap:=h' }:=I.kept (t':=s.toks) kp
  have I2:Inv X pins σ (upd H h'.objs.size (.tup ys)) { s with heap:=h'.push { cls:= .type "tuple",data:= .seq its.toArray } } :=
   I1.laid (t':=s.toks) (λb o e=>Z01 _ e) (Z09 _) (show A1v X.prog X.w _ _ _ (.tup ys) from ⟨hz,its,r',IsTup.new _ _⟩)
  exact ⟨.ref h'.objs.size,_,I2,rfl,q _ (I1.hok.fresh (Z09 _))⟩
 ·obtain ⟨its,r',pl,hz⟩:=I.tuple hq;exact call_tuple_same pl ⟨.ref p,H,I,rfl,q⟩
noncomputable def tyV (K:PySem.W.Frag) (T:String) (x:V) (H:Hp):Prop:=match x with
 | .str _=>T="str"
 | .int _=>T="int"
 | .ref p=>(T="list"/\∃xs,SqL K H p xs)\/(T="tuple"/\∃o,K.lookup p=some o/\o.cls= .type "tuple"/\o.dict=none)\/
   (T="dict"/\((∃kvs,H p=some (.dK kvs))\/∃kvs,H p=some (.dT kvs)))\/(T="set"/\∃S n,H p=some (.set S n))
 | _=>False
theorem D1o {pins:List (Addr×Obj)} {σ:St} {H:Hp} {s:Shared} {T:String} {x:V} {v:Value} (I:Inv X pins σ H s) (r:A3a x v) (ty:tyV X.K T x H) :
  s.TypeIs v T/\∀a,v= .ref a->∃ob,s.heap.get? a=some ob/\ob.dict=none:=by
 cases x with
 | str z =>
  obtain ⟨t,rfl⟩:=r;cases (show T="str" from ty);exact ⟨typeIs_str s z t,λ_ e=>nomatch e⟩
 | int i =>
  obtain ⟨t,rfl⟩:=r;cases (show T="int" from ty);exact ⟨typeIs_int s i t,λ_ e=>nomatch e⟩
 | ref p =>
  cases r
  rcases ty with ⟨rfl,xs,hq⟩ | ⟨rfl,o,hk,hc,hd⟩ | ⟨rfl,hk⟩ | ⟨rfl,S,n,hk⟩
  ·obtain ⟨its,_,pl,_⟩:=I.list hq;refine ⟨pl.isList.typeIs,λa e=> ?_⟩;cases e;obtain ⟨o,n,e,c,hd,_⟩:=pl;exact ⟨o,e,hd⟩
  ·refine ⟨⟨o,I.kIn p o hk,hc⟩,λa e=> ?_⟩;cases e;exact ⟨o,I.kIn _ o hk,hd⟩
  ·have z:∃o,s.heap.get? p=some o/\o.ExactDict:=by
    rcases hk with ⟨kvs,hk⟩ | ⟨kvs,hk⟩
    ·obtain ⟨_,_,_,_,o,_,_,e,ex,_⟩:=I.hok p _ hk;exact ⟨o,e,ex⟩
    ·obtain ⟨_,_,_,_,o,_,_,e,ex,_⟩:=I.hok p _ hk;exact ⟨o,e,ex⟩
   obtain ⟨o,e,ex⟩:=z;refine ⟨⟨o,e,ex.1⟩,λa e2=> ?_⟩;cases e2;exact ⟨o,e,ex.2.1⟩
  ·obtain ⟨o,_,_,_,e,ex,_⟩:=I.hok p _ hk;refine ⟨⟨o,e,ex.1⟩,λa e2=> ?_⟩;cases e2;exact ⟨o,e,ex.2.1⟩
 | _=>exact False.elim ty
noncomputable def tBM0 (K:PySem.W.Frag) (T:String) (r:V->List V->Hp->VK->Prop) (to:TE):TE:=λσ H Q=>to σ H λx H1=>tyV K T x H1/\r x [] H1 Q
noncomputable def tBM (K:PySem.W.Frag) (T:String) (r:V->List V->Hp->VK->Prop) (to:TE) (t:TA):TE:=λσ H Q=>to σ H λx H1=>tyV K T x H1/\t σ H1 λxs H2=>r x xs H2 Q
variable {o e:Expr} {es:List Expr} {to:TE} {t:TA} {name:Str} {apos cpos:Pos} {T id:String} {r:V->List V->Hp->VK->Prop}
theorem D1l (pa:PlainAttrs T) (slot:Slot T name id) (hty:typeOf (.builtin id)=pure (.type "method_descriptor")) (hm:MtR X id r) (ho:PE X o to)
  (hbase:attributeBase o name X.env (eval o X.env)=eval o X.env:=by rfl) (hline:(apos.endLine == cpos.line)=true:=by rfl):PE X (.Call (.Attribute o name apos) [] [] cpos) (tBM0 X.K T r to):=by
 intro pins s σ H Q I h;refine wpAny_Call_method0_late hbase hline (thn (ho pins s σ H _ I h) λv s1 ⟨x,H1,I1,r1,ty,q1⟩=> ?_);obtain ⟨h1,h2⟩:=D1o I1 r1 ty;exact ⟨T,id,pa,slot,hty,h1,h2,Calls.callWith_builtin rfl (PySem.evalArgs_none (hm pins s1 σ H1 x [] v [] Q I1 r1 .nil q1))⟩
theorem A5t (pa:PlainAttrs T) (slot:Slot T name id) (hty:typeOf (.builtin id)=pure (.type "method_descriptor")) (hm:MtR X id r) (ho:PE X o to) (ha:PA X (e::es) t)
  (hbase:attributeBase o name X.env (eval o X.env)=eval o X.env:=by rfl)
  (hfew:((backTo cpos (starEach (e::es) X.env)).all (λx=> !x.1)&&(backToKw cpos (keywordEach [] X.env)).all (λx=>x.1.isSome)
   && decide ((e::es).length+([]:List Keyword).length+(if ([]:List Keyword).isEmpty then 0 else 1)<30))=true:=by rfl)
  (hline:(apos.endLine == cpos.line)=true:=by rfl) (hs:starEach (e::es) X.env=(false,eval e X.env)::starEach es X.env:=by rfl) (hplain:(backTo cpos (starEach es X.env)).any (·.1)=false:=by rfl) :
  PE X (.Call (.Attribute o name apos) (e::es) [] cpos) (tBM X.K T r to t):=by
 intro pins s σ H Q I h;refine wpAny_Call_method_late hbase hfew hline rfl (thn (ho pins s σ H _ I h) λv s1 ⟨x,H1,I1,r1,ty,q1⟩=> ?_);obtain ⟨h1,h2⟩:=D1o I1 r1 ty;refine ⟨T,id,pa,slot,hty,h1,h2,?_⟩;have hA:=ha cpos pins s1 σ H1 _ I1 q1;rw [hs] at hA⊢;refine Calls.callWith_builtin (by show (false||(backTo cpos (starEach es X.env)).any (·.1))=false;rw [hplain] <;> rfl) (Calls.evalArgs_plain ?_);exact thn hA λus s2 ⟨vs,H2,I2,r2,q2⟩=>hm pins s2 σ H2 x vs v us Q I2 r1 r2 q2
end
noncomputable def MtM (X:Cx) (id:String) (r:V->List V->Hp->VK->Prop):Prop :=
 ∀(pins:List (Addr×Obj)) (s:Shared) (σ:St) (H:Hp) (x:V) (xs:List V) (v:Value) (us:List Value) (Q:VK),Inv X pins σ H s->A3a x v->A2v xs us->r x xs H Q->
  wpAny (model X.prog X.w) X.A (call (.builtin id) (v::us)) (EP X pins σ Q) X.xe s
theorem A2v.one:∀{x:V} {us:List Value},A2v [x] us->∃u,us=[u]/\A3a x u
 | _,_,.cons r .nil=>⟨_,rfl,r⟩
theorem A2v.zero:∀{us:List Value},A2v [] us->us=[]
 | _,.nil=>rfl
theorem A2v.dropLast {xs:List V} {us:List Value} (h:A2v xs us):A2v xs.dropLast us.dropLast:=by
 induction h with
 | nil=>exact .nil
 | cons r t ih =>
  cases t with
  | nil=>exact .nil
  | cons q t'=>exact .cons r ih
theorem C2v {α:Type} (l:List α):l.eraseIdx (l.length-1)=l.dropLast:=by
 induction l with
 | nil=>rfl
 | cons a r ih =>
  cases r with
  | nil=>rfl
  | cons b r =>
   have e:(a::b::r).length-1=((b::r).length-1)+1:=by
    have h1:(a::b::r).length=r.length+2:=rfl;have h2:(b::r).length=r.length+1:=rfl
    lia
   rw [e,List.eraseIdx_cons_succ,ih]
   all_goals rfl
section
variable {X:Cx} {pins:List (Addr×Obj)} {σ:St} {H:Hp} {s:Shared} {l b:Addr} {xs ys zs:List V}
theorem Inv.lset {its its':List Value} {n:Nat} {f:Array Value->Array Value} {t':Nat} (I:Inv X pins σ H s) (hH:H l=some (.lst xs))
  (e:s.heap.get? l=some { cls:= .type "list",data:= .seq its.toArray n }) (hf:f its.toArray=its'.toArray) (hv:A2v ys its') (hz:ys.length<=sizeLine) :
  Inv X pins σ (upd H l (.lst ys)) { s with heap:=s.heap.update l (Obj.mapSeq f),toks:=t' }:=by
 have q:=PySem.IsL.update e f;rw [hf] at q;refine I.write (x:=l) (e:=l) (by rw [hH];exact trivial) (.inl rfl) (λb' u hb hu=>(Z1d s.heap (Obj.mapSeq f) (Ne.symm hb)).trans hu) ⟨_,q⟩ ?_;exact ⟨hz,its',_,hv,q⟩
theorem Inv.lnew {its:List Value} {t':Nat} (I:Inv X pins σ H s) (hv:A2v ys its) (hz:ys.length<=sizeLine) :
  Inv X pins σ (upd H s.heap.objs.size (.lst ys)) { s with heap:=s.heap.push { cls:= .type "list",data:= .seq its.toArray },toks:=t' } :=
 I.laid (λ_ _ q=>Z01 _ q) (Z09 _) ⟨hz,its,0,hv,Z0c _ rfl⟩
theorem Inv.fresh (I:Inv X pins σ H s):H s.heap.objs.size=none:=I.hok.fresh (Z09 _)
theorem Inv.lstM (I:Inv X pins σ H s) (hH:H l=some (.lst xs)):xs.length<=sizeLine/\∃(its:List Value) (n:Nat),A2v xs its/\xs.length=its.length/\s.heap.get? l=some { cls:= .type "list",data:= .seq its.toArray n }:=by
 obtain ⟨z,its,n,r,e⟩:=I.hok l _ hH;exact ⟨z,its,n,r,r.length,e⟩
theorem C8v {n:Nat} (h:n<=sizeLine):Builtin.List.listTooLong n=false:=by
 unfold Builtin.List.listTooLong;exact Z1j (by lia)
end
section
variable {X:Cx}
noncomputable def D2m:V->List V->Hp->VK->Prop:=λx vs H Q=>∃l xs y,x= .ref l/\vs=[y]/\H l=some (.lst xs)/\xs.length<sizeLine/\Q .non (upd H l (.lst (xs++[y])))
theorem A1n:MtM X "list.append" D2m:=by
 intro pins s σ H x vs v us Q I rx rv h;obtain ⟨l,xs,y,rfl,rfl,hH,hz,q⟩:=h;cases rx;obtain ⟨u,rfl,ru⟩:=rv.one;obtain ⟨z,its,n,r,hl,e⟩:=I.lstM hH;refine call_meets F.slot_list_append ⟨_,e,rfl⟩ F.entry_list_append (F.args_list_append_2 _ _) (PySem.list_append l its.toArray n u (by rw [Z0g];lia)) ⟨e,?_⟩;refine ⟨.non,_,I.lset (its':=its++[u]) hH e (by simp) (r.append (.cons ru .nil)) ?_,rfl,q⟩;rw [Z06,Z0j]
 lia
noncomputable def rPop:V->List V->Hp->VK->Prop:=λx vs H Q=>∃l xs y,x= .ref l/\vs=[]/\H l=some (.lst xs)/\xs[xs.length-1]? =some y/\Q y (upd H l (.lst xs.dropLast))
theorem D5k:MtM X "list.pop" rPop:=by
 intro pins s σ H x vs v us Q I rx rv h;obtain ⟨l,xs,y,rfl,rfl,hH,hy,q⟩:=h;cases rx;have hus:=rv.zero;subst hus;obtain ⟨z,its,n,r,hl,e⟩:=I.lstM hH;obtain ⟨u,hu,ru⟩:=r.get hy
 have hy':its.toArray[its.toArray.size-1]? =some u:=by
  show its.toArray[its.length-1]? =some u;rw [<-Array.getElem?_toList,<-hl];exact hu
 refine call_meets F.slot_list_pop ⟨_,e,rfl⟩ F.entry_list_pop (F.args_list_pop_1 _) (MeetsSeq.list_pop_last l its.toArray n u hy' (by rw [Z0g];lia)) ⟨e,?_⟩;refine ⟨y,_,I.lset (its':=its.dropLast) hH e ?_ r.dropLast ?_,ru,q⟩
 ·show its.toArray.eraseIdxIfInBounds (its.toArray.size-1)=its.dropLast.toArray;rw [Z0g,List.eraseIdxIfInBounds_toArray,C2v]
 ·rw [List.length_dropLast]
  lia
noncomputable def rCat:R2:=λx y H Q=>∃l b xs zs,x= .ref l/\y= .ref b/\H l=some (.lst xs)/\H b=some (.lst zs)/\xs.length+zs.length<=sizeLine/\∀p,H p=none->Q (.ref p) (upd H p (.lst (xs++zs)))
theorem B2b:OpR X (binaryOp .Add) rCat:=by
 intro pins s σ H x y v u Q I rx ry h;obtain ⟨l,b,xs,zs,rfl,rfl,hH,hB,hz,q⟩:=h;cases rx;cases ry;obtain ⟨z,its,n,r,hl,e⟩:=I.lstM hH;obtain ⟨z2,its2,n2,r2,hl2,e2⟩:=I.lstM hB;refine PySem.P.add_list e e2 ?_ (by rw [Z0g,Z0g];lia);have ea:its.toArray++its2.toArray=(its++its2).toArray:=by simp
 rw [ea];exact ⟨.ref _,_,I.lnew (t':=s.toks) (r.append r2) (by rw [Z06];lia),rfl,q _ I.fresh⟩
end
section
variable {prog:Program} {w:World} {A:Around} {E:Value->Shared->Prop} {s:Shared}
set_option maxRecDepth 100000 in
end
section
variable {X:Cx}
end
section
variable {κ:Type} [DecidableEq κ]
noncomputable def B0z (kvs:List (κ×V)) (k:κ):Option V:=(kvs.find? λkv=>decide (kv.1=k)).map (·.2)
noncomputable def B0b (kvs:List (κ×V)) (k:κ) (v:V):List (κ×V) :=
 if (kvs.any λkv=>decide (kv.1=k))=true then kvs.map (λkv=>if kv.1=k then (kv.1,v) else kv) else kvs++[(k,v)]
theorem A4c {p:κ×V} {r:List (κ×V)} {k:κ} (e:p.1=k):B0z (p::r) k=some p.2:=by simp [B0z,List.find?_cons,e]
theorem A3z {p:κ×V} {r:List (κ×V)} {k:κ} (e:¬p.1=k):B0z (p::r) k=B0z r k:=by simp [B0z,List.find?_cons,e]
theorem B1r (k:κ):∀kvs:List (κ×V),(kvs.any λkv=>decide (kv.1=k))=(B0z kvs k).isSome
 | []=>rfl
 | p::r=>by
  rw [List.any_cons];by_cases e:p.1=k
  ·simp only [A4c e,Z20 e,Bool.true_or,Option.isSome_some]
  ·rw [A3z e,Z1j e,Bool.false_or];exact B1r k r
theorem C1z (k j:κ) (y:V):∀kvs:List (κ×V),B0z (kvs.map λkv=>if kv.1=k then (kv.1,y) else kv) j=(B0z kvs j).map λx=>if j=k then y else x
 | []=>rfl
 | p::r=>by
  have ih:=C1z k j y r;rw [Z0p];by_cases h:p.1=k
  ·rw [Z12 h];by_cases e:p.1=j
   ·rw [A4c (p:=(p.1,y)) e,A4c e,Option.map_some,Z12 (e.symm.trans h)]
   ·rw [A3z (p:=(p.1,y)) e,A3z e,ih]
  ·rw [Z0t h];by_cases e:p.1=j
   ·rw [A4c (p:=p) e,A4c e,Option.map_some,Z0t (λz=>h (e.trans z))]
   ·rw [A3z (p:=p) e,A3z e,ih]
theorem B6z (k j:κ) (y:V):∀kvs:List (κ×V),B0z kvs k=none->B0z (kvs++[(k,y)]) j=if j=k then some y else B0z kvs j
 | [],_=>by
  by_cases e:k=j
  ·rw [Z12 e.symm];exact A4c (p:=(k,y)) e
  ·rw [Z0t (λz=>e z.symm)];exact A3z (p:=(k,y)) e
 | p::r,hn=>by
  rw [Z17];have hk:¬p.1=k:=λz=>by rw [A4c z] at hn;cases hn
  rw [A3z hk] at hn;have ih:=B6z k j y r hn;by_cases e:p.1=j
  ·rw [A4c e,A4c e,Z0t (λz=>hk (e.trans z))]
  ·rw [A3z e,A3z e,ih]
theorem C1o (kvs:List (κ×V)) (k j:κ) (y:V):B0z (B0b kvs k y) j=if j=k then some y else B0z kvs j:=by
 unfold B0b;by_cases a:(kvs.any λkv=>decide (kv.1=k))=true
 ·rw [Z12 a,C1z];rw [B1r] at a;by_cases e:j=k
  ·obtain ⟨x,hx⟩:=Option.isSome_iff_exists.mp a;rw [Z12 e,e,hx,Option.map_some,Z12 rfl]
  ·rw [Z0t e]
   cases B0z kvs j with
   | none=>rfl
   | some x=>rw [Option.map_some,Z0t e]
 ·rw [Z0t a];refine B6z k j y kvs ?_;rw [B1r] at a
  cases q:B0z kvs k with
  | none=>rfl
  | some x=>rw [q] at a;exact (a rfl).elim
theorem A5i (kvs:List (κ×V)) (k:κ) (v:V):(B0b kvs k v).length<=kvs.length+1:=by
 unfold B0b;split
 ·rw [Z08];lia
 ·rw [Z06,Z0y,List.length_nil];lia
theorem B9b.isSome_eq {o:Option V} {u:Option Value} (r:B9b o u):o.isSome=u.isSome:=by
 cases o with
 | none=>cases u with
  | none=>rfl
  | some _=>exact (show False from r).elim
 | some _=>cases u with
  | none=>exact (show False from r).elim
  | some _=>rfl
theorem KV.val {kvs:List (κ×V)} {vs:List (κ×Value)} (r:KV kvs vs) (k:κ):B9b (B0z kvs k) (valueAt vs k):=by
 unfold KV at r
 induction r with
 | nil=>exact True.intro
 | @cons p q ps qs h t ih =>
  obtain ⟨h1,h2⟩:=h;by_cases e:p.1=k
  ·have e':q.1=k:=h1.symm.trans e;have b:valueAt (q::qs) k=some q.2:=by simp [valueAt,List.find?_cons,e']
   rw [A4c e,b];exact h2
  ·have e':¬q.1=k:=λz=>e (h1.trans z);have b:valueAt (q::qs) k=valueAt qs k:=by simp [valueAt,List.find?_cons,e']
   rw [A3z e,b];exact ih
theorem KV.any {kvs:List (κ×V)} {vs:List (κ×Value)} (r:KV kvs vs) (k:κ):(kvs.any λkv=>decide (kv.1=k))=vs.any λkv=>decide (kv.1=k):=by
 unfold KV at r
 induction r with
 | nil=>rfl
 | cons h t ih=>rw [List.any_cons,List.any_cons,ih,h.1]
theorem KV.repl {kvs:List (κ×V)} {vs:List (κ×Value)} (r:KV kvs vs) (k:κ) {y:V} {u:Value} (ry:A3a y u) :
  KV (kvs.map λkv=>if kv.1=k then (kv.1,y) else kv) (vs.map λkv=>if kv.1=k then (kv.1,u) else kv):=by
 unfold KV at r⊢
 induction r with
 | nil=>exact .nil
 | @cons p q ps qs h t ih =>
  rw [Z0p,Z0p];refine .cons ?_ ih;obtain ⟨h1,h2⟩:=h;by_cases e:p.1=k
  ·rw [Z12 e,Z12 (h1.symm.trans e)];exact ⟨h1,ry⟩
  ·rw [Z0t e,Z0t (λz=>e (h1.trans z))];exact ⟨h1,h2⟩
theorem KV.put {kvs:List (κ×V)} {vs:List (κ×Value)} (r:KV kvs vs) (k:κ) {y:V} {u:Value} (ry:A3a y u):KV (B0b kvs k y) (stored vs k u):=by
 unfold B0b stored;rw [r.any k];by_cases e:(vs.any λkv=>decide (kv.1=k))=true
 ·rw [Z12 e,Z12 e];exact r.repl k ry
 ·rw [Z0t e,Z0t e];exact Paired.snoc r ⟨rfl,ry⟩
theorem KV.length {kvs:List (κ×V)} {vs:List (κ×Value)} (r:KV kvs vs):kvs.length=vs.length:=Paired.length r
end
theorem C9w {P:Program} {w:World} {k:Key} {u:Value} (r:A3a (kV k) u):(A2t P w).is k u=true:=by
 cases k with
 | inl i=>obtain ⟨t,e⟩:=(show∃t,u=Value.int i t from r);subst e;exact C0t P w i t
 | inr x=>obtain ⟨t,e⟩:=(show∃t,u=Value.str x t from r);subst e;exact C0f P w x t
theorem B7e {P:Program} {w:World}:∀{ks:List Key} {us:List Value},A2v (ks.map kV) us->ItemsAre (A2t P w) ks us
 | [],_,r=>by rw [List.map_nil] at r;cases r;exact .nil
 | k::ks,_,r=>by
  rw [Z0p] at r
  cases r with
  | cons h t=>exact .cons (C9w h) (B7e t)
abbrev KT (H:Hp):List (List Key×V)->List (List Key×Addr×Value)->Prop:=Paired λp q=>p.1=q.1/\H q.2.1=some (.tup (p.1.map kV))/\A3a p.2 q.2.2
theorem KT.val {H:Hp} {kvs:List (List Key×V)} {xs:List (List Key×Addr×Value)} (r:KT H kvs xs) (k:List Key):B9b (B0z kvs k) ((atKey xs k).map (·.2)):=by
 induction r with
 | nil=>exact True.intro
 | @cons p q ps qs h t ih =>
  obtain ⟨h1,_,h2⟩:=h;by_cases e:p.1=k
  ·have e':q.1=k:=h1.symm.trans e;have b:atKey (q::qs) k=some q.2:=by simp [atKey,List.find?_cons,e']
   rw [A4c e,b];exact h2
  ·have e':¬q.1=k:=λz=>e (h1.trans z);have b:atKey (q::qs) k=atKey qs k:=by simp [atKey,List.find?_cons,e']
   rw [A3z e,b];exact ih
theorem KT.repl {H:Hp} {kvs:List (List Key×V)} {xs:List (List Key×Addr×Value)} (r:KT H kvs xs) (k:List Key) {y:V} {u:Value} (ry:A3a y u) :
  KT H (kvs.map λkv=>if kv.1=k then (kv.1,y) else kv) (xs.map (putAt k u)):=by
 induction r with
 | nil=>exact .nil
 | @cons p q ps qs h t ih =>
  rw [Z0p,Z0p];refine .cons ?_ ih;obtain ⟨h1,h2,h3⟩:=h;unfold putAt;by_cases e:p.1=k
  ·rw [Z12 e,Z12 (h1.symm.trans e)];exact ⟨h1,h2,ry⟩
  ·rw [Z0t e,Z0t (λz=>e (h1.trans z))];exact ⟨h1,h2,h3⟩
theorem KT.put {H:Hp} {kvs:List (List Key×V)} {xs:List (List Key×Addr×Value)} (r:KT H kvs xs) (k:List Key) {b:Addr} {y:V} {u:Value} (hb:H b=some (.tup (k.map kV))) (ry:A3a y u) :
  KT H (B0b kvs k y) (storedH xs k b u):=by
 have e:(kvs.any λkv=>decide (kv.1=k))=(atKey xs k).isSome:=by
  rw [B1r,(r.val k).isSome_eq,Option.isSome_map]
 unfold B0b storedH;rw [e];by_cases q:(atKey xs k).isSome=true
 ·rw [Z12 q,Z12 q];exact r.repl k ry
 ·rw [Z0t q,Z0t q];exact Paired.snoc r ⟨rfl,hb,ry⟩
theorem KT.keeps {H H':Hp} {kvs:List (List Key×V)} {xs:List (List Key×Addr×Value)} (r:KT H kvs xs) (ht:∀b ys,H b=some (.tup ys)->H' b=some (.tup ys)):KT H' kvs xs :=
 Paired.mapP r λ_ _ z=>⟨z.1,ht _ _ z.2.1,z.2.2⟩
section
variable {P:Program} {w:World} {H:Hp} {h:Heap} {a:Addr}
theorem D7l {u:HO} (ok:HOk P w H h) (e:Rd H a u):A1v P w H h a u:=e.ok ok
theorem D4f {kvs:List (Key×V)} (ok:HOk P w H h) (e:Rd H a (.dK kvs)):kvs.length<=sizeLine/\(a == sysModules)=false/\∃vs,KV kvs vs/\h.DictOf (A2t P w) a vs :=
 show A1v P w H h a (.dK kvs) from D7l ok e
theorem C8t {kvs:List (Key×V)} (ok:HOk P w H h) (e:H a=some (.dK kvs)):kvs.length<=sizeLine/\(a == sysModules)=false/\∃vs,KV kvs vs/\h.DictOf (A2t P w) a vs:=D4f ok (.inl e)
theorem C7n {ks:List Key} (ok:HOk P w H h) (e:H a=some (.tup (ks.map kV))):(tupleKind (A2t P w)).is h ks a:=by
 obtain ⟨_,its,r,o,h1,h2,n,h3⟩:=(show A1v P w H h a (.tup (ks.map kV)) from ok a _ e);exact ⟨o,its.toArray,n,h1,h2,h3,by simpa using B7e r⟩
theorem D4j {kvs:List (List Key×V)} (ok:HOk P w H h) (e:Rd H a (.dT kvs)):kvs.length<=sizeLine/\(a == sysModules)=false/\
  ∃xs,KT H kvs xs/\h.DictOfH (tupleKind (A2t P w)) a xs:=by
 obtain ⟨z,y,xs,r,o,es,ep,h1,h2,h3,h4,h5⟩:=(show A1v P w H h a (.dT kvs) from D7l ok e);refine ⟨z,y,xs,r,o,es,ep,h1,h2,h3,h4,λx hx=> ?_,h5⟩
 have all:∀{l:List (List Key×V)} {m:List (List Key×Addr×Value)},KT H l m->∀x∈m,(tupleKind (A2t P w)).is h x.1 x.2.1:=by
  intro l m q
  induction q with
  | nil=>intro x hx;exact nomatch hx
  | @cons p q ps qs hq t ih =>
   intro x hx;rcases Z0e.mp hx with e | hx
   ·subst e;exact C7n ok (by rw [<-hq.1];exact hq.2.1)
   ·exact ih x hx
 exact all r x hx
theorem D9i {kvs:List (List Key×V)} (ok:HOk P w H h) (e:H a=some (.dT kvs)):kvs.length<=sizeLine/\(a == sysModules)=false/\
  ∃xs,KT H kvs xs/\h.DictOfH (tupleKind (A2t P w)) a xs:=D4j ok (.inl e)
end
noncomputable def C8m (H:Hp) (a:Addr) (y:V) (r:Option V):Prop :=
 (∃kvs k,Rd H a (.dK kvs)/\y=kV k/\r=B0z kvs k)\/∃kvs k b,Rd H a (.dT kvs)/\y= .ref b/\H b=some (.tup (k.map kV))/\r=B0z kvs k
noncomputable def D1t (H:Hp) (a:Addr) (y v:V) (H':Hp):Prop :=
 (∃kvs k,H a=some (.dK kvs)/\y=kV k/\kvs.length<sizeLine/\H'=upd H a (.dK (B0b kvs k v)))\/
 ∃kvs k b,H a=some (.dT kvs)/\y= .ref b/\H b=some (.tup (k.map kV))/\kvs.length<sizeLine/\H'=upd H a (.dT (B0b kvs k v))
theorem C8m.k {H:Hp} {a:Addr} {kvs:List (Key×V)} {k:Key} (e:H a=some (.dK kvs)):C8m H a (kV k) (B0z kvs k):= .inl ⟨kvs,k,.inl e,rfl,rfl⟩
theorem D1t.k {H:Hp} {a:Addr} {kvs:List (Key×V)} {k:Key} {v:V} (e:H a=some (.dK kvs)) (hl:kvs.length<sizeLine):D1t H a (kV k) v (upd H a (.dK (B0b kvs k v))):= .inl ⟨kvs,k,e,rfl,hl,rfl⟩
section
variable {X:Cx} {pins:List (Addr×Obj)} {σ:St} {H:Hp} {s:Shared} {a:Addr} {y v:V} {u r:Value} {o:Option V} {A:Around} {E:Value->Shared->Prop}
theorem Inv.big (I:Inv X pins σ H s):sysModules<s.heap.objs.size:=by
 have h:mainGlobals<s.heap.objs.size:=(I.mod.glob.keeps I.bk).lt;exact Nat.lt_trans (by decide) h
theorem C6b {Q:Value->Shared->Prop} (hu:A.units+1<cLine) (I:Inv X pins σ H s) (g:C8m H a y (some v)) (ry:A3a y u) (h:∀w' s',Inv X pins σ H s'->A3a v w'->Q w' s') :
  wpAny (model X.prog X.w) A (getItem (.ref a) u) Q E s:=by
 rcases g with ⟨kvs,k,e,ey,l⟩ | ⟨kvs,k,b,e,ey,eb,l⟩
 ·subst ey;obtain ⟨z,hd,vs,rel,dd⟩:=D4f I.hok e;obtain ⟨w',hw,rw'⟩:=B9b.some_of (v:=v) (o:=valueAt vs k) (by rw [l];exact rel.val k);exact wpAny_getItem_of (C9w ry) dd.mapOf hw (h w' _ (I.tok _) rw')
 ·subst ey;cases (show u=Value.ref b from ry);obtain ⟨z,hd,xs,rel,dd⟩:=D4j I.hok e;obtain ⟨w',hw,rw'⟩:=B9b.some_of (v:=v) (o:=(atKey xs k).map (·.2)) (by rw [l];exact rel.val k);obtain ⟨p,hp,hp2⟩:=Z0i.mp hw;refine wpAny_getItem_heap (tupleKind_room_in1 hu) (C7n I.hok eb) dd hp ?_;rw [hp2];exact h w' _ (I.tok _) rw'
theorem B9h {h':Heap} {t':Nat} {ob:HO} (I:Inv X pins σ H s) (mu:Mut (H a)) (hs:Heap.SameBut a s.heap h') (he:∃q,h'.get? a=some q) (new:A1v X.prog X.w (upd H a ob) h' a ob) :
  Inv X pins σ (upd H a ob) { s with heap:=h',toks:=t' } :=
 I.write (x:=a) (e:=a) mu (.inl rfl) (λb q hb z=>(hs.2 b hb).trans z) he new
theorem D2a {P:Program} {w:World} {H':Hp} {h':Heap} {kvs:List (Key×V)} {vs:List (Key×Value)} (z:kvs.length<=sizeLine) (hd:(a == sysModules)=false) (rel:KV kvs vs) (dd:h'.DictOf (A2t P w) a vs) :
  A1v P w H' h' a (.dK kvs):=⟨z,hd,vs,rel,dd⟩
theorem C3x {H':Hp} {Q:Unit->Shared->Prop} (hu:A.units+1<cLine) (I:Inv X pins σ H s) (g:D1t H a y v H') (ry:A3a y u) (rv:A3a v r) (h:∀s',Inv X pins σ H' s'->Q () s') :
  wpAny (model X.prog X.w) A (setItem (.ref a) u r) Q E s:=by
 rcases g with ⟨kvs,k,e,ey,l,eH⟩ | ⟨kvs,k,b,e,ey,eb,l,eH⟩
 ·subst ey eH;obtain ⟨z,hd,vs,rel,dd⟩:=C8t I.hok e;have hz:vs.length<=sizeLine:=by rw [<-rel.length];exact z
  have hl:(B0b kvs k v).length<=sizeLine:=by have:=A5i kvs k v;lia
  refine wpAny_setItem_pairs (hsz:=hz) (C9w ry) dd λh' dd' hs=>h _ ?_;have he:∃q,h'.get? a=some q:=let ⟨q,_,_,hq,_⟩:=dd';⟨q,hq⟩;exact B9h I (by rw [e];exact True.intro) hs he (D2a hl hd (rel.put k rv) dd')
 ·subst ey eH;cases (show u=Value.ref b from ry);obtain ⟨z,hd,xs,rel,dd⟩:=D9i I.hok e;have hz:xs.length<=sizeLine:=by rw [<-Paired.length rel];exact z
  have hl:(B0b kvs k v).length<=sizeLine:=by have:=A5i kvs k v;lia
  refine wpAny_setItem_heap (hsz:=hz) (tupleKind_room_in1 hu) (C7n I.hok eb) dd λh' dd' hs=>h _ ?_;obtain ⟨q,es,ep,hq,h2,h3,h4,_,h5⟩:=dd';refine B9h I (by rw [e];exact True.intro) hs ⟨q,hq⟩ ⟨hl,hd,_,(rel.put k eb rv).keeps λc ys ec=> ?_,q,es,ep,hq,h2,h3,h4,h5⟩;rw [A0l (A7s ec e (λz=>nomatch z))];exact ec
end
section
variable {X:Cx} {pins:List (Addr×Obj)} {σ:St} {H:Hp} {s:Shared} {a:Addr} {kvs:List (Key×V)} {k:Key} {u:Value} {A:Around} {E:Value->Shared->Prop}
end
noncomputable def D9p (i:Expr):Prop:=∀ov iv,subscripted i false ov iv=operate [ov,iv] (getItem ov iv)
theorem D2h {prog:Program} {w:World} {A:Around} {E:Value->Shared->Prop} {s:Shared} {env:Env} {value slice:Expr} {pos:Pos} {T id:String} {Q:Value->Shared->Prop}
  (hl:typeLookup (.type T) "__getitem__"=pure (some (.builtin id))) (hs:D9p slice)
  (h:wpAny (model prog w) A (eval value env) (λo s₁=>wpAny (model prog w) A (eval slice env) (λi s₂=>s₂.TypeIs o T/\wpAny (model prog w) A (getItem o i) Q E s₂) E s₁) E s) :
  wpAny (model prog w) A (eval (.Subscript value slice pos) env) Q E s:=by
 refine Subscript_ (Z10 h (λo s₁ h₁=>Z10 h₁ (λi s₂ h₂=> ?_) λ_ _ x=>x) λ_ _ x=>x);obtain ⟨hT,h₂⟩:=h₂;unfold subscriptTail;refine Z00 ?_;rw [getitemInPython_of_ne hT.not_modules];refine Z00 (wpAny_specialOf hT hl ?_)
 have fin:wpAny (model prog w) A (subscripted slice false o i) (λr s₃=>wpAny (model prog w) A (letTemporaryGo value o r >>= λ_=>pure r) Q E s₃) E s₂:=by
  rw [hs o i];exact wpAny_operating (Z10 h₂ (λr s₃ h₃=>Z00 (wpAny_letTemporaryGo (Z04 h₃))) λ_ _ x=>x)
 first
  | exact Z04 (Z00 fin)
  | exact Z00 (Z04 (Z00 fin))
  | exact Z00 fin
theorem B9m {X:Cx} {pins:List (Addr×Obj)} {σ:St} {H:Hp} {s:Shared} {a:Addr} {y:V} {o:Option V} (I:Inv X pins σ H s) (g:C8m H a y o):s.TypeIs (.ref a) "dict":=by
 rcases g with ⟨kvs,k,e,_,_⟩ | ⟨kvs,k,b,e,_,_,_⟩
 ·obtain ⟨_,_,vs,_,dd⟩:=D4f I.hok e;exact dd.typeIs
 ·obtain ⟨_,_,xs,_,dd⟩:=D4j I.hok e;exact dd.typeIs
noncomputable def D8l (td ty:TE):TE:=λσ H Q=>td σ H λx H1=>ty σ H1 λy H2=>∃a v,x= .ref a/\C8m H2 a y (some v)/\Q v H2
noncomputable def D8o (td ty tv:TE):TS:=λD σ H=>tv σ H λv H1=>td σ H1 λx H2=>ty σ H2 λy H3=>∃a H4,x= .ref a/\D1t H3 a y v H4/\D.nx σ H4
section
variable {X:Cx} {o i e value:Expr} {pos pos' tpos:Pos} {td ty tv:TE}
theorem B6o (hu:X.A.units+1<cLine) (ho:PE X o td) (hi:PE X i ty) (hs:D9p i):PE X (.Subscript o i pos) (D8l td ty):=by
 intro pins s σ H Q I h;refine D2h PySem.F.slot_dict_getitem.lookup hs (thn (ho pins s σ H _ I h) λu s1 ⟨x,H1,I1,rx,q1⟩=>thn (hi pins s1 σ H1 _ I1 q1) λiv s2 ⟨y,H2,I2,ry,a,v,ex,g,q2⟩=> ?_);subst ex;obtain rfl:u=Value.ref a:=rx;exact ⟨B9m I2 g,C6b hu I2 g ry λw' s3 I3 rw'=>⟨v,H2,I3,rw',q2⟩⟩
theorem B5v (hu:X.A.units+1<cLine) (ho:PE X o td) (hi:PE X i ty) (hv:PE X value tv) (hs:swapsWith value (some (.Subscript o i pos')) pos.line X.env=pure false) :
  PS X (.Assign [.Subscript o i pos'] value pos) (D8o td ty tv):=by
 intro pins s σ H D I h;refine wpAny_Assign_Subscript (thn (hv pins s σ H _ I h) λr s1 ⟨v,H1,I1,rv,q1⟩=>thn (ho pins s1 σ H1 _ I1 q1) λu s2 ⟨x,H2,I2,rx,q2⟩=>thn (hi pins s2 σ H2 _ I2 q2) λiv s3 ⟨y,H3,I3,ry,a,H4,ex,g,q3⟩=> ?_) hs;subst ex;obtain rfl:u=Value.ref a:=rx;exact C3x hu I3 g ry rv λs4 I4=>⟨σ,H4,I4,q3⟩
end
theorem C1d {P:Program} {w:World} {H:Hp} (h:Heap) (hb:sysModules<h.objs.size):A1v P w H (h.push { cls:= .type "dict",data:= .dict #[] }) h.objs.size (.dK []) :=
 ⟨Z1e _,Z22.mpr (Ne.symm (Z0h hb)),[],.nil,Heap.DictOf.new h⟩
noncomputable def D6v:TE:=λ_ H Q=>∀p,H p=none->Q (.ref p) (upd H p (.dK []))
section
variable {X:Cx} {pos:Pos}
theorem C1w:PE X (.Dict [] [] pos) D6v:=λpins s σ H Q I h =>
 wpAny_Dict_empty ⟨.ref s.heap.objs.size,_,I.laid (a:=s.heap.objs.size) (o:= .dK []) (t':=s.toks) (λ_ _ q=>Z01 _ q) (Z09 _) (C1d s.heap I.big),rfl,h _ (I.hok.fresh (Z09 _))⟩
end
noncomputable def C4j:List (TE×TE)->St->Hp->(List (V×V)->Hp->Prop)->Prop
 | [],_,H,Q=>Q [] H
 | (tk,tv)::r,σ,H,Q=>tk σ H λx H1=>tv σ H1 λy H2=>C4j r σ H2 λps H3=>Q ((x,y)::ps) H3
abbrev VV:List (V×V)->List (Value×Value)->Prop:=Paired λp q=>A3a p.1 q.1/\A3a p.2 q.2
noncomputable def PPs (X:Cx) (pos:Pos) (keys:List (Option Expr)) (values:List Expr) (trs:List (TE×TE)):Prop :=
 ∀(pins:List (Addr×Obj)) (s:Shared) (σ:St) (H:Hp) (Q:List (V×V)->Hp->Prop),Inv X pins σ H s->C4j trs σ H Q->
  wpAny (model X.prog X.w) X.A (evalPairs (pairTrees keys values X.env pos)) (λvs s'=>∃ps H',Inv X pins σ H' s'/\VV ps vs/\Q ps H') X.xe s
theorem D2q {X:Cx} {pos:Pos}:PPs X pos [] [] []:=λpins s σ H Q I h=>pairTrees_nil_walk ⟨[],H,I,.nil,h⟩
theorem D0o {X:Cx} {pos:Pos} {k v:Expr} {ks:List (Option Expr)} {vs:List Expr} {tk tv:TE} {trs:List (TE×TE)} (hk:PE X k tk) (hv:PE X v tv) (hr:PPs X pos ks vs trs) :
  PPs X pos (some k::ks) (v::vs) ((tk,tv)::trs):=λpins s σ H Q I h =>
 pairTrees_cons_walk (thn (hk pins s σ H _ I h) λu s1 ⟨x,H1,I1,rx,q1⟩=>thn (hv pins s1 σ H1 _ I1 q1) λw2 s2 ⟨y,H2,I2,ry,q2⟩ =>
  thn (hr pins s2 σ H2 _ I2 q2) λws s3 ⟨ps,H3,I3,rel,q3⟩=>⟨(x,y)::ps,H3,I3,.cons ⟨rx,ry⟩ rel,q3⟩)
noncomputable def A9z (kvs more:List (Key×V)):List (Key×V):=more.foldl (λacc kv=>B0b acc kv.1 kv.2) kvs
theorem KV.merge:∀{more:List (Key×V)} {rs:List (Key×Value)} {kvs:List (Key×V)} {vs:List (Key×Value)},KV more rs->KV kvs vs->KV (A9z kvs more) (merged vs rs):=by
 intro more rs kvs vs r;unfold KV at r
 induction r generalizing kvs vs with
 | nil=>intro q;exact q
 | @cons p q ps qs h t ih =>
  intro r0
  have e:KV (B0b kvs p.1 p.2) (stored vs q.1 q.2):=by
   have:=r0.put p.1 h.2;rw [<-h.1];exact this
  exact ih e
theorem A9y:∀(more kvs:List (Key×V)),(A9z kvs more).length<=kvs.length+more.length
 | [],kvs=>by show kvs.length<=kvs.length+0;lia
 | p::r,kvs=>by
  have h1:=A9y r (B0b kvs p.1 p.2);have h2:=A5i kvs p.1 p.2;show (A9z (B0b kvs p.1 p.2) r).length<=_;rw [Z0y];lia
theorem B4o {P:Program} {w:World}:∀{kvs:List (Key×V)} {ws:List (Value×Value)},VV (kvs.map λkv=>(kV kv.1,kv.2)) ws->∃rs,Carries (A2t P w) ws rs/\KV kvs rs
 | [],_,r=>by rw [List.map_nil] at r;cases r;exact ⟨[],True.intro,.nil⟩
 | p::kvs,_,r=>by
  rw [Z0p] at r
  cases r with
  | @cons a b as bs h t =>
   obtain ⟨rs,c,q⟩:=B4o (P:=P) (w:=w) t;obtain ⟨b1,b2⟩:=b;exact ⟨(p.1,b2)::rs,⟨C9w h.1,rfl,c⟩,.cons ⟨rfl,h.2⟩ q⟩
noncomputable def D9c (trs:List (TE×TE)):TE:=λσ H Q=>∀p,H p=none->C4j trs σ (upd H p (.dK [])) λps H2=>H2 p=some (.dK [])/\∃kvs:List (Key×V),ps=kvs.map (λkv=>(kV kv.1,kv.2))/\kvs.length<=15/\Q (.ref p) (upd H2 p (.dK (A9z [] kvs)))
theorem D3n {X:Cx} {pos:Pos} {keys:List (Option Expr)} {values:List Expr} {trs:List (TE×TE)} (h:PPs X pos keys values trs) (hall:keys.all (·.isSome)=true) (hl:keys.length=values.length) (h0:keys≠[])
  (h15:keys.length<=15):PE X (.Dict keys values pos) (D9c trs):=by
 intro pins s σ H Q I q;have hn:=I.hok.fresh (Z09 s.heap.objs.size);have I1:=I.laid (a:=s.heap.objs.size) (o:= .dK []) (h':=s.heap.push { cls:= .type "dict",data:= .dict #[] }) (t':=s.toks) (λ_ _ q=>Z01 _ q) (Z09 _) (C1d s.heap I.big);refine wpAny_Dict_walk (knd:=A2t X.prog X.w) hall hl h0 h15 (thn (h pins _ σ _ _ I1 (q _ hn)) λws s2 ⟨ps,H2,I2,rel,e,kvs,ep,lk,q2⟩=> ?_);subst ep;obtain ⟨rs,c,rk⟩:=B4o (P:=X.prog) (w:=X.w) rel;obtain ⟨z,hd,vs0,r0,dd⟩:=C8t I2.hok e;cases r0;refine ⟨rs,c,dd,λh' dd' hs=>⟨.ref s.heap.objs.size,_,?_,rfl,q2⟩⟩
 have hz:(A9z [] kvs).length<=sizeLine:=by
  have h1:=A9y kvs [];rw [List.length_nil] at h1;rw [sizeLine_eq];lia
 have he:∃q,h'.get? s.heap.objs.size=some q:=let ⟨q,_,_,hq,_⟩:=dd';⟨q,hq⟩;exact B9h I2 (by rw [e];exact True.intro) hs he (D2a hz hd (rk.merge .nil) dd')
section
variable {X:Cx} {pins:List (Addr×Obj)} {σ:St} {H:Hp} {s:Shared} {a:Addr} {y d:V} {u r:Value} {o:Option V} {A:Around} {E:Value->Shared->Prop}
end
section
variable {X:Cx} {o e f:Expr} {apos cpos:Pos} {td ty tx:TE}
end
section
variable {X:Cx} {pins:List (Addr×Obj)} {σ:St} {H:Hp} {s:Shared} {a:Addr} {kvs:List (Key×V)} {A:Around} {E:Value->Shared->Prop}
end
section
variable {X:Cx} {pins:List (Addr×Obj)} {σ:St} {H:Hp} {s:Shared} {a:Addr} {y:V} {u:Value} {A:Around} {E:Value->Shared->Prop}
end
end L2
namespace Att
open PySem PySem.W PySem.Calls PyProof.Rows
theorem B1v {P:Params} {h:Heap}:∀(ns:List Int) (vs:List Value),WellAll P h vs (ns.map WData.int)->IntsAre vs ns:=by
 intro ns
 induction ns with
 | nil =>
  intro vs w;rw [List.map_nil] at w;cases w;exact .nil
 | cons n ns ih =>
  intro vs w;rw [Z0p] at w
  cases w with
  | cons a b =>
   cases a
   exact .cons _ _ (ih _ b)
theorem script_of {l:OpenLaw} {n:Nat} (hn:l.most=some n) {P:Params} {h:Heap} {args:List WData} {vals:List Value}
  (hpre:l.row.toRowW.claim.pre args=true) (hwl:WellAll P h vals args) :
  ∃a vs ns,vals=[Value.ref a]/\args=[WData.list (ns.map WData.int)]/\h.get? a=some { cls:= .type "list",data:= .seq vs.toArray }/\IntsAre vs ns/\ns.length<=n:=by
 have hsh:WShape.hasAll [] args [.list .int]=true:=(pre_splitW hpre).1;have hc:l.pre.holds [] { args:=args }=true:=(pre_splitW hpre).2;obtain ⟨d,r,rfl,h1,h2⟩:=hasAllW_cons hsh;obtain rfl:=hasAllW_nil h2;obtain ⟨xs,rfl,h3⟩:=hasW_list h1;obtain ⟨ns,rfl⟩:=items_int h3
 have hlen:ns.length<=n:=by
  unfold OpenLaw.pre at hc
  have h4:(WTm.not (.lt (.lit (.int (n:Int))) (.len (.arg 0)))).holds [] { args:=[.list (ns.map .int)] }=true:=by
   have h4:=(holds_andW hc).1;rw [hn] at h4;exact h4
  have h5:=condW_of h4 (w_not (w_lt w_lit (w_len_list (w_arg rfl))));rw [Z08] at h5;refine Nat.le_of_not_lt λq=> ?_;have q':(n:Int)<((ns.length:Nat):Int):=by lia
  first
   | (rw [Z20 q'] at h5;exact absurd h5 (by decide))
   | (simp at h5;lia)
 cases hwl with
 | cons w1 w2 =>
  cases w2
  cases w1 with
  | list ho hall=>exact ⟨_,_,ns,rfl,rfl,ho,B1v ns _ hall,hlen⟩
theorem post_true (l:OpenLaw) (args:List WData):l.row.toRowW.claim.post args (.bool true) args=true :=
 postW_of (r:=l.row.toRowW) (X:=(true == true))
  (show WShape.has [] (.bool true) .bool=true by first | rfl | decide | simp [WShape.has,WShape.arms,WShape.armsAll])
  (show (WTm.eq .res (.lit (.bool true))).value [] { args:=args,res:=some (.bool true),after:=args }=some (.bool (true == true)) from w_eq_bool (w_res rfl) w_lit) rfl
section
variable {prog:Program} {w:World} {A:Around} {E:Value->Shared->Prop} {s:Shared} {K:Frag}
end
end Att
namespace L2
open PySem PySem.Spec PyProof.Rows
theorem B8u:∀{vs:List Value} {ns:List Int},IntsAre vs ns->A2v (ns.map V.int) vs
 | _,_,.nil=> .nil
 | _,_,.cons n t h=> .cons ⟨t,rfl⟩ (B8u h)
noncomputable def D9y (H:Hp):Prop:=∀b,H b=none\/∃o xs,H b=some (.frz o (.lst xs))
theorem C9g {P:Program} {w:World} {K:PySem.W.Frag} {mg mb:Str->Option Value} {CX:CXT} {k:Nat} {fa a:Addr} {fd:FuncData} {x:Str} {sp:Sp} {s₁:Shared} {vs:List Value} {ns:List Int}
  (KX:K.In s₁.heap) (hns:s₁.heap.Ns mainGlobals mg) (hb:s₁.heap.Ns builtinsNs mb) (hbb:∀x:Str,x≠"__name__"->mb x=bootBuiltins x) (hlim:s₁.heap.NoLimit) (hg:s₁.gens= #[])
  (ha:s₁.heap.get? a=some { cls:= .type "list",data:= .seq vs.toArray }) (hi:IntsAre vs ns) (hl:ns.length<=sizeLine) (hr:A6p k callerA)
  (F:∀base:Heap,K.In base->base.Ns mainGlobals mg->A1y P w K mg base CX k fa fd [x] sp) (hbind:∀(s:Shared) (u:Value),BindsTo s fd ⟨[u],[]⟩ [(x,u)])
  (hsp:∀H:Hp,D9y H->SqL K H a (ns.map V.int)->sp [.ref a] H (λv _=>v= .bl true) λ_ _ _=>False)
  (hCX:∀H e s',CX [] H s₁ (λ_ _ _=>False) e s'->False) :
  codeAny (model P w) callerA (.call (.ref fa) ⟨[.ref a],[]⟩) (λr s'=>r= .ok (.ret (.bool true))/\OldK s₁.heap s'.heap/\s'.os=s₁.os/\AllBare s'.gens) s₁:=by
 have rv:=B8u hi;have lenV:=hi.length
 have core:∀H:Hp,D9y H->SqL K H a (ns.map V.int)->HOk P w H s₁.heap->(∀b,H b≠none->b=a)->(H a≠none->K.lookup a=none)->
   codeAny (model P w) callerA (.call (.ref fa) ⟨[.ref a],[]⟩) (λr s'=>r= .ok (.ret (.bool true))/\OldK s₁.heap s'.heap/\s'.os=s₁.os/\AllBare s'.gens) s₁:=by
  intro H hO hS hok hA hK;have base_of:∀{b:Addr} {o:Obj},s₁.heap.get? b=some o->H b=none->(C8r s₁.heap H).get? b=some o:=λe n=>C9e e n
  have noA:∀{b:Addr} {o:Obj} {es:Array DictEntry} {ep:Nat},s₁.heap.get? b=some o->o.data= .dict es ep->H b=none:=λ{b o es ep} e d=>by
   cases q:H b with
   | none=>rfl
   | some u =>
    have e':b=a:=hA b (by rw [q];simp);subst e';rw [ha] at e;cases e;have d':Data.seq vs.toArray _=Data.dict es ep:=d;cases d'
  have nsK:∀{b:Addr} {m:Str->Option Value},s₁.heap.Ns b m->(C8r s₁.heap H).Ns b m:=λ{b m} ⟨o,es,ep,e,d,r⟩=>⟨o,es,ep,base_of e (noA e d),d,r⟩
  have hKb:K.In (C8r s₁.heap H):=λb o e=>base_of (KX b o e) (by
   cases q:H b with
   | none=>rfl
   | some u =>
    have e':b=a:=hA b (by rw [q];simp);subst e'
    rw [hK (by rw [q];simp)] at e;cases e)
  have hM:Mod K mg (C8r s₁.heap H):=⟨hKb,nsK hns,⟨mb,nsK hb,hbb⟩,let ⟨mc,h1,h2⟩:=hlim;⟨mc,nsK h1,h2⟩⟩;have e0:C8l P w K mg (C8r s₁.heap H) callerA [] s₁ H:=⟨rfl,hM,λb o e=>D3a e,Nat.le_of_eq (C7q _ _),trivial,λb hb=>absurd (show b∈([]:List Addr) from hb) (by simp),hok,.of_eq hg⟩;refine codeAny_mono ((F _ hKb (nsK hns)).run callerA [] s₁ H ⟨[.ref a],[]⟩ [.ref a] [.ref a] _ _ hr e0 (hbind s₁ (.ref a)) (.cons rfl .nil) (hsp H hO hS)) λr s' h=> ?_
  cases r with
  | error e=>exact (hCX H e s' h).elim
  | ok fl =>
   cases fl with
   | next=>exact False.elim h
   | brk=>exact False.elim h
   | cont=>exact False.elim h
   | ret u =>
    obtain ⟨v,H',os,bare,un,hok',r',q⟩:=h;have q':v= .bl true:=q;subst q';obtain rfl:u=Value.bool true:=r';refine ⟨rfl,OldK.of_keep λb o e=> ?_,os,bare⟩
    cases q:H b with
    | none=>exact un.keep b o e q (by intro z;exact absurd (show b∈([]:List Addr) from z) (by simp)) (by simp)
    | some u =>
     rcases hO b with z | ⟨ob,xs,z⟩
     ·rw [q] at z;cases z
     ·have z2:=un.frzs b ob _ z;obtain ⟨e1,_⟩:=hok b _ z;obtain ⟨e2,_⟩:=hok' b _ z2;rw [e] at e1;cases e1;exact e2
 cases hk:K.lookup a with
 | some o =>
  have e:=KX a o hk;rw [ha] at e;cases e;refine core (λ_=>none) (λ_=> .inl rfl) (.inr ⟨_,vs.toArray,_,hk,rfl,rfl,rfl,by rw [Z0g,lenV];exact hl,by simpa using rv⟩) (λb u z=>by have z':(none:Option HO)=some u:=z;cases z') (λb z=>absurd rfl z) λz=>absurd rfl z
 | none =>
  refine core (λb=>if b=a then some (.frz { cls:= .type "list",data:= .seq vs.toArray } (.lst (ns.map V.int))) else none) (λb=> ?_) (.inl (.inr ⟨{ cls:= .type "list",data:= .seq vs.toArray },Z12 rfl⟩)) (λb u z=> ?_) (λb z=> ?_) λ_=>hk
  ·by_cases hb:b=a
   ·exact .inr ⟨_,_,Z12 hb⟩
   ·exact .inl (Z0t hb)
  ·by_cases hb:b=a
   ·have z':=(Z12 hb).symm.trans z;cases z';subst hb;exact ⟨ha,by rw [Z08];exact hl,vs,_,rv,ha⟩
   ·have z':=(Z0t hb).symm.trans z;cases z'
  ·by_cases hb:b=a
   ·exact hb
   ·exact absurd (Z0t hb) z
noncomputable def B4r (s:Stmt) (j:Nat):Stmt:=match s with
 | .ClassDef _ _ _ body _ _ _ _ _ _ _=>body.getD j (.Pass ⟨0,0,0,0⟩)
 | _=> .Pass ⟨0,0,0,0⟩
noncomputable def A8t (s:Stmt):Arguments:=match s with
 | .FunctionDef _ a _ _ _ _ _ _ _ _=>a
 | _=>{ posonlyargs:=[],args:=[],vararg:=none,kwonlyargs:=[],kw_defaults:=[],kwarg:=none,defaults:=[] }
noncomputable def A5g (s:Stmt):List Stmt:=match s with
 | .FunctionDef _ _ b _ _ _ _ _ _ _=>b
 | _=>[]
noncomputable def A0m (s:Stmt):Scope:=match s with
 | .FunctionDef _ _ _ _ _ _ sc _ _ _=>sc
 | _=>{ kind:= .function,names:=[],isGenerator:=false,isCoroutine:=false }
abbrev CX0:CXT:=λ_ _ _ _ _ _=>False
abbrev E0:XK:=λ_ _ _=>False
theorem A1a {X:Cx}:A5r CX0 X E0:=λ_ _ _ _ _ _ _ h=>h.elim
structure Fun (K:PySem.W.Frag) (x qual:Str) (st:Stmt) (f:Addr) (fd:FuncData):Prop where
 ex:∃(oc:Value) (od:Option Addr) (kV doc pm:Value) (an:Option Addr) (cdv ct:Value) (osl:Array (Option Value)),
  fd=PySem.W.fnOf x qual (A8t st) (A5g st) (A0m st) .none kV doc pm an cdv ct/\K.lookup f=some ⟨oc,od,.func fd,osl⟩/\PySem.W.codeIn K cdv qual=true
 kp:PySem.W.keepIn K (.ref f)=true
section
variable {P:Program} {w:World} {K:PySem.W.Frag} {mg:Str->Option Value} {base:Heap}
theorem Fun.ok {x qual:Str} {st:Stmt} {f:Addr} {fd:FuncData} {N ps:List Str} {k:Nat} {sp:Sp} (F:Fun K x qual st f fd) (S:A0y N ps (A0m st)) (len:∀vs H Q E,sp vs H Q E->vs.length=ps.length)
  (hbody:∀(cdv:Value) (A:Around) (outer:List Env) (s:Shared) (H:Hp) (vs:List V) (Q:VK) (E:XK),A6p k (A.deeper (envOfC qual (A0m st) s.heap.objs.size f cdv))->sp vs H Q E->
   ∃t,PSs (A6t CX0 P w K mg base N qual (A0m st) f cdv A outer s H E).nox (A5g st) t/\t { nx:=λ_ H'=>Q .non H',rt:=Q } (B0i N vs) H):A1y P w K mg base CX0 (k+1) f fd ps sp:=by
 obtain ⟨oc,od,kV,doc,pm,an,cdv,ct,osl,rfl,lk,hcd⟩:=F.ex;refine D3c lk hcd S len λA outer s H vs Q E hr hsp=> ?_;obtain ⟨t,h,q⟩:=hbody cdv A outer s H vs Q E hr hsp;exact ⟨t,h.nox,q⟩
theorem Fun.binds {x qual:Str} {st:Stmt} {f:Addr} {fd:FuncData} {ps:List Str} (F:Fun K x qual st f fd)
  (h:∀(kV doc pm:Value) (an:Option Addr) (cdv ct:Value) (us:List Value),us.length=ps.length->bindArgs (PySem.W.fnOf x qual (A8t st) (A5g st) (A0m st) .none kV doc pm an cdv ct) ⟨us,[]⟩=pure (ps.zip us)):A1p K fd ps []:=by
 obtain ⟨oc,od,kV,doc,pm,an,cdv,ct,osl,rfl,lk,hcd⟩:=F.ex;exact .all (h kV doc pm an cdv ct)
theorem D1r {x qual:Str} {st:Stmt} {f:Addr} {oc:Value} {od an:Option Addr} {osl:Array (Option Value)} {kV doc pm cdv ct:Value} (l:K.lookup f=some ⟨oc,od,.func (PySem.W.fnOf x qual (A8t st) (A5g st) (A0m st) .none kV doc pm an cdv ct),osl⟩)
  (c:PySem.W.codeIn K cdv qual=true) (k:PySem.W.keepIn K (.ref f)=true):Fun K x qual st f (PySem.W.fnOf x qual (A8t st) (A5g st) (A0m st) .none kV doc pm an cdv ct):=⟨⟨oc,od,kV,doc,pm,an,cdv,ct,osl,rfl,l,c⟩,k⟩
end
theorem C6u {A:Around} {k:Nat} (hr:A6p k A):A.units+1<cLine:=Nat.lt_of_le_of_lt (Nat.add_le_add_left (by decide:1<=64) _) hr.units
section
variable {X:Cx}
theorem pv (i:Nat) {x:Str} {pos:Pos} (hN:X.N[i]? =some x:=by rfl) (hv:Vis X.env.scope x:=by first | exact Or.inl rfl | exact Or.inr (Or.inl rfl) | exact Or.inr (Or.inr rfl)) (hd:(x == ("__debug__":Str))=false:=by decide)
  (hcd:(x == ("__classdict__":Str))=false:=by decide):PE X (.Name x pos) (D8m i):=D6p hN hv hd hcd
end
theorem A6q {A B:Prop} (h:B):if false=true then A else B:=by
 rw [Z0t Z0v];exact h
theorem C7b {A B:Prop} (h:A):if true=true then A else B:=by
 rw [Z12 rfl];exact h
theorem D7z {c A B:Prop} [Decidable c] (h1:c->A) (h2:¬c->B):if c then A else B:=by
 by_cases h:c
 ·rw [Z12 h];exact h1 h
 ·rw [Z0t h];exact h2 h
theorem C5w {c A B:Prop} [Decidable c] (hc:c) (h:B):if (!decide c)=true then A else B:=by
 rw [Z20 hc];exact A6q h
noncomputable def A0o (H H':Hp):Prop:=∀b o,H b=some o->H' b=some o
theorem A0o.refl (H:Hp):A0o H H:=λ_ _ h=>h
theorem A0o.trans {H H1 H2:Hp} (a:A0o H H1) (b:A0o H1 H2):A0o H H2:=λc o h=>b c o (a c o h)
theorem A0o.free {H H':Hp} (e:A0o H H') {l:Addr} (h:H' l=Option.none):H l=Option.none:=by
 cases q:H l with
 | none=>rfl
 | some o =>
  rw [e l o q] at h;cases h
theorem A0o.seq {K:PySem.W.Frag} {H H':Hp} {a:Addr} {xs:List V} (e:A0o H H') (h:SqL K H a xs):SqL K H' a xs:=by
 rcases h with (h | ⟨o,h⟩) | h
 ·exact .inl (.inl (e _ _ h))
 ·exact .inl (.inr ⟨o,e _ _ h⟩)
 ·exact .inr h
section
variable {κ:Type} [DecidableEq κ]
end
section
variable {X:Cx}
noncomputable def tCut (t u:TS):TS:=λD σ H=>∃M:St->Hp->Prop,t { D with nx:=M } σ H/\∀σ' H',M σ' H'->u D σ' H'
theorem A6j {st:Stmt} {rest:List Stmt} {t u:TS} (h1:PS X st t) (h2:PSs X rest u):PSs X (st::rest) (tCut t u):=by
 intro pins s σ H D I h;obtain ⟨M,h,hm⟩:=h;refine wpAny_execs_cons (thn (h1 pins s σ H { D with nx:=M } I h) λf s1 q=> ?_)
 cases f with
 | next =>
  obtain ⟨σ',H',I',q⟩:=q;exact h2 pins s1 σ' H' D I' (hm _ _ q)
 | ret v=>exact q
 | brk=>exact q
 | cont=>exact q
noncomputable def rIsi (K:PySem.W.Frag):List V->Hp->VK->Prop:=λxs H Q=>∃x c t b,xs=[x,c]/\B8z K H x t/\(∀u,A3a c u->PySem.W.kitOne K t u=some b)/\Q (.bl b) H
theorem A1d:B3q X (.builtin "isinstance") (rIsi X.K):=by
 intro pins s σ H xs us Q I r h;obtain ⟨x,c,t,b,rfl,ty,e,q⟩:=h;obtain ⟨u,w',rfl,ru,rw'⟩:=D0w r;exact C7m I ru ty (e w' rw') λtk=>⟨.bl b,H,I.tok tk,rfl,q⟩
theorem A2w {K:PySem.W.Frag} (T:String):∀u,A3a (.ty T) u->PySem.W.kitOne K (.type T) u=some true:=by
 intro u h;cases (show u=Value.type T from h);unfold PySem.W.kitOne;rw [Z12 (beq_self_eq_true _)]
theorem B4c {K:PySem.W.Frag} {T U:String} {b:Bool} (h:(Value.type T == Value.type U)=false) (hm:PySem.W.kitMeta U=true) (hs:(PySem.fastBuiltinMro T).map (·.contains (Value.type U))=some b) :
  ∀u,A3a (.ty U) u->PySem.W.kitOne K (.type T) u=some b:=by
 intro u z;cases (show u=Value.type U from z);unfold PySem.W.kitOne;rw [Z0t (by rw [h];exact Z0v)];show (if PySem.W.kitMeta U=true then PySem.W.subIn K (.type T) (.type U) else none)=some b;rw [Z12 hm];exact hs
noncomputable def D7g (K:PySem.W.Frag):R2:=λx y H Q=>∃a b xs ys,x= .ref a/\y= .ref b/\SqT K H a xs/\SqT K H b ys/\ys≠[]/\xs.length+ys.length<=sizeLine/\
 (xs=[]->Q (.ref b) H)/\(xs≠[]->∀p,H p=none->Q (.ref p) (upd H p (.tup (xs++ys))))
theorem B6g:OpR X (binaryOp .Add) (D7g X.K):=by
 intro pins s σ H x y v u Q I rx ry h;obtain ⟨a,b,xs,ys,rfl,rfl,ha,hb,hy,hz,q1,q2⟩:=h;by_cases hx:xs=[]
 ·subst hx;cases rx;cases ry;obtain ⟨its,r1,p1,_⟩:=I.tuple ha;obtain ⟨its2,r2,p2,_⟩:=I.tuple hb;have e1:its=[]:=r1.nil_iff.mpr rfl;obtain ⟨⟨cls,dd,data,sl⟩,ho,hc,n,hd⟩:=id p1;obtain ⟨⟨cls2,dd2,data2,sl2⟩,ho2,hc2,n2,hd2⟩:=id p2;simp only at hc hd hc2 hd2;subst hc hd hc2 hd2
  exact concat_meets ⟨_,ho,rfl⟩ ⟨_,ho2,rfl⟩ noFill_tuple_add seq_tuple_add PySem.F.slot_tuple_add PySem.F.entry_tuple_add (PySem.F.args_tuple_add_2 _ _)
   (tuple_addW0 a b its.toArray its2.toArray n n2 dd dd2 sl sl2 (by simp [e1])) ⟨ho,ho2,⟨.ref b,H,I,rfl,q1 rfl⟩⟩
 ·exact C4d pins s σ H _ _ v u Q I rx ry ⟨a,b,xs,ys,rfl,rfl,ha,hb,hx,hz,λz=>absurd z hy,λ_=>q2 hx⟩
noncomputable def D7v (_ j:Int):Prop:=0<j/\j.natAbs<2^4000
theorem C1l:OpR X (binaryOp .FloorDiv) (rI D7v λi j=> .int (i/j)):=opI λi j _ _ _ _ _ hc q=>by
 have h1:(0:Int)<j:=hc.1;have h2:j.natAbs.log2<9000:=Nat.lt_trans ((Nat.log2_lt (by lia)).mpr hc.2) (by decide);exact floordiv_int (by lia) (by rw [Int.fdiv_eq_ediv_of_nonneg i (by lia)];exact q) (.inl (PyProof.noPylong_of_log2 h2))
end
structure Nx (it l:Addr) (st:Nat->Heap->Prop) (src:Array Value->Heap->Prop):Prop where
 item:∀{prog:Program} {w:World} {A:Around} {E:Value->Shared->Prop} {s:Shared} {k:Nat} {xs:Array Value} {x:Value} {Q:Value->Shared->Prop},st k s.heap->src xs s.heap->xs[k]? =some x->
  (∀h',st (k+1) h'->Heap.SameBut it s.heap h'->Q x { s with heap:=h' })->wpAny (model prog w) A (Builtin.SmallTypes.nextOf (.ref it)) Q E s
 fin:∀{prog:Program} {w:World} {A:Around} {E:Value->Shared->Prop} {s:Shared} {k:Nat} {xs:Array Value} {Q:Value->Shared->Prop},A.handled=none->st k s.heap->src xs s.heap->xs[k]? =none->
  (∀h' e,Heap.ExtBut it s.heap h'->(∃o,h'.get? e=some o/\o.cls= .type "StopIteration")->E (.ref e) { s with heap:=h' })->wpAny (model prog w) A (Builtin.SmallTypes.nextOf (.ref it)) Q E s
 mv:∀{k:Nat} {h h':Heap},st k h->(∀o,h.get? it=some o->h'.get? it=some o)->st k h'
 mvS:∀{xs:Array Value} {h h':Heap},src xs h->(∀o,h.get? l=some o->h'.get? l=some o)->src xs h'
 ob:∀{k:Nat} {h:Heap},st k h->∃o,h.get? it=some o/\∀v,o.data≠.cell v
theorem B0f (it l:Addr):Nx it l (λk h=>h.IsListIter it l k) (λxs h=>h.IsList l xs) where
 item:=wpAny_nextOf_list_item
 fin:=wpAny_nextOf_list_end
 mv:=λx e=>x.at e
 mvS:=λx e=>x.at e
 ob:=λ⟨o,e,_,d⟩=>⟨o,e,λv z=>by rw [d] at z;cases z⟩
section
variable {prog:Program} {w:World} {A:Around} {E:Value->Shared->Prop} {s:Shared}
theorem A5w {it l:Addr} {k:Nat} {xs:Array Value} {x:Value} {Q:Value->Shared->Prop} (hi:s.heap.IsTupleIter it l k) (hl:s.heap.IsTuple l xs) (hx:xs[k]? =some x)
  (hQ:∀h',h'.IsTupleIter it l (k+1)->Heap.SameBut it s.heap h'->Q x { s with heap:=h' }):wpAny (model prog w) A (Builtin.SmallTypes.nextOf (.ref it)) Q E s:=by
 obtain ⟨o,ho,hc,hd⟩:=id hi;obtain ⟨ol,hol,_,nl,hdl⟩:=hl;unfold Builtin.SmallTypes.nextOf;refine Z00 (Z1b (name:=Str.ofString "__next__") hi.typeIs F.slot_tuple_iterator_next (Z1g F.slot_tuple_iterator_next hi.typeIs F.entry_tuple_iterator_next ?_ (F.args_tuple_iterator_next_1 _)));show wpAny _ _ (field (.ref it) 0 >>= _) _ _ s;refine Z00 (Z11 ho hd (x:= .ref l) rfl ?_);show wpAny _ _ (if (Value.ref l == Value.none)=true then _ else _) _ _ s;rw [Z0t (show¬((Value.ref l == Value.none)=true) from Z0v)];show wpAny _ _ (field (.ref it) 1 >>= _) _ _ s;refine Z00 (Z11 ho hd (x:= .int k 0) rfl ?_);show wpAny _ _ (seqItems? (.ref l) >>= _) _ _ s;refine Z00 (Z21 hol hdl ?_);simp only [Int.toNat_natCast,hx];refine Z00 (Z1t ho hd (by simp) (Z04 ⟨x,rfl,Z04 (hQ _ ?_ (Heap.SameBut.update ..))⟩));exact ⟨_,Z1r _ ho (Obj.isFreed_of_fields (Obj.data_mapFields hd _)),(Obj.cls_mapFields ..).trans hc,by rw [Obj.data_mapFields hd];simp [rawInt]⟩
theorem A6o {it l:Addr} {k:Nat} {xs:Array Value} {Q:Value->Shared->Prop} (hh:A.handled=none) (hi:s.heap.IsTupleIter it l k) (hl:s.heap.IsTuple l xs) (hx:xs[k]? =none)
  (hE:∀h' e,Heap.ExtBut it s.heap h'->(∃o,h'.get? e=some o/\o.cls= .type "StopIteration")->E (.ref e) { s with heap:=h' }):wpAny (model prog w) A (Builtin.SmallTypes.nextOf (.ref it)) Q E s:=by
 obtain ⟨o,ho,hc,hd⟩:=id hi;obtain ⟨ol,hol,_,nl,hdl⟩:=hl;unfold Builtin.SmallTypes.nextOf;refine Z00 (Z1b (name:=Str.ofString "__next__") hi.typeIs F.slot_tuple_iterator_next (Z1g F.slot_tuple_iterator_next hi.typeIs F.entry_tuple_iterator_next ?_ (F.args_tuple_iterator_next_1 _)));show wpAny _ _ (field (.ref it) 0 >>= _) _ _ s;refine Z00 (Z11 ho hd (x:= .ref l) rfl ?_);show wpAny _ _ (if (Value.ref l == Value.none)=true then _ else _) _ _ s;rw [Z0t (show¬((Value.ref l == Value.none)=true) from Z0v)];show wpAny _ _ (field (.ref it) 1 >>= _) _ _ s;refine Z00 (Z11 ho hd (x:= .int k 0) rfl ?_);show wpAny _ _ (seqItems? (.ref l) >>= _) _ _ s;refine Z00 (Z21 hol hdl ?_);simp only [Int.toNat_natCast,hx];refine Z00 (wpAny_rule (Z00 (Z1t ho hd (by simp) ?_)));show wpAny _ _ (newExc (.type "StopIteration") [] >>= _) _ _ _;refine Z00 ?_;simp only [newExc,newTuple];refine Z00 (Z16 ?_ (by size_fits));refine Z00 (m:=firstArgMember _ _) (wpAny_of_eq (a:=Value.none) (by first | rfl | (simp only [firstArgMember];rfl)) ?_);refine Z16 ?_ (by size_fits);simp only [raiseNew];refine Z00 (wpAny_handled ?_)
 first | rw [show A.in1.handled=none from hh] | rw [hh]
 refine Z00 (Z04 (wpAny_throw ?_));exact hE _ _ (((Heap.SameBut.update ..).extBut.push _).push _) ⟨_,Z0c _ rfl,rfl⟩
end
theorem A7v (it l:Addr):Nx it l (λk h=>h.IsTupleIter it l k) (λxs h=>h.IsTuple l xs) where
 item:=A5w
 fin:=A6o
 mv:=λ⟨o,e,r⟩ f=>⟨o,f _ e,r⟩
 mvS:=λ⟨o,e,r⟩ f=>⟨o,f _ e,r⟩
 ob:=λ⟨o,e,_,d⟩=>⟨o,e,λv z=>by rw [d] at z;cases z⟩
section
variable {z TI TO i1 i2 l1 l2:Addr} {st1 st2:Nat->Heap->Prop} {src1 src2:Array Value->Heap->Prop} {prog:Program} {w:World} {A:Around} {E:Value->Shared->Prop} {s:Shared}
theorem C8z (N1:Nx i1 l1 st1 src1) (N2:Nx i2 l2 st2 src2) {k1 k2:Nat} {xs ys:Array Value} {x y a b:Value} {Q:Option Value->Shared->Prop} (D:ZipApart z TI TO i1 i2 l1 l2)
  (hz:IsZip s.heap z TI TO .none) (hTI:IsPair s.heap TI (.ref i1) (.ref i2)) (hTO:IsPair s.heap TO a b) (h1:st1 k1 s.heap) (h2:st2 k2 s.heap) (hl1:src1 xs s.heap) (hl2:src2 ys s.heap) (hx:xs[k1]? =some x) (hy:ys[k2]? =some y)
  (hQ:∀h',IsZip h' z TI TO (rawInt s.heap.objs.size)->IsPair h' TO x y->st1 (k1+1) h'->st2 (k2+1) h'->IsPair h' s.heap.objs.size x y->
   (∀c o,c≠z->c≠TO->c≠i1->c≠i2->s.heap.get? c=some o->h'.get? c=some o)->Q (some (.ref s.heap.objs.size)) { s with heap:=h' }):wpAny (model prog w) A (pyNext (.ref z)) Q E s:=by
 have hT:s.TypeIs (.ref z) "zip":=⟨_,hz,rfl⟩;unfold pyNext;refine Z00 (wpAny_attempt (Z1b (name:=Str.ofString "__next__") hT F.slot_zip_next (Z1g F.slot_zip_next hT F.entry_zip_next ?_ (F.args_zip_next_1 _))));show wpAny _ _ (field (.ref z) 2 >>= _) _ _ _;refine Z00 (Z11 hz rfl (x:= .bool false) rfl ?_);show wpAny _ _ (field (.ref z) 3 >>= _) _ _ _;refine Z00 (Z11 hz rfl (x:= .ref TI) rfl ?_);refine Z00 (Z21 hTI rfl ?_);show wpAny _ _ (Builtin.SmallTypes.ownedTupleIsFree (.ref z) >>= _) _ _ _;refine Z00 ?_;unfold Builtin.SmallTypes.ownedTupleIsFree;refine Z00 (Z11 hz rfl (x:= .none) rfl (Z04 ?_));simp only [if_true];refine Z00 (wpAny_rule ?_);refine Z00 (Z11 hz rfl (x:= .ref TO) rfl ?_);refine Z00 (Z1h hz (by simp) λg1 z1 b1=> ?_)
 replace z1:IsZip g1 z TI TO .ellipsis:=z1
 refine Z00 ?_;simp only [List.zipIdx_cons,List.zipIdx_nil,List.forIn_cons,List.forIn_nil];refine Z00 (Z00 (wpAny_onRaise ?_));show wpAny _ _ (Builtin.SmallTypes.nextOf (.ref i1) >>= _) _ _ _;refine Z00 (N1.item (N1.mv h1 λo e=>b1.extBut _ _ D.i1z e) (N1.mvS hl1 λo e=>b1.extBut _ _ D.l1z e) hx λg2 t2 b2=>Z04 ?_);have p2:IsPair g2 TO a b:=b2.extBut _ _ D.TOi1 (b1.extBut _ _ D.TOz hTO);refine Z00 (Z21 p2 rfl ?_);refine Z00 (wpAny_updateSeq_pair p2 λg3 p3 b3=> ?_)
 replace p3:IsPair g3 TO x b:=p3
 refine Z00 (wpAny_letGo (Z04 ?_));refine Z00 (Z00 (wpAny_onRaise ?_));show wpAny _ _ (Builtin.SmallTypes.nextOf (.ref i2) >>= _) _ _ _;refine Z00 (N2.item (N2.mv h2 λo e=>b3.extBut _ _ D.TOi2.symm (b2.extBut _ _ D.i12.symm (b1.extBut _ _ D.i2z e))) (N2.mvS hl2 λo e=>b3.extBut _ _ D.l2TO (b2.extBut _ _ D.l2i1 (b1.extBut _ _ D.l2z e))) hy λg4 t4 b4=>Z04 ?_);have p4:IsPair g4 TO x b:=b4.extBut _ _ D.TOi2 p3;refine Z00 (Z21 p4 rfl ?_);refine Z00 (wpAny_updateSeq_pair p4 λg5 p5 b5=> ?_)
 replace p5:IsPair g5 TO x y:=p5
 refine Z00 (wpAny_letGo (Z04 (Z04 ?_)));refine Z00 (Z21 p5 rfl ?_);refine Z00 (wpAny_newTuple ?_);have hsz:g5.objs.size=s.heap.objs.size:=by rw [b5.1,b4.1,b3.1,b2.1,b1.1]
 have z5:IsZip g5 z TI TO .ellipsis:=b5.extBut _ _ D.TOz.symm (b4.extBut _ _ D.i2z.symm (b3.extBut _ _ D.TOz.symm (b2.extBut _ _ D.i1z.symm z1)));have k5:∀c o,c≠z->c≠TO->c≠i1->c≠i2->s.heap.get? c=some o->g5.get? c=some o:=λc o c1 c2 c3 c4 e=>b5.extBut _ _ c2 (b4.extBut _ _ c4 (b3.extBut _ _ c2 (b2.extBut _ _ c3 (b1.extBut _ _ c1 e))));have s1:st1 (k1+1) g5:=N1.mv t2 λo e=>b5.extBut _ _ D.TOi1.symm (b4.extBut _ _ D.i12 (b3.extBut _ _ D.TOi1.symm e));have s2:st2 (k2+1) g5:=N2.mv t4 λo e=>b5.extBut _ _ D.TOi2.symm e;have zlt:z<g5.objs.size:=Z0a z5;show wpAny _ _ (Builtin.SmallTypes.ownedTupleHandOut (.ref z) (.ref g5.objs.size) >>= _) _ _ _;refine Z00 ?_;unfold Builtin.SmallTypes.ownedTupleHandOut;have z6:IsZip (g5.push { cls:= .type "tuple",data:= .seq #[x,y] }) z TI TO .ellipsis:=Z01 _ z5;refine Z00 (Z1h z6 (by simp) λg7 z7 b7=> ?_)
 replace z7:IsZip g7 z TI TO (rawInt g5.objs.size):=z7
 refine Z1h z7 (by simp) λg8 z8 b8=> ?_
 replace z8:IsZip g8 z TI TO (rawInt g5.objs.size):=z8
 have up:∀c o,c≠z->g5.get? c=some o->g8.get? c=some o:=λc o c1 e=>b8.extBut _ _ c1 (b7.extBut _ _ c1 (Z01 _ e));have p8:IsPair g8 g5.objs.size x y:=b8.extBut _ _ (Z1q zlt) (b7.extBut _ _ (Z1q zlt) (Z0c _ rfl));rw [hsz] at z8 p8;refine Z04 ⟨_,rfl,Z04 ?_⟩;show Q (some (.ref g5.objs.size)) _;rw [hsz];exact hQ g8 z8 (up _ _ D.TOz p5) (N1.mv s1 λo e=>up _ o D.i1z e) (N2.mv s2 λo e=>up _ o D.i2z e) p8 λc o c1 c2 c3 c4 e=>up c o c1 (k5 c o c1 c2 c3 c4 e)
theorem D4s (N1:Nx i1 l1 st1 src1) (N2:Nx i2 l2 st2 src2) {k1 k2:Nat} {xs ys:Array Value} {a b:Value} {Q:Option Value->Shared->Prop} (hh:A.handled=none) (D:ZipApart z TI TO i1 i2 l1 l2)
  (hz:IsZip s.heap z TI TO .none) (hTI:IsPair s.heap TI (.ref i1) (.ref i2)) (hTO:IsPair s.heap TO a b) (h1:st1 k1 s.heap) (h2:st2 k2 s.heap) (hl1:src1 xs s.heap) (hl2:src2 ys s.heap) (hend:xs[k1]? =none\/ys[k2]? =none)
  (hQ:∀h',(∀c o,c≠z->c≠TO->c≠i1->c≠i2->s.heap.get? c=some o->h'.get? c=some o)->Q none { s with heap:=h' }):wpAny (model prog w) A (pyNext (.ref z)) Q E s:=by
 have hT:s.TypeIs (.ref z) "zip":=⟨_,hz,rfl⟩;unfold pyNext
 have fin:∀(h':Heap) (e:Addr),(∀c o,c≠z->c≠TO->c≠i1->c≠i2->s.heap.get? c=some o->h'.get? c=some o)->(∃o,h'.get? e=some o/\o.cls= .type "StopIteration")->
   wpAny (model prog w) A (isInstance (.ref e) (.type "StopIteration") >>= λb=>if b=true then pure none else throw (.ref e)) Q E { s with heap:=h' }:=λh' e hk ⟨o,ho,hc⟩ =>
  Z00 (wpAny_isInstance (T:="StopIteration") (b:=true) ⟨o,ho,hc⟩ isSubtype_stop (Z04 (hQ _ hk)))
 refine Z00 (wpAny_attempt (Z1b (name:=Str.ofString "__next__") hT F.slot_zip_next (Z1g F.slot_zip_next hT F.entry_zip_next ?_ (F.args_zip_next_1 _))));show wpAny _ _ (field (.ref z) 2 >>= _) _ _ _;refine Z00 (Z11 hz rfl (x:= .bool false) rfl ?_);show wpAny _ _ (field (.ref z) 3 >>= _) _ _ _;refine Z00 (Z11 hz rfl (x:= .ref TI) rfl ?_);refine Z00 (Z21 hTI rfl ?_);show wpAny _ _ (Builtin.SmallTypes.ownedTupleIsFree (.ref z) >>= _) _ _ _;refine Z00 ?_;unfold Builtin.SmallTypes.ownedTupleIsFree;refine Z00 (Z11 hz rfl (x:= .none) rfl (Z04 ?_));simp only [if_true];refine Z00 (wpAny_rule ?_);refine Z00 (Z11 hz rfl (x:= .ref TO) rfl ?_);refine Z00 (Z1h hz (by simp) λg1 z1 b1=> ?_)
 replace z1:IsZip g1 z TI TO .ellipsis:=z1
 refine Z00 ?_;simp only [List.zipIdx_cons,List.zipIdx_nil,List.forIn_cons,List.forIn_nil];refine Z00 (Z00 (wpAny_onRaise ?_));show wpAny _ _ (Builtin.SmallTypes.nextOf (.ref i1) >>= _) _ _ _;have u1:=N1.mv h1 λo e=>b1.extBut _ _ D.i1z e;have v1:=N1.mvS hl1 λo e=>b1.extBut _ _ D.l1z e
 cases hx:xs[k1]? with
 | none =>
  refine Z00 (N1.fin hh u1 v1 hx λg2 e b2 he=> ?_);obtain ⟨oe,hoe,hce⟩:=he;have z2:IsZip g2 z TI TO .ellipsis:=b2 _ _ D.i1z.symm z1;have ez:e≠z:=λx=>by subst x;rw [z2] at hoe;cases hoe;simp at hce
  exact Z1h z2 (by simp) λg3 _ b3=>fin g3 e (λc o c1 _ c3 _ x=>b3.extBut _ _ c1 (b2 _ _ c3 (b1.extBut _ _ c1 x))) ⟨oe,b3.extBut _ _ ez hoe,hce⟩
 | some x =>
  have hy:ys[k2]? =none:=by
   rcases hend with h | h
   ·rw [hx] at h;cases h
   ·exact h
  refine Z00 (N1.item u1 v1 hx λg2 t2 b2=>Z04 ?_);have p2:IsPair g2 TO a b:=b2.extBut _ _ D.TOi1 (b1.extBut _ _ D.TOz hTO);refine Z00 (Z21 p2 rfl ?_);refine Z00 (wpAny_updateSeq_pair p2 λg3 p3 b3=> ?_);refine Z00 (wpAny_letGo (Z04 ?_));refine Z00 (Z00 (wpAny_onRaise ?_));show wpAny _ _ (Builtin.SmallTypes.nextOf (.ref i2) >>= _) _ _ _;refine Z00 (N2.fin hh (N2.mv h2 λo e=>b3.extBut _ _ D.TOi2.symm (b2.extBut _ _ D.i12.symm (b1.extBut _ _ D.i2z e))) (N2.mvS hl2 λo e=>b3.extBut _ _ D.l2TO (b2.extBut _ _ D.l2i1 (b1.extBut _ _ D.l2z e))) hy λg4 e b4 he=> ?_);obtain ⟨oe,hoe,hce⟩:=he;have z4:IsZip g4 z TI TO .ellipsis:=b4 _ _ D.i2z.symm (b3.extBut _ _ D.TOz.symm (b2.extBut _ _ D.i1z.symm z1));have ez:e≠z:=λx=>by subst x;rw [z4] at hoe;cases hoe;simp at hce
  exact Z1h z4 (by simp) λg5 _ b5=>fin g5 e (λc o c1 c2 c3 c4 x=>b5.extBut _ _ c1 (b4 _ _ c4 (b3.extBut _ _ c2 (b2.extBut _ _ c3 (b1.extBut _ _ c1 x))))) ⟨oe,b5.extBut _ _ ez hoe,hce⟩
end
section
variable {X:Cx} {pins:List (Addr×Obj)} {σ:St} {H:Hp} {s:Shared} {h':Heap}
theorem Inv.turnedNew {t':Nat} {ts:List Addr} {a:Addr} {o:HO} (I:Inv X pins σ H s) (k:∀b u,b∉ts->s.heap.get? b=some u->h'.get? b=some u) (f:∀b∈ts,B7h X pins H b) (hp:s.heap.objs.size<=a)
  (new:A1v X.prog X.w (upd H a o) h' a o):Inv X pins σ (upd H a o) { s with heap:=h',toks:=t' }:=by
 have nt:∀b u,H b=some u->b∉ts:=λb u e z=>by have:=(f b z).1;rw [e] at this;cases this
 have na:∀b u,s.heap.get? b=some u->b≠a:=λb u e=>Z0h (Z0q (Z0a e) hp);have ha:H a=none:=I.hok.fresh hp
 refine I.step (g':=s.gens) (d':=s.drawn) (ch:=ts) (λb hb=>⟨(f b hb).2.2.2.1,(f b hb).2.1,(f b hb).2.2.2.2.1,(f b hb).2.2.2.2.2⟩) (λb u _ _ hc e _=>k b u hc e) (λb u _ _ hc e _=>⟨u.slots,k b u hc e⟩)
  (λb u _ e n=>by rw [A0l (na b u e)];exact n) (λb u hc e=>⟨u,k b u hc e⟩) (λb xs e=>by rw [A0l (A0t e ha)];exact e) (λb u xs e=>by rw [A0l (A0t e ha)];exact e)
  (λb ps e=>⟨#[],by rw [A0l (A0t e ha),e];simp⟩) (λm hm=> ?_) (λb u e=> ?_) I.bare
 ·obtain ⟨ob,es,ep,ho,r⟩:=hm;exact ⟨ob,es,ep,k _ ob (λz=>(f _ z).2.1 rfl) ho,r⟩
 ·by_cases hb:b=a
  ·subst hb;rw [A0b] at e;cases e;exact new
  ·rw [A0l hb] at e;refine (I.hok b u e).stay (λc v hc q=>k c v ?_ q) (λc q=>by rw [A0l (A0t q ha)];exact q) λc xs q=>by rw [A0l (A0t q ha)];exact q
   rcases hc with rfl | hc
   ·exact nt _ _ e
   ·exact nt _ _ hc
theorem Inv.turnedL {t':Nat} {ts:List Addr} (I:Inv X pins σ H s) (k:∀b u,b∉ts->s.heap.get? b=some u->h'.get? b=some u) (f:∀b∈ts,B7h X pins H b):Inv X pins σ H { s with heap:=h',toks:=t' }:=by
 have nt:∀b u,H b=some u->b∉ts:=λb u e z=>by have:=(f b z).1;rw [e] at this;cases this
 refine I.step (g':=s.gens) (d':=s.drawn) (ch:=ts) (λb hb=>⟨(f b hb).2.2.2.1,(f b hb).2.1,(f b hb).2.2.2.2.1,(f b hb).2.2.2.2.2⟩) (λb u _ _ hc e _=>k b u hc e) (λb u _ _ hc e _=>⟨u.slots,k b u hc e⟩)
  (λb u _ e n=>n) (λb u hc e=>⟨u,k b u hc e⟩) (λb xs e=>e) (λb u xs e=>e) (λb ps e=>⟨#[],by rw [e];simp⟩) (λm hm=> ?_) (λb u e=> ?_) I.bare
 ·obtain ⟨ob,es,ep,ho,r⟩:=hm;exact ⟨ob,es,ep,k _ ob (λz=>(f _ z).2.1 rfl) ho,r⟩
 ·refine (I.hok b u e).stay (λc v hc q=>k c v ?_ q) (λc q=>q) λc xs q=>q;rcases hc with rfl | hc
  ·exact nt _ _ e
  ·exact nt _ _ hc
end
noncomputable def Itv (K:PySem.W.Frag) (a:Addr) (n:Nat):It :=
 ⟨λi H=>∃xs x,SqL K H a xs/\xs.length=n/\i<n/\xs[n-1-i]? =some x,λi H x H'=>H'=H/\∀xs,SqL K H a xs->xs[n-1-i]? =some x,λi _=>i=n⟩
theorem D0v {P:Program} {w:World} {K:PySem.W.Frag} {tg:Expr} (a it:Addr) (n:Nat):D0k P w K tg (Itv K a n) [it] it (λi h=>h.IsRevIter it a ((n:Int)-1-(i:Int))) where
 mem:=by simp
 obj:=λi h st b hb=>by
  have e:b=it:=by simpa using hb
  subst e;obtain ⟨o,e,c,d⟩:=st;exact ⟨o,e,λv z=>by rw [d] at z;cases z⟩
 keep:=λi h h' st k=>st.at λo e=>k it (by simp) o e
 item:=by
  intro X hP hw hK hc i pins s σ H E I hf st hg;subst hP hw hK;obtain ⟨xs,x,hq,hn,hi,hx⟩:=hg;obtain ⟨its,rv,p,hz⟩:=I.list hq;obtain ⟨u,hu,ru⟩:=rv.get hx;obtain ⟨f0,f1,f2,f3,f4,f5⟩:=hf it (by simp);have e1:(n:Int)-1-(i:Int)=((n-1-i:Nat):Int):=by lia
  rw [e1] at st;refine wpAny_pyNext_rev_item st p.isList (x:=u) (by simpa using hu) λh' st' sb=> ?_;have I1:Inv X pins σ H { s with heap:=h' }:=I.turned (t':=s.toks) (λb o hb e=>(sb.2 b hb).trans e) f0 f1 f3 f4 f5
  have e2:((n-1-i:Nat):Int)-1=(n:Int)-1-((i+1:Nat):Int):=by lia
  rw [e2] at st';obtain ⟨o,e,c,d⟩:=id st';exact ⟨u,rfl,C5m (s:={ s with heap:=h' }) e c d (by decide) ⟨x,H,I1,ru,⟨rfl,λys hy=>by rw [I.list_inj hy hq];exact hx⟩,st',λb hb=>(hf b hb).1⟩⟩
 done:=by
  intro X hP hw hK hc i pins s σ H E I hf st hg;subst hP hw hK;have hi:i=n:=hg;subst hi;obtain ⟨f0,f1,f2,f3,f4,f5⟩:=hf it (by simp);have e1:(i:Int)-1-(i:Int)= -1:=by lia
  rw [e1] at st;exact wpAny_pyNext_rev_end (I.ok.hd hc) st λh' eb=>⟨rfl,I.turned (t':=s.toks) (λb o hb e=>eb b o hb e) f0 f1 f3 f4 f5⟩
 self:=λ_ _ _ _ _ st h=>wpAny_pyIter_revIter st h
noncomputable def iRev (K:PySem.W.Frag) (ta:TA):TI:=λσ H R=>ta σ H λvs H1=>∃a xs,vs=[.ref a]/\SqL K H1 a xs/\R (Itv K a xs.length) H1
theorem D7f {X:Cx} {tg:Expr} {a:Expr} {ta:TA} {p pos:Pos} (hg:Gl X "reversed") (hm:X.mg "reversed"=none) (ha:PA X [a] ta) (hs:starEach [a] X.env=[(false,eval a X.env)]:=by rfl) :
  PI X tg (.Call (.Name "reversed" p) [a] [] pos) (iRev X.K ta):=by
 intro pins s σ H R I h;refine Call_ (A5v I hg hm boot_reversed (PyProof.Rows.callWith_type1 (thn (ha pos pins s σ H _ I h) λus s1 ⟨vs,H1,I1,r1,q1⟩=> ?_) hs rfl));obtain ⟨l,xs,e,hq,q⟩:=q1;subst e;obtain ⟨u,rfl,ru⟩:=B5q r1;cases ru;obtain ⟨its,rv,p1,_⟩:=I1.list hq;have en:(its.toArray.size:Int)-1=(xs.length:Int)-1-((0:Nat):Int):=by rw [Z0g,<-rv.length];lia
 refine call_reversed_list p1.isList ?_;rw [en];have st:(s1.heap.push (revObj l ((xs.length:Int)-1-((0:Nat):Int)))).IsRevIter s1.heap.objs.size l ((xs.length:Int)-1-((0:Nat):Int)):=⟨_,Z0c _ rfl,rfl,rfl⟩;refine wpAny_pyIter_revIter (s:={ s1 with heap:=s1.heap.push (revObj l ((xs.length:Int)-1-((0:Nat):Int))) }) st ?_;refine ⟨_,[s1.heap.objs.size],_,_,H1,rfl,I1.kept (t':=s1.toks) λb o e=>Z01 _ e,D0v l _ xs.length,st,λb hb=> ?_,q⟩
 have e:b=s1.heap.objs.size:=by simpa using hb
 subst e;exact I1.fpOk (Z09 _) (I1.hok.fresh (Z09 _))
theorem D3j {K:PySem.W.Frag} {a:Addr} {xs:List V} {g:TG} {tb:TS} {D:B4d} {σ:St} {H:Hp} (Pv:Nat->St->Hp->Prop) (h0:Pv 0 σ H) (hl:∀i σ H,Pv i σ H->SqL K H a xs)
  (hs:∀i x σ H,i<xs.length->xs[xs.length-1-i]? =some x->Pv i σ H->g x σ H λσ2 H2=>tb { D with nx:=Pv (i+1),ct:=Pv (i+1),bk:=D.nx } σ2 H2) (hd:∀σ H,Pv xs.length σ H->D.nx σ H) :
  ∃W:Nat->Nat->St->Hp->Prop,(∃m,W 0 m σ H)/\∀i m σ H,W i m σ H->
   ((Itv K a xs.length).stop i H/\D.nx σ H)\/((Itv K a xs.length).go i H/\∃N:St->Hp->Prop,(∀σ' H',N σ' H'->∃m',m'<m/\W (i+1) m' σ' H')/\∀x H',(Itv K a xs.length).yld i H x H'->g x σ H' λσ2 H2=>tb { D with nx:=N,ct:=N,bk:=D.nx } σ2 H2):=by
 refine ⟨λi m σ H=>m=xs.length-i/\i<=xs.length/\Pv i σ H,⟨xs.length,by simp,Z1e _,h0⟩,?_⟩;rintro i m σ H ⟨rfl,hi,p⟩;have q:=hl i σ H p;by_cases hlt:i<xs.length
 ·refine .inr ⟨⟨xs,xs[xs.length-1-i],q,rfl,hlt,Z0b _⟩,Pv (i+1),λσ' H' p'=>⟨xs.length-(i+1),by lia,rfl,hlt,p'⟩,λx H' y=> ?_⟩;obtain ⟨e,y⟩:=y;subst e;exact hs i x σ _ hlt (y xs q) p
 ·have e:i=xs.length:=by lia
  subst e;exact .inl ⟨rfl,hd σ H p⟩
structure D0q (X:Cx) (scope:Scope) (cl:List (Str×Addr)):Prop where
 eq:closureFor scope X.env=pure cl
 sub:∀x c,cl.lookup x=some c->X.env.cells.lookup x=some c
 has:∀x,((relabel scope X.env).names.lookup x=some .cell\/(relabel scope X.env).names.lookup x=some .free)->∃c,cl.lookup x=some c
 kind:scope.kind= .function
 ncell:∀y∈scope.names,y.2≠.cell
 names:∀y∈scope.names,y.2= .local->scope.names.lookup y.1=some .local
noncomputable def blk (X:Cx) (N':List Str) (scope:Scope) (cl:List (Str×Addr)) (C:Addr) (s₀:Shared) (H₀:Hp) (fp:List Addr):Cx :=
 { X with N:=N',s₀:=s₀,H₀:=H₀,env:=compEnvC scope cl C X.env,outer:=X.stack,ex:=fp,fn:=λ_=>false,pn:=[],xe:=λ_ _=>False }
noncomputable def A7g (ix:List (Option Nat)) (σ:St):St:=ix.map λo=>o.bind λj=>(σ[j]?).bind id
section
variable {X:Cx} {pins:List (Addr×Obj)} {σ:St} {H:Hp} {s:Shared} {N':List Str} {scope:Scope} {cl:List (Str×Addr)} {fp:List Addr} {ix:List (Option Nat)}
noncomputable def D1s (X:Cx) (N':List Str) (scope:Scope) (ix:List (Option Nat)):Prop :=
 ix.length=N'.length/\∀i j:Nat,ix[i]? =some (some j)->∃x,N'[i]? =some x/\X.N[j]? =some x/\(X.env.scope.names.lookup x=some .cell\/X.env.scope.names.lookup x=some .free)/\
  ((relabel scope X.env).names.lookup x=some .cell\/(relabel scope X.env).names.lookup x=some .free)
theorem D5x (I:Inv X pins σ H s) (ck:D0q X scope cl) (f:∀b∈fp,B7h X pins H b) (hlt:∀b∈fp,b<s.heap.objs.size):(blk X N' scope cl s.heap.objs.size s H fp).Ok where
 mod:=I.ok.mod
 kind:=ck.kind
 glob:=I.ok.glob
 blt:=I.ok.blt
 above:=Z09 _
 inj:=λx y c h1 h2=>I.ok.inj x y c (ck.sub x c h1) (ck.sub y c h2)
 has:=λx h=>ck.has x h
 cab:=λx c h=>by cases h
 hd:=I.ok.hd
 frames:=I.ok.frames
 stk:= .inl rfl
 exf:=λb hb=>⟨Z0h (hlt b hb),λx c h=>(f b hb).2.2.2.2.1 x c (ck.sub x c h)⟩
 bs:=I.bs
 bsz:=Z1n I.ok.bsz I.sz
 noex:=λb o e hb=>by
  rcases (f b hb).2.2.2.1 with z | z
  ·exact I.ok.noex b o e z
  ·exact absurd (Z0q (Z0a (I.ok.bs b o e).1) z) (Nat.lt_irrefl _)
 exfs:=λb hb hs=>by
  rcases Z0e.mp (I.stkSub b hs) with z | z
  ·exact (f b hb).2.1 z
  ·exact (f b hb).2.2.1 z
 funs:=I.stack
 frf:=I.stkFree
theorem B7a (I:Inv X pins σ H s) (ck:D0q X scope cl) (io:D1s X N' scope ix) (f:∀b∈fp,B7h X pins H b) (hlt:∀b∈fp,b<s.heap.objs.size) {h':Heap} {m:Str->Option Value} {t':Nat}
  (hn:h'.Ns s.heap.objs.size m) (k:∀b o,s.heap.get? b=some o->h'.get? b=some o):Inv (blk X N' scope cl s.heap.objs.size s H fp) [] (A7g ix σ) H { s with heap:=h',toks:=t' }:=by
 have cl':∀x c,cl.lookup x=some c->∃v,s.heap.IsCell c v:=λx c h=>I.cell x c (ck.sub x c h);refine ⟨D5x I ck f hlt,rfl,I.bare,Un.kept k,⟨m,hn,λi x v e1 e2 e3=> ?_⟩,λx c e=> ?_,I.hok.fresh (Z09 _),λx c e=>I.freeC x c (ck.sub x c e),(λp hp=>by cases hp),I.hok.kept k,?_⟩
 ·unfold A7g at e2;rw [Z1z] at e2
  cases hi:ix[i]? with
  | none=>rw [hi] at e2;cases e2
  | some o =>
   rw [hi] at e2
   cases o with
   | none=>cases Z1a e2
   | some j =>
    have e2':(σ[j]?).bind id=some v:=Z1a e2;obtain ⟨x',n1,n2,k1,k2⟩:=io.2 i j hi;have ex:x'=x:=Z1a (n1.symm.trans e1);subst ex
    have es:σ[j]? =some (some v):=by
     cases q:σ[j]? with
     | none=>rw [q] at e2';cases e2'
     | some w =>
      rw [q] at e2';exact congrArg some e2'
    obtain ⟨m0,_,hl⟩:=I.loc;obtain ⟨u,ru,lo⟩:=hl j x' v n2 es (k1.elim (λz=> .inr (.inl z)) λz=> .inr (.inr z));refine ⟨u,ru,.inr ⟨k2,?_⟩⟩;obtain ⟨c,hc⟩:=ck.has x' k2;refine ⟨c,hc,?_⟩;rcases lo with ⟨z,_⟩ | ⟨_,c',hc',ic⟩
    ·exfalso;have z':X.env.scope.names.lookup x'=some .local:=z;rcases k1 with k1 | k1 <;> (rw [z'] at k1;cases k1)
    ·have ec:c'=c:=Z1a (hc'.symm.trans (ck.sub x' c hc));subst ec;obtain ⟨o,ho,hd⟩:=ic;exact ⟨o,k _ _ ho,hd⟩
 ·obtain ⟨v,o,ho,hd⟩:=cl' x c e;exact ⟨v,o,k _ _ ho,hd⟩
 ·unfold A7g;rw [Z08];exact io.1
theorem C4s (I:Inv X pins σ H s) (f:∀b∈fp,B7h X pins H b) {σ':St} {H':Hp} {s':Shared} {pl:List (Addr×Obj)} (J:Inv (blk X N' scope cl s.heap.objs.size s H fp) pl σ' H' s') {h':Heap} (sb:Heap.SameBut s.heap.objs.size s'.heap h') :
  Inv X pins σ H' { s' with heap:=h' }:=by
 have nC:∀b o,s.heap.get? b=some o->b≠s.heap.objs.size:=λb o e=>Z0h (Z0a e);have hC:H' s.heap.objs.size=none:=J.free;have u:Un (frs X.stack) fp H H' s.heap s'.heap:=J.base
 refine I.call' (ch:=fp) (s':={ s' with heap:=h' }) J.os ⟨λb o e n hb hx=>(sb.2 b (nC b o e)).trans (u.keep b o e n hb hx),λb o e n hb hx=> ?_,u.free,λb o e hx=> ?_,u.tups,u.frzs,u.tbls⟩ (λb o e=> ?_) J.bare
  (λb hb=>⟨(f b hb).2.2.2.1,(f b hb).2.1,(f b hb).2.2.2.2.1,(f b hb).2.2.2.2.2⟩)
 ·obtain ⟨sl,q⟩:=u.slot b o e n hb hx;exact ⟨sl,(sb.2 b (nC b o e)).trans q⟩
 ·obtain ⟨o',q⟩:=u.there b o e hx;exact ⟨o',(sb.2 b (nC b o e)).trans q⟩
 ·refine (J.hok b o e).stay (λc v hc q=>(sb.2 c ?_).trans q) (λc q=>q) λc xs q=>q;rcases hc with rfl | hc
  ·exact A0t e hC
  ·exact A0t hc hC
end
noncomputable def A2z:St->St->Prop
 | [],_=>True
 | none::r,_::r'=>A2z r r'
 | none::r,[]=>A2z r []
 | some v::r,w::r'=>w=some v/\A2z r r'
 | some _::_,[]=>False
theorem A2z.get:∀{a b:St},A2z a b->∀(j:Nat) v,a[j]? =some (some v)->b[j]? =some (some v)
 | [],_,_,_,_,e=>by simp at e
 | none::r,_::r',h,0,v,e=>by simp at e
 | none::r,_::r',h,j+1,v,e=>by simpa using A2z.get (a:=r) (b:=r') h j v (by simpa using e)
 | none::r,[],h,0,v,e=>by simp at e
 | none::r,[],h,j+1,v,e=>by have:=A2z.get (a:=r) (b:=[]) h j v (by simpa using e);simp at this
 | some w::r,_::r',h,0,v,e=>by
  have e':w=v:=by simpa using e
  subst e'
  simpa using h.1
 | some _::r,_::r',h,j+1,v,e=>by simpa using A2z.get (a:=r) (b:=r') h.2 j v (by simpa using e)
section
variable {X:Cx}
noncomputable def D6h (ix:List (Option Nat)) (wi:TI) (g:TG) (te:TE):TE:=λσ H Q=>wi σ H λJ H1=>∀D,H1 D=none->∃W:Nat->Nat->Hp->Prop,(∃m,W 0 m (upd H1 D (.lst [])))/\∀i m H2,W i m H2->
 (J.stop i H2/\Q (.ref D) H2)\/(J.go i H2/\∃N:VK,(∀y H5,N y H5->∃xs,H5 D=some (.lst xs)/\xs.length<sizeLine/\∃m',m'<m/\W (i+1) m' (upd H5 D (.lst (xs++[y]))))/\∀x H3,J.yld i H2 x H3->g x (A7g ix σ) H3 λσ4 H4=>A2z (A7g ix σ) σ4/\te σ4 H4 N)
theorem A5b {elt iter tg:Expr} {scope:Scope} {pos:Pos} {N':List Str} {ix:List (Option Nat)} {cl:List (Str×Addr)} {wi:TI} {g:TG} {te:TE} (hc:X.calm=true) (ck:D0q X scope cl) (io:D1s X N' scope ix) (hi:PI X tg iter wi)
  (hg:∀C s₀ H₀ fp,PG (blk X N' scope cl C s₀ H₀ fp) tg g) (he:∀C s₀ H₀ fp,PE (blk X N' scope cl C s₀ H₀ fp) elt te) (hs:∀x,foldedSetIterable iter X.env x=pure x:=by intro _;rfl) :
  PE X (.ListComp elt [⟨tg,iter,[],0⟩] scope pos) (D6h ix wi g te):=by
 intro pins s σ H Q I h;rw [eval_ListComp];refine wpAny_comprehension_free (use:=none) rfl hs ck.eq ck.kind ck.names (thn (hi pins s σ H _ I h) λxv s1 h1=>thn h1 λitv s2 h2=> ?_);obtain ⟨it,fp,tn,J,H1,rfl,I1,T,st1,f1,R⟩:=h2;refine Z16 ?_;have hD:H1 s2.heap.objs.size=none:=I1.hok.fresh (Z09 _);obtain ⟨W,⟨m0,w0⟩,turn⟩:=R _ hD;have hfD:∀b∈fp,b<s2.heap.objs.size:=λb hb=>let ⟨o,e,_⟩:=T.obj _ _ st1 b hb;Z0a e;have I2:Inv X pins σ (upd H1 s2.heap.objs.size (.lst [])) { s2 with heap:=s2.heap.push { cls:= .type "list",data:= .seq ([]:List Value).toArray },toks:=s2.toks }:=I1.lnew (its:=[]) .nil (Z1e _);have f2:∀b∈fp,B7h X pins (upd H1 s2.heap.objs.size (.lst [])) b:=λb hb=>⟨by rw [A0l (Z0h (hfD b hb))];exact (f1 b hb).1,(f1 b hb).2⟩
 have lt2:∀b∈fp,b<(s2.heap.push { cls:= .type "list",data:= .seq ([]:List Value).toArray }).objs.size:=λb hb=>by rw [Z1s];exact Nat.lt_succ_of_lt (hfD b hb)
 refine wpAny_newFunctionEnv ck.ncell (by intro y hy;simp at hy) (λh3 hns sb3=> ?_) ck.kind;dsimp only at hns sb3⊢;have k3:∀b o,(s2.heap.push { cls:= .type "list",data:= .seq ([]:List Value).toArray }).get? b=some o->h3.get? b=some o:=λb o e=>(sb3.2 b (Z0h (Z0a e))).trans (Z01 _ e);generalize hs2:({ s2 with heap:=s2.heap.push { cls:= .type "list",data:= .seq ([]:List Value).toArray },toks:=s2.toks }:Shared)=s3 at I2;have e3:s2.heap.push { cls:= .type "list",data:= .seq ([]:List Value).toArray }=s3.heap:=by rw [<-hs2]
 rw [e3] at hns k3 lt2;have I3:=B7a (N':=N') (ix:=ix) I2 ck io f2 lt2 (h':=h3) (t':=s2.toks+([]:List (Str×Value)).length) hns k3;have e4:({ s3 with heap:=h3,toks:=s2.toks+([]:List (Str×Value)).length }:Shared)={ s2 with heap:=h3,toks:=s2.toks+([]:List (Str×Value)).length }:=by rw [<-hs2]
 rw [e4] at I3;have st3:tn 0 h3:=T.keep _ _ _ st1 λb hb o e=>k3 b o (by rw [<-e3];exact Z01 _ e)
 have loop:∀s4:Shared,s4={ s2 with heap:=h3,toks:=s2.toks+([]:List (Str×Value)).length }->
   codeAny (model X.prog X.w) X.A (.compLoop (.ListComp elt [⟨tg,iter,[],0⟩] scope pos) 0 (.ref it) (.ref s2.heap.objs.size) (compEnvC scope cl s3.heap.objs.size X.env))
    (compPost (model X.prog X.w) X.A X.xe none (EP X pins σ Q) (.ref s2.heap.objs.size) s3.heap.objs.size) s4:=by
  rintro s4 rfl
  have stat:∀{H':Hp},(∀b∈fp,H' b=none)->∀b∈fp,B7h (blk X N' scope cl s3.heap.objs.size s3 (upd H1 s2.heap.objs.size (.lst [])) fp) [] H' b:=λhn b hb =>
   ⟨hn b hb,Z0h (lt2 b hb),λhs=>I3.ok.exfs b hb hs,.inl hb,λx c e=>(f2 b hb).2.2.2.2.1 x c (ck.sub x c e),(λp hp=>by cases hp)⟩
  refine codeAny_loop rfl (λn s'=>∃i σ' H',Inv (blk X N' scope cl s3.heap.objs.size s3 (upd H1 s2.heap.objs.size (.lst [])) fp) [] σ' H' s'/\(∀(j:Nat) v,(A7g ix σ)[j]? =some (some v)->σ'[j]? =some (some v))/\tn i s'.heap/\(∀b∈fp,H' b=none)/\W i n H')
   (λn s' hI=> ?_) m0 ⟨0,_,_,I3,λ_ _ z=>z,st3,λb hb=>(f2 b hb).1,w0⟩
  obtain ⟨i,σ5,H5,I5,wk,st5,fr5,w5⟩:=hI;show wpAny _ _ ((compTurn (.ListComp elt [⟨tg,iter,[],0⟩] scope pos) 0 (.ref it) (.ref s2.heap.objs.size) (compEnvC scope cl s3.heap.objs.size X.env)).onRaise (λx=>do noteFrame x (compEnvC scope cl s3.heap.objs.size X.env);theTreesLotGoes x)) _ _ s';refine wpAny_noted ?_;rw [compTurn_list1];refine Z00 (Z1y ?_);rcases turn i n H5 w5 with ⟨stop,qn⟩ | ⟨go,NN,hNN,step⟩
  ·refine Z00 (Z10 (T.done (blk X N' scope cl s3.heap.objs.size s3 (upd H1 s2.heap.objs.size (.lst [])) fp) rfl rfl rfl hc i [] s' σ5 H5 (λ_ _=>False) I5 (stat fr5) st5 stop) (λr s6 h6=> ?_) λ_ _ z=>z.elim);obtain ⟨rfl,I6⟩:=h6;refine Z04 ?_;obtain ⟨mm,hm,_⟩:=id I6.loc;exact ⟨mm,hm,λh' sb=>⟨.ref s2.heap.objs.size,H5,C4s I2 f2 I6 sb,rfl,qn⟩⟩
  ·refine Z00 (Z10 (T.item (blk X N' scope cl s3.heap.objs.size s3 (upd H1 s2.heap.objs.size (.lst [])) fp) rfl rfl rfl hc i [] s' σ5 H5 (λ_ _=>False) I5 (stat fr5) st5 go) (λr s6 h6=> ?_) λ_ _ z=>z.elim);obtain ⟨u,rfl,h6⟩:=h6;refine Z00 (Z10 h6 (λ_ s7 h7=> ?_) λ_ _ z=>z.elim);obtain ⟨x,H7,I7,r7,y7,st7,fr7⟩:=h7;have I7w:Inv (blk X N' scope cl s3.heap.objs.size s3 (upd H1 s2.heap.objs.size (.lst [])) fp) [] (A7g ix σ) H7 s7:=I7.weak (by rw [I7.len];unfold A7g;rw [Z08];exact io.1) wk;have I7p:=I7w.pinned (stat fr7) (T.obj _ _ st7);refine Z00 (Z10 (hg _ _ _ _ _ s7 _ H7 x u _ I7p r7 (step x H7 y7)) (λ_ s8 h8=> ?_) λ_ _ z=>z.elim);obtain ⟨σ8,H8,I8,kp8,q8⟩:=h8;refine Z00 (Z00 (Z10 (he _ _ _ _ _ s8 σ8 H8 _ I8 q8) (λyv s9 h9=> ?_) λ_ _ z=>z.elim));obtain ⟨y,H9,I9,r9,n9⟩:=h9;obtain ⟨xs,hx9,hz9,m',hm',w9⟩:=hNN _ _ n9;refine Z00 (Z10 (A1n (X:=blk X N' scope cl s3.heap.objs.size s3 (upd H1 s2.heap.objs.size (.lst [])) fp) _ s9 σ8 H9 (.ref s2.heap.objs.size) [y] (.ref s2.heap.objs.size) [yv] (λ_ H'=>W (i+1) m' H') I9 rfl (.cons r9 .nil) ⟨_,xs,y,rfl,rfl,hx9,hz9,w9⟩) (λ_ s10 h10=> ?_) λ_ _ z=>z.elim);obtain ⟨_,H10,I10,_,w10⟩:=h10;refine Z04 (Z04 ⟨rfl,m',hm',i+1,σ8,H10,I10.unpinned,?_,T.keep _ _ _ st7 λb hb o e=>(I10.pin (b,o) (Z02 _ (Z02 _ (A4v hb e)))).1,λb hb=> ?_,w10⟩)
   ·exact kp8.get
   ·obtain ⟨o,e,d⟩:=T.obj _ _ st7 b hb;exact (I10.pin (b,o) (Z02 _ (Z02 _ (A4v hb e)))).2.1
 have e5:s3.heap.objs.size=(s2.heap.push { cls:= .type "list",data:= .seq ([]:List Value).toArray }).objs.size:=by rw [e3]
 rw [e5] at loop;exact codeAny_compStart_list (loop _ rfl) (T.self X.A 0 _ _ _ st3 (loop _ rfl))
end
section
variable {X:Cx} {m:Str} {pos apos:Pos} {e o:Expr} {es:List Expr} {ta:TE} {t:TA}
end
mutual
inductive Rep (H:Hp):V->PyData->Prop
 | non:Rep H .non .none
 | bl (b:Bool):Rep H (.bl b) (.bool b)
 | int (i:Int):Rep H (.int i) (.int i)
 | str (x:Str):Rep H (.str x) (.str x)
 | lst {p:Addr} {xs:List V} {ds:List PyData}:H p=some (.lst xs)->A3u H xs ds->Rep H (.ref p) (.list ds)
 | tup {p:Addr} {xs:List V} {ds:List PyData}:H p=some (.tup xs)->A3u H xs ds->Rep H (.ref p) (.tuple ds)
inductive A3u (H:Hp):List V->List PyData->Prop
 | nil:A3u H [] []
 | cons {v:V} {vs:List V} {d:PyData} {ds:List PyData}:Rep H v d->A3u H vs ds->A3u H (v::vs) (d::ds)
end
mutual
theorem Rep.imp {H H':Hp} (f:∀p o,H p=some o->H' p=some o):∀{v:V} {d:PyData},Rep H v d->Rep H' v d
 | _,_,.non=> .non
 | _,_,.bl b=> .bl b
 | _,_,.int i=> .int i
 | _,_,.str x=> .str x
 | _,_,.lst e r=> .lst (f _ _ e) (A3u.imp f r)
 | _,_,.tup e r=> .tup (f _ _ e) (A3u.imp f r)
theorem A3u.imp {H H':Hp} (f:∀p o,H p=some o->H' p=some o):∀{vs:List V} {ds:List PyData},A3u H vs ds->A3u H' vs ds
 | _,_,.nil=> .nil
 | _,_,.cons a r=> .cons (Rep.imp f a) (A3u.imp f r)
end
theorem Rep.same {H H':Hp} {v:V} {d:PyData} (h:Rep H v d) (s:A0o H H'):Rep H' v d:=h.imp s
theorem A3u.same {H H':Hp} {v:List V} {d:List PyData} (h:A3u H v d) (s:A0o H H'):A3u H' v d:=h.imp s
theorem A3u.len {H:Hp}:∀{vs:List V} {ds:List PyData},A3u H vs ds->vs.length=ds.length
 | _,_,.nil=>rfl
 | _,_,.cons _ r=>by rw [Z0y,Z0y,A3u.len r]
theorem A3u.snoc {H:Hp} {v:V} {d:PyData} (a:Rep H v d):∀{vs:List V} {ds:List PyData},A3u H vs ds->A3u H (vs++[v]) (ds++[d])
 | _,_,.nil=> .cons a .nil
 | _,_,.cons b r=> .cons b (A3u.snoc a r)
theorem A3u.strs {H:Hp}:∀xs:List Str,A3u H (xs.map V.str) (xs.map PyData.str)
 | []=> .nil
 | x::r=> .cons (.str x) (A3u.strs r)
section
variable {X:Cx} {pins:List (Addr×Obj)} {σ:St} {H:Hp} {s:Shared}
mutual
theorem A6z (I:Inv X pins σ H s):∀{v:V} {d:PyData} {u:Value},Rep H v d->A3a v u->∃as,Reads s.heap u d as
 | _,_,u,.non,r=>by cases (show u=Value.none from r);exact ⟨_,.none⟩
 | _,_,u,.bl b,r=>by cases (show u=Value.bool b from r);exact ⟨_,.bool b⟩
 | _,_,u,.int i,r=>by obtain ⟨t,q⟩:=(show∃t,u=Value.int i t from r);cases q;exact ⟨_,.int i t⟩
 | _,_,u,.str x,r=>by obtain ⟨t,q⟩:=(show∃t,u=Value.str x t from r);cases q;exact ⟨_,.str x t⟩
 | _,_,u,@Rep.lst _ p xs ds e q,r=>by
  cases (show u=Value.ref p from r)
  obtain ⟨_,its,n,rv,ho⟩:=(show A1v X.prog X.w H s.heap p (.lst xs) from I.hok p _ e);obtain ⟨as,z⟩:=B0l I q rv;exact ⟨_,Reads.list ho rfl rfl (by simpa using z)⟩
 | _,_,u,@Rep.tup _ p xs ds e q,r=>by
  cases (show u=Value.ref p from r)
  obtain ⟨_,its,rv,o,ho,hc,n,hd⟩:=(show A1v X.prog X.w H s.heap p (.tup xs) from I.hok p _ e);obtain ⟨as,z⟩:=B0l I q rv;exact ⟨_,Reads.tuple ho hc hd (by simpa using z)⟩
theorem B0l (I:Inv X pins σ H s):∀{vs:List V} {ds:List PyData} {us:List Value},A3u H vs ds->A2v vs us->∃as,ReadsAll s.heap us ds as
 | _,_,_,.nil,.nil=>⟨_,.nil⟩
 | _,_,_,.cons a r,.cons q rv=>by
  obtain ⟨as,z⟩:=A6z I a q;obtain ⟨bs,y⟩:=B0l I r rv;exact ⟨_,.cons z y⟩
end
end
noncomputable def D9s (neg:Bool):R2:=λx y H Q=>∃d e,Rep H x d/\Rep H y e/\SeqAt.shaped d=true/\SeqAt.shaped e=true/\Q (.bl (if neg then !PyData.eqv d e else PyData.eqv d e)) H
section
variable {X:Cx}
theorem C0y (hu:X.A.units+64<cLine):OpR X (compareOp .Eq) (D9s false):=by
 intro pins s σ H x y v u Q I rx ry h;obtain ⟨d,e,h1,h2,s1,s2,q⟩:=h;obtain ⟨as,r1⟩:=A6z I h1 rx;obtain ⟨bs,r2⟩:=A6z I h2 ry;exact eq_dataH r1 r2 s1 s2 hu ⟨.bl (PyData.eqv d e),H,I,rfl,q⟩
theorem A9x (hu:X.A.units+64<cLine):OpR X (compareOp .NotEq) (D9s true):=by
 intro pins s σ H x y v u Q I rx ry h;obtain ⟨d,e,h1,h2,s1,s2,q⟩:=h;obtain ⟨as,r1⟩:=A6z I h1 rx;obtain ⟨bs,r2⟩:=A6z I h2 ry;exact ne_dataH r1 r2 s1 s2 hu ⟨.bl (!PyData.eqv d e),H,I,rfl,q⟩
end
theorem A4a {X:Cx} {scope:Scope} (hk:scope.kind= .function) (hn:∀y∈scope.names,y.2≠.free/\y.2≠.cell) (hl:∀y∈scope.names,y.2= .local->scope.names.lookup y.1=some .local):D0q X scope [] where
 eq:=closureFor_none λy hy=>(hn y hy).1
 sub:=λx c h=>by cases h
 has:=λx h=>by
  exfalso
  have e:(relabel scope X.env).names=scope.names:=map_eq_self λy hy=>by
   obtain ⟨n,k⟩:=y;have z:=(hn _ hy).1;have z':(k == NameKind.free)=false:=by simpa using z
   simp [z']
  rw [e] at h
  have mem:∀{k:NameKind},scope.names.lookup x=some k->(x,k)∈scope.names:=λ{k} q=>by
   generalize scope.names=l at q
   induction l with
   | nil=>cases q
   | cons a r ih =>
    obtain ⟨n,k'⟩:=a;rw [Z28] at q;split at q
    ·rename_i hb;have hb':x=n:=by simpa using hb
     cases q
     subst hb';exact .head _
    ·exact .tail _ (ih q)
  rcases h with h | h
  ·exact (hn _ (mem h)).2 rfl
  ·exact (hn _ (mem h)).1 rfl
 kind:=hk
 ncell:=λy hy=>(hn y hy).2
 names:=hl
theorem A3x {X:Cx} {N':List Str} {scope:Scope} {n:Nat} (h:n=N'.length):D1s X N' scope (List.replicate n none):=⟨by rw [List.length_replicate];exact h,λi j e=>by
 rw [List.getElem?_replicate] at e
 split at e <;> cases e⟩
section
variable {K:PySem.W.Frag} {a D:Addr} {xs:List V} {g:TG} {te:TE} {Q:VK} {σ₀:St} {H:Hp}
theorem C7p (Pv:Nat->List V->Hp->Prop) (h0:Pv 0 [] (upd H D (.lst []))) (hl:∀i ys H,Pv i ys H->SqL K H a xs)
  (hs:∀i x ys H,xs[i]? =some x->Pv i ys H->g x σ₀ H λσ4 H4=>A2z σ₀ σ4/\te σ4 H4 λy H5=>H5 D=some (.lst ys)/\ys.length<sizeLine/\Pv (i+1) (ys++[y]) (upd H5 D (.lst (ys++[y])))) (hd:∀ys H,Pv xs.length ys H->Q (.ref D) H) :
  ∃W:Nat->Nat->Hp->Prop,(∃m,W 0 m (upd H D (.lst [])))/\∀i m H2,W i m H2->
   ((Itl K a).stop i H2/\Q (.ref D) H2)\/((Itl K a).go i H2/\∃N:VK,(∀y H5,N y H5->∃xs,H5 D=some (.lst xs)/\xs.length<sizeLine/\∃m',m'<m/\W (i+1) m' (upd H5 D (.lst (xs++[y]))))/\
    ∀x H3,(Itl K a).yld i H2 x H3->g x σ₀ H3 λσ4 H4=>A2z σ₀ σ4/\te σ4 H4 N):=by
 refine ⟨λi m H=>m=xs.length-i/\i<=xs.length/\∃ys,Pv i ys H,⟨xs.length,by simp,Z1e _,[],h0⟩,?_⟩;rintro i m H2 ⟨rfl,hi,ys,p⟩;have q:=hl i ys H2 p;by_cases hlt:i<xs.length
 ·refine .inr ⟨⟨xs,xs[i],q,by simp [hlt]⟩,λy H5=>H5 D=some (.lst ys)/\ys.length<sizeLine/\Pv (i+1) (ys++[y]) (upd H5 D (.lst (ys++[y]))),λy H5 n=>⟨ys,n.1,n.2.1,xs.length-(i+1),by lia,rfl,hlt,_,n.2.2⟩,λx H3 z=> ?_⟩;obtain ⟨e,z⟩:=z;subst e;exact hs i x ys _ (z xs q) p
 ·have e:i=xs.length:=by lia
  subst e;exact .inl ⟨⟨xs,q,Z09 _⟩,hd ys H2 p⟩
theorem C9i (Pv:Nat->List V->Hp->Prop) (h0:Pv 0 [] (upd H D (.lst []))) (hl:∀i ys H,Pv i ys H->SqT K H a xs)
  (hs:∀i x ys H,xs[i]? =some x->Pv i ys H->g x σ₀ H λσ4 H4=>A2z σ₀ σ4/\te σ4 H4 λy H5=>H5 D=some (.lst ys)/\ys.length<sizeLine/\Pv (i+1) (ys++[y]) (upd H5 D (.lst (ys++[y])))) (hd:∀ys H,Pv xs.length ys H->Q (.ref D) H) :
  ∃W:Nat->Nat->Hp->Prop,(∃m,W 0 m (upd H D (.lst [])))/\∀i m H2,W i m H2->
   ((Itt K a).stop i H2/\Q (.ref D) H2)\/((Itt K a).go i H2/\∃N:VK,(∀y H5,N y H5->∃xs,H5 D=some (.lst xs)/\xs.length<sizeLine/\∃m',m'<m/\W (i+1) m' (upd H5 D (.lst (xs++[y]))))/\
    ∀x H3,(Itt K a).yld i H2 x H3->g x σ₀ H3 λσ4 H4=>A2z σ₀ σ4/\te σ4 H4 N):=by
 refine ⟨λi m H=>m=xs.length-i/\i<=xs.length/\∃ys,Pv i ys H,⟨xs.length,by simp,Z1e _,[],h0⟩,?_⟩;rintro i m H2 ⟨rfl,hi,ys,p⟩;have q:=hl i ys H2 p;by_cases hlt:i<xs.length
 ·refine .inr ⟨⟨xs,xs[i],q,by simp [hlt]⟩,λy H5=>H5 D=some (.lst ys)/\ys.length<sizeLine/\Pv (i+1) (ys++[y]) (upd H5 D (.lst (ys++[y]))),λy H5 n=>⟨ys,n.1,n.2.1,xs.length-(i+1),by lia,rfl,hlt,_,n.2.2⟩,λx H3 z=> ?_⟩;obtain ⟨e,z⟩:=z;subst e;exact hs i x ys _ (z xs q) p
 ·have e:i=xs.length:=by lia
  subst e;exact .inl ⟨⟨xs,q,Z09 _⟩,hd ys H2 p⟩
end
theorem A5u {x:Str} {k:NameKind}:∀{l:List (Str×NameKind)},l.lookup x=some k->(x,k)∈l
 | [],q=>by cases q
 | (n,k')::r,q=>by
  rw [Z28] at q;split at q
  ·rename_i hb;have hb':x=n:=by simpa using hb
   cases q
   subst hb';exact .head _
  ·exact .tail _ (A5u q)
theorem C9z {X:Cx} {scope:Scope} {x:Str} {c:Addr} (he:closureFor scope X.env=pure [(x,c)]) (hc:X.env.cells.lookup x=some c) (hk:scope.kind= .function) (hn:∀y∈scope.names,y.2≠.cell/\(y.2= .free->y.1=x))
  (hl:∀y∈scope.names,y.2= .local->scope.names.lookup y.1=some .local):D0q X scope [(x,c)] where
 eq:=he
 sub:=λy d h=>by
  rw [Z28] at h;split at h
  ·rename_i hb;have hb':y=x:=by simpa using hb
   cases h
   subst hb';exact hc
  ·cases h
 has:=λy h=>by
  have key:y=x:=by
   have m:∃k,(y,k)∈(relabel scope X.env).names/\(k= .cell\/k= .free):=h.elim (λz=>⟨_,A5u z,.inl rfl⟩) λz=>⟨_,A5u z,.inr rfl⟩;obtain ⟨k,hm,hk⟩:=m;obtain ⟨⟨n,k0⟩,h0,e⟩:=Z2c.mp hm;dsimp only at e;by_cases hf:k0= .free
   ·have en:n=y:=by
     split at e
     ·exact congrArg Prod.fst e
     ·exact congrArg Prod.fst e
    rw [<-en];exact (hn _ h0).2 hf
   ·have hb:(k0 == NameKind.free)=false:=by simpa using hf
    simp only [hb,Bool.false_and,Bool.false_eq_true,if_false] at e;have e2:k0=k:=congrArg Prod.snd e;subst e2;rcases hk with hk | hk
    ·exact absurd hk (hn _ h0).1
    ·exact absurd hk hf
  subst key;exact ⟨c,by simp [Z28]⟩
 kind:=hk
 ncell:=λy hy=>(hn y hy).1
 names:=hl
theorem C6q {X:Cx} {N0:List Str} {x:Str} {scope:Scope} {j:Nat} (hN:X.N[j]? =some x) (h1:X.env.scope.names.lookup x=some .cell\/X.env.scope.names.lookup x=some .free)
  (h2:(relabel scope X.env).names.lookup x=some .cell\/(relabel scope X.env).names.lookup x=some .free):D1s X (N0++[x]) scope (List.replicate N0.length none++[some j]):=by
 refine ⟨by simp,λi k e=> ?_⟩;by_cases hi:i<N0.length
 ·rw [Z26 (by simpa using hi),List.getElem?_replicate] at e;split at e <;> cases e
 ·have hi':i=N0.length:=by
   have:=(Z03.mp e).1;simp at this
   lia
  subst hi';rw [Z1l (by simp)] at e;have ek:j=k:=by simpa using e
  subst ek;exact ⟨x,by simp,hN,h1,h2⟩
theorem A0s {H H':Hp} {l:Addr} {o:HO} (s:A0o H H') (hl:H l=none):A0o H (upd H' l o):=λb u e=>by
 rw [A0l (A0t e hl)];exact s b u e
theorem A0d {H:Hp} {l:Addr} {o:HO} (hl:H l=none):A0o H (upd H l o):=A0s (A0o.refl H) hl
theorem C5p {H:Hp} {x dx:Addr} {o u v:HO} (hx:H x=none) (hd:H dx=none):A0o H (upd (upd (upd H dx o) x u) x v):=A0s (A0s (A0d hd) hx) hx
theorem A0h {n:Nat} (h:n<=1000000):n<=sizeLine:=by rw [sizeLine_eq];lia
theorem A1o {n:Nat} (h:n<=1000000):n<sizeLine:=by rw [sizeLine_eq];lia
theorem Paired.snoc {α β:Type} {F:α->β->Prop} {a:α} {b:β} (h:F a b):∀{xs:List α} {ys:List β},Paired F xs ys->Paired F (xs++[a]) (ys++[b])
 | _,_,.nil=> .cons h .nil
 | _,_,.cons r t=> .cons r (Paired.snoc h t)
noncomputable def A5k (S:Addr->Prop) (H:Hp):Hp:=λa=> @ite _ (S a) (Classical.propDecidable _) (H a) none
theorem C1t {S:Addr->Prop} {H:Hp} {a:Addr} (h:S a):A5k S H a=H a:=by unfold A5k;rw [Z12 h]
theorem C6z {S:Addr->Prop} {H:Hp} {a:Addr} (h:¬S a):A5k S H a=none:=by unfold A5k;rw [Z0t h]
theorem A2g {S:Addr->Prop} {H:Hp} {a:Addr} {o:HO} (h:A5k S H a=some o):S a/\H a=some o:=by
 by_cases hs:S a
 ·rw [C1t hs] at h;exact ⟨hs,h⟩
 ·rw [C6z hs] at h;cases h
theorem A9m {S:Addr->Prop} {H:Hp} {a:Addr} {o:HO} (hs:S a) (h:H a=some o):A5k S H a=some o:=by rw [C1t hs];exact h
theorem A7x {S:Addr->Prop} {H H':Hp} (s:A0o H H'):A0o (A5k S H) (A5k S H'):=λb o e=>A9m (A2g e).1 (s _ _ (A2g e).2)
theorem A5y {S S':Addr->Prop} {H H':Hp} (s:A0o H H') (h:∀a o,H a=some o->S a->S' a):A0o (A5k S H) (A5k S' H'):=λb o e=>A9m (h _ _ (A2g e).2 (A2g e).1) (s _ _ (A2g e).2)
theorem A5a {S:Addr->Prop} {H H':Hp} {l:Addr} {o:HO} (s:A0o (A5k S H) (A5k S H')) (h:¬S l):A0o (A5k S H) (A5k S (upd H' l o)):=λb u e=>by
 have q:=A2g (s _ _ e);have hne:b≠l:=λz=>h (by rw [<-z];exact q.1);exact A9m q.1 (by rw [A0l hne];exact q.2)
mutual
theorem Rep.imp2 {H H':Hp} (f:∀p xs,H p=some (.lst xs)->H' p=some (.lst xs)) (g:∀p xs,H p=some (.tup xs)->H' p=some (.tup xs)):∀{v:V} {d:PyData},Rep H v d->Rep H' v d
 | _,_,.non=> .non
 | _,_,.bl b=> .bl b
 | _,_,.int i=> .int i
 | _,_,.str x=> .str x
 | _,_,.lst e r=> .lst (f _ _ e) (A3u.imp2 f g r)
 | _,_,.tup e r=> .tup (g _ _ e) (A3u.imp2 f g r)
theorem A3u.imp2 {H H':Hp} (f:∀p xs,H p=some (.lst xs)->H' p=some (.lst xs)) (g:∀p xs,H p=some (.tup xs)->H' p=some (.tup xs)):∀{vs:List V} {ds:List PyData},A3u H vs ds->A3u H' vs ds
 | _,_,.nil=> .nil
 | _,_,.cons a r=> .cons (Rep.imp2 f g a) (A3u.imp2 f g r)
end
section
variable {G:Hp} {v:V} {vs:List V} {d:PyData} {ds:List PyData}
theorem D3t (h:Rep G v (.list ds)):∃p xs,v= .ref p/\G p=some (.lst xs)/\A3u G xs ds:=by
 cases h with
 | lst e r=>exact ⟨_,_,rfl,e,r⟩
theorem D3v {x:Int} (h:Rep G v (.int x)):v= .int x:=by cases h;rfl
end
mutual
noncomputable def cnt:PyData->Nat
 | .none=>1
 | .bool _=>1
 | .int _=>1
 | .str _=>1
 | .list xs=>A5z xs+1
 | .tuple xs=>A5z xs+1
 | .dict _=>1
noncomputable def A5z:List PyData->Nat
 | []=>0
 | x::xs=>cnt x+A5z xs
end
theorem D3u (d:PyData):1<=cnt d:=by cases d <;> simp [cnt]
theorem B9e:∀ds:List PyData,ds.length<=A5z ds
 | []=>by simp [A5z]
 | d::r=>by
  have:=B9e r;have:=D3u d;simp only [A5z,Z0y]
  lia
theorem C7a:∀{ds:List PyData} {i:Nat} {d:PyData},ds[i]? =some d->cnt d<=A5z ds/\PyData.depth d<=PyData.depthAll ds
 | [],_,_,e=>by simp at e
 | d::r,0,_,e=>by
  simp at e;subst e;simp only [A5z,PyData.depthAll]
  lia
 | x::r,i+1,d,e=>by
  have:=C7a (ds:=r) (i:=i) (d:=d) (by simpa using e);simp only [A5z,PyData.depthAll]
  lia
theorem A3u.get2 {H:Hp}:∀{vs:List V} {ds:List PyData} {i:Nat} {v:V},A3u H vs ds->vs[i]? =some v->∃d,ds[i]? =some d/\Rep H v d
 | _,_,_,_,.nil,e=>by simp at e
 | _,_,0,_,.cons a _,e=>by simp at e;subst e;exact ⟨_,rfl,a⟩
 | _,_,i+1,v,.cons _ r,e=>by
  obtain ⟨d,h1,h2⟩:=A3u.get2 (i:=i) (v:=v) r (by simpa using e);exact ⟨d,by simpa using h1,h2⟩
theorem lk0 {k:Str} {v:V} {r:List (Str×V)}:List.lookup k ((k,v)::r)=some v:=by simp [Z28]
theorem lk1 {k j:Str} {v:V} {r:List (Str×V)} {o:Option V} (h:(k == j)=false) (e:List.lookup k r=o):List.lookup k ((j,v)::r)=o:=by
 rw [Z28,h];exact e
theorem A4o {f:Str} {v:V}:B0d f v []=[(f,v)]:=rfl
theorem A2k {f g:Str} {v x:V} {r:List (Str×V)} (h:¬g=f):B0d f v ((g,x)::r)=(g,x)::B0d f v r:=by rw [B0d,Z0t h]
theorem D5q {c A B:Prop} [Decidable c] (hc:¬c) (h:B):if decide c=true then A else B:=by
 rw [Z1j hc];exact A6q h
theorem D1v {c A B:Prop} [Decidable c] (hc:c) (h:A):if decide c=true then A else B:=by
 rw [Z20 hc];exact C7b h
theorem A9h {c A B:Prop} [Decidable c] (h1:c->A) (h2:¬c->B):if decide c=true then A else B :=
 D7z (λh=>h1 (of_decide_eq_true h)) (λh=>h2 λhc=>h (Z20 hc))
theorem D0m {c A B:Prop} [Decidable c] (h1:¬c->A) (h2:c->B):if (!decide c)=true then A else B :=
 D7z (λh=>h1 λhc=>by rw [Z20 hc] at h;cases h) (λh=>h2 (by
  by_cases hc:c
  ·exact hc
  ·rw [Z1j hc] at h;exact absurd rfl h))
section
variable {X:Cx}
theorem B1c {tg l:Expr} {tl:TE} (hl:PE X l tl):PI X tg l (λσ H R=>D6f X.K tl σ H R\/D9q X.K tl σ H R):=λpins s σ H R I h=>h.elim (A6a hl pins s σ H R I) (B7n hl pins s σ H R I)
end
theorem C0q {α:Type} {f:α->V} {xs:List α} {i:Int} (h0:0<=i) (h1:i<xs.length):∃x,xs[i.toNat]? =some x/\atI (xs.map f) i=some (f x):=by
 obtain ⟨n,rfl⟩:=Int.eq_ofNat_of_zero_le h0;have hn:n<xs.length:=by lia
 exact ⟨xs[n],by simp [hn],A0i (by simp [hn])⟩
theorem D0u {α:Type} {xs:List α} (h:0<xs.length):∃v,xs[xs.length-1]? =some v/\atI xs (-1)=some v:=by
 have hl:xs.length-1<xs.length:=by lia
 refine ⟨xs[xs.length-1],by simp [hl],?_⟩
 have e:ixN xs.length (-1)=some (xs.length-1):=by
  unfold ixN;rw [Z0t (by decide),Z12 (by lia)];congr 1
  lia
 unfold atI;rw [e];simp [hl]
section
variable {K:PySem.W.Frag} {a D:Addr} {xs:List V} {g:TG} {te:TE} {QD:Hp->Prop} {σ₀:St} {H:Hp}
theorem B0p (Pv:Nat->List V->Hp->Prop) (h0:Pv 0 [] (upd H D (.lst []))) (hl:∀i ys H,Pv i ys H->SqL K H a xs)
  (hs:∀i x ys H,xs[i]? =some x->Pv i ys H->g x σ₀ H λσ4 H4=>A2z σ₀ σ4/\te σ4 H4 λy H5=>H5 D=some (.lst ys)/\ys.length<sizeLine/\Pv (i+1) (ys++[y]) (upd H5 D (.lst (ys++[y])))) (hd:∀ys H,Pv xs.length ys H->QD H) :
  ∃W:Nat->Nat->Hp->Prop,(∃m,W 0 m (upd H D (.lst [])))/\∀i m H2,W i m H2->
   ((Itl K a).stop i H2/\QD H2)\/((Itl K a).go i H2/\∃N:VK,(∀y H5,N y H5->∃xs,H5 D=some (.lst xs)/\xs.length<sizeLine/\∃m',m'<m/\W (i+1) m' (upd H5 D (.lst (xs++[y]))))/\
    ∀x H3,(Itl K a).yld i H2 x H3->g x σ₀ H3 λσ4 H4=>A2z σ₀ σ4/\te σ4 H4 N):=C7p (Q:=λ_ H=>QD H) Pv h0 hl hs hd
theorem B3h (Pv:Nat->List V->Hp->Prop) (h0:Pv 0 [] (upd H D (.lst []))) (hl:∀i ys H,Pv i ys H->SqT K H a xs)
  (hs:∀i x ys H,xs[i]? =some x->Pv i ys H->g x σ₀ H λσ4 H4=>A2z σ₀ σ4/\te σ4 H4 λy H5=>H5 D=some (.lst ys)/\ys.length<sizeLine/\Pv (i+1) (ys++[y]) (upd H5 D (.lst (ys++[y])))) (hd:∀ys H,Pv xs.length ys H->QD H) :
  ∃W:Nat->Nat->Hp->Prop,(∃m,W 0 m (upd H D (.lst [])))/\∀i m H2,W i m H2->
   ((Itt K a).stop i H2/\QD H2)\/((Itt K a).go i H2/\∃N:VK,(∀y H5,N y H5->∃xs,H5 D=some (.lst xs)/\xs.length<sizeLine/\∃m',m'<m/\W (i+1) m' (upd H5 D (.lst (xs++[y]))))/\
    ∀x H3,(Itt K a).yld i H2 x H3->g x σ₀ H3 λσ4 H4=>A2z σ₀ σ4/\te σ4 H4 N):=C9i (Q:=λ_ H=>QD H) Pv h0 hl hs hd
end
theorem C9f {K:PySem.W.Frag} {C D:Addr} (h1:PySem.W.isClsIn K D=true) (h2:PySem.W.typeIn K (.ref D)=some (.type "type")) (h3:PySem.W.mroIn K C (.ref D)=some true):PySem.W.kitOne K (.ref C) (.ref D)=some true:=by
 unfold PySem.W.kitOne;split
 ·rfl
 ·show (if ((PySem.W.clsIn K D).isSome&&PySem.W.typeIn K (.ref D) == some (.type "type"))=true then PySem.W.subIn K (.ref C) (.ref D) else none)=some true;have h1':(PySem.W.clsIn K D).isSome=true:=h1;rw [Z12 (by rw [h1',h2];rfl)];exact h3
section
variable {X:Cx}
theorem D9e {P:Program} {w:World} {k:Key} {u:Value} (h:(A2t P w).is k u=true):A3a (kV k) u:=by
 rcases A2n (show C0v k u=true from h) with ⟨i,t,rfl,rfl⟩ | ⟨x,t,rfl,rfl⟩
 ·exact ⟨t,rfl⟩
 ·exact ⟨t,rfl⟩
theorem KV.at {kvs:List (Key×V)} {vs:List (Key×Value)}:KV kvs vs->∀{i:Nat} {k:Key} {v:V},kvs[i]? =some (k,v)->∃u,vs[i]? =some (k,u)/\A3a v u:=by
 intro r;unfold KV at r
 induction r with
 | nil=>intro i k v e;simp at e
 | @cons p q ps qs h t ih =>
  intro i k v e
  cases i with
  | zero =>
   simp at e;subst e;obtain ⟨h1,h2⟩:=h;obtain ⟨q1,q2⟩:=q;cases h1;exact ⟨q2,rfl,h2⟩
  | succ j =>
   obtain ⟨u,e1,e2⟩:=ih (i:=j) (by simpa using e);exact ⟨u,by simpa using e1,e2⟩
end
theorem C4v {H H2:Hp} {a:Addr} {o:Obj} {u:HO} (ha:H a=some u) (s:A0o (upd H a (.frz o u)) H2):A0o H (upd H2 a u):=λb v e=>by
 by_cases hb:b=a
 ·subst hb;rw [ha] at e;cases e;exact A0b
 ·rw [A0l hb];exact s b v (by rw [A0l hb];exact e)
section
variable {X:Cx}
noncomputable def D4n (ix:List (Option Nat)) (wi:TI) (g:TG) (tc:TT) (te:TE):TE:=λσ H Q=>wi σ H λJ H1=>∀D,H1 D=none->∃W:Nat->Nat->Hp->Prop,(∃m,W 0 m (upd H1 D (.lst [])))/\∀i m H2,W i m H2->
 (J.stop i H2/\Q (.ref D) H2)\/(J.go i H2/\∃(N:VK) (M:Hp->Prop),(∀y H5,N y H5->∃xs,H5 D=some (.lst xs)/\xs.length<sizeLine/\∃m',m'<m/\W (i+1) m' (upd H5 D (.lst (xs++[y]))))/\(∀H5,M H5->∃m',m'<m/\W (i+1) m' H5)/\∀x H3,J.yld i H2 x H3->g x (A7g ix σ) H3 λσ4 H4=>A2z (A7g ix σ) σ4/\tc σ4 H4 λb H5=>if b=true then te σ4 H5 N else M H5)
end
section
variable {K:PySem.W.Frag} {a D:Addr} {xs:List V} {g:TG} {tc:TT} {te:TE} {QD:Hp->Prop} {σ₀:St} {H:Hp}
theorem C0e (Pv:Nat->List V->Hp->Prop) (h0:Pv 0 [] (upd H D (.lst []))) (hl:∀i ys H,Pv i ys H->SqL K H a xs)
  (hs:∀i x ys H,xs[i]? =some x->Pv i ys H->g x σ₀ H λσ4 H4=>A2z σ₀ σ4/\tc σ4 H4 λb H5=>if b=true then te σ4 H5 (λy H5=>H5 D=some (.lst ys)/\ys.length<sizeLine/\Pv (i+1) (ys++[y]) (upd H5 D (.lst (ys++[y])))) else Pv (i+1) ys H5) (hd:∀ys H,Pv xs.length ys H->QD H) :
  ∃W:Nat->Nat->Hp->Prop,(∃m,W 0 m (upd H D (.lst [])))/\∀i m H2,W i m H2->
   ((Itl K a).stop i H2/\QD H2)\/((Itl K a).go i H2/\∃(N:VK) (M:Hp->Prop),(∀y H5,N y H5->∃xs,H5 D=some (.lst xs)/\xs.length<sizeLine/\∃m',m'<m/\W (i+1) m' (upd H5 D (.lst (xs++[y]))))/\(∀H5,M H5->∃m',m'<m/\W (i+1) m' H5)/\
    ∀x H3,(Itl K a).yld i H2 x H3->g x σ₀ H3 λσ4 H4=>A2z σ₀ σ4/\tc σ4 H4 λb H5=>if b=true then te σ4 H5 N else M H5):=by
 refine ⟨λi m H=>m=xs.length-i/\i<=xs.length/\∃ys,Pv i ys H,⟨xs.length,by simp,Z1e _,[],h0⟩,?_⟩;rintro i m H2 ⟨rfl,hi,ys,p⟩;have q:=hl i ys H2 p;by_cases hlt:i<xs.length
 ·refine .inr ⟨⟨xs,xs[i],q,by simp [hlt]⟩,λy H5=>H5 D=some (.lst ys)/\ys.length<sizeLine/\Pv (i+1) (ys++[y]) (upd H5 D (.lst (ys++[y]))),λH5=>Pv (i+1) ys H5,λy H5 n=>⟨ys,n.1,n.2.1,xs.length-(i+1),by lia,rfl,hlt,_,n.2.2⟩,λH5 n=>⟨xs.length-(i+1),by lia,rfl,hlt,_,n⟩,λx H3 z=> ?_⟩;obtain ⟨e,z⟩:=z;subst e;exact hs i x ys _ (z xs q) p
 ·have e:i=xs.length:=by lia
  subst e;exact .inl ⟨⟨xs,q,Z09 _⟩,hd ys H2 p⟩
end
section
variable {prog:Program} {w:World} {A:Around} {E:Value->Shared->Prop} {s:Shared}
theorem C3a {v d:Addr} {od:Obj} {es:Array DictEntry} {ep:Nat} {Q:Value->Shared->Prop} (h1:s.heap.IsItemsView v d) (h2:s.heap.get? d=some od) (h3:od.data= .dict es ep)
  (q:Q (.ref s.heap.objs.size) { s with heap:=s.heap.push { cls:= .type "dict_itemiterator",data:= .fields #[.none,.bool false,.ref d,.int 0 0,.int es.size 0,.int ep 0,.none,.none] } }) :
  wpAny (model prog w) A (pyIter (.ref v)) Q E s:=by
 obtain ⟨ov,g1,g2,g3⟩:=id h1;refine wpAny_pyIter_slot h1.typeIs F.slot_dict_items_iter (Z1g F.slot_dict_items_iter h1.typeIs F.entry_dict_items_iter ?_ (F.args_dict_items_iter_1 _));unfold Builtin.«dict_items.__iter__»;refine Z00 (Z04 (Z00 ?_));unfold Builtin.Dict_items.dictOf;refine Z00 (Z11 g1 g3 (x:= .ref d) rfl (Z04 (Z00 ?_)));unfold Builtin.Dict_items.newIterator;refine Z00 (wpAny_dictEntries h2 h3 (Z00 (wpAny_dictEpoch h2 h3 ?_)));simp only [show Builtin.Dict_items.ownsTuple "dict_itemiterator"=true by decide,if_true]
 refine Z16 (Z04 ⟨_,rfl,"dict_itemiterator",_,⟨_,Z0c _ rfl,rfl⟩,F.slot_dict_itemiterator_next.lookup,?_⟩) (by
  simp only [sizeOk,Builtin.Dict_items.ownedTupleFields,Z0g,Z06,Z0y,List.length_nil,sizeLine_eq]
  lia)
 simpa [rawInt,Builtin.Dict_items.ownedTupleFields] using q
theorem C3o {it d:Addr} {i n ep:Nat} {od:Obj} {es:Array DictEntry} {e:DictEntry} {x y:Value} {Q:Option Value->Shared->Prop}
  (h1:IsItemIter s.heap it d i n ep x y) (h2:s.heap.get? d=some od) (h3:od.data= .dict es ep) (h4:es.size=n) (h5:es[i]? =some e)
  (q:∀h',IsItemIterOut h' it d (i+1) n ep e.key e.val s.heap.objs.size->h'.get? s.heap.objs.size=some { cls:= .type "tuple",data:= .seq #[e.key,e.val] }->
   (∀c u,c≠it->s.heap.get? c=some u->h'.get? c=some u)->Q (some (.ref s.heap.objs.size)) { s with heap:=h' }) :
  wpAny (model prog w) A (pyNext (.ref it)) Q E s:=by
 obtain ⟨hp,g,dr,tk,os⟩:=s;have ty:Shared.TypeIs ⟨hp,g,dr,tk,os⟩ (.ref it) "dict_itemiterator":=⟨_,h1,rfl⟩;unfold pyNext;refine Z00 (wpAny_attempt (Z1b (name:=Str.ofString "__next__") ty F.slot_dict_itemiterator_next (Z1g F.slot_dict_itemiterator_next ty F.entry_dict_itemiterator_next ?_ (F.args_dict_itemiterator_next_1 _))));refine Z00 (Z04 (Z00 (Z00 ?_)));refine Z00 (wpAny_typeNameOfWhole_itemiter ty (Z04 (Z00 (wpAny_fieldsOf h1 rfl ?_))));simp only [show Builtin.Dict_items.ownsTuple "dict_itemiterator"=true by decide,if_true];show wpAny _ _ (ite ((Value.ref d == Value.none)=true) _ _) _ _ _;rw [Z0t (show¬((Value.ref d == Value.none)=true) from Z0v)];refine Z00 (Z04 (Z00 (wpAny_dictEntries h2 h3 ?_)));rw [Z0t (by rw [h4];simp)];refine Z00 (Z04 (Z00 (wpAny_dictEpoch h2 h3 ?_)));rw [Z0t (by simp)];obtain ⟨lt,ee⟩:=Z1m.mp h5;refine Z04 ?_;simp only [show¬((i:Int)<0) from by lia,if_false,Int.toNat_natCast,h5];refine Z00 (Z00 (wpAny_typeNameOfWhole_itemiter ty (Z04 (Z00 (wpAny_isOneOf_itemiter ty ?_)))));show wpAny _ _ (setField (.ref it) 3 (rawInt ((i:Int)+1)) >>= _) _ _ (⟨hp,g,dr,tk,os⟩:Shared);refine Z00 (Z1h h1 (by simp) λk1 e1 s1=> ?_)
 replace s1:Heap.SameBut it hp k1:=s1
 replace e1:IsItemIter k1 it d (i+1) n ep x y:=by
  have z:((i+1:Nat):Int)=(i:Int)+1:=by lia
  unfold IsItemIter;rw [z]
  simpa [rawInt] using e1
 have ty1:Shared.TypeIs ⟨k1,g,dr,tk,os⟩ (.ref it) "dict_itemiterator":=⟨_,e1,rfl⟩;refine Z00 (Z1w (Z00 (wpAny_isOneOf_itemiter ty1 (Z00 (wpAny_isOneOf_itemiter ty1 ?_)))));show wpAny _ _ (Builtin.Dict_items.pairFromOwner (.ref it) 6 e.key e.val) _ _ (⟨k1,g,dr,tk,os⟩:Shared);unfold Builtin.Dict_items.pairFromOwner;refine Z00 (wpAny_newTuple ?_);have z1:k1.objs.size=hp.objs.size:=s1.1;have li:it<hp.objs.size:=Z0a h1;have e2:IsItemIter (k1.push { cls:= .type "tuple",data:= .seq #[e.key,e.val] }) it d (i+1) n ep x y:=Z01 _ e1;have t2:(k1.push { cls:= .type "tuple",data:= .seq #[e.key,e.val] }).get? hp.objs.size=some { cls:= .type "tuple",data:= .seq #[e.key,e.val] }:=by rw [<-z1];exact Z0c _ rfl
 have m2:∀b o,b≠it->hp.get? b=some o->(k1.push { cls:= .type "tuple",data:= .seq #[e.key,e.val] }).get? b=some o:=λb o hb z=>Z01 _ (s1.extBut b o hb z);generalize k1.push { cls:= .type "tuple",data:= .seq #[e.key,e.val] }=k2 at e2 t2 m2;show wpAny _ _ (Builtin.Dict_items.ownedTupleIsFree (.ref it) >>= _) _ _ (⟨k2,g,dr,tk,os⟩:Shared);rw [z1];clear e1 s1 ty1 z1 k1;refine Z00 ?_;unfold Builtin.Dict_items.ownedTupleIsFree;refine Z00 (Z11 e2 rfl (x:= .none) rfl (Z04 ?_));simp only [if_true];refine Z00 (Z11 e2 rfl (x:=x) rfl (Z00 (Z11 e2 rfl (x:=y) rfl (Z00 (Z1h e2 (by simp) λk3 e3 s3=> ?_)))))
 replace s3:Heap.SameBut it k2 k3:=s3
 replace e3:IsItemIter k3 it d (i+1) n ep e.key y:=e3
 refine Z00 (Z1h e3 (by simp) λk4 e4 s4=> ?_)
 replace s4:Heap.SameBut it k3 k4:=s4
 replace e4:IsItemIter k4 it d (i+1) n ep e.key e.val:=e4
 refine Z00 (Z1h e4 (by simp) λk5 e5 s5=> ?_)
 replace s5:Heap.SameBut it k4 k5:=s5
 replace e5:IsItemIterOut k5 it d (i+1) n ep e.key e.val hp.objs.size:=e5
 refine Z00 (Z1h e5 (by simp) λk6 e6 s6=> ?_)
 replace s6:Heap.SameBut it k5 k6:=s6
 replace e6:IsItemIterOut k6 it d (i+1) n ep e.key e.val hp.objs.size:=e6
 have all:∀b o,b≠it->k2.get? b=some o->k6.get? b=some o:=λb o hb z=>s6.extBut b o hb (s5.extBut b o hb (s4.extBut b o hb (s3.extBut b o hb z)));exact Z00 (wpAny_letGo (Z04 (Z04 ⟨_,rfl,Z04 (q k6 e6 (all _ _ (Z1q li) t2) λb o hb z=>all b o hb (m2 b o hb z))⟩)))
theorem C5j {it d:Addr} {i n ep:Nat} {od:Obj} {es:Array DictEntry} {x y:Value} {Q:Option Value->Shared->Prop} (hh:A.handled=none)
  (h1:IsItemIter s.heap it d i n ep x y) (h2:s.heap.get? d=some od) (h3:od.data= .dict es ep) (h4:es.size=n) (h5:n<=i)
  (q:∀h',Heap.ExtBut it s.heap h'->Q none { s with heap:=h' }):wpAny (model prog w) A (pyNext (.ref it)) Q E s:=by
 have ty:s.TypeIs (.ref it) "dict_itemiterator":=⟨_,h1,rfl⟩;unfold pyNext;refine Z00 (wpAny_attempt (Z1b (name:=Str.ofString "__next__") ty F.slot_dict_itemiterator_next (Z1g F.slot_dict_itemiterator_next ty F.entry_dict_itemiterator_next ?_ (F.args_dict_itemiterator_next_1 _))));refine Z00 (Z04 (Z00 (Z00 ?_)));refine Z00 (wpAny_typeNameOfWhole_itemiter ty (Z04 (Z00 (wpAny_fieldsOf h1 rfl ?_))));simp only [show Builtin.Dict_items.ownsTuple "dict_itemiterator"=true by decide,if_true];show wpAny _ _ (ite ((Value.ref d == Value.none)=true) _ _) _ _ _;rw [Z0t (show¬((Value.ref d == Value.none)=true) from Z0v)];refine Z00 (Z04 (Z00 (wpAny_dictEntries h2 h3 ?_)));rw [Z0t (by rw [h4];simp)];refine Z00 (Z04 (Z00 (wpAny_dictEpoch h2 h3 ?_)));rw [Z0t (by simp)];refine Z04 ?_;simp only [show¬((i:Int)<0) from by lia,if_false,Int.toNat_natCast,Array.getElem?_eq_none (show es.size<=i by lia)];refine Z00 (Z00 (wpAny_typeNameOfWhole_itemiter ty (Z04 ?_)));show wpAny _ _ (setField (.ref it) 2 .none >>= _) _ _ _;refine Z00 (Z1t h1 rfl (by simp) ?_);show wpAny _ _ (newExc (.type "StopIteration") [] >>= _) _ _ (_:Shared);refine Z00 ?_;simp only [newExc,newTuple];refine Z00 (Z16 (Z00 (m:=firstArgMember _ _) (wpAny_of_eq (a:=Value.none) (by first | rfl | (simp only [firstArgMember];rfl)) (Z16 ?_ (by size_fits)))) (by size_fits));simp only [raiseNew];refine Z00 (wpAny_handled ?_);rw [show A.in1.handled=none from hh];refine Z00 (Z04 (wpAny_throw ?_));refine Z00 (wpAny_isInstance (T:="StopIteration") (b:=true) ⟨_,Z0c _ rfl,rfl⟩ isSubtype_stop (Z04 ?_));exact q _ (((Heap.SameBut.update ..).extBut.push _).push _)
theorem C0o:entryFor table "dict_itemiterator.__iter__"=some Builtin.«dict_keyiterator.__iter__»:=entryFor_alias (id':="dict_keyiterator.__iter__") (by kernel_rfl) rfl (by decide +kernel) (by kernel_rfl)
theorem C2l {it d:Addr} {i n ep:Nat} {x y:Value} {Q:Value->Shared->Prop} (st:IsItemIter s.heap it d i n ep x y) (h:Q (.ref it) s):wpAny (model prog w) A (pyIter (.ref it)) Q E s:=by
 have ty:s.TypeIs (.ref it) "dict_itemiterator":=⟨_,st,rfl⟩;refine wpAny_pyIter_slot ty F.slot_dict_itemiterator_iter (Z1g F.slot_dict_itemiterator_iter ty C0o ?_ (F.args_dict_itemiterator_iter_1 _));show wpAny _ _ (ret (.ref it)) _ _ s;exact Z04 ⟨_,rfl,"dict_itemiterator",_,ty,F.slot_dict_itemiterator_next.lookup,h⟩
theorem C2z (d:Addr) (hd:(d == sysModules)=false) :
  MeetsIn prog w (Builtin.«dict.items» ⟨[.ref d],[]⟩) (λ_ R s=>s.TypeIs (.ref d) "dict"/\R (.ok (.ret (.ref s.heap.objs.size))) { s with heap:=s.heap.push { cls:= .type "dict_items",data:= .fields #[.ref d] } }) :=
 .of_wp λA R s ⟨ty,q⟩=>by
  unfold Builtin.«dict.items»;refine Z00 ?_;unfold Builtin.Dict.noArgs;refine Z00 (wpAny_notOrdered_dict ty ?_);show wpAny _ _ (pure d) _ _ s;refine Z04 ?_;show wpAny _ _ (Builtin.Dict.showsAll d >>= _) _ _ s;unfold Builtin.Dict.showsAll;rw [Z0t (by rw [hd];exact Z0v)];exact Z00 (Z04 (Z00 (Z16 (Z04 ⟨_,rfl,q⟩))))
end
section
variable {X:Cx}
noncomputable def isD (u:HO):Prop:=(∃kvs,u= .dK kvs)\/∃kvs,u= .dT kvs
noncomputable def C2u (v d:Addr):HO:= .ext λh=>h.IsItemsView v d
theorem C8s {P:Program} {w:World} {H:Hp} {h:Heap} {v d:Addr} (e:h.IsItemsView v d):A1v P w H h v (C2u v d) :=
 ⟨e,let ⟨o,e1,_⟩:=e;⟨o,e1⟩,λh1 h2 ⟨o,e1,e2⟩ k=>⟨o,k o e1,e2⟩⟩
theorem D3o {P:Program} {w:World} {H:Hp} {h:Heap} {a:Addr} {u:HO} (hu:isD u) (x:A1v P w H h a u):(a == sysModules)=false/\∃o es ep,h.get? a=some o/\o.ExactDict/\o.data= .dict es ep:=by
 rcases hu with ⟨kvs,rfl⟩ | ⟨kvs,rfl⟩
 ·obtain ⟨hz,hs,vs,rel,o,es,ep,ho,hx,hd,r⟩:=x;exact ⟨hs,o,es,ep,ho,hx,hd⟩
 ·obtain ⟨hz,hs,vs,rel,o,es,ep,ho,hx,hd,r⟩:=x;exact ⟨hs,o,es,ep,ho,hx,hd⟩
noncomputable def D6k:V->List V->Hp->VK->Prop:=λx vs H Q=>∃a u,x= .ref a/\vs=[]/\H a=some u/\isD u/\∀p,H p=none->Q (.ref p) (upd H p (C2u p a))
theorem C8u:MtR X "dict.items" D6k:=by
 intro pins s σ H x xs v us Q I rx rv h;obtain ⟨a,u,rfl,rfl,ha,hu,q⟩:=h;cases rx;cases rv;obtain ⟨hs,o,es,ep,ho,hx,hd⟩:=D3o hu (I.hok a u ha);have ty:s.TypeIs (.ref a) "dict":=⟨o,ho,hx.1⟩;refine call_meetsIn PySem.F.slot_dict_items ty PySem.F.entry_dict_items (PySem.F.args_dict_items_1 _) (C2z a hs) ⟨ty,?_⟩;exact ⟨.ref s.heap.objs.size,_,I.laid (t':=s.toks) (o:=C2u s.heap.objs.size a) (λb u e=>Z01 _ e) (Z09 _) (C8s ⟨_,Z0c _ rfl,rfl,rfl⟩),rfl,q _ (I.hok.fresh (Z09 _))⟩
theorem Inv.frozenD {pins:List (Addr×Obj)} {σ:St} {H:Hp} {s:Shared} {a:Addr} {o:Obj} {u:HO} (I:Inv X pins σ H s) (ha:H a=some u) (hu:isD u) (ho:s.heap.get? a=some o):Inv X pins σ (upd H a (.frz o u)) s:=by
 have nt:∀b xs,H b=some (.tup xs)->upd H a (.frz o u) b=some (.tup xs):=λb xs q=>by
  rw [A0l (A7s q ha (by rcases hu with ⟨_,rfl⟩ | ⟨_,rfl⟩ <;> intro z <;> cases z))];exact q
 have no:∀b,H b=some (.own a)->upd H a (.frz o u) b=some (.own a):=λb q=>by
  rw [A0l (A7s q ha (by rcases hu with ⟨_,rfl⟩ | ⟨_,rfl⟩ <;> intro z <;> cases z))];exact q
 have new:A1v X.prog X.w (upd H a (.frz o u)) s.heap a (.frz o u):=⟨ho,(I.hok a u ha).stay (λ_ _ _ q=>q) no nt⟩;exact I.write (t':=s.toks) (h':=s.heap) (e:=a) (by rw [ha];rcases hu with ⟨_,rfl⟩ | ⟨_,rfl⟩ <;> trivial) (.inl rfl) (λ_ _ _ e=>e) ⟨o,ho⟩ new
theorem Inv.thawD {pins:List (Addr×Obj)} {σ:St} {H:Hp} {s:Shared} {a:Addr} {o:Obj} {u:HO} (I:Inv X pins σ H s) (ha:H a=some (.frz o u)) (hu:isD u) (h0:∀o' u',X.H₀ a≠some (.frz o' u')):Inv X pins σ (upd H a u) s:=by
 have nf:∀b,H b=none->upd H a u b=none:=λb e=>by rw [A0l (λz=>by subst z;rw [ha] at e;cases e)];exact e
 have nt:∀b xs,H b=some (.tup xs)->upd H a u b=some (.tup xs):=λb xs q=>by rw [A0l (A7s q ha (by intro z;cases z))];exact q
 have no:∀b c,H b=some (.own c)->upd H a u b=some (.own c):=λb c q=>by rw [A0l (A7s q ha (by intro z;cases z))];exact q
 refine ⟨I.ok,I.os,I.bare,⟨I.base.keep,I.base.slot,λb ob e n hx=>nf b (I.base.free b ob e n hx),I.base.there,λb xs e=>nt b xs (I.base.tups b xs e),λb ob u' e=> ?_,λb ps e=> ?_⟩,I.loc,I.cell,nf _ I.free,λx c e=>nf _ (I.freeC x c e),
  λp hp=>⟨(I.pin p hp).1,nf _ (I.pin p hp).2.1,(I.pin p hp).2.2⟩,λb v e=> ?_,I.len⟩
 ·have q:=I.base.frzs b ob u' e;rw [A0l (λz=>by subst z;exact h0 _ _ e)];exact q
 ·obtain ⟨more,q⟩:=I.base.tbls b ps e;exact ⟨more,by rw [A0l (A7s q ha (by intro z;cases z))];exact q⟩
 ·by_cases hb:b=a
  ·subst hb;rw [A0b] at e;cases e;obtain ⟨_,q⟩:=(show A1v X.prog X.w H s.heap b (.frz o u) from I.hok b _ ha);exact q.stay (λ_ _ _ q=>q) (λc q=>no c b q) λc xs q=>nt c xs q
  ·rw [A0l hb] at e;exact (I.hok b v e).stay (λ_ _ _ q=>q) (λc q=>no c b q) λc xs q=>nt c xs q
noncomputable def D6m (X:Cx) (t:TS):TS:=λD σ H=>∃a o u,H a=some (.frz o u)/\isD u/\(∀o' u',X.H₀ a≠some (.frz o' u'))/\t D σ (upd H a u)
theorem C5z {sts:List Stmt} {t:TS} (h:PSs X sts t):PSs X sts (D6m X t):=by
 intro pins s σ H D I hw;obtain ⟨a,o,u,ha,hu,h0,q⟩:=hw;exact h pins s σ _ D (I.thawD ha hu h0) q
abbrev D7n (es:Array DictEntry) (L:List (V×V)):Prop:=Paired (λ(e:DictEntry) (p:V×V)=>A3a p.1 e.key/\A3a p.2 e.val) es.toList L
noncomputable def Iti (a:Addr) (o:Obj) (u:HO) (L:List (V×V)):It :=
 ⟨λi H=>H a=some (.frz o u)/\i<L.length,λi H x H'=>∃k v p,L[i]? =some (k,v)/\H p=none/\x= .ref p/\H'=upd H p (.tup [k,v]),λi H=>H a=some (.frz o u)/\i=L.length⟩
theorem B0t {α β:Type} {F:α->β->Prop}:∀{l:List α} {m:List β},Paired F l m->l.length=m.length
 | _,_,.nil=>rfl
 | _,_,.cons _ t=>by simp [B0t t]
theorem B8r {α β:Type} {F:α->β->Prop}:∀{l:List α} {m:List β},Paired F l m->∀{i:Nat} {y:β},m[i]? =some y->∃x,l[i]? =some x/\F x y
 | _,_,.nil,i,y,e=>by simp at e
 | _,_,.cons r t,0,y,e=>by simp at e;subst e;exact ⟨_,rfl,r⟩
 | _,_,.cons r t,i+1,y,e=>by
  obtain ⟨x,e1,e2⟩:=B8r t (i:=i) (by simpa using e);exact ⟨x,by simpa using e1,e2⟩
theorem C2o {P:Program} {w:World} {K:PySem.W.Frag} {elts:List Expr} {kk:Nat} {pos:Pos} (it a:Addr) (o:Obj) (u:HO) (L:List (V×V)) (es:Array DictEntry) (ep:Nat) (ho:o.data= .dict es ep) (rl:D7n es L) :
  D0k P w K (.Tuple elts kk pos) (Iti a o u L) [it] it (λi h=>∃x y,IsItemIter h it a i es.size ep x y) where
 mem:=by simp
 obj:=λi h st b hb=>by
  have e:b=it:=by simpa using hb
  subst e;obtain ⟨x,y,e⟩:=st;exact ⟨_,e,λv z=>by cases (show Data.fields _=Data.cell v from z)⟩
 keep:=λi h h' st k=>let ⟨x,y,e⟩:=st;⟨x,y,k it (by simp) _ e⟩
 item:=by
  intro X hP hw hK hc i pins s σ H E I hf st hg;subst hP hw hK;obtain ⟨ha,hi⟩:=hg;obtain ⟨x,y,st⟩:=st;have hl:es.size=L.length:=by have:=B0t rl;simpa using this
  obtain ⟨⟨k,v⟩,hkv⟩:∃p,L[i]? =some p:=⟨L[i],by simp [hi]⟩;obtain ⟨e,he,r1,r2⟩:=B8r rl hkv;obtain ⟨hob,_⟩:=(show A1v X.prog X.w H s.heap a (.frz o u) from I.hok a _ ha);refine C3o st hob ho rfl (e:=e) (by simpa using he) λh' z1 z2 kp=> ?_;refine ⟨_,rfl,wpAny_letOwnedTupleGo_items (s:={ s with heap:=h' }) z1 λg zg sb=> ?_⟩
  have nz:s.heap.objs.size≠it:=Z1q (Z0a st)
  have I1:Inv X pins σ (upd H s.heap.objs.size (.tup [k,v])) { s with heap:=g,toks:=s.toks }:=I.turnedNew (ts:=[it]) (λc o hc e=>by
   have hc':c≠it:=by simpa using hc
   exact sb.extBut _ _ hc' (kp c o hc' e)) hf (Z09 _) ⟨by show 2<=sizeLine;decide,[e.key,e.val],.cons r1 (.cons r2 .nil),⟨_,sb.extBut _ _ nz z2,rfl,_,rfl⟩⟩
  refine ⟨.ref s.heap.objs.size,_,I1,rfl,⟨k,v,_,hkv,I.hok.fresh (Z09 _),rfl,rfl⟩,⟨_,_,zg⟩,λc hc=> ?_⟩;have hcn:c=it:=by simpa using hc
  subst hcn;rw [A0l nz.symm];exact (hf c hc).1
 done:=by
  intro X hP hw hK hc i pins s σ H E I hf st hg;subst hP hw hK;obtain ⟨ha,hi⟩:=hg;obtain ⟨x,y,st⟩:=st;have hl:es.size=L.length:=by have:=B0t rl;simpa using this
  obtain ⟨hob,_⟩:=(show A1v X.prog X.w H s.heap a (.frz o u) from I.hok a _ ha);obtain ⟨f0,f1,f2,f3,f4,f5⟩:=hf it (by simp);exact C5j (I.ok.hd hc) st hob ho rfl (by lia) λh' eb=>⟨rfl,I.turned (t':=s.toks) (λb ob hb e=>eb b ob hb e) f0 f1 f3 f4 f5⟩
 self:=λ_ _ s _ _ st h=>by
  obtain ⟨x,y,st⟩:=st;exact C2l st h
end
section
abbrev KL (H:Hp) (kvs:List (List Key×V)) (L:List (V×V)):Prop:=Paired (λ(p:List Key×V) (q:V×V)=>∃b,q.1= .ref b/\H b=some (.tup (p.1.map kV))/\q.2=p.2) kvs L
theorem B8w {α β:Type} {F:α->β->Prop}:∀{l:List α} {m:List β},l.length=m.length->(∀(i:Nat) (x:α) (y:β),l[i]? =some x->m[i]? =some y->F x y)->Paired F l m
 | [],[],_,_=> .nil
 | [],_::_,e,_=>by simp at e
 | _::_,[],e,_=>by simp at e
 | x::l,y::m,e,h=> .cons (h 0 x y rfl rfl) (B8w (by simpa using e) λi a b p q=>h (i+1) a b (by simpa using p) (by simpa using q))
theorem D6g {P:Program} {w:World} {kvs:List (Key×V)} {vs:List (Key×Value)} {es:Array DictEntry} (r:KV kvs vs) (p:Pairs (A2t P w) es.toList vs):D7n es (kvs.map λq=>(kV q.1,q.2)):=by
 refine B8w (by rw [p.length,Z08];exact r.length.symm) λi e y he hy=> ?_;rw [Z1z] at hy;obtain ⟨⟨k,v⟩,hk,rfl⟩:=Z0i.mp hy;obtain ⟨u,hu,ru⟩:=r.at hk;obtain ⟨h1,h2⟩:=p.get? he hu;subst h2;exact ⟨D9e h1,ru⟩
theorem D1i {P:Program} {w:World} {H:Hp}:∀{kvs:List (List Key×V)} {xs:List (List Key×Addr×Value)},KT H kvs xs->
  ∃L,Paired (λ(e:DictEntry) (p:V×V)=>A3a p.1 e.key/\A3a p.2 e.val) (xs.map (entryOfKey (tupleKind (A2t P w)))) L/\KL H kvs L
 | _,_,.nil=>⟨[],.nil,.nil⟩
 | _,_,@Paired.cons _ _ _ p q _ _ h t=>by
  obtain ⟨L,h1,h2⟩:=D1i (P:=P) (w:=w) t;exact ⟨(.ref q.2.1,p.2)::L,.cons ⟨rfl,h.2.2⟩ h1,.cons ⟨q.2.1,rfl,h.2.1,rfl⟩ h2⟩
noncomputable def D5y (tl:TE):TI:=λσ H R=>tl σ H λx H1=>∃v a u,x= .ref v/\H1 v=some (C2u v a)/\H1 a=some u/\
 ((∃kvs,u= .dK kvs/\∀o,R (Iti a o u (kvs.map λq=>(kV q.1,q.2))) (upd H1 a (.frz o u)))\/∃kvs,u= .dT kvs/\∀o L,KL H1 kvs L->R (Iti a o u L) (upd H1 a (.frz o u)))
theorem D0t {X:Cx} {l:Expr} {tl:TE} {elts:List Expr} {kk:Nat} {pos:Pos} (hl:PE X l tl):PI X (.Tuple elts kk pos) l (D5y tl):=by
 intro pins s σ H R I h;refine thn (hl pins s σ H _ I h) λy s1 ⟨x,H1,I1,rx,v,a,u,ex,hv,ha,q⟩=> ?_;subst ex;cases rx;obtain ⟨vw,_⟩:=(show A1v X.prog X.w H1 s1.heap v (C2u v a) from I1.hok v _ hv)
 have go:∀(o:Obj) (es:Array DictEntry) (ep:Nat) (L:List (V×V)),s1.heap.get? a=some o->o.data= .dict es ep->isD u->D7n es L->R (Iti a o u L) (upd H1 a (.frz o u))->
   wpAny (model X.prog X.w) X.A (pyIter (.ref v)) (PIE X pins σ (.Tuple elts kk pos) R) X.xe s1:=by
  intro o es ep L ho hd hu rl qq;refine C3a vw ho hd ?_;have I2:Inv X pins σ H1 { s1 with heap:=s1.heap.push { cls:= .type "dict_itemiterator",data:= .fields #[.none,.bool false,.ref a,.int 0 0,.int es.size 0,.int ep 0,.none,.none] },toks:=s1.toks }:=I1.kept λb ob e=>Z01 _ e
  have I3:=I2.frozenD ha hu (Z01 _ ho);refine ⟨_,[s1.heap.objs.size],_,_,_,rfl,I3,C2o _ a o u L es ep hd rl,⟨.none,.none,Z0c _ rfl⟩,λb hb=> ?_,qq⟩;have e:b=s1.heap.objs.size:=by simpa using hb
  subst e;refine I1.fpOk (Z09 _) ?_;rw [A0l (Z1q (I1.hok.lt ha))];exact I1.hok.fresh (Z09 _)
 rcases q with ⟨kvs,rfl,q⟩ | ⟨kvs,rfl,q⟩
 ·obtain ⟨hz,hs,vs,rel,o,es,ep,ho,hx,hd,_,r,_⟩:=C8t I1.hok ha;exact go o es ep _ ho hd (.inl ⟨_,rfl⟩) (D6g rel r) (q o)
 ·obtain ⟨hz,hs,xs,rel,o,es,ep,ho,hx,hd,he,_⟩:=(show A1v X.prog X.w H1 s1.heap a (.dT kvs) from I1.hok a _ ha);obtain ⟨L,h1,h2⟩:=D1i (P:=X.prog) (w:=X.w) rel;exact go o es ep L ho hd (.inr ⟨_,rfl⟩) (by unfold D7n;rw [he];exact h1) (q o L h2)
theorem C5x {a:Addr} {o:Obj} {u:HO} {L:List (V×V)} {g:TG} {tb:TS} {D:B4d} {σ:St} {H:Hp} (Pv:Nat->St->Hp->Prop) (h0:Pv 0 σ H) (hl:∀i σ H,Pv i σ H->H a=some (.frz o u))
  (hs:∀i k v p σ H,L[i]? =some (k,v)->H p=none->Pv i σ H->g (.ref p) σ (upd H p (.tup [k,v])) λσ2 H2=>tb { D with nx:=Pv (i+1),ct:=Pv (i+1),bk:=D.nx } σ2 H2) (hd:∀σ H,Pv L.length σ H->D.nx σ H) :
  ∃W:Nat->Nat->St->Hp->Prop,(∃m,W 0 m σ H)/\∀i m σ H,W i m σ H->
   ((Iti a o u L).stop i H/\D.nx σ H)\/((Iti a o u L).go i H/\∃N:St->Hp->Prop,(∀σ' H',N σ' H'->∃m',m'<m/\W (i+1) m' σ' H')/\∀x H',(Iti a o u L).yld i H x H'->g x σ H' λσ2 H2=>tb { D with nx:=N,ct:=N,bk:=D.nx } σ2 H2):=by
 refine ⟨λi m σ H=>m=L.length-i/\i<=L.length/\Pv i σ H,⟨L.length,by simp,Z1e _,h0⟩,?_⟩;rintro i m σ H ⟨rfl,hi,p⟩;by_cases hlt:i<L.length
 ·refine .inr ⟨⟨hl i σ H p,hlt⟩,Pv (i+1),λσ' H' p'=>⟨L.length-(i+1),by lia,rfl,hlt,p'⟩,λx H' y=> ?_⟩;obtain ⟨k,v,q,e1,e2,rfl,rfl⟩:=y;exact hs i k v q σ _ e1 e2 p
 ·have e:i=L.length:=by lia
  subst e;exact .inl ⟨⟨hl _ σ H p,rfl⟩,hd σ H p⟩
end
section
variable {X:Cx}
noncomputable def D6d (H:Hp):Prop:=(∀a kvs,H a=some (.dK kvs)->(kvs.map (·.1)).Nodup)/\∀a kvs,H a=some (.dT kvs)->(kvs.map (·.1)).Nodup
theorem D3q {kvs:List (Key×V)} {vs:List (Key×Value)} (r:KV kvs vs):kvs.map (·.1)=vs.map (·.1):=by
 unfold KV at r
 induction r with
 | nil=>rfl
 | cons h t ih=>rw [Z0p,Z0p,ih,h.1]
theorem D4h {H:Hp} {kvs:List (List Key×V)} {xs:List (List Key×Addr×Value)} (r:KT H kvs xs):kvs.map (·.1)=xs.map (·.1):=by
 induction r with
 | nil=>rfl
 | cons h t ih=>rw [Z0p,Z0p,ih,h.1]
theorem Inv.apart {pins:List (Addr×Obj)} {σ:St} {H:Hp} {s:Shared} (I:Inv X pins σ H s):D6d H:=by
 refine ⟨λa kvs e=> ?_,λa kvs e=> ?_⟩
 ·obtain ⟨_,_,vs,rel,o,es,ep,_,_,_,_,_,n⟩:=C8t I.hok e;rw [D3q rel];exact n
 ·obtain ⟨_,_,xs,rel,o,es,ep,_,_,_,_,n⟩:=(show A1v X.prog X.w H s.heap a (.dT kvs) from I.hok a _ e);rw [D4h rel];exact n
theorem D0a {sts:List Stmt} {t:TS} (h:PSs X sts t):PSs X sts (λD σ H=>D6d H->t D σ H):=λpins s σ H D I q=>h pins s σ H D I (q I.apart)
theorem C1h {κ:Type} [DecidableEq κ] {kvs:List (κ×V)} {i:Nat} {k:κ} {v:V} (n:(kvs.map (·.1)).Nodup) (h:kvs[i]? =some (k,v)) (ws:List (κ×V)) (e:ws.map (·.1)=(kvs.take i).map (·.1)) (u:V):B0b ws k u=ws++[(k,u)]:=by
 unfold B0b;rw [Z0t];intro a;obtain ⟨p,hp,ek⟩:=List.any_eq_true.mp a;have ek:p.1=k:=by simpa using ek
 have hm:k∈ws.map (·.1):=Z2c.mpr ⟨p,hp,ek⟩;rw [e] at hm;obtain ⟨q,hq,eq⟩:=Z2c.mp hm;obtain ⟨j,hj,ej⟩:=List.mem_iff_getElem.mp hq;have hji:j<i:=by have:=List.length_take_le i kvs;lia
 rw [List.getElem_take] at ej;obtain ⟨hi,ei⟩:=Z03.mp h;have hjl:j<kvs.length:=by lia
 have h1:(kvs.map λx=>x.1)[j]? =some k:=by rw [Z1z,Z0b hjl,ej];exact congrArg some eq
 have h2:(kvs.map λx=>x.1)[i]? =some k:=by rw [Z1z,h];rfl
 obtain ⟨l1,e1⟩:=Z03.mp h1;obtain ⟨l2,e2⟩:=Z03.mp h2;have:j=i:=(List.getElem_inj n).mp (e1.trans e2.symm)
 lia
end
section
variable {prog:Program} {w:World} {K:Type} [DecidableEq K] {knd:KeyKind prog w K} {A:Around} {R:Result->Shared->Prop} {I l d:Addr} {items:Array Value} {rs:List (K×Value)} {h₀:Heap} {g:Array GenState} {dr:Drawn} {os:OsState}
end
noncomputable def B2x (env:Env):List (Str×Addr)->Prop
 | []=>True
 | p::r=>env.cells.lookup p.1=some p.2/\B2x env r
theorem B2x.get {env:Env}:∀{cl:List (Str×Addr)},B2x env cl->∀{x:Str} {c:Addr},cl.lookup x=some c->env.cells.lookup x=some c
 | [],_,_,_,h=>by cases h
 | (y,d)::r,h,x,c,e=>by
  rw [Z28] at e;split at e
  ·rename_i hb;have hb':x=y:=by simpa using hb
   cases e
   subst hb';exact h.1
  ·exact B2x.get h.2 e
theorem A9k {x:Str}:∀{cl:List (Str×Addr)},x∈cl.map (·.1)->∃c,cl.lookup x=some c
 | [],h=>by cases h
 | (y,d)::r,h=>by
  rw [Z28]
  cases hb:(x == y) with
  | true=>exact ⟨d,rfl⟩
  | false =>
   have hne:x≠y:=by simpa using hb
   rcases Z0e.mp h with e | e
   ·exact absurd e hne
   ·exact A9k e
theorem B3b {X:Cx} {scope:Scope} {cl:List (Str×Addr)} {xs:List Str} (he:closureFor scope X.env=pure cl) (hc:B2x X.env cl) (hx:cl.map (·.1)=xs) (hk:scope.kind= .function) (hn:∀y∈scope.names,y.2≠.cell/\(y.2= .free->y.1∈xs))
  (hl:∀y∈scope.names,y.2= .local->scope.names.lookup y.1=some .local):D0q X scope cl where
 eq:=he
 sub:=λy d h=>hc.get h
 has:=λy h=>by
  have key:y∈xs:=by
   have m:∃k,(y,k)∈(relabel scope X.env).names/\(k= .cell\/k= .free):=h.elim (λz=>⟨_,A5u z,.inl rfl⟩) λz=>⟨_,A5u z,.inr rfl⟩;obtain ⟨k,hm,hk⟩:=m;obtain ⟨⟨n,k0⟩,h0,e⟩:=Z2c.mp hm;dsimp only at e;by_cases hf:k0= .free
   ·have en:n=y:=by
     split at e
     ·exact congrArg Prod.fst e
     ·exact congrArg Prod.fst e
    rw [<-en];exact (hn _ h0).2 hf
   ·have hb:(k0 == NameKind.free)=false:=by simpa using hf
    simp only [hb,Bool.false_and,Bool.false_eq_true,if_false] at e;have e2:k0=k:=congrArg Prod.snd e;subst e2;rcases hk with hk | hk
    ·exact absurd hk (hn _ h0).1
    ·exact absurd hk hf
  rw [<-hx] at key;exact A9k key
 kind:=hk
 ncell:=λy hy=>(hn y hy).1
 names:=hl
noncomputable def B7z (X:Cx) (scope:Scope):List Str->List Nat->Prop
 | [],[]=>True
 | x::xs,j::js=>(X.N[j]? =some x/\(X.env.scope.names.lookup x=some .cell\/X.env.scope.names.lookup x=some .free)/\((relabel scope X.env).names.lookup x=some .cell\/(relabel scope X.env).names.lookup x=some .free))/\B7z X scope xs js
 | _,_=>False
theorem B7z.get {X:Cx} {scope:Scope}:∀{xs:List Str} {js:List Nat},B7z X scope xs js->xs.length=js.length/\∀(i j:Nat),js[i]? =some j->∃x,xs[i]? =some x/\X.N[j]? =some x/\(X.env.scope.names.lookup x=some .cell\/X.env.scope.names.lookup x=some .free)/\((relabel scope X.env).names.lookup x=some .cell\/(relabel scope X.env).names.lookup x=some .free)
 | [],[],_=>⟨rfl,λi j e=>by simp at e⟩
 | x::xs,j::js,h=>by
  obtain ⟨e,f⟩:=B7z.get h.2;refine ⟨by simp [e],λi k ek=> ?_⟩
  cases i with
  | zero=>simp at ek;subst ek;exact ⟨x,rfl,h.1⟩
  | succ i=>exact f i k (by simpa using ek)
 | [],_::_,h=>h.elim
 | _::_,[],h=>h.elim
theorem B3d {X:Cx} {N0 xs:List Str} {js:List Nat} {scope:Scope} (h:B7z X scope xs js):D1s X (N0++xs) scope (List.replicate N0.length none++js.map some):=by
 obtain ⟨hl,hf⟩:=h.get;refine ⟨by simp [hl],λi k e=> ?_⟩;by_cases hi:i<N0.length
 ·rw [Z26 (by simpa using hi),List.getElem?_replicate] at e;split at e <;> cases e
 ·rw [Z1l (by simpa using hi),List.length_replicate,Z1z] at e;obtain ⟨j,ej,ek⟩:=Z0i.mp e;cases ek;obtain ⟨x,h1,h2,h3,h4⟩:=hf _ _ ej;exact ⟨x,by rw [Z1l (by lia)];exact h1,h2,h3,h4⟩
section
variable {X:Cx}
end
section
variable {D:Addr} {g:TG} {te:TE} {QD:Hp->Prop} {σ₀:St} {H:Hp}
theorem C6i {J:It} (n:Nat) (Pv:Nat->List V->Hp->Prop) (h0:Pv 0 [] (upd H D (.lst []))) (hgo:∀i ys H,i<n->Pv i ys H->J.go i H) (hst:∀ys H,Pv n ys H->J.stop n H)
  (hs:∀i ys H,i<n->Pv i ys H->∀x H3,J.yld i H x H3->g x σ₀ H3 λσ4 H4=>A2z σ₀ σ4/\te σ4 H4 λy H5=>H5 D=some (.lst ys)/\ys.length<sizeLine/\Pv (i+1) (ys++[y]) (upd H5 D (.lst (ys++[y])))) (hd:∀ys H,Pv n ys H->QD H) :
  ∃W:Nat->Nat->Hp->Prop,(∃m,W 0 m (upd H D (.lst [])))/\∀i m H2,W i m H2->
   (J.stop i H2/\QD H2)\/(J.go i H2/\∃N:VK,(∀y H5,N y H5->∃xs,H5 D=some (.lst xs)/\xs.length<sizeLine/\∃m',m'<m/\W (i+1) m' (upd H5 D (.lst (xs++[y]))))/\
    ∀x H3,J.yld i H2 x H3->g x σ₀ H3 λσ4 H4=>A2z σ₀ σ4/\te σ4 H4 N):=by
 refine ⟨λi m H=>m=n-i/\i<=n/\∃ys,Pv i ys H,⟨n,by simp,Z1e _,[],h0⟩,?_⟩;rintro i m H2 ⟨rfl,hi,ys,p⟩;by_cases hlt:i<n
 ·exact .inr ⟨hgo i ys H2 hlt p,λy H5=>H5 D=some (.lst ys)/\ys.length<sizeLine/\Pv (i+1) (ys++[y]) (upd H5 D (.lst (ys++[y]))),λy H5 z=>⟨ys,z.1,z.2.1,n-(i+1),by lia,rfl,hlt,_,z.2.2⟩,λx H3 z=>hs i ys H2 hlt p x H3 z⟩
 ·have e:i=n:=by lia
  subst e;exact .inl ⟨hst ys H2 p,hd ys H2 p⟩
end
theorem C9d {X:Cx} {K:PySem.W.Frag} (h:X.K=K):IxR X (D9v K):=h▸A1f
theorem C4x {X:Cx} {K:PySem.W.Frag} (h:X.K=K):IxR X (D9w K):=h▸A1e
theorem C4i {K:PySem.W.Frag} {C:Addr} {U:String} {b:Bool} (h:PySem.W.mroIn K C (.type U)=some b) (hm:PySem.W.kitMeta U=true):∀u,A3a (.ty U) u->PySem.W.kitOne K (.ref C) u=some b:=by
 intro u z;cases (show u=Value.type U from z);unfold PySem.W.kitOne;rw [Z0t (show¬(Value.ref C == Value.type U)=true from Z0v)];show (if PySem.W.kitMeta U=true then PySem.W.subIn K (.ref C) (.type U) else none)=some b;rw [Z12 hm];exact h
theorem A1y.or {P:Program} {w:World} {K:PySem.W.Frag} {mg:Str->Option Value} {base:Heap} {CX:CXT} {k:Nat} {f:Addr} {fd:FuncData} {ps:List Str} {sp sp':Sp} (F:A1y P w K mg base CX k f fd ps sp) (F':A1y P w K mg base CX k f fd ps sp') :
  A1y P w K mg base CX k f fd ps (λvs H Q E=>sp vs H Q E\/sp' vs H Q E) :=
 ⟨λvs H Q E q=>q.elim (F.len vs H Q E) (F'.len vs H Q E),λA outer s H args us vs Q E hr he hb hv q=>q.elim (F.run A outer s H args us vs Q E hr he hb hv) (F'.run A outer s H args us vs Q E hr he hb hv)⟩
theorem C1i {kvs:List (Key×V)} {k:Key} {v:V} {p:Key×V} (h:p∈B0b kvs k v):p∈kvs\/p=(k,v):=by
 unfold B0b at h;split at h
 ·obtain ⟨q,hq,e⟩:=Z2c.mp h;split at e
  ·rename_i ek;exact .inr (by rw [<-e,ek])
  ·exact .inl (e▸hq)
 ·rcases Z07.mp h with h | h
  ·exact .inl h
  ·exact .inr (by simpa using h)
section
variable {X:Cx}
noncomputable def PTs (X:Cx) (cs:List Expr) (t:TT):Prop :=
 ∀(pins:List (Addr×Obj)) (s:Shared) (σ:St) (H:Hp) (Q:Bool->Hp->Prop),Inv X pins σ H s->t σ H Q->wpAny (model X.prog X.w) X.A (forIn cs true λc r=>if r=true then do let ok<-isTrue c X.env (eval c X.env);pure (ForInStep.yield ok) else pure (ForInStep.yield r)) (TP X pins σ Q) X.xe s
theorem C1r {i₀:Nat} {x₀:Str} {pos₀ spos:Pos} {elt iter tg:Expr} {cs:List Expr} {scope:Scope} {pos:Pos} {N':List Str} {ix:List (Option Nat)} {cl:List (Str×Addr)} {wi:TI} {g:TG} {tc:TT} {te:TE} (hN₀:X.N.Nodup) (hi₀:X.N[i₀]? =some x₀) (hx₀:Loc X.env.scope x₀) (hc:X.calm=true) (ck:D0q X scope cl) (io:D1s X N' scope ix) (hi:PI X tg iter wi)
  (hg:∀C s₀ H₀ fp,PG (blk X N' scope cl C s₀ H₀ fp) tg g) (ht:∀C s₀ H₀ fp,PTs (blk X N' scope cl C s₀ H₀ fp) cs tc) (he:∀C s₀ H₀ fp,PE (blk X N' scope cl C s₀ H₀ fp) elt te) (R:B4d->St->It->Hp->Prop) (hR:∀D σ J H1,R D σ J H1->∀D2,H1 D2=none->∃W:Nat->Nat->Hp->Prop,(∃m,W 0 m (upd H1 D2 (.lst [])))/\∀i m H2,W i m H2->
   (J.stop i H2/\D.nx (σ.set i₀ (some (.ref D2))) H2)\/(J.go i H2/\∃(N:VK) (M:Hp->Prop),(∀y H5,N y H5->∃xs,H5 D2=some (.lst xs)/\xs.length<sizeLine/\∃m',m'<m/\W (i+1) m' (upd H5 D2 (.lst (xs++[y]))))/\(∀H5,M H5->∃m',m'<m/\W (i+1) m' H5)/\∀x H3,J.yld i H2 x H3->g x (A7g ix σ) H3 λσ4 H4=>A2z (A7g ix σ) σ4/\tc σ4 H4 λb H5=>if b=true then te σ4 H5 N else M H5)) (hs:∀x,foldedSetIterable iter X.env x=pure x:=by intro _;rfl)
  (hsw:swapsWith (.ListComp elt [⟨tg,iter,cs,0⟩] scope pos) (some (.Name x₀ pos₀)) spos.line X.env=pure true:=by rfl) (hf₀:X.fn x₀=true\/X.env.scope.names.lookup x₀=some .local:=by first | exact .inl rfl | exact .inr rfl | assumption) :
  PS X (.Assign [.Name x₀ pos₀] (.ListComp elt [⟨tg,iter,cs,0⟩] scope pos) spos) (λD σ H=>wi σ H (R D σ)):=by
 intro pins s σ H D₀ I h;rw [exec_Assign_Name_used _ _ _ _ hsw];refine Z00 (Z1y (Z00 ?_));show wpAny _ X.A (do let _<-comprehension (.ListComp elt [⟨tg,iter,cs,0⟩] scope pos) scope X.env _ (newList []) false (eval iter X.env) (some (assign (.Name x₀ pos₀) X.env))) _ _ s;refine Z00 (Z10 (wpAny_comprehension_free (use:=some (assign (.Name x₀ pos₀) X.env)) (Q:=λ_ s'=>∃σ' H',Inv X pins σ' H' s'/\D₀.nx σ' H') rfl hs ck.eq ck.kind ck.names (thn (hi pins s σ H _ I h) λxv s1 h1=>thn h1 λitv s2 h2=> ?_)) (λ_ s' hq=>Z04 (Z04 hq)) λ_ _ e=>e);obtain ⟨it,fp,tn,J,H1,rfl,I1,T,st1,f1,R1⟩:=h2;refine Z16 ?_;have hD:H1 s2.heap.objs.size=none:=I1.hok.fresh (Z09 _);obtain ⟨W,⟨m0,w0⟩,turn⟩:=hR _ _ _ _ R1 _ hD;have hfD:∀b∈fp,b<s2.heap.objs.size:=λb hb=>let ⟨o,e,_⟩:=T.obj _ _ st1 b hb;Z0a e;have I2:Inv X pins σ (upd H1 s2.heap.objs.size (.lst [])) { s2 with heap:=s2.heap.push { cls:= .type "list",data:= .seq ([]:List Value).toArray },toks:=s2.toks }:=I1.lnew (its:=[]) .nil (Z1e _);have f2:∀b∈fp,B7h X pins (upd H1 s2.heap.objs.size (.lst [])) b:=λb hb=>⟨by rw [A0l (Z0h (hfD b hb))];exact (f1 b hb).1,(f1 b hb).2⟩
 have lt2:∀b∈fp,b<(s2.heap.push { cls:= .type "list",data:= .seq ([]:List Value).toArray }).objs.size:=λb hb=>by rw [Z1s];exact Nat.lt_succ_of_lt (hfD b hb)
 refine wpAny_newFunctionEnv ck.ncell (by intro y hy;simp at hy) (λh3 hns sb3=> ?_) ck.kind;dsimp only at hns sb3⊢;have k3:∀b o,(s2.heap.push { cls:= .type "list",data:= .seq ([]:List Value).toArray }).get? b=some o->h3.get? b=some o:=λb o e=>(sb3.2 b (Z0h (Z0a e))).trans (Z01 _ e);generalize hs2:({ s2 with heap:=s2.heap.push { cls:= .type "list",data:= .seq ([]:List Value).toArray },toks:=s2.toks }:Shared)=s3 at I2;have e3:s2.heap.push { cls:= .type "list",data:= .seq ([]:List Value).toArray }=s3.heap:=by rw [<-hs2]
 rw [e3] at hns k3 lt2;have I3:=B7a (N':=N') (ix:=ix) I2 ck io f2 lt2 (h':=h3) (t':=s2.toks+([]:List (Str×Value)).length) hns k3;have e4:({ s3 with heap:=h3,toks:=s2.toks+([]:List (Str×Value)).length }:Shared)={ s2 with heap:=h3,toks:=s2.toks+([]:List (Str×Value)).length }:=by rw [<-hs2]
 rw [e4] at I3;have st3:tn 0 h3:=T.keep _ _ _ st1 λb hb o e=>k3 b o (by rw [<-e3];exact Z01 _ e)
 have loop:∀s4:Shared,s4={ s2 with heap:=h3,toks:=s2.toks+([]:List (Str×Value)).length }->
   codeAny (model X.prog X.w) X.A (.compLoop (.ListComp elt [⟨tg,iter,cs,0⟩] scope pos) 0 (.ref it) (.ref s2.heap.objs.size) (compEnvC scope cl s3.heap.objs.size X.env))
    (compPost (model X.prog X.w) X.A X.xe (some (assign (.Name x₀ pos₀) X.env)) (λ_ s'=>∃σ' H',Inv X pins σ' H' s'/\D₀.nx σ' H') (.ref s2.heap.objs.size) s3.heap.objs.size) s4:=by
  rintro s4 rfl
  have stat:∀{H':Hp},(∀b∈fp,H' b=none)->∀b∈fp,B7h (blk X N' scope cl s3.heap.objs.size s3 (upd H1 s2.heap.objs.size (.lst [])) fp) [] H' b:=λhn b hb =>
   ⟨hn b hb,Z0h (lt2 b hb),λhs=>I3.ok.exfs b hb hs,.inl hb,λx c e=>(f2 b hb).2.2.2.2.1 x c (ck.sub x c e),(λp hp=>by cases hp)⟩
  refine codeAny_loop rfl (λn s'=>∃i σ' H',Inv (blk X N' scope cl s3.heap.objs.size s3 (upd H1 s2.heap.objs.size (.lst [])) fp) [] σ' H' s'/\(∀(j:Nat) v,(A7g ix σ)[j]? =some (some v)->σ'[j]? =some (some v))/\tn i s'.heap/\(∀b∈fp,H' b=none)/\W i n H')
   (λn s' hI=> ?_) m0 ⟨0,_,_,I3,λ_ _ z=>z,st3,λb hb=>(f2 b hb).1,w0⟩
  obtain ⟨i,σ5,H5,I5,wk,st5,fr5,w5⟩:=hI;show wpAny _ _ ((compTurn (.ListComp elt [⟨tg,iter,cs,0⟩] scope pos) 0 (.ref it) (.ref s2.heap.objs.size) (compEnvC scope cl s3.heap.objs.size X.env)).onRaise (λx=>do noteFrame x (compEnvC scope cl s3.heap.objs.size X.env);theTreesLotGoes x)) _ _ s';refine wpAny_noted ?_;rw [compTurn_list];refine Z00 (Z1y ?_);rcases turn i n H5 w5 with ⟨stop,qn⟩ | ⟨go,NN,MM,hNN,hMM,step⟩
  ·refine Z00 (Z10 (T.done (blk X N' scope cl s3.heap.objs.size s3 (upd H1 s2.heap.objs.size (.lst [])) fp) rfl rfl rfl hc i [] s' σ5 H5 (λ_ _=>False) I5 (stat fr5) st5 stop) (λr s6 h6=> ?_) λ_ _ z=>z.elim);obtain ⟨rfl,I6⟩:=h6;refine Z04 ?_;obtain ⟨mm,hm,_⟩:=id I6.loc;have fC:B7h X pins H5 s3.heap.objs.size:=I2.fpOk (Z09 _) I6.free;have Io:Inv X pins σ H5 s6:=C4s I2 f2 I6 (Heap.SameBut.refl _ _);show wpAny _ X.A (assign (.Name x₀ pos₀) X.env (.ref s2.heap.objs.size)) _ _ s6;refine wpAny_assign_Name (B2l Io hN₀ hi₀ hx₀ (v:= .ref s2.heap.objs.size) rfl (λs7 I7 sb7=> ?_) hf₀);obtain ⟨a,sb,ha⟩:=sb7
   have ca:s3.heap.objs.size≠a:=by
    rcases ha with ha | ha
    ·rw [ha];exact fC.2.1
    ·exact λz=>fC.2.2.2.2.1 _ _ ha z.symm
   obtain ⟨oC,es,ep,ho,r⟩:=hm;exact ⟨mm,⟨oC,es,ep,(sb.2 _ ca).trans ho,r⟩,λh' sb'=>⟨_,H5,I7.turned (t':=s7.toks) (λb o hb e=>(sb'.2 b hb).trans e) fC.1 fC.2.1 fC.2.2.2.1 fC.2.2.2.2.1 fC.2.2.2.2.2,qn⟩⟩
  ·refine Z00 (Z10 (T.item (blk X N' scope cl s3.heap.objs.size s3 (upd H1 s2.heap.objs.size (.lst [])) fp) rfl rfl rfl hc i [] s' σ5 H5 (λ_ _=>False) I5 (stat fr5) st5 go) (λr s6 h6=> ?_) λ_ _ z=>z.elim);obtain ⟨u,rfl,h6⟩:=h6;refine Z00 (Z10 h6 (λ_ s7 h7=> ?_) λ_ _ z=>z.elim);obtain ⟨x,H7,I7,r7,y7,st7,fr7⟩:=h7;have I7w:Inv (blk X N' scope cl s3.heap.objs.size s3 (upd H1 s2.heap.objs.size (.lst [])) fp) [] (A7g ix σ) H7 s7:=I7.weak (by rw [I7.len];unfold A7g;rw [Z08];exact io.1) wk;have I7p:=I7w.pinned (stat fr7) (T.obj _ _ st7);refine Z00 (Z10 (hg _ _ _ _ _ s7 _ H7 x u _ I7p r7 (step x H7 y7)) (λ_ s8 h8=> ?_) λ_ _ z=>z.elim);obtain ⟨σ8,H8,I8,kp8,q8⟩:=h8
   have back:∀{s10:Shared} {σ10:St} {H10:Hp} {m':Nat},Inv (blk X N' scope cl s3.heap.objs.size s3 (upd H1 s2.heap.objs.size (.lst [])) fp) ([]++B8i fp s7.heap) σ10 H10 s10->(∀(j:Nat) v,(A7g ix σ)[j]? =some (some v)->σ10[j]? =some (some v))->W (i+1) m' H10->
     ∃i σ' H',Inv (blk X N' scope cl s3.heap.objs.size s3 (upd H1 s2.heap.objs.size (.lst [])) fp) [] σ' H' s10/\(∀(j:Nat) v,(A7g ix σ)[j]? =some (some v)->σ'[j]? =some (some v))/\tn i s10.heap/\(∀b∈fp,H' b=none)/\W i m' H':=by
    intro s10 σ10 H10 m' I10 kk w10;refine ⟨i+1,σ10,H10,I10.unpinned,kk,T.keep _ _ _ st7 λb hb o e=>(I10.pin (b,o) (Z02 _ (Z02 _ (A4v hb e)))).1,λb hb=> ?_,w10⟩;obtain ⟨o,e,d⟩:=T.obj _ _ st7 b hb;exact (I10.pin (b,o) (Z02 _ (Z02 _ (A4v hb e)))).2.1
   refine Z00 (Z10 (ht _ _ _ _ _ s8 σ8 H8 _ I8 q8) (λok s9' h9'=> ?_) λ_ _ z=>z.elim);obtain ⟨H9',I9',q9'⟩:=h9'
   cases ok with
   | false =>
    have q9'':MM H9':=by simpa using q9'
    obtain ⟨m',hm',w9⟩:=hMM _ q9'';exact Z00 (Z04 (Z04 ⟨rfl,m',hm',back I9' kp8.get w9⟩))
   | true =>
    have q9'':te σ8 H9' NN:=by simpa using q9'
    refine Z00 (Z00 (Z10 (he _ _ _ _ _ s9' σ8 H9' _ I9' q9'') (λyv s9 h9=> ?_) λ_ _ z=>z.elim));obtain ⟨y,H9,I9,r9,n9⟩:=h9;obtain ⟨xs,hx9,hz9,m',hm',w9⟩:=hNN _ _ n9;refine Z00 (Z10 (A1n (X:=blk X N' scope cl s3.heap.objs.size s3 (upd H1 s2.heap.objs.size (.lst [])) fp) _ s9 σ8 H9 (.ref s2.heap.objs.size) [y] (.ref s2.heap.objs.size) [yv] (λ_ H'=>W (i+1) m' H') I9 rfl (.cons r9 .nil) ⟨_,xs,y,rfl,rfl,hx9,hz9,w9⟩) (λ_ s10 h10=> ?_) λ_ _ z=>z.elim);obtain ⟨_,H10,I10,_,w10⟩:=h10;exact Z04 (Z04 ⟨rfl,m',hm',back I10 kp8.get w10⟩)
 have e5:s3.heap.objs.size=(s2.heap.push { cls:= .type "list",data:= .seq ([]:List Value).toArray }).objs.size:=by rw [e3]
 rw [e5] at loop;exact codeAny_compStart_list (loop _ rfl) (T.self X.A 0 _ _ _ st3 (loop _ rfl))
theorem D2k {i₀:Nat} {x₀:Str} {pos₀ spos:Pos} {elt iter tg:Expr} {scope:Scope} {pos:Pos} {N':List Str} {ix:List (Option Nat)} {cl:List (Str×Addr)} {wi:TI} {g:TG} {te:TE} (hN₀:X.N.Nodup) (hi₀:X.N[i₀]? =some x₀) (hx₀:Loc X.env.scope x₀) (hc:X.calm=true) (ck:D0q X scope cl) (io:D1s X N' scope ix) (hi:PI X tg iter wi)
  (hg:∀C s₀ H₀ fp,PG (blk X N' scope cl C s₀ H₀ fp) tg g) (he:∀C s₀ H₀ fp,PE (blk X N' scope cl C s₀ H₀ fp) elt te) (hs:∀x,foldedSetIterable iter X.env x=pure x:=by intro _;rfl)
  (hsw:swapsWith (.ListComp elt [⟨tg,iter,[],0⟩] scope pos) (some (.Name x₀ pos₀)) spos.line X.env=pure true:=by rfl) (hf₀:X.fn x₀=true\/X.env.scope.names.lookup x₀=some .local:=by first | exact .inl rfl | exact .inr rfl | assumption) :
  PS X (.Assign [.Name x₀ pos₀] (.ListComp elt [⟨tg,iter,[],0⟩] scope pos) spos) (D7s (D6h ix wi g te) (D0f i₀)) :=
 C1r (tc:=λ_ H Q=>Q true H) hN₀ hi₀ hx₀ hc ck io hi hg (λ_ _ _ _ _ _ _ _ _ I h=>wpAny_tests_nil ⟨_,I,h⟩) he _ (λ_ _ _ _ R D2 hD=>by
  obtain ⟨W,w0,turn⟩:=R D2 hD;refine ⟨W,w0,λi m H2 w=>(turn i m H2 w).imp id λ⟨go,N,hN,step⟩=>⟨go,N,λ_=>False,hN,λ_ z=>z.elim,?_⟩⟩
  simpa using step) hs hsw hf₀
theorem C4t {i₀:Nat} {x₀:Str} {pos₀ spos:Pos} {elt iter tg c:Expr} {scope:Scope} {pos:Pos} {N':List Str} {ix:List (Option Nat)} {cl:List (Str×Addr)} {wi:TI} {g:TG} {tc:TT} {te:TE} (hN₀:X.N.Nodup) (hi₀:X.N[i₀]? =some x₀) (hx₀:Loc X.env.scope x₀) (hc:X.calm=true) (ck:D0q X scope cl) (io:D1s X N' scope ix) (hi:PI X tg iter wi)
  (hg:∀C s₀ H₀ fp,PG (blk X N' scope cl C s₀ H₀ fp) tg g) (ht:∀C s₀ H₀ fp,PT (blk X N' scope cl C s₀ H₀ fp) c tc) (he:∀C s₀ H₀ fp,PE (blk X N' scope cl C s₀ H₀ fp) elt te) (hs:∀x,foldedSetIterable iter X.env x=pure x:=by intro _;rfl)
  (hsw:swapsWith (.ListComp elt [⟨tg,iter,[c],0⟩] scope pos) (some (.Name x₀ pos₀)) spos.line X.env=pure true:=by rfl) (hf₀:X.fn x₀=true\/X.env.scope.names.lookup x₀=some .local:=by first | exact .inl rfl | exact .inr rfl | assumption) :
  PS X (.Assign [.Name x₀ pos₀] (.ListComp elt [⟨tg,iter,[c],0⟩] scope pos) spos) (D7s (D4n ix wi g tc te) (D0f i₀)) :=
 C1r hN₀ hi₀ hx₀ hc ck io hi hg (λC s₀ H₀ fp pins s σ H Q I h=>wpAny_tests_one (ht C s₀ H₀ fp pins s σ H Q I h)) he _ (λ_ _ _ _ R=>R) hs hsw hf₀
end
theorem A1v.at18 {P:Program} {w:World} {H:Hp} {h:Heap} {a:Addr} {o:HO} (x:A1v P w H h a o):∃u,h.get? a=some u:=by
 cases o with
 | lst xs=>obtain ⟨_,_,_,_,e⟩:=x;exact ⟨_,e⟩
 | tup xs=>obtain ⟨_,_,_,o,e,_⟩:=x;exact ⟨_,e⟩
 | dK kvs=>obtain ⟨_,_,_,_,o,_,_,e,_⟩:=x;exact ⟨_,e⟩
 | dT kvs=>obtain ⟨_,_,_,_,o,_,_,e,_⟩:=x;exact ⟨_,e⟩
 | set S n=>obtain ⟨o,_,_,_,e,_⟩:=x;exact ⟨_,e⟩
 | ins C dx fs=>obtain ⟨_,_,_,e,_⟩:=x;exact ⟨_,e⟩
 | own y=>obtain ⟨_,e⟩:=x;exact ⟨_,e⟩
 | xd fs=>obtain ⟨_,⟨_,_,_,e,_⟩,_⟩:=x;exact ⟨_,e⟩
 | rng lo hi=>obtain ⟨_,_,_,e⟩:=x;exact ⟨_,e⟩
 | frz ob u=>obtain ⟨e,_⟩:=x;exact ⟨_,e⟩
 | tbl ps=>exact ⟨_,(show h.get? a=some _ from x)⟩
 | met f y=>exact ⟨_,(show h.get? a=some _ from x)⟩
 | ext φ=>obtain ⟨_,⟨_,e⟩,_⟩:=x;exact ⟨_,e⟩
section
variable {X:Cx} {pins:List (Addr×Obj)} {σ:St} {H1 H':Hp} {s1:Shared} {B h1 h':Heap}
theorem D6w (I:Inv X pins σ H1 s1) (hx:X.ex=[]) (u:Un (frs X.stack) [] H1 H' s1.heap h1) (hb1:∀b o,s1.heap.get? b=some o->b∉frs X.stack->∃o',B.get? b=some o') (hst:B.StaysIn h1) (hst':B.StaysIn h') (up:h1.UpToSlots h') :
  Un X.fs [] X.H₀ H' X.s₀.heap h'/\∀b o,X.s₀.heap.get? b=some o->b∉X.fs->∃o',B.get? b=some o':=by
 have a:Un X.fs [] X.H₀ H1 X.s₀.heap s1.heap:=by
  have z:=I.base;rw [hx] at z;exact z
 have no:∀b:Addr,b∉([]:List Addr):=λb=>by simp
 have nst:∀b o,X.s₀.heap.get? b=some o->b∉X.fs->b∉frs X.stack:=λb o e hb m =>
  (Z0e.mp (I.stkSub b m)).elim (Z0h (Z0q (Z0a e) I.ok.above)) hb
 have B1:∀b o,X.s₀.heap.get? b=some o->b∉X.fs->∃o',B.get? b=some o':=λb o e hb=>by
  obtain ⟨o1,e1⟩:=a.there b o e (no b);exact hb1 b o1 e1 (nst b o e hb)
 have slot:∀b o,X.s₀.heap.get? b=some o->X.H₀ b=none->b∈X.fs->∃sl,h'.get? b=some { o with slots:=sl }:=λb o e n hb=>by
  obtain ⟨sl,e1⟩:=a.slot b o e n hb (no b);obtain ⟨sl2,e2⟩:=u.any e1 (a.free b o e n (no b)) (no b);obtain ⟨_,of,ho,hd⟩:=I.ok.funs.mem hb;rw [e] at ho;cases ho;obtain ⟨sl3,e3⟩:=up b _ e2 hd;exact ⟨sl3,e3⟩
 refine ⟨⟨λb o e n hb _=> ?_,λb o e n hb _=>slot b o e n hb,λb o e n _=> ?_,λb o e _=> ?_,λb xs e=>u.tups b xs (a.tups b xs e),λb o v e=>u.frzs b o v (a.frzs b o v e),λb ps e=> ?_⟩,B1⟩
 ·have e2:=u.keep b o (a.keep b o e n hb (no b)) (a.free b o e n (no b)) (nst b o e hb) (no b);obtain ⟨o',eB⟩:=B1 b o e hb;have e3:=hst b o' eB;rw [e2] at e3;cases e3;exact hst' b o eB
 ·obtain ⟨o1,e1⟩:=a.there b o e (no b);exact u.free b o1 e1 (a.free b o e n (no b)) (no b)
 ·by_cases hb:b∈X.fs
  ·obtain ⟨sl,q⟩:=slot b o e (I.ok.frf b hb) hb;exact ⟨_,q⟩
  ·obtain ⟨o',eB⟩:=B1 b o e hb;exact ⟨o',hst' b o' eB⟩
 ·obtain ⟨m1,e1⟩:=a.tbls b ps e;obtain ⟨m2,e2⟩:=u.tbls b _ e1;exact ⟨m1++m2,by rw [e2,Array.append_assoc]⟩
theorem B7s {P:Program} {w:World} (ok:HOk P w H' h1) (b2:∀b o,H' b=some o->∃o',B.get? b=some o') (hst:B.StaysIn h1) (hst':B.StaysIn h'):HOk P w H' h':=λa o e =>
 (ok a o e).stay (λb u hb q=>by
  have:∃o',B.get? b=some o':=by
   rcases hb with rfl | hb
   ·exact b2 _ _ e
   ·exact b2 _ _ hb
  obtain ⟨o',eB⟩:=this;have z:=hst b o' eB;rw [q] at z;cases z
  exact hst' b u eB) (λ_ q=>q) λ_ _ q=>q
end
section
variable {P:Program} {w:World} {K:PySem.W.Frag} {mg:Str->Option Value} {base:Heap} {N:List Str} {qual:Str} {scope:Scope} {f:Addr} {cd:Value} {A:Around} {outer:List Env} {s:Shared} {H:Hp} {E:XK}
end
abbrev D8b:List Value:=[.type "ValueError",.type "Exception",.type "BaseException",.type "object"]
abbrev Cx.held (X:Cx) (ea:Addr):Cx:={ X with A:=X.A.mark (some (.ref ea)),calm:=false,xe:=λ_ _=>False }
theorem Cx.Ok.held {X:Cx} (ok:X.Ok) (ea:Addr):(X.held ea).Ok :=
 ⟨ok.mod,ok.kind,ok.glob,ok.blt,ok.above,ok.inj,ok.has,ok.cab,λz=>(by cases z),ok.frames,ok.stk,ok.exf,ok.bs,ok.bsz,ok.noex,ok.exfs,ok.funs,ok.frf⟩
section
variable {X:Cx} {pins:List (Addr×Obj)} {σ:St} {H H1:Hp} {s s1:Shared} {ea C:Addr} {a0:Value} {B:Heap}
theorem Inv.held (I:Inv X pins σ H s) (ea:Addr):Inv (X.held ea) pins σ H s:=⟨I.ok.held ea,I.os,I.bare,I.base,I.loc,I.cell,I.free,I.freeC,I.pin,I.hok,I.len⟩
theorem Inv.unheld (I:Inv (X.held ea) pins σ H s) (ok:X.Ok):Inv X pins σ H s:=⟨ok,I.os,I.bare,I.base,I.loc,I.cell,I.free,I.freeC,I.pin,I.hok,I.len⟩
theorem A9u {M:Model} {A:Around} {E:Value->Shared->Prop} {i:Nat} {x:Str} {pos:Pos} {Q:Unit->Shared->Prop} (I:Inv X pins σ H s) (hN:X.N.Nodup) (hi:X.N[i]? =some x) (hx:X.env.scope.names.lookup x=some .local)
  (h:∀s',Inv X pins (σ.set i none) H s'->Q () s'):wpAny M A (do bindName X.env x .none;unbindBehindTheSuite X.env x pos) Q E s:=by
 refine Z00 (wpAny_bindName (A8d (v:= .non) (u:= .none) I hN hi (.inl hx) rfl (λs1 I1=> ?_) (.inr hx)));unfold unbindBehindTheSuite;refine wpAny_onRaise ?_;obtain ⟨m,hn,hl⟩:=id I1.loc;have hcls:(X.env.scope.kind == .class||(X.env.scope.kind == .module&&X.env.locals != X.env.globals))=false:=by rw [I1.ok.kind];rfl
 have hiσ:i<σ.length:=by rw [I.len];exact (Z03.mp hi).1
 have cne:=I1.cne;have hk:X.env.kindOf x=some .local:=hx;obtain ⟨u,ru,hu⟩:=hl i x .non hi (Z23 hiσ) (.inl hx)
 have hm:m x=some u:=by
  rcases hu with ⟨_,e⟩ | ⟨k,_⟩
  ·exact e
  ·rw [hk] at k;rcases k with k | k <;> cases k
 refine wpAny_unbindName_local hk hn hm hcls λh' v hn' hs=> ?_;obtain ⟨oL,_,_,hoL,_⟩:=id hn;refine h _ ⟨I1.ok,I1.os,I1.bare,⟨λb o e n hb hx=> ?_,λb o e n hb hx=> ?_,I1.base.free,λb o e hx=> ?_,I1.base.tups,I1.base.frzs,I1.base.tbls⟩,⟨_,hn',λj y v' e1 e2 e3=> ?_⟩,λy c e=> ?_,I1.free,I1.freeC,λp hp=> ?_,λb ob e=> ?_,by simpa using I.len⟩
 ·exact (hs.2 b (Z0h (Z0q (Z0a e) I1.ok.above))).trans (I1.base.keep b o e n hb hx)
 ·obtain ⟨sl,e1⟩:=I1.base.slot b o e n hb hx;exact ⟨sl,(hs.2 b (Z0h (Z0q (Z0a e) I1.ok.above))).trans e1⟩
 ·obtain ⟨o',e1⟩:=I1.base.there b o e hx;exact ⟨o',(hs.2 b (Z0h (Z0q (Z0a e) I1.ok.above))).trans e1⟩
 ·by_cases hj:j=i
  ·subst hj;rw [Z23 hiσ] at e2;cases e2
  ·rw [Z2a (Ne.symm hj)] at e2;obtain ⟨u',r',q⟩:=hl j y v' e1 (by rw [Z2a (Ne.symm hj)];exact e2) e3;refine ⟨u',r',?_⟩;rcases q with ⟨k,e⟩ | ⟨k,c,e,z⟩
   ·refine .inl ⟨k,?_⟩;have:y≠x:=λe=>hj (B1p hN e1 (e▸hi));simp [this,e]
   ·exact .inr ⟨k,c,e,z.sameBut hs (cne y c e)⟩
 ·obtain ⟨w',z⟩:=I1.cell y c e;exact ⟨w',z.sameBut hs (cne y c e)⟩
 ·obtain ⟨e,n,ne,nf,d⟩:=I1.pin p hp;exact ⟨(hs.2 p.1 ne).trans e,n,ne,nf,d⟩
 ·refine (I1.hok b ob e).stay (λc w' hc q=>(hs.2 c ?_).trans q) (λ_ q=>q) λ_ _ q=>q;rintro rfl;rcases hc with rfl | hc
  ·rw [I1.free] at e;cases e
  ·rw [I1.free] at hc;cases hc
noncomputable def xcF (ea C:Addr):Heap->Prop:=λh=>∃o vs,h.get? ea=some o/\o.cls= .ref C/\o.data= .fields vs
structure C2x (X:Cx) (pins:List (Addr×Obj)) (σ:St) (H1:Hp) (s1:Shared) (H:Hp) (B:Heap) (ea C:Addr) (a0:Value) (s:Shared):Prop where
 i1:Inv X pins σ H1 s1
 os:s.os=s1.os
 bare:AllBare s.gens
 un:Un (frs X.stack) [] H1 H s1.heap s.heap
 hok:HOk X.prog X.w H s.heap
 b1:∀b o,s1.heap.get? b=some o->b∉frs X.stack->∃o',B.get? b=some o'
 b2:∀b o,H b=some o->∃o',B.get? b=some o'
 fl:Heap.FlyingW B X.stack ea (.ref C) a0 s.heap
theorem C2x.new (F:C2x X pins σ H1 s1 H B ea C a0 s):s1.heap.get? ea=none:=by
 cases q:s1.heap.get? ea with
 | none=>rfl
 | some o =>
  by_cases hb:ea∈frs X.stack
  ·obtain ⟨sl,e1⟩:=F.un.slot ea o q (F.i1.stkFree ea hb) hb (by simp);obtain ⟨_,of,ho,hd⟩:=F.i1.stack.mem hb;rw [q] at ho;cases ho;obtain ⟨oe,vs,e2,_,e3,_⟩:=F.fl.first;rw [e1] at e2;cases e2;exact absurd e3 (hd vs)
  ·obtain ⟨o',eB⟩:=F.b1 ea o q hb;rw [F.fl.2.1] at eB;cases eB
theorem C2x.no (F:C2x X pins σ H1 s1 H B ea C a0 s):H ea=none:=by
 cases q:H ea with
 | none=>rfl
 | some o =>
  obtain ⟨o',eB⟩:=F.b2 ea o q;rw [F.fl.2.1] at eB;cases eB
end
section
variable {X:Cx} {C C':Addr} {y n:Str} {yp hpos:Pos} {b₀:Stmt} {suite:List Stmt} {rest:List ExceptHandler} {th:Addr->TS} {i:Nat}
theorem D1u {M:Model} {K:PySem.W.Frag} {h:Heap} {ea:Addr} {c:Value} {b:Bool} (X:K.In h) (hx:xcF ea C h) (e:PySem.W.exmOne K (.ref C) c=some b):PySem.W.Looks M h (excMatches (.ref ea) c) b:=by
 obtain ⟨o,vs,ho,hc,_⟩:=hx
 have LT:PySem.W.Looks M h (typeOf (.ref ea)) (.ref C):=by
  have z:PySem.W.Looks M h (typeOf (.ref ea)) o.cls:=(PySem.W.Looks.ld ho).andThen .now;rw [hc] at z;exact z
 exact PySem.W.exm_one X LT e
end
abbrev TX:=St->Hp->VK->XK->Prop
noncomputable def D1f (sp:Sp) (t:TA):TX:=λσ H Q E=>t σ H λvs H1=>sp vs H1 Q E
section
variable {X:Cx} {k:Nat} {f:Addr} {fd:FuncData} {ps:List Str} {sp:Sp} {x:Str} {p pos:Pos} {e:Expr} {es:List Expr} {t:TA}
end
section
variable {X:Cx} {hs:List ExceptHandler} {h₀:ExceptHandler} {e:Expr} {tx:TX} {pos epos npos:Pos} {i:Nat} {n:Str}
end
section
variable {P:Program} {w:World} {K:PySem.W.Frag} {mg:Str->Option Value} {base:Heap}
end
theorem B6h {X:Cx} {x:Str} {v:V} {pos:Pos} (h:∃u,X.mg x=some u/\A3a v u) (hg:Gl X x) (hd:(x == ("__debug__":Str))=false:=by decide):PE X (.Name x pos) (tC v):=by
 obtain ⟨u,hm,r⟩:=h;exact λ_ _ _ H _ I q=>A5p I hg hm ⟨v,H,I,r,q⟩ hd
theorem D6b {K:PySem.W.Frag} {C D:Addr} {b:Bool} (hb:PySem.W.mroIn K D (.type "BaseException")=some true) (h1:PySem.W.isClsIn K D=true) (h2:PySem.W.typeIn K (.ref D)=some (.type "type")) (h3:PySem.W.mroIn K C (.ref D)=some b) :
  PySem.W.exmOne K (.ref C) (.ref D)=some b:=by
 unfold PySem.W.exmOne;have e:PySem.W.subIn K (.ref D) (.type "BaseException")=some true:=hb;have h1':(PySem.W.clsIn K D).isSome=true:=h1;rw [Z12 (by rw [e];rfl)];show (if ((PySem.W.clsIn K D).isSome&&PySem.W.typeIn K (.ref D) == some (.type "type"))=true then PySem.W.subIn K (.ref C) (.ref D) else none)=some b;rw [Z12 (by rw [h1',h2];rfl)];exact h3
end L2
namespace PySem.W
open PySem PySem.Spec PySem.Calls PyProof.Rows PySem.Builtin.ObjectAttr
structure XcIn (K:Frag) (C:Addr):Prop where
 ga:findIn K (.ref C) "__getattribute__"=some (some (.builtin "BaseException.__getattribute__"))
 gt:findIn K (.ref C) "__getattr__"=some none
 mB:mroIn K C (.type "BaseException")=some true
 mO:mroIn K C (.type "object")=some true
 cl:findIn K (.ref C) "__class__"=some (some (.builtin "object.__class__"))
 sp:specialIn K (.builtin "object.__class__") "__get__"=some (some (.builtin "getset_descriptor.__get__"))
 tk:takesIn K (.builtin "object.__class__")=some true
section
variable {prog:Program} {w:World} {A:Around} {E:Value->Shared->Prop} {h:Heap} {g:Array GenState} {d:Drawn} {t:Nat} {os:OsState} {a C:Addr} {o:Obj} {K:Frag} {name:Str}
theorem C8q {M:Model} {nv:Value} {Q:Unit->Shared->Prop} (X:K.In h) (c:XcIn K C) (ho:h.get? a=some o) (ok:o.cls= .ref C) (hq:Q () ⟨h,g,d,t,os⟩) :
  wpAny M A (checkBuiltinCall "BaseException.__getattribute__" ⟨[.ref a,nv],[]⟩) Q E ⟨h,g,d,t,os⟩:=by
 have sub:=looks_mroIn (M:=M) X c.mB;have ar:=F.args_bexc_ga (.ref a) nv;simp only [checkBuiltinCall,(by decide +kernel:builtinKind "BaseException.__getattribute__"=some .slot),(by decide +kernel:splitId "BaseException.__getattribute__"=some ("BaseException","__getattribute__"))];refine Z00 ?_;unfold isInstance
 repeat (first | (with_reducible refine Z1k ho ?_;rw [ok]) | (with_reducible refine sub.at ?_) | wp_step)
 exact hq
theorem D8j {tk:Tok} {fill expr:Bool} {v:Value} {Q:Value->Shared->Prop} (X:K.In h) (c:XcIn K C) (ho:h.get? a=some o) (ok:o.cls= .ref C)
  (hq:∀(A:Around) (R:Result->Shared->Prop),R (.ok (.ret v)) ⟨h,g,d,t,os⟩->codeAny (model prog w) A (.call (.builtin "BaseException.__getattribute__") ⟨[.ref a,.str name tk],[]⟩) R ⟨h,g,d,t,os⟩) (hh:handedIn v=true) (hQ:Q v ⟨h,g,d,t,os⟩) :
  wpAny (model prog w) A (getAttrBy (.ref a) (.str name tk) fill expr) Q E ⟨h,g,d,t,os⟩:=by
 have b:=F.attr_ValueError.ga.bind (.ref a);have L1:=looks_findIn (M:=model prog w) X c.ga;have L2:=looks_findIn (M:=model prog w) X c.gt;have n1:(Value.builtin "BaseException.__getattribute__" == Value.builtin "object.__getattribute__")=false:=by decide +kernel
 have n2:(onTheHeap (Value.ref C)&&Value.builtin "BaseException.__getattribute__" == Value.builtin "object.__getattribute__")=false:=by simp [n1]
 have n3:(expr&&onTheHeap (Value.builtin "BaseException.__getattribute__"))=false:=Bool.and_eq_false_iff.mpr (.inr rfl)
 repeat (any_goals (first | assumption | (with_reducible refine Z1k ho ?_;rw [ok]) | (with_reducible refine L1.at ?_) | (with_reducible refine L2.at ?_) | wp_step))
 refine hq _ _ ?_
 repeat (any_goals (first | assumption | wp_step))
 show wpAny _ _ (handedOut v) _ _ _;rw [handedOut_of hh];exact Z04 hQ
end
end PySem.W
namespace L2
open PySem PySem.Spec PyProof.Rows
section
variable {X:Cx}
end
noncomputable def D7k (K:PySem.W.Frag) (a:Addr):It :=
 ⟨λi H=>∃xs x,SqL K H a xs/\xs[i]? =some x,
  λi H v H'=>∃p,H p=none/\v= .ref p/\∃x,(∀xs,SqL K H a xs->xs[i]? =some x)/\H'=upd H p (.tup [.int (i:Nat),x]),
  λi H=>∃xs,SqL K H a xs/\xs.length<=i⟩
noncomputable def EnSt (e it a:Addr) (i:Nat) (h:Heap):Prop:=(∃old,IsEnum h e it (i:Nat) old)/\h.IsListIter it a i
theorem C4u {P:Program} {w:World} {K:PySem.W.Frag} {elts:List Expr} {kk:Nat} {pos:Pos} {e it a:Addr} (ne:e≠it):D0k P w K (.Tuple elts kk pos) (D7k K a) [e,it] e (EnSt e it a) where
 mem:=by simp
 obj:=λi h st c hc=>by
  obtain ⟨⟨old,h1⟩,h2⟩:=st;simp only [Z0e,Z1i,or_false] at hc;rcases hc with rfl | rfl
  ·exact ⟨_,h1,λv z=>by cases (show Data.fields _=Data.cell v from z)⟩
  ·obtain ⟨o,ho,_,hd⟩:=h2;exact ⟨o,ho,λv z=>by rw [hd] at z;cases z⟩
 keep:=λi h h' st k=>by
  obtain ⟨⟨old,h1⟩,h2⟩:=st;exact ⟨⟨old,k e (by simp) _ h1⟩,h2.at λo z=>k it (by simp) o z⟩
 item:=by
  intro X hP hw hK hc i pins s σ H E I hf st hg;subst hP hw hK;obtain ⟨xs,x,hq,hx⟩:=hg;obtain ⟨its,rv,p1,_⟩:=I.list hq;obtain ⟨u,hu,ru⟩:=rv.get hx;obtain ⟨⟨old,h1⟩,h2⟩:=st;refine wpAny_pyNext_enum_item h1 h2 p1.isList (x:=u) (by simpa using hu) ne λh' z1 z2 z3 z4 kp=> ?_;refine ⟨_,rfl,wpAny_letOwnedTupleGo_enum (s:={ s with heap:=h',toks:=s.toks+1 }) z1 λg zg sb=> ?_⟩
  have nz:s.heap.objs.size≠e:=Z1q (Z0a h1);have n2:it<s.heap.objs.size:=let ⟨_,q,_⟩:=h2;Z0a q;have tq:g.get? s.heap.objs.size=some { cls:= .type "tuple",data:= .seq #[.int i s.toks,u] }:=sb.extBut _ _ nz z3
  have I1:Inv X pins σ (upd H s.heap.objs.size (.tup [.int (i:Nat),x])) { s with heap:=g,toks:=s.toks+1 }:=I.turnedNew (ts:=[e,it]) (λc o hc q=>by
   simp only [Z0e,Z1i,or_false,not_or] at hc
   exact sb.extBut _ _ hc.1 (kp c o hc.1 hc.2 q)) hf (Z09 _) ⟨by show 2<=sizeLine;decide,[.int i s.toks,u],.cons ⟨_,rfl⟩ (.cons ru .nil),⟨_,tq,rfl,_,rfl⟩⟩
  refine ⟨.ref s.heap.objs.size,_,I1,rfl,⟨_,I.hok.fresh (Z09 _),rfl,x,λzs hz=>by rw [I.list_inj hz hq];exact hx,rfl⟩,⟨⟨_,zg⟩,z2.at λo q=>sb.extBut _ _ ne.symm q⟩,λc hc=> ?_⟩
  have hcn:c≠s.heap.objs.size:=by
   simp only [Z0e,Z1i,or_false] at hc;rcases hc with rfl | rfl
   ·exact nz.symm
   ·exact Z0h n2
  rw [A0l hcn];exact (hf c hc).1
 done:=by
  intro X hP hw hK hc i pins s σ H E I hf st hg;subst hP hw hK;obtain ⟨xs,hq,hx⟩:=hg;obtain ⟨its,rv,p1,_⟩:=I.list hq;have e1:=rv.length;obtain ⟨⟨old,h1⟩,h2⟩:=st;refine wpAny_pyNext_enum_end (I.ok.hd hc) h1 h2 p1.isList (by simp;lia) λh' kp=>⟨rfl,?_⟩
  exact I.turnedL (t':=s.toks) (ts:=[e,it]) (λc o hc q=>by
   simp only [Z0e,Z1i,or_false,not_or] at hc
   exact kp c o hc.2 q) hf
 self:=λ_ _ _ _ _ st h=>by
  obtain ⟨⟨old,h1⟩,_⟩:=st;exact wpAny_pyIter_enum h1 h
noncomputable def D9a (K:PySem.W.Frag) (ta:TA):TI:=λσ H R=>ta σ H λvs H1=>∃a xs,vs=[.ref a]/\SqL K H1 a xs/\R (D7k K a) H1
theorem C3u {X:Cx} {elts:List Expr} {kk:Nat} {tpos:Pos} {a:Expr} {ta:TA} {p pos:Pos} (hg:Gl X "enumerate") (hm:X.mg "enumerate"=none) (ha:PA X [a] ta) (hs:starEach [a] X.env=[(false,eval a X.env)]:=by rfl) :
  PI X (.Tuple elts kk tpos) (.Call (.Name "enumerate" p) [a] [] pos) (D9a X.K ta):=by
 intro pins s σ H R I h;refine Call_ (A5v I hg hm boot_enumerate (PyProof.Rows.callWith_type1 (thn (ha pos pins s σ H _ I h) λus s1 ⟨vs,H1,I1,r1,q1⟩=> ?_) (by rw [hs];rfl) (by rfl)));obtain ⟨l,xs,e,hq,q⟩:=q1;subst e;obtain ⟨u,rfl,ru⟩:=B5q r1;cases ru;obtain ⟨its,rv,p1,_⟩:=I1.list hq;refine call_enumerate_list p1.isList λh' z1 z2 z3 kp=>wpAny_pyIter_enum z1 ?_;have I2:Inv X pins σ H1 { s1 with heap:=h' }:=I1.kept (t':=s1.toks) kp;refine ⟨_,[s1.heap.objs.size+1,s1.heap.objs.size],_,_,H1,rfl,I2,C4u (Z1q (Nat.lt_succ_self _)),⟨⟨_,z1⟩,z2⟩,λc hc=> ?_,q⟩
 have hle:s1.heap.objs.size<=c:=by
  simp only [Z0e,Z1i,or_false] at hc;rcases hc with rfl | rfl
  ·exact Nat.le_succ _
  ·exact Z09 _
 exact I1.fpOk hle (I1.hok.fresh hle)
theorem C1n {K:PySem.W.Frag} {a:Addr} {xs:List V} {g:TG} {tb:TS} {D:B4d} {σ:St} {H:Hp} (Pv:Nat->St->Hp->Prop) (h0:Pv 0 σ H) (hl:∀i σ H,Pv i σ H->SqL K H a xs)
  (hs:∀i x σ H p,xs[i]? =some x->Pv i σ H->H p=none->g (.ref p) σ (upd H p (.tup [.int (i:Nat),x])) λσ2 H2=>tb { D with nx:=Pv (i+1),ct:=Pv (i+1),bk:=D.nx } σ2 H2) (hd:∀σ H,Pv xs.length σ H->D.nx σ H) :
  ∃W:Nat->Nat->St->Hp->Prop,(∃m,W 0 m σ H)/\∀i m σ H,W i m σ H->
   ((D7k K a).stop i H/\D.nx σ H)\/((D7k K a).go i H/\∃N:St->Hp->Prop,(∀σ' H',N σ' H'->∃m',m'<m/\W (i+1) m' σ' H')/\∀x H',(D7k K a).yld i H x H'->g x σ H' λσ2 H2=>tb { D with nx:=N,ct:=N,bk:=D.nx } σ2 H2):=by
 refine ⟨λi m σ H=>m=xs.length-i/\i<=xs.length/\Pv i σ H,⟨xs.length,by simp,Z1e _,h0⟩,?_⟩;rintro i m σ H ⟨rfl,hi,p⟩;have q:=hl i σ H p;by_cases hlt:i<xs.length
 ·refine .inr ⟨⟨xs,_,q,Z0b hlt⟩,Pv (i+1),λσ' H' p'=>⟨xs.length-(i+1),by lia,rfl,hlt,p'⟩,λv H' y=> ?_⟩;obtain ⟨c,hc,rfl,x,f,rfl⟩:=y;exact hs i x σ H c (f xs q) p hc
 ·have e:i=xs.length:=by lia
  subst e;exact .inl ⟨⟨xs,q,Z09 _⟩,hd σ H p⟩
section
variable {X:Cx}
theorem C5g:B3q X (.type "int") (λvs H Q=>∃b,vs=[.bl b]/\Q (.int (if b then 1 else 0)) H):=by
 intro pins s σ H vs us Q I r h;obtain ⟨b,rfl,q⟩:=h;obtain ⟨u,rfl,ru⟩:=B5q r;cases ru;exact call_int_bool ⟨.int (if b then 1 else 0),H,I.tok _,⟨_,rfl⟩,q⟩
end
abbrev B2c (h:Heap) (z TI TO:Addr) (f0:Value) (b:Bool):Prop :=
 h.get? z=some { cls:= .type "zip",dict:=none,data:= .fields #[f0,.bool b,.bool false,.ref TI,.ref TO],slots:= #[] }
section
variable {prog:Program} {w:World} {A:Around} {E:Value->Shared->Prop} {s:Shared}
theorem B9i {a:Addr} {Q:Option Obj->Shared->Prop} (h:Q (s.heap.get? a) s):wpAny (model prog w) A (loadIfAlive a) Q E s:=λΓ p _=>by
 show PySem.Sem.wp _ Γ (.loadIfAlive a .pure) _ _ p s;rw [PySem.Sem.wp];exact h
theorem B3a {z TI TO p:Addr} {o:Obj} {b:Bool} {Q:Bool->Shared->Prop} (hz:B2c s.heap z TI TO (rawInt (p:Int)) b) (hp:s.heap.get? p=some o)
  (q:∀h',B2c h' z TI TO (rawInt (p:Int)) true->Heap.SameBut z s.heap h'->Q false { s with heap:=h' }):wpAny (model prog w) A (Builtin.SmallTypes.ownedTupleIsFree (.ref z)) Q E s:=by
 unfold Builtin.SmallTypes.ownedTupleIsFree;refine Z00 (Z11 hz rfl (x:=rawInt (p:Int)) rfl ?_);show wpAny _ _ (loadIfAlive (Int.toNat (p:Int)) >>= _) _ _ _;refine Z00 (B9i ?_);rw [Int.toNat_natCast,hp];show wpAny _ _ (field (.ref z) 1 >>= _) _ _ _;refine Z00 (Z11 hz rfl (x:= .bool b) rfl ?_)
 cases b with
 | true =>
  show wpAny _ _ (pure false) _ _ _;exact Z04 (q s.heap hz ⟨rfl,λ_ _=>rfl⟩)
 | false =>
  show wpAny _ _ (setField (.ref z) 1 (.bool true) >>= _) _ _ _;refine Z00 (Z1h hz (by simp) λg1 z1 b1=> ?_);exact Z04 (q g1 z1 b1)
end
section
variable {z TI TO i1 i2 l1 l2:Addr} {st1 st2:Nat->Heap->Prop} {src1 src2:Array Value->Heap->Prop} {prog:Program} {w:World} {A:Around} {E:Value->Shared->Prop} {s:Shared}
theorem C9y (N1:Nx i1 l1 st1 src1) (N2:Nx i2 l2 st2 src2) {k1 k2:Nat} {xs ys:Array Value} {x y:Value} {p:Addr} {o:Obj} {b:Bool} {Q:Option Value->Shared->Prop} (D:ZipApart z TI TO i1 i2 l1 l2)
  (hz:B2c s.heap z TI TO (rawInt (p:Int)) b) (hp:s.heap.get? p=some o) (hTI:IsPair s.heap TI (.ref i1) (.ref i2)) (h1:st1 k1 s.heap) (h2:st2 k2 s.heap) (hl1:src1 xs s.heap) (hl2:src2 ys s.heap) (hx:xs[k1]? =some x) (hy:ys[k2]? =some y)
  (hQ:∀h',B2c h' z TI TO (rawInt (p:Int)) true->st1 (k1+1) h'->st2 (k2+1) h'->IsPair h' s.heap.objs.size x y->
   (∀c o,c≠z->c≠i1->c≠i2->s.heap.get? c=some o->h'.get? c=some o)->Q (some (.ref s.heap.objs.size)) { s with heap:=h' }):wpAny (model prog w) A (pyNext (.ref z)) Q E s:=by
 have hT:s.TypeIs (.ref z) "zip":=⟨_,hz,rfl⟩;unfold pyNext;refine Z00 (wpAny_attempt (Z1b (name:=Str.ofString "__next__") hT F.slot_zip_next (Z1g F.slot_zip_next hT F.entry_zip_next ?_ (F.args_zip_next_1 _))));show wpAny _ _ (field (.ref z) 2 >>= _) _ _ _;refine Z00 (Z11 hz rfl (x:= .bool false) rfl ?_);show wpAny _ _ (field (.ref z) 3 >>= _) _ _ _;refine Z00 (Z11 hz rfl (x:= .ref TI) rfl ?_);refine Z00 (Z21 hTI rfl ?_);show wpAny _ _ (Builtin.SmallTypes.ownedTupleIsFree (.ref z) >>= _) _ _ _;refine Z00 (B3a hz hp λg1 z1 b1=> ?_);simp only [Bool.false_eq_true,if_false];refine Z00 ?_;simp only [<-Array.forIn_toList,List.forIn_cons,List.forIn_nil];refine Z00 (Z00 (Z1w ?_));show wpAny _ _ (Builtin.SmallTypes.nextOf (.ref i1) >>= _) _ _ _;refine Z00 (N1.item (N1.mv h1 λo e=>b1.extBut _ _ D.i1z e) (N1.mvS hl1 λo e=>b1.extBut _ _ D.l1z e) hx λg2 t2 b2=>Z04 (Z04 ?_));refine Z00 (Z00 (Z1w ?_));show wpAny _ _ (Builtin.SmallTypes.nextOf (.ref i2) >>= _) _ _ _;refine Z00 (N2.item (N2.mv h2 λo e=>b2.extBut _ _ D.i12.symm (b1.extBut _ _ D.i2z e)) (N2.mvS hl2 λo e=>b2.extBut _ _ D.l2i1 (b1.extBut _ _ D.l2z e)) hy λg3 t3 b3=>Z04 (Z04 (Z04 ?_)));have hsz:g3.objs.size=s.heap.objs.size:=by rw [b3.1,b2.1,b1.1]
 have zlt:z<g3.objs.size:=by rw [hsz];exact Z0a hz
 show wpAny _ _ (newTuple [x,y] >>= _) _ _ _;refine Z00 (wpAny_newTuple ?_);have z3:B2c g3 z TI TO (rawInt (p:Int)) true:=b3.extBut _ _ D.i2z.symm (b2.extBut _ _ D.i1z.symm z1);have k3:∀c o,c≠z->c≠i1->c≠i2->s.heap.get? c=some o->g3.get? c=some o:=λc o c1 c3 c4 e=>b3.extBut _ _ c4 (b2.extBut _ _ c3 (b1.extBut _ _ c1 e));have u1:st1 (k1+1) g3:=N1.mv t2 λo e=>b3.extBut _ _ D.i12 e;have pr:IsPair (g3.push { cls:= .type "tuple",data:= .seq #[x,y] }) g3.objs.size x y:=Z0c _ rfl;rw [hsz] at pr;refine Z04 ⟨_,rfl,Z04 ?_⟩;show Q (some (.ref g3.objs.size)) _;rw [hsz];exact hQ _ (Z01 _ z3) (N1.mv u1 λo e=>Z01 _ e) (N2.mv t3 λo e=>Z01 _ e) pr λc o c1 c3 c4 e=>Z01 _ (k3 c o c1 c3 c4 e)
theorem D3r (N1:Nx i1 l1 st1 src1) (N2:Nx i2 l2 st2 src2) {k1 k2:Nat} {xs ys:Array Value} {p:Addr} {o:Obj} {b:Bool} {Q:Option Value->Shared->Prop} (hh:A.handled=none) (D:ZipApart z TI TO i1 i2 l1 l2)
  (hz:B2c s.heap z TI TO (rawInt (p:Int)) b) (hp:s.heap.get? p=some o) (hTI:IsPair s.heap TI (.ref i1) (.ref i2)) (h1:st1 k1 s.heap) (h2:st2 k2 s.heap) (hl1:src1 xs s.heap) (hl2:src2 ys s.heap) (hend:xs[k1]? =none\/ys[k2]? =none)
  (hQ:∀h',(∀c o,c≠z->c≠i1->c≠i2->s.heap.get? c=some o->h'.get? c=some o)->Q none { s with heap:=h' }):wpAny (model prog w) A (pyNext (.ref z)) Q E s:=by
 have hT:s.TypeIs (.ref z) "zip":=⟨_,hz,rfl⟩;unfold pyNext
 have fin:∀(h':Heap) (e:Addr),(∀c o,c≠z->c≠i1->c≠i2->s.heap.get? c=some o->h'.get? c=some o)->(∃o,h'.get? e=some o/\o.cls= .type "StopIteration")->
   wpAny (model prog w) A (isInstance (.ref e) (.type "StopIteration") >>= λb=>if b=true then pure none else throw (.ref e)) Q E { s with heap:=h' }:=λh' e hk ⟨o,ho,hc⟩ =>
  Z00 (wpAny_isInstance (T:="StopIteration") (b:=true) ⟨o,ho,hc⟩ isSubtype_stop (Z04 (hQ _ hk)))
 refine Z00 (wpAny_attempt (Z1b (name:=Str.ofString "__next__") hT F.slot_zip_next (Z1g F.slot_zip_next hT F.entry_zip_next ?_ (F.args_zip_next_1 _))));show wpAny _ _ (field (.ref z) 2 >>= _) _ _ _;refine Z00 (Z11 hz rfl (x:= .bool false) rfl ?_);show wpAny _ _ (field (.ref z) 3 >>= _) _ _ _;refine Z00 (Z11 hz rfl (x:= .ref TI) rfl ?_);refine Z00 (Z21 hTI rfl ?_);show wpAny _ _ (Builtin.SmallTypes.ownedTupleIsFree (.ref z) >>= _) _ _ _;refine Z00 (B3a hz hp λg1 z1 b1=> ?_);simp only [Bool.false_eq_true,if_false];refine Z00 ?_;simp only [<-Array.forIn_toList,List.forIn_cons,List.forIn_nil];refine Z00 (Z00 (Z1w ?_));show wpAny _ _ (Builtin.SmallTypes.nextOf (.ref i1) >>= _) _ _ _;have u1:=N1.mv h1 λo e=>b1.extBut _ _ D.i1z e;have v1:=N1.mvS hl1 λo e=>b1.extBut _ _ D.l1z e
 cases hx:xs[k1]? with
 | none =>
  refine Z00 (N1.fin hh u1 v1 hx λg2 e b2 he=> ?_);exact fin g2 e (λc o c1 c3 _ x=>b2 _ _ c3 (b1.extBut _ _ c1 x)) he
 | some x =>
  have hy:ys[k2]? =none:=by
   rcases hend with h | h
   ·rw [hx] at h;cases h
   ·exact h
  refine Z00 (N1.item u1 v1 hx λg2 t2 b2=>Z04 (Z04 ?_));refine Z00 (Z00 (Z1w ?_));show wpAny _ _ (Builtin.SmallTypes.nextOf (.ref i2) >>= _) _ _ _;refine Z00 (N2.fin hh (N2.mv h2 λo e=>b2.extBut _ _ D.i12.symm (b1.extBut _ _ D.i2z e)) (N2.mvS hl2 λo e=>b2.extBut _ _ D.l2i1 (b1.extBut _ _ D.l2z e)) hy λg4 e b4 he=> ?_);exact fin g4 e (λc o c1 c3 c4 x=>b4 _ _ c4 (b2.extBut _ _ c3 (b1.extBut _ _ c1 x))) he
end
section
variable {z TI TO i1 i2 a b d:Addr} {prog:Program} {w:World} {A:Around} {E:Value->Shared->Prop} {s:Shared}
end
section
variable {prog:Program} {w:World} {K:Type} [DecidableEq K] {knd:KeyKind prog w K} {A:Around} {R:Result->Shared->Prop} {z TI TO i1 i2 a b d:Addr} {xs ys:Array Value} {rs:List (K×Value)} {h₀:Heap} {g:Array GenState} {dr:Drawn} {os:OsState}
end
abbrev D7o (h:Heap) (l1:Addr):Heap:=h.push { cls:= .type "tuple_iterator",data:= .fields #[.ref l1,.int 0 0] }
abbrev D7q (h:Heap) (l1 l2:Addr):Heap:=(D7o h l1).push { cls:= .type "list_iterator",data:= .fields #[.ref l2,.int 0 0] }
abbrev D7p (h:Heap) (l1 l2:Addr):Heap:=(D7q h l1 l2).push { cls:= .type "tuple",data:= .seq #[.ref h.objs.size,.ref (D7o h l1).objs.size] }
abbrev D7r (h:Heap) (l1 l2:Addr):Heap:=(D7p h l1 l2).push { cls:= .type "tuple",data:= .seq #[.none,.none] }
abbrev D4t (h:Heap) (l1 l2:Addr):Heap:=(D7r h l1 l2).push { cls:= .type "zip",data:= .fields #[.none,.bool false,.bool false,.ref (D7q h l1 l2).objs.size,.ref (D7p h l1 l2).objs.size] }
theorem B8e (l1 l2:Addr) (xs ys:Array Value):Meets (Builtin.«zip.__new__» ⟨[.type "zip",.ref l1,.ref l2],[]⟩) (λ_ R s=>s.heap.IsTuple l1 xs/\s.heap.IsList l2 ys/\
  R (.ok (.ret (.ref (D7r s.heap l1 l2).objs.size))) { s with heap:=D4t s.heap l1 l2 }) :=
 .of_wp λprog w A R s h=>by
  obtain ⟨hp,g,d,tk,os⟩:=s;obtain ⟨hl1,hl2,h⟩:=h;have hsub:=sub_zip;have hL1:Heap.IsTuple (Shared.heap ⟨hp,g,d,tk,os⟩) l1 xs:=hl1;have hL2:Heap.IsList (Shared.heap ⟨hp.push { cls:= .type "tuple_iterator",data:= .fields #[.ref l1,.int 0 0] },g,d,tk,os⟩) l2 ys:=Heap.IsList.push hl2 _
  wp_walk using wpAny_pyIter_tuple hL1,wpAny_pyIter_list hL2
  exact ⟨_,rfl,h⟩
noncomputable def ZQ (z TI TO i1 i2 a b d:Addr) (i:Nat) (h:Heap):Prop:=IsPair h TI (.ref i1) (.ref i2)/\h.IsTupleIter i1 a i/\h.IsListIter i2 b i/\
 ((IsZip h z TI TO .none/\∃u v,IsPair h TO u v)\/∃(p:Addr) (o:Obj) (bb:Bool),B2c h z TI TO (rawInt (p:Int)) bb/\h.get? p=some o/\p≠z/\p≠i1/\p≠i2/\p≠d)
theorem C0k {prog:Program} {w:World} {A:Around} {E:Value->Shared->Prop} {s:Shared} {l1 l2 d:Addr} {xs ys:Array Value} {Q:Value->Shared->Prop} (hl1:s.heap.IsTuple l1 xs) (hl2:s.heap.IsList l2 ys)
  (h:∀h',IsZip h' (s.heap.objs.size+4) (s.heap.objs.size+2) (s.heap.objs.size+3) .none->ZQ (s.heap.objs.size+4) (s.heap.objs.size+2) (s.heap.objs.size+3) s.heap.objs.size (s.heap.objs.size+1) l1 l2 d 0 h'->(∀c o,s.heap.get? c=some o->h'.get? c=some o)->Q (.ref (s.heap.objs.size+4)) { s with heap:=h' }) :
  wpAny (model prog w) A (call (.type "zip") [.ref l1,.ref l2]) Q E s:=by
 refine callType_new F.called_zip (by decide) (F.typeCall_zip_2 _ _) (F.newCall_zip_2 _ _) (λobj=>F.args_object_init_3 obj _ _) F.entry_zip_new (B8e l1 l2 xs ys) ⟨hl1,hl2,?_⟩;have z1:(D7o s.heap l1).objs.size=s.heap.objs.size+1:=Z1s ..;have z2:(D7q s.heap l1 l2).objs.size=s.heap.objs.size+2:=by rw [Z1s,z1]
 have z3:(D7p s.heap l1 l2).objs.size=s.heap.objs.size+3:=by rw [Z1s,z2]
 have z4:(D7r s.heap l1 l2).objs.size=s.heap.objs.size+4:=by rw [Z1s,z3]
 have q5:(D4t s.heap l1 l2).get? (D7r s.heap l1 l2).objs.size=some _:=Z0c _ rfl;have q4:(D4t s.heap l1 l2).get? (D7p s.heap l1 l2).objs.size=some _:=Z01 _ (Z0c _ rfl);have q3:(D4t s.heap l1 l2).get? (D7q s.heap l1 l2).objs.size=some _:=Z01 _ (Z01 _ (Z0c _ rfl));have q2:(D4t s.heap l1 l2).get? (D7o s.heap l1).objs.size=some _:=Z01 _ (Z01 _ (Z01 _ (Z0c _ rfl)));have q1:(D4t s.heap l1 l2).get? s.heap.objs.size=some _:=Z01 _ (Z01 _ (Z01 _ (Z01 _ (Z0c _ rfl))));show _/\_;rw [z2,z3,z4] at q5;rw [z1,z2] at q3;rw [z3] at q4;rw [z1] at q2;rw [z4];exact ⟨⟨_,q5,rfl⟩,h _ q5 ⟨q3,⟨_,q1,rfl,rfl⟩,⟨_,q2,rfl,rfl⟩,.inl ⟨q5,_,_,q4⟩⟩ λc o x=>Z01 _ (Z01 _ (Z01 _ (Z01 _ (Z01 _ x))))⟩
theorem ZQ.at {z TI TO i1 i2 a b d:Addr} {i:Nat} {h h':Heap} (x:ZQ z TI TO i1 i2 a b d i h) (nz:z≠d) (n1:TI≠d) (n2:TO≠d) (n3:i1≠d) (n4:i2≠d) (f:∀c o,c≠d->h.get? c=some o->h'.get? c=some o):ZQ z TI TO i1 i2 a b d i h':=by
 obtain ⟨h1,h2,h3,h4⟩:=x;refine ⟨f _ _ n1 h1,(A7v i1 a).mv h2 λo e=>f _ _ n3 e,(B0f i2 b).mv h3 λo e=>f _ _ n4 e,?_⟩;rcases h4 with ⟨h4,u,v,h5⟩ | ⟨p,o,bb,h4,h5,m1,m2,m3,m4⟩
 ·exact .inl ⟨f _ _ nz h4,u,v,f _ _ n2 h5⟩
 ·exact .inr ⟨p,o,bb,f _ _ nz h4,f _ _ m4 h5,m1,m2,m3,m4⟩
section
variable {z TI TO i1 i2 a b d:Addr} {prog:Program} {w:World} {A:Around} {E:Value->Shared->Prop} {s:Shared}
theorem D3z {i:Nat} {xs ys:Array Value} {x y:Value} {Q:Option Value->Shared->Prop} (D:ZipApart z TI TO i1 i2 a b) (ld:d<s.heap.objs.size) (hz:ZQ z TI TO i1 i2 a b d i s.heap) (hl:s.heap.IsTuple a xs) (ht:s.heap.IsList b ys) (hx:xs[i]? =some x) (hy:ys[i]? =some y)
  (hQ:∀h',ZQ z TI TO i1 i2 a b d (i+1) h'->IsPair h' s.heap.objs.size x y->(∀c o,c≠z->c≠TO->c≠i1->c≠i2->s.heap.get? c=some o->h'.get? c=some o)->Q (some (.ref s.heap.objs.size)) { s with heap:=h' }) :
  wpAny (model prog w) A (pyNext (.ref z)) Q E s:=by
 obtain ⟨h1,h2,h3,h4⟩:=hz;have n4:i1<s.heap.objs.size:=let ⟨_,e,_⟩:=(A7v i1 a).ob h2;Z0a e;have n5:i2<s.heap.objs.size:=let ⟨_,e,_⟩:=(B0f i2 b).ob h3;Z0a e;rcases h4 with ⟨h4,u,v,h5⟩ | ⟨p,o,bb,h4,h5,m1,m2,m3,m4⟩
 ·have nz:z<s.heap.objs.size:=Z0a h4;refine C8z (A7v i1 a) (B0f i2 b) D h4 h1 h5 h2 h3 hl ht hx hy λh' z1 z2 z3 z4 z5 kp=> ?_;exact hQ h' ⟨kp _ _ D.TIz D.TITO D.TIi1 D.TIi2 h1,z3,z4,.inr ⟨s.heap.objs.size,_,false,z1,z5,Z1q nz,Z1q n4,Z1q n5,Z1q ld⟩⟩ z5 kp
 ·refine C9y (A7v i1 a) (B0f i2 b) D h4 h5 h1 h2 h3 hl ht hx hy λh' z1 z3 z4 z5 kp=> ?_;exact hQ h' ⟨kp _ _ D.TIz D.TIi1 D.TIi2 h1,z3,z4,.inr ⟨p,o,true,z1,kp _ _ m1 m2 m3 h5,m1,m2,m3,m4⟩⟩ z5 λc o c1 _ c3 c4 e=>kp c o c1 c3 c4 e
theorem D4y {i:Nat} {xs ys:Array Value} {Q:Option Value->Shared->Prop} (hh:A.handled=none) (D:ZipApart z TI TO i1 i2 a b) (hz:ZQ z TI TO i1 i2 a b d i s.heap) (hl:s.heap.IsTuple a xs) (ht:s.heap.IsList b ys) (he:xs[i]? =none\/ys[i]? =none)
  (hQ:∀h',(∀c o,c≠z->c≠TO->c≠i1->c≠i2->s.heap.get? c=some o->h'.get? c=some o)->Q none { s with heap:=h' }):wpAny (model prog w) A (pyNext (.ref z)) Q E s:=by
 obtain ⟨h1,h2,h3,h4⟩:=hz;rcases h4 with ⟨h4,u,v,h5⟩ | ⟨p,o,bb,h4,h5,m1,m2,m3,m4⟩
 ·exact D4s (A7v i1 a) (B0f i2 b) hh D h4 h1 h5 h2 h3 hl ht he hQ
 ·exact D3r (A7v i1 a) (B0f i2 b) hh D h4 h5 h1 h2 h3 hl ht he λh' kp=>hQ h' λc o c1 _ c3 c4 e=>kp c o c1 c3 c4 e
end
theorem C2s:typeLookup (.type "zip") "__len__"=pure none:=by rw [typeLookup_type,builtinLookup_eq_fast];kernel_rfl
theorem C0b:typeLookup (.type "zip") "__length_hint__"=pure none:=by rw [typeLookup_type,builtinLookup_eq_fast];kernel_rfl
noncomputable def D8c (H:Hp) (ps:List Addr) (us ws:List V):Prop:=∀(i:Nat) (p:Addr),ps[i]? =some p->∃u w,us[i]? =some u/\ws[i]? =some w/\H p=some (.tup [u,w])
theorem B7p {K:PySem.W.Frag} {H H':Hp} {a:Addr} {xs:List V} (e:A0o H H') (h:SqT K H a xs):SqT K H' a xs:=by
 rcases h with (h | ⟨o,h⟩) | h
 ·exact .inl (.inl (e _ _ h))
 ·exact .inl (.inr ⟨o,e _ _ h⟩)
 ·exact .inr h
section
variable {X:Cx}
theorem D4o {A:Around} {pins:List (Addr×Obj)} {σ:St} {R:Result->Shared->Prop} {z TI TO i1 i2 a b S:Addr} {us ws:List V} {H1:Hp} (hh:A.handled=none) (D:ZipApart z TI TO i1 i2 a b) (nz:z≠S) (n1:TI≠S) (n2:TO≠S) (n3:i1≠S) (n4:i2≠S)
  (hf:∀c∈[z,TI,TO,i1,i2],∀H':Hp,H' c=none->B7h X pins H' c) (hlt0:∀c∈[z,TI,TO,i1,i2],c<S) (hlen:us.length=ws.length) (hsz:us.length<=sizeLine) (hT:SqT X.K H1 a us) (hL:SqL X.K H1 b ws) (hS0:H1 S=none)
  (fin:∀(s':Shared) (H2:Hp) (ps:List Addr),Inv X pins σ H2 s'->A0o H1 H2->H2 S=some (.lst (ps.map V.ref))->ps.length=us.length->D8c H2 ps us ws->R (.ok (.ret .none)) s') :
  ∀(k i:Nat) (s:Shared) (H2:Hp) (ps:List Addr),us.length-i=k->i<=us.length->ZQ z TI TO i1 i2 a b S i s.heap->Inv X pins σ H2 s->(∀c∈[z,TI,TO,i1,i2],H2 c=none)->A0o H1 H2->H2 S=some (.lst (ps.map V.ref))->ps.length=i->D8c H2 ps us ws->
   codeAny (model X.prog X.w) A (.builtin "list.extend.loop" ⟨[.ref S,.ref z,.none],[]⟩) R s:=by
 intro k
 induction k with
 | zero =>
  intro i s H2 ps hk hi hz I fr sm hS hl hP;have hin:i=us.length:=by lia
  obtain ⟨its,rv,p1,_⟩:=I.tuple (B7p sm hT);obtain ⟨its2,rv2,p2,_⟩:=I.list (sm.seq hL);have e1:=rv.length;refine codeAny_builtin PySem.F.entry_extend_loop ?_;rw [Around.under_plainId PySem.F.plain_extend_loop _];show wpAny _ A.in1 (pyNext (.ref z) >>= _) _ _ _;refine Z00 (D4y (by simpa using hh) D hz (show s.heap.IsTuple a its.toArray from p1) p2.isList (.inl (by rw [hin];simp;lia)) λh' kp=> ?_);refine Z04 (fin _ H2 ps (I.turnedL (t':=s.toks) (ts:=[z,TI,TO,i1,i2]) (λc o hc e=> ?_) λc hc=>hf c hc H2 (fr c hc)) sm hS (by lia) hP);simp only [Z0e,Z1i,or_false,not_or] at hc;exact kp c o hc.1 hc.2.2.1 hc.2.2.2.1 hc.2.2.2.2 e
 | succ k ih =>
  intro i s H2 ps hk hi hz I fr sm hS hl hP;have hlt:i<us.length:=by lia
  obtain ⟨its,rv,p1,_⟩:=I.tuple (B7p sm hT);obtain ⟨its2,rv2,p2,_⟩:=I.list (sm.seq hL);obtain ⟨u,hu⟩:∃u,us[i]? =some u:=⟨us[i],Z0b hlt⟩;obtain ⟨w,hw⟩:∃w,ws[i]? =some w:=⟨ws[i],Z0b (by lia)⟩;obtain ⟨x,hx,rx⟩:=rv.get hu;obtain ⟨y,hy,ry⟩:=rv2.get hw;obtain ⟨sI,sn,sr,sg,sz⟩:=I.lst hS;have lS:S<s.heap.objs.size:=Z0a sg;refine codeAny_builtin PySem.F.entry_extend_loop ?_;rw [Around.under_plainId PySem.F.plain_extend_loop _];show wpAny _ A.in1 (pyNext (.ref z) >>= _) _ _ _;refine Z00 (D3z D lS hz (show s.heap.IsTuple a its.toArray from p1) p2.isList (x:=x) (by simpa using hx) (y:=y) (by simpa using hy) λh' zq pr kp=> ?_);have lz:∀c∈[z,TI,TO,i1,i2],c<s.heap.objs.size:=λc hc=>Nat.lt_trans (hlt0 c hc) lS
  have I1:Inv X pins σ (upd H2 s.heap.objs.size (.tup [u,w])) { s with heap:=h',toks:=s.toks }:=I.turnedNew (ts:=[z,TI,TO,i1,i2]) (λc o hc e=>by
   simp only [Z0e,Z1i,or_false,not_or] at hc
   exact kp c o hc.1 hc.2.2.1 hc.2.2.2.1 hc.2.2.2.2 e) (λc hc=>hf c hc H2 (fr c hc)) (Z09 _) ⟨by show 2<=sizeLine;decide,[x,y],.cons rx (.cons ry .nil),⟨_,pr,rfl,_,rfl⟩⟩
  have nS:S≠s.heap.objs.size:=Z0h lS;have hS1:upd H2 s.heap.objs.size (.tup [u,w]) S=some (.lst (ps.map V.ref)):=by rw [A0l nS];exact hS
  have sg1:h'.get? S=some { cls:= .type "list",data:= .seq sI.toArray sn }:=kp S _ nz.symm n2.symm n3.symm n4.symm sg;have eS:=sr.length;rw [Z08,hl] at eS;have hN:H2 s.heap.objs.size=none:=I.hok.fresh (Z09 _)
  have I2:Inv X pins σ (upd (upd H2 s.heap.objs.size (.tup [u,w])) S (.lst ((ps++[s.heap.objs.size]).map V.ref))) { s with heap:=h'.update S (Obj.mapSeq (·.push (Value.ref s.heap.objs.size))),toks:=s.toks } :=
   I1.lset (its':=sI++[Value.ref s.heap.objs.size]) hS1 sg1 (by simp) (by rw [Z0s];exact sr.append (.cons rfl .nil)) (by rw [Z08,Z06,Z0j,hl];lia)
  have up:∀c o,c≠S->h'.get? c=some o->(h'.update S (Obj.mapSeq (·.push (Value.ref s.heap.objs.size)))).get? c=some o:=λc o hc e=>(Z1d _ _ (Ne.symm hc)).trans e;have sm2:A0o H1 (upd (upd H2 s.heap.objs.size (.tup [u,w])) S (.lst ((ps++[s.heap.objs.size]).map V.ref))):=A0s (sm.trans (A0d hN)) hS0;show wpAny _ A.in1 (updateSeq S (·.push (Value.ref s.heap.objs.size)) >>= _) _ _ _;refine Z00 (wpAny_updateSeq sg1 rfl (Z04 ⟨plainId_quiet PySem.F.plain_extend_loop _,ih (i+1) _ _ (ps++[s.heap.objs.size]) (by lia) hlt (zq.at nz n1 n2 n3 n4 up) I2 (λc hc=> ?_) sm2 A0b (by rw [Z06,hl];rfl) ?_⟩) (by rw [Z0g];lia) (by show (sI.toArray.push _).size<=sizeLine+1;rw [Array.size_push,Z0g];lia))
  ·rw [A0l (Z0h (hlt0 c hc)),A0l (Z0h (lz c hc))];exact fr c hc
  ·intro j p hj;rcases Nat.lt_trichotomy j ps.length with h1 | h1 | h1
   ·rw [Z26 h1] at hj;obtain ⟨u',w',e1,e2,e3⟩:=hP j p hj;refine ⟨u',w',e1,e2,?_⟩;rw [A0l (A7s e3 hS (by intro z;cases z)),A0l (A0t e3 hN)];exact e3
   ·subst h1;have hb:s.heap.objs.size=p:=by simpa using hj
    subst hb;refine ⟨u,w,by rw [hl];exact hu,by rw [hl];exact hw,?_⟩;rw [A0l nS.symm];exact A0b
   ·have hnone:(ps++[s.heap.objs.size])[j]? =none:=List.getElem?_eq_none (by rw [Z06,Z0j];lia);rw [hnone] at hj;cases hj
noncomputable def tLZ (K:PySem.W.Frag) (ta:TA):TE:=λσ H Q=>ta σ H λvs H1=>∃t l us ws,vs=[.ref t,.ref l]/\SqT K H1 t us/\SqL K H1 l ws/\us.length=ws.length/\∀D ps H2,H1 D=none->A0o H1 H2->H2 D=some (.lst ((ps:List Addr).map V.ref))->ps.length=us.length->D8c H2 ps us ws->Q (.ref D) H2
theorem C2g {a b:Expr} {ta:TA} {p1 p2 pos1 pos2:Pos} (hc:X.calm=true) (hgd:Gl X "list") (hmd:X.mg "list"=none) (hgz:Gl X "zip") (hmz:X.mg "zip"=none) (ha:PA X [a,b] ta)
  (hs0:starEach [.Call (.Name "zip" p2) [a,b] [] pos2] X.env=(false,eval (.Call (.Name "zip" p2) [a,b] [] pos2) X.env)::starEach [] X.env:=by rfl)
  (hs:starEach [a,b] X.env=[(false,eval a X.env),(false,eval b X.env)]:=by rfl) (hs2:starEach [b] X.env=[(false,eval b X.env)]:=by rfl) :
  PE X (.Call (.Name "list" p1) [.Call (.Name "zip" p2) [a,b] [] pos2] [] pos1) (tLZ X.K ta):=by
 intro pins s σ H Q I h;have hh:X.A.handled=none:=I.ok.hd hc;refine wpAny_Call_Name_kw (A5v I hgd hmd boot_list ?_);refine PyProof.Rows.callWith_type1 ?_ hs0 (by rfl);rw [hs0];show wpAny _ _ (spliced ((false,eval _ X.env)::backTo pos1 (starEach [] X.env))) _ _ s;refine Calls.spliced_cons ?_;refine Call_ (A5v I hgz hmz boot_zip (PyProof.Rows.callWith_type1 (thn (ha pos2 pins s σ H _ I h) λus s1 ⟨vs,H1,I1,r1,q1⟩=> ?_) (by rw [hs,hs2]) (by rw [hs2];rfl)));obtain ⟨l1,l2,ks,ws,e,hq1,hq2,hle,q⟩:=q1;subst e;obtain ⟨u,u2,rfl,ru,ru2⟩:=D0w r1;cases ru;cases ru2;obtain ⟨its,rv,p1',zk⟩:=I1.tuple hq1;obtain ⟨its2,rv2,p2',_⟩:=I1.list hq2;have t1:l1<s1.heap.objs.size:=p1'.lt;have t2:l2<s1.heap.objs.size:=let ⟨_,e,_⟩:=p2'.isList;Z0a e;refine C0k (d:=s1.heap.objs.size+5) (show s1.heap.IsTuple l1 its.toArray from p1') p2'.isList λh' hz zq kp=>Calls.spliced_nil ?_;have D:=zipApart_new t1 t2;have lz:s1.heap.objs.size+4<h'.objs.size:=Z0a hz
 have zq:ZQ (s1.heap.objs.size+4) (s1.heap.objs.size+2) (s1.heap.objs.size+3) s1.heap.objs.size (s1.heap.objs.size+1) l1 l2 h'.objs.size 0 h':=by
  obtain ⟨g1,g2,g3,g4⟩:=zq;refine ⟨g1,g2,g3,?_⟩;rcases g4 with g4 | ⟨p,o,bb,g4,g5,m1,m2,m3,m4⟩
  ·exact .inl g4
  ·exact .inr ⟨p,o,bb,g4,g5,m1,m2,m3,Z0h (Z0a g5)⟩
 have I2:Inv X pins σ H1 { s1 with heap:=h' }:=I1.kept (t':=s1.toks) kp;refine callType_codes (Q₁:=λobj s₁=>obj= .ref h'.objs.size/\s₁={ s1 with heap:=h'.push { cls:= .type "list",data:= .seq #[] } }) PySem.F.called_list (PySem.F.typeCall_list_1 _) PySem.F.entry_list_init (code_list_new (s:={ s1 with heap:=h' }) _ ⟨rfl,rfl⟩) ?_
 rintro obj s₁ ⟨rfl,rfl⟩;have I3:Inv X pins σ (upd H1 h'.objs.size (.lst [])) { s1 with heap:=h'.push { cls:= .type "list",data:= .seq #[] },toks:=s1.toks }:=I2.lnew (its:=[]) .nil (Z1e _);have hS:(h'.push { cls:= .type "list",data:= .seq #[] }).get? h'.objs.size=some { cls:= .type "list",data:= .seq #[] }:=Z0c _ rfl
 have hle5:∀c∈[s1.heap.objs.size+4,s1.heap.objs.size+2,s1.heap.objs.size+3,s1.heap.objs.size,s1.heap.objs.size+1],s1.heap.objs.size<=c/\c<h'.objs.size:=λc hc=>by
  simp only [Z0e,Z1i,or_false] at hc;rcases hc with rfl | rfl | rfl | rfl | rfl <;> exact ⟨by lia,by lia⟩
 have hH0:H1 h'.objs.size=none:=I2.hok.fresh (Z09 _);have ez:(h'.push { cls:= .type "list",data:= .seq #[] }).get? (s1.heap.objs.size+4)=some _:=Z01 _ hz;have hTz:Shared.TypeIs { s1 with heap:=h'.push { cls:= .type "list",data:= .seq #[] } } (.ref (s1.heap.objs.size+4)) "zip":=⟨_,ez,rfl⟩;refine ⟨⟨_,hS,rfl⟩,PySem.F.args_list_init_2 _ _,?_⟩;show wpAny _ _ (do let old<-Builtin.List.listItems (.ref h'.objs.size);Builtin.List.listUpdate (.ref h'.objs.size) (λ_=> #[]);letGo old.toList.reverse;Builtin.List.listExtendWith (.ref h'.objs.size) (.ref (s1.heap.objs.size+4)) .none) _ _ _
 refine Z00 ?_;unfold Builtin.List.listItems;refine Z00 (Z21 hS rfl (Z04 ?_));show wpAny _ _ (updateSeq h'.objs.size (λ_=> #[]) >>= λ_=>letGo (#[]:Array Value).toList.reverse >>= λ_=>Builtin.List.listExtendWith (.ref h'.objs.size) (.ref (s1.heap.objs.size+4)) .none) _ _ _;refine Z00 (wpAny_updateSeq hS rfl ?_);have J1:=I3.lset (t':=s1.toks) (its:=[]) (its':=[]) (n:=0) (ys:=[]) (f:=λ_=> #[]) A0b hS rfl .nil (Z1e _);refine Z00 (wpAny_letGo ?_);unfold Builtin.List.listExtendWith;have oth:∀(h:Heap) (f:Array Value->Array Value) (b:Addr) (o:Obj),b≠h'.objs.size->h.get? b=some o->(h.update h'.objs.size (Obj.mapSeq f)).get? b=some o:=λh f b o hb e=>(Z1d _ _ (Ne.symm hb)).trans e;have nz:s1.heap.objs.size+4≠h'.objs.size:=Z0h lz;have ez2:=oth _ (λ_=> #[]) _ _ nz ez;have hT2:Shared.TypeIs { s1 with heap:=(h'.push { cls:= .type "list",data:= .seq #[] }).update h'.objs.size (Obj.mapSeq λ_=> #[]) } (.ref (s1.heap.objs.size+4)) "zip":=⟨_,ez2,rfl⟩
 refine Z00 (wpAny_typeOf (T:="zip") hT2 ?_);have h1:Builtin.List.listSameRef (.ref h'.objs.size) (.ref (s1.heap.objs.size+4))=false:=by simp [Builtin.List.listSameRef,nz.symm]
 have h2:(Value.type "zip" == Value.type "list")=false:=by decide
 have h3:(Value.type "zip" == Value.type "tuple")=false:=by decide
 simp only [h1,h2,h3,Bool.or_false,Bool.false_eq_true,if_false];refine Z00 (wpAny_pyIter_zip ez2 ?_);refine Z00 (Z1w ?_);unfold Builtin.List.listLengthHint;refine Z00 (wpAny_specialOf hT2 C2s ?_);show wpAny _ _ (specialOf (Value.ref (s1.heap.objs.size+4)) (Str.ofString "__length_hint__") >>= _) _ _ _;refine Z00 (wpAny_specialOf hT2 C0b ?_);refine Z04 ?_
 show wpAny _ _ (rule "list.extend.makes-room" >>= λ_=>Builtin.List.listTouch (.ref h'.objs.size) >>= λ_ =>
  again (.builtin "list.extend.loop" ⟨[.ref h'.objs.size,.ref (s1.heap.objs.size+4),.none],[]⟩)) _ _ _
 refine Z00 (wpAny_rule ?_);refine Z00 ?_;show wpAny _ _ (updateSeq h'.objs.size (·.push .none) >>= λ_=>updateSeq h'.objs.size (·.pop)) _ _ _;obtain ⟨i1,n1,r1,g1,_⟩:=J1.lst A0b;have e1:i1=[]:=by cases r1;rfl
 subst e1;refine Z00 (wpAny_updateSeq g1 rfl ?_);have J2:=J1.lset (t':=s1.toks) (its:=[]) (its':=[Value.none]) (ys:=[.non]) (f:=(·.push Value.none)) A0b g1 rfl (.cons rfl .nil) (by decide);obtain ⟨i2,n2,r2,g2,_⟩:=J2.lst A0b;have e2:i2.length=1:=r2.length.symm;refine wpAny_updateSeq g2 rfl ?_ (by rw [Z0g,e2];decide) (by rw [Array.size_pop,Z0g,e2];decide);have J3:=J2.lset (t':=s1.toks) (its:=i2) (its':=[]) (ys:=[]) (f:=(·.pop)) A0b g2 (by obtain ⟨x,rfl⟩:=List.length_eq_one_iff.mp e2;rfl) .nil (Z1e _);rw [B5g,B5g,B5g] at J3
 refine Z04 ⟨plainId_quiet PySem.F.plain_extend_loop _,D4o (X:=X) (pins:=pins) (σ:=σ) (H1:=H1) (us:=ks) (ws:=ws) (by simpa using hh) D nz (Z0h (hle5 _ (by simp)).2) (Z0h (hle5 _ (by simp)).2) (Z0h (hle5 _ (by simp)).2) (Z0h (hle5 _ (by simp)).2)
  (λc hc H' hn=>I1.fpOk (hle5 c hc).1 hn) (λc hc=>(hle5 c hc).2) hle zk hq1 hq2 hH0 (λs' H2 ps I' sm hS' hl hP=>⟨rfl,.ref h'.objs.size,H2,I',rfl,q _ ps H2 hH0 sm hS' hl hP⟩) ks.length 0 _ _ [] (by lia) (Z1e _) (zq.at nz (Z0h (hle5 _ (by simp)).2) (Z0h (hle5 _ (by simp)).2) (Z0h (hle5 _ (by simp)).2) (Z0h (hle5 _ (by simp)).2) λc o hc e=>oth _ _ c o hc (oth _ _ c o hc (oth _ _ c o hc (Z01 _ e)))) J3 (λc hc=> ?_) (A0d hH0) A0b rfl (λj p hj=>by simp at hj)⟩
 rw [A0l (Z0h (hle5 c hc).2)];exact I1.hok.fresh (hle5 c hc).1
end
theorem B8x:∀(its:List Value) (lo:Int),(∀(j:Nat) (v:Value),its[j]? =some v->∃t,v= .int (lo+j) t)->A2v ((List.range its.length).map λ(k:Nat)=>V.int (lo+k)) its
 | [],_,_=> .nil
 | v::r,lo,h=>by
  rw [Z0y,List.range_succ_eq_map,Z0p,List.map_map]
  have t:=B8x r (lo+1) λj u hj=>by
   obtain ⟨t,e⟩:=h (j+1) u (by simpa using hj);exact ⟨t,by rw [e];congr 1;lia⟩
  have e:((λ(k:Nat)=>V.int (lo+k))∘Nat.succ)=λ(k:Nat)=>V.int (lo+1+k):=by
   funext k;show V.int (lo+((k+1:Nat):Int))=V.int (lo+1+k);congr 1
   lia
  rw [e];exact .cons (h 0 v rfl) t
section
variable {prog:Program} {w:World} {A:Around} {E:Value->Shared->Prop} {s:Shared}
theorem C0r {Q:List Value->Shared->Prop} {r:Addr} {a b c:Int} {t u v:Tok} {n:Nat} (hh:A.handled=none) (hr:IsRange s.heap r a b c t u v) (hsmall:Builtin.Range.small a b c=true)
  (hn:Builtin.Range.rangeSize a b c=n) (hlen:n<=2^24) (hQ:∀(h':Heap) (tk:Nat) (acc:Array Value),(∀b o,s.heap.get? b=some o->h'.get? b=some o)->ItemsOf (λi v=>∃t,v= .int (a+i*c) t) acc n->Q acc.toList { s with heap:=h',toks:=tk }) :
  wpAny (model prog w) A (collect (.ref r)) Q E s:=by
 unfold collect;refine Z00 (wpAny_runValue (codeAny_builtin F.entry_proto_collect ?_));rw [Around.under_plainId F.plain_proto_collect _];show wpAny _ A.in1 (newList [] >>= λl=>again (.builtin "list.__iadd__" ⟨[l,.ref r],[]⟩)) _ _ s;refine Z00 (Z16 ?_);refine Z04 ⟨plainId_quiet F.plain_list_iadd _,codeAny_builtin F.entry_list_iadd ?_⟩;rw [Around.under_plainId F.plain_list_iadd _];show wpAny _ A.in1 (Builtin.List.listExtendWith (.ref s.heap.objs.size) (.ref r) (.ref s.heap.objs.size)) _ _ _;have hS:(s.heap.push { cls:= .type "list",data:= .seq ([]:List Value).toArray }).get? s.heap.objs.size=some { cls:= .type "list",data:= .seq #[] 0 }:=Z0c _ rfl
 have fin':∀(h':Heap) (tk:Nat) (acc':Array Value) (c':Nat),(∀b o,b≠s.heap.objs.size->(s.heap.push { cls:= .type "list",data:= .seq ([]:List Value).toArray }).get? b=some o->h'.get? b=some o)->h'.get? s.heap.objs.size=some { cls:= .type "list",dict:=none,data:= .seq acc' c',slots:= #[] }->ItemsOf (λi v=>∃t,v= .int (a+i*c) t) acc' n->
   wpAny (model prog w) A (match Value.ref s.heap.objs.size with
   | Value.ref a=>do
    match (<-load a).data with
     | Data.seq xs _=>pure xs.toList
     | _=>unsupported "internal:collect"
   | _=>unsupported "internal:collect") Q E { s with heap:=h',toks:=tk }:=λh' tk acc' c' kp hS' hacc=>by
  show wpAny _ A (load s.heap.objs.size >>= _) _ _ _;refine Z00 (wpAny_load hS' ?_);exact Z04 (hQ h' tk acc' (λb o e=>kp b o (Z0h (Z0a e)) (Z01 _ e)) hacc)
 refine Z10 (wpAny_extend_range (A:=A) (R:=λr s'=>∃(h':Heap) (tk:Nat) (acc':Array Value) (c':Nat),r= .ok (.ret (.ref s.heap.objs.size))/\s'={ s with heap:=h',toks:=tk }/\(∀b o,b≠s.heap.objs.size->(s.heap.push { cls:= .type "list",data:= .seq ([]:List Value).toArray }).get? b=some o->h'.get? b=some o)/\h'.get? s.heap.objs.size=some { cls:= .type "list",dict:=none,data:= .seq acc' c',slots:= #[] }/\ItemsOf (λi v=>∃t,v= .int (a+i*c) t) acc' n)
  (s:={ s with heap:=s.heap.push { cls:= .type "list",data:= .seq ([]:List Value).toArray } }) hh (Z01 _ hr) hsmall hn hlen s.heap.objs.size _ 0 hS λh' tk acc' c' kp hS' hacc=>⟨h',tk,acc',c',rfl,rfl,kp,hS',hacc⟩) (λfin s' h=> ?_) (λe s' h=> ?_)
 ·cases fin with
  | done f =>
   obtain ⟨h',tk,acc',c',e,rfl,kp,hS',hacc⟩:=h;cases e;exact fin' h' tk acc' c' kp hS' hacc
  | again c'=>exact ⟨h.1,codeAny_mono h.2 λr s'' hr=>by obtain ⟨h',tk,acc',c',rfl,rfl,kp,hS',hacc⟩:=hr;exact fin' h' tk acc' c' kp hS' hacc⟩
 ·obtain ⟨_,_,_,_,e,_⟩:=h;cases e
theorem B4t {Q₁:Value->Shared->Prop} {r:Addr} {a b c:Int} {t u v:Tok} {n:Nat} (hh:A.handled=none) (hr:IsRange s.heap r a b c t u v) (hsmall:Builtin.Range.small a b c=true)
  (hn:Builtin.Range.rangeSize a b c=n) (hlen:n<=2^24)
  (h:∀(h':Heap) (tk:Nat) (acc:Array Value),(∀b o,s.heap.get? b=some o->h'.get? b=some o)->ItemsOf (λi v=>∃t,v= .int (a+i*c) t) acc n->Q₁ (.ref h'.objs.size) { s with heap:=h'.push { cls:= .type "tuple",data:= .seq acc },toks:=tk }) (hsz:n<=sizeLine) :
  codeAny (model prog w) A (.call (.builtin "tuple.__new__") ⟨[.type "tuple",.ref r],[]⟩) (wants Q₁ E) s:=by
 refine codeAny_of_tree ?_;show wpAny _ A.in1 (do checkBuiltinCall "tuple.__new__" ⟨[.type "tuple",.ref r],[]⟩;again (.builtin "tuple.__new__" ⟨[.type "tuple",.ref r],[]⟩)) _ _ s;refine Z00 (wpAny_of_eq (F.newCall_tuple_1 _) (Z04 ⟨plainId_quiet F.plain_tuple_new _,codeAny_builtin F.entry_tuple_new ?_⟩));rw [Around.under_plainId F.plain_tuple_new _];have hsub:=sub_tuple_self;have hinit:=init_tuple_lookup;have hmh:=madeHere_tuple;have hTI:s.TypeIs (.ref r) "range":=⟨_,hr,rfl⟩
 wp_walk using wpAny_typeOf hTI,C0r (by first | exact hh | simpa using hh) hr hsmall hn hlen
 intro h' tk acc kp hacc;show wpAny _ _ (Builtin.Tuple.tupleExact acc.toList.toArray >>= λv=>ret v) _ _ _;unfold Builtin.Tuple.tupleExact;refine Z00 (Z16 ?_ (by show acc.toList.toArray.size<=sizeLine;simp only [Array.toArray_toList];rw [hacc.1];exact hsz));refine Z04 ?_;have e:acc.toList.toArray=acc:=by simp
 rw [e];exact h h' tk acc kp hacc
theorem B3z {Q:Value->Shared->Prop} {r:Addr} {a b c:Int} {t u v:Tok} {n:Nat} (hh:A.handled=none) (hr:IsRange s.heap r a b c t u v) (hsmall:Builtin.Range.small a b c=true)
  (hn:Builtin.Range.rangeSize a b c=n) (hlen:n<=2^24)
  (hQ:∀(h':Heap) (tk:Nat) (acc:Array Value),(∀b o,s.heap.get? b=some o->h'.get? b=some o)->ItemsOf (λi v=>∃t,v= .int (a+i*c) t) acc n->Q (.ref h'.objs.size) { s with heap:=h'.push { cls:= .type "tuple",data:= .seq acc },toks:=tk }) (hsz:n<=sizeLine) :
  wpAny (model prog w) A (call (.type "tuple") [.ref r]) Q E s:=by
 refine callType_codes (Q₁:=λobj s₁=>s₁.TypeIs obj "tuple"/\Q obj s₁) F.called_tuple (F.typeCall_tuple_1 _) F.entry_object_init
  (B4t (by first | exact hh | simpa using hh) hr hsmall hn hlen (λh' tk acc kp hacc=>⟨⟨_,Z0c _ rfl,rfl⟩,hQ h' tk acc kp hacc⟩) hsz) λobj s₁ h₁=> ?_
 exact ⟨h₁.1,F.args_object_init_2 obj _,object_init_meets F.called_tuple.init.lookup F.called_tuple.made (by decide) prog w A.in1 _ s₁ ⟨h₁.1,rfl,h₁.2⟩⟩
end
section
variable {X:Cx}
theorem D8x {lo hi:Int}:Builtin.Range.rangeSize lo hi 1=(((hi-lo).toNat:Nat):Int):=by rw [rangeSize_one];split <;> lia
theorem C4b {pins:List (Addr×Obj)} {σ:St} {H:Hp} {s:Shared} {Q:VK} {lo hi:Int} {t u v:Tok} {tk:Nat} (hh:X.A.handled=none) (I:Inv X pins σ H s) (h1: -(2^62)<=lo) (h2:lo<2^62) (h3: -(2^62)<=hi) (h4:hi<2^62) (h5:hi-lo<=1000000)
  (q:∀D,H D=none->Q (.ref D) (upd H D (.tup ((List.range (hi-lo).toNat).map λ(k:Nat)=> .int (lo+k))))):wpAny (model X.prog X.w) X.A (call (.type "tuple") [.ref s.heap.objs.size]) (EP X pins σ Q) X.xe { s with heap:=s.heap.push { cls:= .type "range",data:= .fields #[.int lo t,.int hi u,.int 1 v] },toks:=tk }:=by
 have I1:Inv X pins σ H { s with heap:=s.heap.push { cls:= .type "range",data:= .fields #[.int lo t,.int hi u,.int 1 v] },toks:=tk }:=I.kept λb o e=>Z01 _ e
 have hz:(hi-lo).toNat<=sizeLine:=A0h (by lia);refine B3z hh (IsRange.new ..) (small_one h1 h2 h3 h4) D8x (by lia) (λh' tk' acc kp hacc=> ?_) hz;have hl:acc.toList.length=(hi-lo).toNat:=by rw [Array.length_toList];exact hacc.1
 have vs:=B8x acc.toList lo λj v hj=>by
  obtain ⟨t,e⟩:=hacc.2 j v (by rw [<-Array.getElem?_toList];exact hj);exact ⟨t,by rw [e];congr 1;lia⟩
 rw [hl] at vs
 have le:(s.heap.push { cls:= .type "range",data:= .fields #[.int lo t,.int hi u,.int 1 v] }).objs.size<=h'.objs.size:=by
  have:=Z0a (kp _ _ (Z0c s.heap rfl));rw [Z1s];exact this
 refine ⟨.ref _,_,I1.laid (t':=tk') (o:= .tup ((List.range (hi-lo).toNat).map λ(k:Nat)=> .int (lo+k))) (λb u e=>Z01 _ (kp _ _ e)) le ⟨?_,acc.toList,vs,⟨_,Z0c _ rfl,rfl,0,by simp⟩⟩,rfl,q _ (I1.hok.fresh le)⟩;rw [Z08,List.length_range];exact hz
noncomputable def tTR2 (ta:TA):TE:=λσ H Q=>ta σ H λvs H1=>∃i j:Int,vs=[.int i,.int j]/\(-(2^62)<=i/\i<2^62/\-(2^62)<=j/\j<2^62/\j-i<=1000000)/\∀D,H1 D=none->Q (.ref D) (upd H1 D (.tup ((List.range (j-i).toNat).map λ(k:Nat)=> .int (i+k))))
theorem B7y {a b:Expr} {ta:TA} {p1 p2 pos1 pos2:Pos} (hc:X.calm=true) (hgd:Gl X "tuple") (hmd:X.mg "tuple"=none) (hgz:Gl X "range") (hmz:X.mg "range"=none) (ha:PA X [a,b] ta)
  (hs0:starEach [.Call (.Name "range" p2) [a,b] [] pos2] X.env=(false,eval (.Call (.Name "range" p2) [a,b] [] pos2) X.env)::starEach [] X.env:=by rfl)
  (hs:starEach [a,b] X.env=[(false,eval a X.env),(false,eval b X.env)]:=by rfl) (hs2:starEach [b] X.env=[(false,eval b X.env)]:=by rfl):PE X (.Call (.Name "tuple" p1) [.Call (.Name "range" p2) [a,b] [] pos2] [] pos1) (tTR2 ta):=by
 intro pins s σ H Q I h;have hh:X.A.handled=none:=I.ok.hd hc;refine wpAny_Call_Name_kw (A5v I hgd hmd boot_tuple ?_);refine PyProof.Rows.callWith_type1 ?_ hs0 (by rfl);rw [hs0];show wpAny _ _ (spliced ((false,eval _ X.env)::backTo pos1 (starEach [] X.env))) _ _ s;refine Calls.spliced_cons ?_;refine Call_ (A5v I hgz hmz boot_range (PyProof.Rows.callWith_type1 (thn (ha pos2 pins s σ H _ I h) λus s1 ⟨vs,H1,I1,r1,q1⟩=> ?_) (by rw [hs,hs2]) (by rw [hs2];rfl)));obtain ⟨i,j,e,⟨q1,q2,q3,q4,q5⟩,q⟩:=q1;subst e
 cases r1 with
 | cons r rr =>
  cases rr with
  | cons r' rr =>
   cases rr
   obtain ⟨t,rfl⟩:=r;obtain ⟨t',rfl⟩:=r';exact call_range_2 (Calls.spliced_nil (C4b hh I1 q1 q2 q3 q4 q5 q))
end
theorem D2o (l:Addr) (items:Array Value) (n:Nat) (b:Addr) (items2:Array Value) (n2:Nat) (dd:Option Addr) (sl:Array (Option Value)) (hs0:¬(!items.isEmpty&&Builtin.List.listTooLong (items.size+items2.size))=true) (hs1:items.size<=sizeLine) (hs2:items.size+items2.size<=sizeLine+1) :
  Meets (Builtin.«list.extend» ⟨[.ref l,.ref b],[]⟩) (λ_ R s=>s.heap.get? l=some { cls:= .type "list",dict:=none,data:= .seq items n,slots:= #[] }/\s.heap.get? b=some { cls:= .type "tuple",dict:=dd,data:= .seq items2 n2,slots:=sl }/\R (.ok (.ret Value.none)) { s with heap:=s.heap.update l (Obj.mapSeq λx=>x++items2),toks:=s.toks }) :=
 .of_wp λprog w A R s h=>by
  obtain ⟨hp,g,d,tk,os⟩:=s;obtain ⟨hl,hb,h⟩:=h;have f1:=AutoSeq1.idx_int;have f2:=AutoSeq1.sub_tuple_tuple;have f3:=AutoSeq1.sub_list_list;have f4:=AutoSeq1.sub_tuple_list;have f5:=AutoSeq1.sub_list_tuple;have hz':(items++items2).size<=sizeLine+1:=by rw [Array.size_append];exact hs2
  wp_walk using (wpAny_updateSeq hl rfl (hz:=hs1) (_hz':=hz')),AutoSeq1.wpAny_loadPart' hl,AutoSeq1.wpAny_loadPart' hb;exact ⟨_,rfl,h⟩
noncomputable def C9p:V->List V->Hp->VK->Prop:=λx vs H Q=>∃l b xs zs,x= .ref l/\vs=[.ref b]/\H l=some (.lst xs)/\H b=some (.tup zs)/\xs.length+zs.length<=sizeLine/\Q .non (upd H l (.lst (xs++zs)))
theorem C3i {X:Cx}:MtM X "list.extend" C9p:=by
 intro pins s σ H x vs v us Q I rx rv h;obtain ⟨l,b,xs,zs,rfl,rfl,hH,hB,hz,q⟩:=h;cases rx;obtain ⟨u,rfl,ru⟩:=rv.one;cases ru;obtain ⟨z,its,n,r,hl,e⟩:=I.lstM hH;obtain ⟨z2,its2,r2,⟨o,e2,hc,n2,hd⟩⟩:=I.hok b _ hB;obtain ⟨oc,od,oda,osl⟩:=o;have hc:oc= .type "tuple":=hc;have hd:oda= .seq its2.toArray n2:=hd;subst hc hd;have hl2:=r2.length;have hsz:its.toArray.size+its2.toArray.size<=sizeLine:=by rw [Z0g,Z0g];lia
 have hlong:¬(!its.toArray.isEmpty&&Builtin.List.listTooLong (its.toArray.size+its2.toArray.size))=true:=by
  rw [C8v hsz,Bool.and_false];exact Z0v
 refine call_meets F.slot_list_extend ⟨_,e,rfl⟩ F.entry_list_extend (F.args_list_extend_2 _ _)
  (D2o l its.toArray n b its2.toArray n2 od osl hlong (by rw [Z0g];lia) (by lia)) ⟨e,e2,?_⟩
 refine ⟨.non,_,I.lset (its':=its++its2) hH e (by simp) (r.append r2) ?_,rfl,q⟩;rw [Z06]
 lia
theorem B2p:TypeCalled "reversed" "reversed.__new__" "object.__init__" :=
 ⟨by decide +kernel,by decide +kernel,⟨_,_,PySem.F.mro_reversed⟩,PySem.F.made_reversed,by decide +kernel,by rw [isSubtype_type];kernel_rfl,
  .of (owner:="object") (n:="__init__") (by rw [typeLookup_type,builtinLookup_eq_fast];kernel_rfl) (by decide +kernel) (by decide +kernel) (by decide +kernel) (by first | exact .inl (by decide +kernel) | exact .inr (by decide +kernel)) (by rw [isSubtype_type];kernel_rfl)⟩
theorem C3q:typeLookup (.type "tuple") (Str.ofString "__reversed__")=pure none:=by rw [typeLookup_type,builtinLookup_eq_fast];kernel_rfl
theorem B4w:typeLookup (.type "tuple") (Str.ofString "__getitem__")=pure (some (.builtin "tuple.__getitem__")):=by rw [typeLookup_type,builtinLookup_eq_fast];kernel_rfl
theorem B3e:isSubtype (.type "tuple") (.type "dict")=pure false:=by rw [isSubtype_type];kernel_rfl
theorem B8m:Manifest.owners.lookup (String.ofList ['d','e','s','r','e','v','e','r'].reverse)=some Manifest.sig_reversed:=by kernel_rfl
theorem A3w:Slot "reversed" "__next__" "reversed.__next__" :=
 .of (owner:="reversed") (n:="__next__") (by rw [typeLookup_type,builtinLookup_eq_fast];kernel_rfl) (by decide +kernel) (by decide +kernel) (by decide +kernel)
  (by first | exact .inl (by decide +kernel) | exact .inr (by decide +kernel)) (by rw [isSubtype_type];kernel_rfl)
theorem A8p:entryFor table "reversed.__next__"=some Builtin.«reversed.__next__»:=entryFor_of_tree (by kernel_rfl)
theorem A6v (a:Value):argsOk "reversed.__next__" ⟨[a],[]⟩:=by
 unfold argsOk;rw [signature?_of (id:="reversed.__next__") (n:=['_','_','t','x','e','n','_','_']) (o:=['d','e','s','r','e','v','e','r']) (by kernel_rfl) B8m];kernel_rfl
theorem A9o:Slot "reversed" "__iter__" "reversed.__iter__" :=
 .of (owner:="reversed") (n:="__iter__") (by rw [typeLookup_type,builtinLookup_eq_fast];kernel_rfl) (by decide +kernel) (by decide +kernel) (by decide +kernel)
  (by first | exact .inl (by decide +kernel) | exact .inr (by decide +kernel)) (by rw [isSubtype_type];kernel_rfl)
theorem B3n (a:Value):argsOk "reversed.__iter__" ⟨[a],[]⟩:=by
 unfold argsOk;rw [signature?_of (id:="reversed.__iter__") (n:=['_','_','r','e','t','i','_','_']) (o:=['d','e','s','r','e','v','e','r']) (by kernel_rfl) B8m];kernel_rfl
theorem B3u:entryFor table "reversed.__iter__"=some Builtin.«dict_keyiterator.__iter__» :=
 entryFor_alias (id':="dict_keyiterator.__iter__") (by kernel_rfl) (by first | rfl | decide +kernel | (unfold String.splitOn;simp +decide [String.splitOnAux])) (by decide +kernel) (by kernel_rfl)
noncomputable def C1g (t:Addr) (i:Int):Obj:={ cls:= .type "reversed",data:= .fields #[.ref t,rawInt i] }
noncomputable def A7r (h:Heap) (a t:Addr) (i:Int):Prop:=∃o,h.get? a=some o/\o.cls= .type "reversed"/\o.data= .fields #[.ref t,rawInt i]
theorem A7r.typeIs {s:Shared} {a t:Addr} {i:Int} (x:A7r s.heap a t i):s.TypeIs (.ref a) "reversed":=let ⟨o,ho,hc,_⟩:=x;⟨o,ho,hc⟩
theorem A7r.at {h h':Heap} {a t:Addr} {i:Int} (x:A7r h a t i) (e:∀o,h.get? a=some o->h'.get? a=some o):A7r h' a t i:=let ⟨o,ho,r⟩:=x;⟨o,e _ ho,r⟩
theorem B5c (t:Addr) (items:Array Value) (hfit:(items.size:Int)<2^63):Meets (Builtin.«reversed.__new__» ⟨[.type "reversed",.ref t],[]⟩)
  (λ_ R s=>IsTup s.heap t items/\∀tk,R (.ok (.ret (.ref s.heap.objs.size))) { s with heap:=s.heap.push (C1g t ((items.size:Int)-1)),toks:=tk }) :=
 .of_wp λprog w A R s h=>by
  obtain ⟨ht,h⟩:=h;have hT:s.TypeIs (.ref t) "tuple":=let ⟨o,e,c,_⟩:=ht;⟨o,e,c⟩;unfold Builtin.«reversed.__new__»;refine Z00 (wpAny_of_eq (newClass_reversed _) ?_)
  try dsimp only
  refine Z00 (wpAny_of_eq (a:=()) (by first | rfl | kernel_rfl) ?_);refine Z00 (wpAny_of_eq (a:=()) (by first | rfl | kernel_rfl) ?_)
  try dsimp only
  refine Z00 (wpAny_specialOf hT C3q ?_)
  try dsimp only
  have f1:=B3e;have f2:=B4w;have hl2:∀(Q:Value->Shared->Prop) (E:Value->Shared->Prop),Q (Value.int (items.size:Int) (s.toks+1)) { s with toks:=s.toks+1+1 }->wpAny (model prog w) A.in1 (call (.builtin "len") [.ref t]) Q E s:=λQ E h=>len_tuple ht hfit h
  wp_walk using wpAny_isInstance (T:="tuple") (b:=false) hT B3e,wpAny_specialOf hT B4w,hl2 _ _
  exact ⟨_,rfl,h _⟩
section
variable {prog:Program} {w:World} {A:Around} {E:Value->Shared->Prop} {s:Shared}
theorem B0u {t:Addr} {items:Array Value} {Q:Value->Shared->Prop} (ht:IsTup s.heap t items) (hfit:(items.size:Int)<2^63)
  (h:∀tk,Q (.ref s.heap.objs.size) { s with heap:=s.heap.push (C1g t ((items.size:Int)-1)),toks:=tk }):wpAny (model prog w) A (call (.type "reversed") [.ref t]) Q E s:=by
 refine callType_new B2p (by decide) (F.typeCall_reversed_1 _) (F.newCall_reversed_1 _) (λobj=>F.args_object_init_2 obj _) F.entry_reversed_new (B5c t items hfit) ⟨ht,λtk=>⟨⟨_,Z0c _ rfl,rfl⟩,h tk⟩⟩
theorem A7j {it t:Addr} {i:Nat} {items:Array Value} {x:Value} {Q:Option Value->Shared->Prop} (hit:A7r s.heap it t (i:Int)) (ht:IsTup s.heap t items) (hfit:(items.size:Int)<2^63) (hx:items[i]? =some x)
  (hQ:∀h' tk,A7r h' it t ((i:Int)-1)->Heap.SameBut it s.heap h'->Q (some x) { s with heap:=h',toks:=tk }):wpAny (model prog w) A (pyNext (.ref it)) Q E s:=by
 obtain ⟨o,ho,hc,hd⟩:=id hit;have hT:s.TypeIs (.ref t) "tuple":=let ⟨o,e,c,_⟩:=ht;⟨o,e,c⟩;have hlt:i<items.size:=(Z1m.mp hx).1;unfold pyNext
 refine Z00 (wpAny_attempt (Z1b (name:=Str.ofString "__next__") hit.typeIs A3w
  (Z1g A3w hit.typeIs A8p ?_ (A6v _))))
 unfold Builtin.«reversed.__next__»;refine Z00 (wpAny_of_eq (a:=(Value.ref it,[])) rfl ?_)
 try dsimp only
 refine Z00 (Z11 ho hd (x:= .ref t) rfl ?_);refine Z00 (Z11 ho hd (x:=rawInt (i:Int)) rfl ?_);show wpAny _ _ (if (i:Int)<0 then _ else _) _ _ s;rw [Z0t (by lia)];refine Z00 (wpAny_specialOf hT B4w ?_);show wpAny _ _ (if (some (Value.builtin "tuple.__getitem__")).isNone=true then _ else _) _ _ s;rw [Z0t (by decide)];refine Z00 (wpAny_mkInt ?_);refine Z00 (wpAny_attempt ?_)
 have hj:seqIndex? (i:Int) items.size=some i:=by
  unfold seqIndex?;simp
  lia
 refine getItem_tuple (show IsTup _ t items from ht) (by lia) (by lia) hj hx ?_;show wpAny _ _ (field (.ref it) 1 >>= _) _ _ _;refine Z00 (Z11 ho hd (x:=rawInt (i:Int)) rfl ?_);show wpAny _ _ (setField (.ref it) 1 (rawInt ((i:Int)-1)) >>= _) _ _ _;refine Z00 (Z1t ho hd (by simp) ?_);refine Z04 ⟨x,rfl,Z04 (hQ _ _ ?_ (Heap.SameBut.update ..))⟩
 exact ⟨_,Z1r _ ho (Obj.isFreed_of_fields (Obj.data_mapFields hd _)),(Obj.cls_mapFields ..).trans hc,by
  rw [Obj.data_mapFields hd];simp⟩
theorem A8m {it t:Addr} {Q:Option Value->Shared->Prop} (hh:A.handled=none) (hit:A7r s.heap it t (-1))
  (hQ:∀h',Heap.ExtBut it s.heap h'->Q none { s with heap:=h' }):wpAny (model prog w) A (pyNext (.ref it)) Q E s:=by
 obtain ⟨o,ho,hc,hd⟩:=id hit;unfold pyNext
 refine Z00 (wpAny_attempt (Z1b (name:=Str.ofString "__next__") hit.typeIs A3w
  (Z1g A3w hit.typeIs A8p ?_ (A6v _))))
 unfold Builtin.«reversed.__next__»;refine Z00 (wpAny_of_eq (a:=(Value.ref it,[])) rfl ?_)
 try dsimp only
 refine Z00 (Z11 ho hd (x:= .ref t) rfl ?_);refine Z00 (Z11 ho hd (x:=rawInt (-1)) rfl ?_);show wpAny _ _ (if (-1:Int)<0 then _ else _) _ _ s;rw [Z12 (by decide)];refine Z00 (wpAny_rule ?_);refine Z00 ?_;refine Z00 (Z1t ho hd (by simp) ?_);refine Z1t (Z1r _ ho (Obj.isFreed_of_fields (Obj.data_mapFields hd _))) (Obj.data_mapFields hd _) (by simp) ?_;refine Z00 ?_
 first
 | show wpAny _ _ (newExc (.type "StopIteration") [] >>= _) _ _ _
 | (refine Z00 ?_;show wpAny _ _ (newExc (.type "StopIteration") [] >>= _) _ _ _)
 refine Z00 ?_;simp only [newExc,newTuple];refine Z00 (Z16 ?_ (by size_fits));refine Z00 (m:=firstArgMember _ _) (wpAny_of_eq (a:=Value.none) (by first | rfl | (simp only [firstArgMember];rfl)) ?_);refine Z16 ?_ (by size_fits);simp only [raiseNew];refine Z00 (wpAny_handled ?_)
 first | rw [show A.in1.handled=none from hh] | rw [hh]
 refine Z00 (Z04 (wpAny_throw ?_));refine Z00 (wpAny_isInstance (T:="StopIteration") (b:=true) ⟨_,Z0c _ rfl,rfl⟩ isSubtype_stop ?_);exact Z04 (hQ _ ((((Heap.SameBut.update ..).extBut.trans (Heap.SameBut.update ..).extBut).push _).push _))
theorem A6r {it t:Addr} {i:Int} {Q:Value->Shared->Prop} (hit:A7r s.heap it t i) (h:Q (.ref it) s):wpAny (model prog w) A (pyIter (.ref it)) Q E s:=by
 refine wpAny_pyIter_slot hit.typeIs A9o (Z1g A9o hit.typeIs B3u ?_ (B3n _));show wpAny _ _ (ret (.ref it)) _ _ s;exact Z04 ⟨_,rfl,"reversed",_,hit.typeIs,A3w.lookup,h⟩
end
noncomputable def Itw (K:PySem.W.Frag) (a:Addr) (n:Nat):It :=
 ⟨λi H=>∃xs x,SqT K H a xs/\xs.length=n/\i<n/\xs[n-1-i]? =some x,λi H x H'=>H'=H/\∀xs,SqT K H a xs->xs[n-1-i]? =some x,λi _=>i=n⟩
theorem D0i {P:Program} {w:World} {K:PySem.W.Frag} {tg:Expr} (a it:Addr) (n:Nat):D0k P w K tg (Itw K a n) [it] it (λi h=>A7r h it a ((n:Int)-1-(i:Int))) where
 mem:=by simp
 obj:=λi h st b hb=>by
  have e:b=it:=by simpa using hb
  subst e;obtain ⟨o,e,c,d⟩:=st;exact ⟨o,e,λv z=>by rw [d] at z;cases z⟩
 keep:=λi h h' st k=>st.at λo e=>k it (by simp) o e
 item:=by
  intro X hP hw hK hc i pins s σ H E I hf st hg;subst hP hw hK;obtain ⟨xs,x,hq,hn,hi,hx⟩:=hg;obtain ⟨its,rv,p,hz⟩:=I.tuple hq;obtain ⟨u,hu,ru⟩:=rv.get hx;obtain ⟨f0,f1,f2,f3,f4,f5⟩:=hf it (by simp);have e1:(n:Int)-1-(i:Int)=((n-1-i:Nat):Int):=by lia
  rw [e1] at st;refine A7j st p (by rw [Z0g,<-rv.length];have:=sizeLine_eq;lia) (x:=u) (by simpa using hu) λh' tk st' sb=> ?_;have I1:Inv X pins σ H { s with heap:=h',toks:=tk }:=I.turned (t':=tk) (λb o hb e=>(sb.2 b hb).trans e) f0 f1 f3 f4 f5
  have e2:((n-1-i:Nat):Int)-1=(n:Int)-1-((i+1:Nat):Int):=by lia
  rw [e2] at st';obtain ⟨o,e,c,d⟩:=id st';exact ⟨u,rfl,C5m (s:={ s with heap:=h',toks:=tk }) e c d (by decide) ⟨x,H,I1,ru,⟨rfl,λys hy=>by rw [I.tuple_inj hy hq];exact hx⟩,st',λb hb=>(hf b hb).1⟩⟩
 done:=by
  intro X hP hw hK hc i pins s σ H E I hf st hg;subst hP hw hK;have hi:i=n:=hg;subst hi;obtain ⟨f0,f1,f2,f3,f4,f5⟩:=hf it (by simp);have e1:(i:Int)-1-(i:Int)= -1:=by lia
  rw [e1] at st;exact A8m (I.ok.hd hc) st λh' eb=>⟨rfl,I.turned (t':=s.toks) (λb o hb e=>eb b o hb e) f0 f1 f3 f4 f5⟩
 self:=λ_ _ _ _ _ st h=>A6r st h
noncomputable def D7y (K:PySem.W.Frag) (ta:TA):TI:=λσ H R=>ta σ H λvs H1=>∃a xs,vs=[.ref a]/\SqT K H1 a xs/\R (Itw K a xs.length) H1
theorem D1k {X:Cx} {tg:Expr} {a:Expr} {ta:TA} {p pos:Pos} (hg:Gl X "reversed") (hm:X.mg "reversed"=none) (ha:PA X [a] ta) (hs:starEach [a] X.env=[(false,eval a X.env)]:=by rfl) :
  PI X tg (.Call (.Name "reversed" p) [a] [] pos) (D7y X.K ta):=by
 intro pins s σ H R I h;refine Call_ (A5v I hg hm boot_reversed (PyProof.Rows.callWith_type1 (thn (ha pos pins s σ H _ I h) λus s1 ⟨vs,H1,I1,r1,q1⟩=> ?_) hs rfl));obtain ⟨l,xs,e,hq,q⟩:=q1;subst e;obtain ⟨u,rfl,ru⟩:=B5q r1;cases ru;obtain ⟨its,rv,p1,hz⟩:=I1.tuple hq;have en:(its.toArray.size:Int)-1=(xs.length:Int)-1-((0:Nat):Int):=by rw [Z0g,<-rv.length];lia
 refine B0u p1 (by rw [Z0g,<-rv.length];have:=sizeLine_eq;lia) λtk=> ?_;rw [en];have st:A7r (s1.heap.push (C1g l ((xs.length:Int)-1-((0:Nat):Int)))) s1.heap.objs.size l ((xs.length:Int)-1-((0:Nat):Int)):=⟨_,Z0c _ rfl,rfl,rfl⟩;refine A6r (s:={ s1 with heap:=s1.heap.push (C1g l ((xs.length:Int)-1-((0:Nat):Int))),toks:=tk }) st ?_;refine ⟨_,[s1.heap.objs.size],_,_,H1,rfl,I1.kept (t':=tk) λb o e=>Z01 _ e,D0i l _ xs.length,st,λb hb=> ?_,q⟩
 have e:b=s1.heap.objs.size:=by simpa using hb
 subst e;exact I1.fpOk (Z09 _) (I1.hok.fresh (Z09 _))
theorem D4m {K:PySem.W.Frag} {a:Addr} {xs:List V} {g:TG} {tb:TS} {D:B4d} {σ:St} {H:Hp} (Pv:Nat->St->Hp->Prop) (h0:Pv 0 σ H) (hl:∀i σ H,Pv i σ H->SqT K H a xs)
  (hs:∀i x σ H,i<xs.length->xs[xs.length-1-i]? =some x->Pv i σ H->g x σ H λσ2 H2=>tb { D with nx:=Pv (i+1),ct:=Pv (i+1),bk:=D.nx } σ2 H2) (hd:∀σ H,Pv xs.length σ H->D.nx σ H) :
  ∃W:Nat->Nat->St->Hp->Prop,(∃m,W 0 m σ H)/\∀i m σ H,W i m σ H->
   ((Itw K a xs.length).stop i H/\D.nx σ H)\/((Itw K a xs.length).go i H/\∃N:St->Hp->Prop,(∀σ' H',N σ' H'->∃m',m'<m/\W (i+1) m' σ' H')/\∀x H',(Itw K a xs.length).yld i H x H'->g x σ H' λσ2 H2=>tb { D with nx:=N,ct:=N,bk:=D.nx } σ2 H2):=by
 refine ⟨λi m σ H=>m=xs.length-i/\i<=xs.length/\Pv i σ H,⟨xs.length,by simp,Z1e _,h0⟩,?_⟩;rintro i m σ H ⟨rfl,hi,p⟩;have q:=hl i σ H p;by_cases hlt:i<xs.length
 ·refine .inr ⟨⟨xs,xs[xs.length-1-i],q,rfl,hlt,Z0b _⟩,Pv (i+1),λσ' H' p'=>⟨xs.length-(i+1),by lia,rfl,hlt,p'⟩,λx H' y=> ?_⟩;obtain ⟨e,y⟩:=y;subst e;exact hs i x σ _ hlt (y xs q) p
 ·have e:i=xs.length:=by lia
  subst e;exact .inl ⟨rfl,hd σ H p⟩
section
variable {X:Cx}
noncomputable def D5w (K:PySem.W.Frag):R2:=λx y H Q=>∃a b xs ys,x= .ref a/\y= .ref b/\SqT K H a xs/\SqT K H b ys/\xs.length+ys.length<=sizeLine/\
 (xs=[]->Q (.ref b) H)/\(xs≠[]->ys=[]->Q (.ref a) H)/\(xs≠[]->ys≠[]->∀p,H p=none->Q (.ref p) (upd H p (.tup (xs++ys))))
theorem C9c:OpR X (binaryOp .Add) (D5w X.K):=by
 intro pins s σ H x y v u Q I rx ry h;obtain ⟨a,b,xs,ys,rfl,rfl,ha,hb,hz,q1,q2,q3⟩:=h;by_cases hx:xs=[]
 ·subst hx;cases rx;cases ry;obtain ⟨its,r1,p1,_⟩:=I.tuple ha;obtain ⟨its2,r2,p2,_⟩:=I.tuple hb;have e1:its=[]:=r1.nil_iff.mpr rfl;obtain ⟨⟨cls,dd,data,sl⟩,ho,hc,n,hd⟩:=id p1;obtain ⟨⟨cls2,dd2,data2,sl2⟩,ho2,hc2,n2,hd2⟩:=id p2;simp only at hc hd hc2 hd2;subst hc hd hc2 hd2
  exact concat_meets ⟨_,ho,rfl⟩ ⟨_,ho2,rfl⟩ noFill_tuple_add seq_tuple_add PySem.F.slot_tuple_add PySem.F.entry_tuple_add (PySem.F.args_tuple_add_2 _ _)
   (tuple_addW0 a b its.toArray its2.toArray n n2 dd dd2 sl sl2 (by simp [e1])) ⟨ho,ho2,⟨.ref b,H,I,rfl,q1 rfl⟩⟩
 ·exact C4d pins s σ H _ _ v u Q I rx ry ⟨a,b,xs,ys,rfl,rfl,ha,hb,hx,hz,λz=>q2 hx z,λz=>q3 hx z⟩
noncomputable def D1m:R2:=λx y H Q=>∃a b xs ys,x= .ref a/\y= .ref b/\H a=some (.tup xs)/\H b=some (.tup ys)/\xs.length+ys.length<=sizeLine/\∀q H',A0o H H'->H' q=some (.tup (xs++ys))->Q (.ref q) H'
theorem A2i:OpR X (binaryOp .Add) D1m:=λpins s σ H x y v u Q I rx ry h=>by
 obtain ⟨a,b,xs,ys,e1,e2,ha,hb,hz,q⟩:=h;refine C9c pins s σ H x y v u Q I rx ry ⟨a,b,xs,ys,e1,e2,SqT.of ha,SqT.of hb,hz,λz=> ?_,λ_ z=> ?_,λ_ _ p hp=> ?_⟩
 ·subst z;exact q b H (A0o.refl _) hb
 ·subst z;exact q a H (A0o.refl _) (by rw [Z0u];exact ha)
 ·exact q p _ (A0d hp) A0b
end
open AutoSeq1 (wpAny_loadPart')
theorem B1y {prog:Program} {w:World} {A:Around} (hh:A.handled=none) (it l:Addr) (hne:l≠it) (items:Array Value) :
  Draws prog w A it [it,l] items.size (λi v=>items[i]? =some v) (λi h=>h.IsTupleIter it l i/\h.IsTuple l items) where
 live:=λ_ _ st=>let ⟨o,ho,_⟩:=st.1;⟨o,ho⟩
 frame:=λ_ _ _ st hk=>⟨st.1.at λo e=>hk it (by simp) o e,st.2.at λo e=>hk l (by simp) o e⟩
 item:=λi s Q E hi st hQ=>by
  refine A5w st.1 st.2 (x:=items[i]) (by simp [hi]) λh' hit' hs'=> ?_;exact hQ _ h' s.toks (by simp [hi]) ⟨hit',st.2.extBut hs'.extBut hne⟩ hs'
 done:=λs Q E st hE=>A6o hh st.1 st.2 (by simp) hE
theorem A8k (l:Addr) (items:Array Value) (n:Nat) (dct:Option Addr) (sl:Array (Option Value)) :
  Meets (Builtin.«enumerate.__new__» ⟨[.type "enumerate",.ref l],[]⟩) (λ_ R s=>s.heap.get? l=some { cls:= .type "tuple",dict:=dct,data:= .seq items n,slots:=sl }/\
   R (.ok (.ret (.ref (s.heap.push { cls:= .type "tuple_iterator",data:= .fields #[.ref l,.int 0 0] }).objs.size)))
    { s with heap:=(s.heap.push { cls:= .type "tuple_iterator",data:= .fields #[.ref l,.int 0 0] }).push { cls:= .type "enumerate",data:= .fields #[.none,.bool false,.ref s.heap.objs.size,rawInt 0,.none,.none] } }) :=
 .of_wp λprog w A R s h=>by
  obtain ⟨hp,g,d,tk,os⟩:=s;obtain ⟨hl,h⟩:=h;have hsub:=sub_enumerate;have hL:Heap.IsTuple (Shared.heap ⟨hp,g,d,tk,os⟩) l items:=⟨_,hl,rfl,n,rfl⟩
  wp_walk using wpAny_loadPart' hl
  refine wpAny_stack_any λst=>Z04 ?_;split
  ·rename_i c _ _ _ _ _;cases (c == Value.type "enumerate")
   ·wp_walk using wpAny_loadPart' hl,wpAny_pyIter_tuple hL
    exact ⟨_,rfl,h⟩
   ·wp_walk using wpAny_loadPart' hl,wpAny_pyIter_tuple hL
    exact ⟨_,rfl,h⟩
  ·wp_walk using wpAny_loadPart' hl,wpAny_pyIter_tuple hL
   exact ⟨_,rfl,h⟩
theorem A8j {prog:Program} {w:World} {A:Around} {E:Value->Shared->Prop} {s:Shared} {l:Addr} {items:Array Value} {Q:Value->Shared->Prop} (hL:s.heap.IsTuple l items)
  (h:∀h',IsEnum h' (s.heap.objs.size+1) s.heap.objs.size 0 .none->h'.IsTupleIter s.heap.objs.size l 0->h'.objs.size=s.heap.objs.size+2->
   (∀b o,s.heap.get? b=some o->h'.get? b=some o)->Q (.ref (s.heap.objs.size+1)) { s with heap:=h' }) :
  wpAny (model prog w) A (call (.type "enumerate") [.ref l]) Q E s:=by
 obtain ⟨⟨c,dct,dt,sl⟩,hl,hc,n,hd⟩:=hL
 replace hc:c= .type "tuple":=hc
 replace hd:dt= .seq items n:=hd
 subst hc hd
 refine callType_new F.called_enumerate (by decide) (F.typeCall_enumerate_1 _) (F.newCall_enumerate_1 _) (λobj=>F.args_object_init_2 obj _) F.entry_enumerate_new
  (A8k l items n dct sl) ⟨hl,?_⟩
 have hz:(s.heap.push { cls:= .type "tuple_iterator",data:= .fields #[.ref l,.int 0 0] }).objs.size=s.heap.objs.size+1:=Z1s ..;show _/\_;rw [hz]
 have he:IsEnum ((s.heap.push { cls:= .type "tuple_iterator",data:= .fields #[.ref l,.int 0 0] }).push
   { cls:= .type "enumerate",data:= .fields #[.none,.bool false,.ref s.heap.objs.size,rawInt 0,.none,.none] }) (s.heap.objs.size+1) s.heap.objs.size 0 .none:=by
  have:=Z0c (s.heap.push { cls:= .type "tuple_iterator",data:= .fields #[.ref l,.int 0 0] })
   (o:={ cls:= .type "enumerate",data:= .fields #[.none,.bool false,.ref s.heap.objs.size,rawInt 0,.none,.none] }) rfl
  rw [hz] at this;exact this
 refine ⟨⟨_,he,rfl⟩,h _ he ⟨_,Z01 _ (Z0c _ rfl),rfl,rfl⟩ (by rw [Z1s,hz]) λb o x=>Z01 _ (Z01 _ x)⟩
noncomputable def C3w (K:PySem.W.Frag) (a:Addr):It :=
 ⟨λi H=>∃xs x,SqT K H a xs/\xs[i]? =some x,
  λi H v H'=>∃p,H p=none/\v= .ref p/\∃x,(∀xs,SqT K H a xs->xs[i]? =some x)/\H'=upd H p (.tup [.int (i:Nat),x]),
  λi H=>∃xs,SqT K H a xs/\xs.length=i⟩
noncomputable def D8y (e it a:Addr) (i:Nat) (h:Heap):Prop:=(∃old,IsEnum h e it (i:Nat) old)/\h.IsTupleIter it a i
theorem C2f {P:Program} {w:World} {K:PySem.W.Frag} {elts:List Expr} {kk:Nat} {pos:Pos} {e it a:Addr} (ne:e≠it) (na:a≠it) (nea:e≠a):D0k P w K (.Tuple elts kk pos) (C3w K a) [e,it] e (D8y e it a) where
 mem:=by simp
 obj:=λi h st c hc=>by
  obtain ⟨⟨old,h1⟩,h2⟩:=st;simp only [Z0e,Z1i,or_false] at hc;rcases hc with rfl | rfl
  ·exact ⟨_,h1,λv z=>by cases (show Data.fields _=Data.cell v from z)⟩
  ·obtain ⟨o,ho,_,hd⟩:=h2;exact ⟨o,ho,λv z=>by rw [hd] at z;cases z⟩
 keep:=λi h h' st k=>by
  obtain ⟨⟨old,h1⟩,h2⟩:=st;exact ⟨⟨old,k e (by simp) _ h1⟩,h2.at λo z=>k it (by simp) o z⟩
 item:=by
  intro X hP hw hK hc i pins s σ H E I hf st hg;subst hP hw hK;obtain ⟨xs,x,hq,hx⟩:=hg;obtain ⟨its,rv,p1,_⟩:=I.tuple hq;obtain ⟨u,hu,ru⟩:=rv.get hx;obtain ⟨⟨old,h1⟩,h2⟩:=st;have hi:i<its.toArray.size:=by simpa using (Z03.mp hu).1
  refine wpAny_pyNext_enum_itemD (B1y (by simpa using I.ok.hd hc) it a na its.toArray) h1 ⟨h2,p1⟩ hi ne (by simp [ne,nea]) λy h' tk py z1 z2 z3 z4 kp=> ?_
  have ey:u=y:=by
   have h3:its.toArray[i]? =some u:=by simpa using hu
   rw [h3] at py;exact Z1a py
  subst ey;refine ⟨_,rfl,wpAny_letOwnedTupleGo_enum (s:={ s with heap:=h',toks:=tk+1 }) z1 λg zg sb=> ?_⟩
  have nz:s.heap.objs.size≠e:=Z1q (Z0a h1);have n2:it<s.heap.objs.size:=let ⟨_,q,_⟩:=h2;Z0a q;have tq:g.get? s.heap.objs.size=some { cls:= .type "tuple",data:= .seq #[.int i tk,u] }:=sb.extBut _ _ nz z3
  have I1:Inv X pins σ (upd H s.heap.objs.size (.tup [.int (i:Nat),x])) { s with heap:=g,toks:=tk+1 }:=I.turnedNew (ts:=[e,it]) (λc o hc q=>by
   simp only [Z0e,Z1i,or_false,not_or] at hc
   exact sb.extBut _ _ hc.1 (kp c o hc.1 hc.2 q)) hf (Z09 _) ⟨by show 2<=sizeLine;decide,[.int i tk,u],.cons ⟨_,rfl⟩ (.cons ru .nil),⟨_,tq,rfl,_,rfl⟩⟩
  refine ⟨.ref s.heap.objs.size,_,I1,rfl,⟨_,I.hok.fresh (Z09 _),rfl,x,λzs hz=>by rw [I.tuple_inj hz hq];exact hx,rfl⟩,⟨⟨_,zg⟩,z2.1.at λo q=>sb.extBut _ _ ne.symm q⟩,λc hc=> ?_⟩
  have hcn:c≠s.heap.objs.size:=by
   simp only [Z0e,Z1i,or_false] at hc;rcases hc with rfl | rfl
   ·exact nz.symm
   ·exact Z0h n2
  rw [A0l hcn];exact (hf c hc).1
 done:=by
  intro X hP hw hK hc i pins s σ H E I hf st hg;subst hP hw hK;obtain ⟨xs,hq,hx⟩:=hg;obtain ⟨its,rv,p1,_⟩:=I.tuple hq;have e1:=rv.length;obtain ⟨⟨old,h1⟩,h2⟩:=st;have ei:its.toArray.size=i:=by simp;lia
  subst ei;refine wpAny_pyNext_enum_endD (B1y (by simpa using I.ok.hd hc) it a na its.toArray) h1 ⟨h2,p1⟩ λh' kp=>⟨rfl,?_⟩
  exact I.turnedL (t':=s.toks) (ts:=[e,it]) (λc o hc q=>by
   simp only [Z0e,Z1i,or_false,not_or] at hc
   exact kp c o hc.2 q) hf
 self:=λ_ _ _ _ _ st h=>by
  obtain ⟨⟨old,h1⟩,_⟩:=st;exact wpAny_pyIter_enum h1 h
noncomputable def D6t (K:PySem.W.Frag) (ta:TA):TI:=λσ H R=>ta σ H λvs H1=>∃a xs,vs=[.ref a]/\SqT K H1 a xs/\R (C3w K a) H1
theorem D0r {X:Cx} {elts:List Expr} {kk:Nat} {tpos:Pos} {a:Expr} {ta:TA} {p pos:Pos} (hg:Gl X "enumerate") (hm:X.mg "enumerate"=none) (ha:PA X [a] ta) (hs:starEach [a] X.env=[(false,eval a X.env)]:=by rfl) :
  PI X (.Tuple elts kk tpos) (.Call (.Name "enumerate" p) [a] [] pos) (D6t X.K ta):=by
 intro pins s σ H R I h;refine Call_ (A5v I hg hm boot_enumerate (PyProof.Rows.callWith_type1 (thn (ha pos pins s σ H _ I h) λus s1 ⟨vs,H1,I1,r1,q1⟩=> ?_) (by rw [hs];rfl) (by rfl)));obtain ⟨l,xs,e,hq,q⟩:=q1;subst e;obtain ⟨u,rfl,ru⟩:=B5q r1;cases ru;obtain ⟨its,rv,p1,_⟩:=I1.tuple hq;have ll:l<s1.heap.objs.size:=let ⟨_,q,_⟩:=p1;Z0a q;refine A8j p1 λh' z1 z2 z3 kp=>wpAny_pyIter_enum z1 ?_;have I2:Inv X pins σ H1 { s1 with heap:=h' }:=I1.kept (t':=s1.toks) kp;refine ⟨_,[s1.heap.objs.size+1,s1.heap.objs.size],_,_,H1,rfl,I2,C2f (Z1q (Nat.lt_succ_self _)) (Z0h ll) (Z1q (Nat.lt_succ_of_lt ll)),⟨⟨_,z1⟩,z2⟩,λc hc=> ?_,q⟩
 have hle:s1.heap.objs.size<=c:=by
  simp only [Z0e,Z1i,or_false] at hc;rcases hc with rfl | rfl
  ·exact Nat.le_succ _
  ·exact Z09 _
 exact I1.fpOk hle (I1.hok.fresh hle)
theorem C5s {K:PySem.W.Frag} {a:Addr} {xs:List V} {g:TG} {tb:TS} {D:B4d} {σ:St} {H:Hp} (Pv:Nat->St->Hp->Prop) (h0:Pv 0 σ H) (hl:∀i σ H,Pv i σ H->SqT K H a xs)
  (hs:∀i x σ H p,xs[i]? =some x->Pv i σ H->H p=none->g (.ref p) σ (upd H p (.tup [.int (i:Nat),x])) λσ2 H2=>tb { D with nx:=Pv (i+1),ct:=Pv (i+1),bk:=D.nx } σ2 H2) (hd:∀σ H,Pv xs.length σ H->D.nx σ H) :
  ∃W:Nat->Nat->St->Hp->Prop,(∃m,W 0 m σ H)/\∀i m σ H,W i m σ H->
   ((C3w K a).stop i H/\D.nx σ H)\/((C3w K a).go i H/\∃N:St->Hp->Prop,(∀σ' H',N σ' H'->∃m',m'<m/\W (i+1) m' σ' H')/\∀x H',(C3w K a).yld i H x H'->g x σ H' λσ2 H2=>tb { D with nx:=N,ct:=N,bk:=D.nx } σ2 H2):=by
 refine ⟨λi m σ H=>m=xs.length-i/\i<=xs.length/\Pv i σ H,⟨xs.length,by simp,Z1e _,h0⟩,?_⟩;rintro i m σ H ⟨rfl,hi,p⟩;have q:=hl i σ H p;by_cases hlt:i<xs.length
 ·refine .inr ⟨⟨xs,_,q,Z0b hlt⟩,Pv (i+1),λσ' H' p'=>⟨xs.length-(i+1),by lia,rfl,hlt,p'⟩,λv H' y=> ?_⟩;obtain ⟨c,hc,rfl,x,f,rfl⟩:=y;exact hs i x σ H c (f xs q) p hc
 ·have e:i=xs.length:=by lia
  subst e;exact .inl ⟨⟨xs,q,rfl⟩,hd σ H p⟩
section
variable {X:Cx} {k:Nat} {f:Addr} {fd:FuncData} {ps:List Str} {sp:Sp} {x:Str} {p pos:Pos} {e:Expr} {es:List Expr} {t:TA}
end
open PySem PySem.Spec PyProof.Rows PySem.W
theorem B2r:∀{ns:List Int} {n:Int},n∈ns->WData.weight (.int n)<=WData.weightAll (ns.map WData.int)
 | m::r,n,h=>by
  rw [Z0p,WData.weightAll];rcases Z0e.mp h with rfl | h
  ·lia
  ·have:=B2r h
   lia
theorem B9w {ns:List Int} (h:WData.layableAll [WData.list (ns.map WData.int)]=true):∀n∈ns,n.natAbs.log2<2^20:=λn hn=>by
 have h1:WData.layable (WData.list (ns.map WData.int))=true:=by simpa [WData.layableAll] using h
 unfold WData.layable at h1;rw [Z1x] at h1;have h2:=of_decide_eq_true h1.2;rw [WData.weight] at h2;have h3:=B2r hn;rw [WData.weight] at h3;split at h3
 ·rename_i z;have:n=0:=by simpa using z
  subst this;decide
 ·lia
theorem C9j {l:PySem.W.OpenLaw} {n k:Nat} {q:Program} {loose:List Str} {XP:(Str->Option Value)->Heap->Prop} {YP:World->Heap->Prop} {d:DefRec} {K:Params->PySem.W.Frag} {CX:World->CXT} {sp:World->Sp} {x:Str}
  (hn:l.most=some n) (hn2:n<=sizeLine) (hdf:d.params.defaults=[]) (hr:A6p k callerA)
  (hY:∀(w:World) (h:Heap),YP w h->(K w.params).In h)
  (F:∀(w:World) (mg:Str->Option Value) (fa:Addr) (h:Heap),(K w.params).In h->h.Ns mainGlobals mg->mg d.name=some (.ref fa)->
   ∃fd:FuncData,(∀(s:Shared) (u:Value),BindsTo s fd ⟨[u],[]⟩ [(x,u)])/\
    ∀base:Heap,(K w.params).In base->base.Ns mainGlobals mg->A1y l.prog w (K w.params) mg base (CX w) k fa fd [x] (sp w))
  (hsp:∀(w:World) (H:Hp) (a:Addr) (ns:List Int),ns.length<=n->(∀m∈ns,m.natAbs.log2<2^20)->SqL (K w.params) H a (ns.map V.int)->sp w [.ref a] H (λv _=>v= .bl true) λ_ _ _=>False)
  (hCX:∀(w:World) (H:Hp) (s:Shared) (e:Value) (s':Shared),CX w [] H s (λ_ _ _=>False) e s'->False) :
  PySem.W.WalkO q loose XP YP l.row.toRowW d [] (λf vs=>PySem.call f vs):=by
 intro w s₀ s₁ mg mb G Y fa o pm cd doc dV kV ho hd hcd hD hmg hg args vals as hpre hlay hrd hwl hlo;obtain rfl:dV= .none:=Dflts.none hD hdf;obtain rfl:kV= .none:=Dflts.noKw hD;obtain ⟨a,vs,ns,rfl,rfl,hobj,hints,hlen⟩:=Att.script_of hn hpre hwl;have bits:=B9w hlay;have KX:=hY w _ Y;obtain ⟨fd,hb,hF⟩:=F w mg fa _ KX G.T.g hmg;refine enter_call (codeAny_mono (C9g KX G.T.g G.T.b G.T.builtins G.T.nolimit hg hobj hints (Z1n hlen hn2) hr hF hb (λH hO hS=>hsp w H a ns hlen bits hS) λH e s'=>hCX w H s₁ e s') λr s' hq=> ?_);obtain ⟨rfl,h2,h3,h4⟩:=hq;exact ⟨.inl ⟨.bool true,.bool true,[],rfl,λ_=>rfl,.bool true,Att.post_true l _,λ_=>⟨List.Pairwise.nil,λ_ hm=>(nomatch hm)⟩⟩,h2,h3,h4⟩
section
variable {X:Cx}
theorem C7c {m n:Nat} (h:m.log2<n):m<2^n:=by
 rcases Nat.eq_zero_or_pos m with h0 | h0
 ·rw [h0];exact Nat.two_pow_pos n
 ·exact (Nat.log2_lt (by lia)).mp h
noncomputable def D8f (i j:Int):Prop:=i.natAbs.log2<2^25/\j.natAbs<2^4000
theorem D2s:OpR X (binaryOp .Mult) (rI D8f λi j=> .int (i*j)):=opI λi j _ _ _ _ _ hc q =>
 mul_int q (IntMulOk.of_le (m:=2^25) (n:=4000) (intBits_le_iff.mpr (C7c hc.1)) (intBits_le_iff.mpr hc.2) (by decide))
end
section
variable {prog:Program} {w:World} {A:Around} {E:Value->Shared->Prop} {h:Heap} {g:Array GenState} {d:Drawn} {t:Nat} {os:OsState}
variable {nm q:Str} {C N:Addr} {bs bm bmB:List Value} {hdct:Bool} {sn:List Str} {sub:List Value} {ab:Bool} {col:Option Bool} {dd:Option Addr} {k0 k1 k2 k3 k5:Option Value} {B Bn newId nid initId inN:String} {bmN:List Value}
theorem A9g (Fn:ExcBaseFacts Bn newId inN bmN) (hBn:bmB.contains (.type Bn)=true) (F:ExcBaseFacts B nid initId bmB) (T:OwnTail h bmB bm) {mN:Str->Option Value} {rest:List Value} {fI:Addr} {oI:Obj} {Q:Fin->Shared->Prop}
  (hC:h.get? C=some (excClassObj nm q C N bs bm hdct sn sub ab col dd k0 k1 k2 k3 k5 newId)) (hn:h.Ns N mN) (hi:mN "__init__"=some (.ref fI))
  (hfI:h.get? fI=some oI) (hfc:oI.cls= .type "function")
  (hq:∀h' e,Heap.MadeExcOf h h' e (.ref C) rest->
   wpAny (model prog w) A (call (.ref fI) (.ref e::rest)) (λr s'=>r= .none/\Q (.done (.ret (.ref e))) s') E ⟨h',g,d,t,os⟩) (hrest:rest.length<=sizeLine) :
  wpAny (model prog w) A (Builtin.«type.__call__» ⟨.ref C::rest,[]⟩) Q E ⟨h,g,d,t,os⟩:=by
 repeat (first | with_reducible refine Z1k hC ?_ | with_reducible refine wpAny_madeBy_exc hC ?_ | wp_step)
 refine codeAny_call_builtin_code (Code.quiet_builtin _ Fn.quiet) (wpAny_check_new_subU Fn hBn T hC ?_);refine codeAny_exc_new_subU Fn hBn F T hC ?_ hrest;show wpAny _ _ _ _ _ _
 have hC₁:=Z01 { cls:= .ref C,data:= .fields #[.ref h.objs.size,.none,.none,.none,.bool false,.none] }
  (Z01 { cls:= .type "tuple",data:= .seq rest.toArray } hC)
 have hfI₁:=Z01 { cls:= .ref C,data:= .fields #[.ref h.objs.size,.none,.none,.none,.bool false,.none] }
  (Z01 { cls:= .type "tuple",data:= .seq rest.toArray } hfI)
 have hn₁:((h.push { cls:= .type "tuple",data:= .seq rest.toArray }).push { cls:= .ref C,data:= .fields #[.ref h.objs.size,.none,.none,.none,.bool false,.none] }).Ns N mN :=
  let ⟨o,es,ep,e,r⟩:=hn;⟨o,es,ep,Z01 _ (Z01 _ e),r⟩
 have hget:((h.push { cls:= .type "tuple",data:= .seq rest.toArray }).push
   { cls:= .ref C,data:= .fields #[.ref h.objs.size,.none,.none,.none,.bool false,.none] }).get? (h.objs.size+1)=some
   { cls:= .ref C,data:= .fields #[.ref h.objs.size,.none,.none,.none,.bool false,.none] }:=by heap_get
 have hcC:(Value.ref C::bm).contains (.ref C)=true:=by simp
 have T₁:=T.keeps (h':=(h.push { cls:= .type "tuple",data:= .seq rest.toArray }).push { cls:= .ref C,data:= .fields #[.ref h.objs.size,.none,.none,.none,.bool false,.none] })
  λb o e=>Z01 _ (Z01 _ e)
 unfold isInstance
 repeat (first | with_reducible refine Z1k hget ?_ | (with_reducible refine wpAny_isSubtype_exc hC₁ ?_;rw [hcC]) | wp_step)
 show wpAny _ _ (typeLookup (.ref C) _) _ _ _;refine wpAny_typeLookup_tail hC₁ hn₁ T₁ F.mroIs F.init.lookup ?_;rw [hi];refine Z1w (Z00 ?_);unfold bindSpecial;refine Z00 (wpAny_typeOf (T:="function") ⟨_,hfI₁,hfc⟩ ?_);rw [Z12 (by decide)];refine Z04 (Z00 (Z10 (hq _ (h.objs.size+1) ⟨λb o hb=>Z01 _ (Z01 _ hb),Heap.get?_none_of_le (Nat.le_succ _),h.objs.size,hget,Heap.get?_none_of_le (Z09 _),?_⟩) (λr s' hr=> ?_) λ_ _ x=>x))
 ·exact Z01 _ (Heap.get?_push_at rfl rfl)
 ·obtain ⟨rfl,hQ⟩:=hr
  wp_walk
  exact hQ
theorem A8r (Fn:ExcBaseFacts Bn newId inN bmN) (hBn:bmB.contains (.type Bn)=true) (F:ExcBaseFacts B nid initId bmB) (T:OwnTail h bmB bm) {mN:Str->Option Value} {rest:List Value} {fI:Addr} {oI:Obj} {Q:Value->Shared->Prop}
  (hC:h.get? C=some (excClassObj nm q C N bs bm hdct sn sub ab col dd k0 k1 k2 k3 k5 newId)) (hn:h.Ns N mN) (hi:mN "__init__"=some (.ref fI))
  (hfI:h.get? fI=some oI) (hfc:oI.cls= .type "function")
  (hq:∀h' e,Heap.MadeExcOf h h' e (.ref C) rest->
   wpAny (model prog w) (A.under (.builtin "type.__call__" ⟨.ref C::rest,[]⟩)) (call (.ref fI) (.ref e::rest)) (λr s'=>r= .none/\Q (.ref e) s') E ⟨h',g,d,t,os⟩) (hrest:rest.length<=sizeLine) :
  wpAny (model prog w) A (call (.ref C) rest) Q E ⟨h,g,d,t,os⟩:=by
 have f1:=tc_lookup;have f2:=tc_bind (.ref C);have hT:(⟨h,g,d,t,os⟩:Shared).TypeIs (.ref C) "type":=⟨_,hC,rfl⟩;refine wpAny_call (codeAny_of_tree ?_);show wpAny _ _ (callAny (.ref C) _) _ _ _
 repeat (any_goals (first | assumption | with_reducible refine Z1k hC ?_ | wp_step))
 refine ⟨rfl,?_⟩;refine codeAny_call_builtin_at (Code.quiet_builtin _ (by decide +kernel)) entry_typeCall (wpAny_check_type_call_sub hC (A9g (hrest:=hrest) Fn hBn F T hC hn hi hfI hfc λh' e hm=> ?_));exact hq h' e hm
end
end L2
namespace PySem.W
open PySem PySem.Spec PySem.Calls PyProof.Rows PySem.Builtin.ObjectAttr PySem.Builtin
noncomputable def A7l:List Value->Bool
 | [.type a,.type b,.type c,.type d]=>a == "ValueError"&&b == "Exception"&&c == "BaseException"&&d == "object"
 | .ref _::r=>A7l r
 | _=>false
theorem B4b (self:Value):∀{l:List Value},A7l l=true->refuseLoop self "__setattr__" l=pure ()
 | [.type a,.type b,.type c,.type d],e=>by
  simp only [A7l,Z1x,beq_iff_eq] at e;obtain ⟨⟨⟨rfl,rfl⟩,rfl⟩,rfl⟩:=e;exact PySem.F.store_ValueError.passes self
 | .ref c::r,e=>by rw [refuseLoop_ref];exact B4b self (show A7l r=true from e)
theorem C4o:∀{l:List Value},A7l l=true->l.contains (.type "object")=true
 | [.type a,.type b,.type c,.type d],e=>by
  simp only [A7l,Z1x,beq_iff_eq] at e;obtain ⟨⟨⟨rfl,rfl⟩,rfl⟩,rfl⟩:=e;decide
 | .ref c::r,e=>by rw [List.contains_cons,C4o (l:=r) (show A7l r=true from e),Bool.or_true]
noncomputable def excOver (K:Frag) (C:Addr):Bool:=(clsIn K C).any λcd=>A7l cd.mro
section
variable {prog:Program} {w:World} {A:Around} {R:Result->Shared->Prop} {s:Shared} {K:Frag} {x C:Addr}
theorem C7t {ox:Obj} {od:Option Obj} {name:Str} {tk:Tok} {v:Value} (X:K.In s.heap) (I:InstAt s.heap x ox C od) (hp:excOver K C=true) (ht:takerIn K C name=some none)
  (h:∀b,wpAny (model prog w) A.in1 (storeInOwnDict (.ref x) (.ref C) (.str name tk) name v b)
   (λfin s'=>match fin with | .done f=>R (.ok f) s' | .again c'=>c'.quiet=true/\codeAny (model prog w) A c' R s') (λe s'=>R (.error e) s') s) :
  codeAny (model prog w) A (.call (.builtin "object.__setattr__") ⟨[.ref x,.str name tk,v],[]⟩) R s:=by
 have SF:=PySem.F.store_object;obtain ⟨cd,hc,ho⟩:=any_some hp;have ne:cd.mro.isEmpty=false:=by cases q:cd.mro with | nil=>rw [q] at ho;cases ho | cons _ _=>rfl
 have sub:Looks (model prog w) s.heap (isInstance (.ref x) (.type "object")) true:=I.type.andThen (looks_mroIn X (by unfold mroIn;rw [hc,Option.bind_some,Z0t (by rw [ne];decide),C4o ho]));refine codeAny_call_builtin SF.slot.plain SF.entry (@check_slot (model prog w) _ _ s "object.__setattr__" "object" "__setattr__" (.ref x) [.str name tk,v] [] _ SF.kind SF.split sub (SF.args (.ref x) (.str name tk) v) ?_);obtain ⟨attr,ha,hr⟩:=Option.bind_eq_some_iff.mp ht;have hm:Looks (model prog w) s.heap (mroOf (.ref C)) cd.mro:=(looks_clsIn X hc).andThen .now
 have L3:Looks (model prog w) s.heap (storeTaker? attr) none:=by
  cases attr with
  | none=>cases hr;exact .now
  | some a =>
   obtain ⟨b,hb,e⟩:=Z0i.mp hr
   cases b with
   | true=>cases e
   | false=>exact (looks_takesIn X hb).andThen .now
 rw [osa_eq,refuse_eq];refine Z00 (Z00 (I.type.here (Z00 (hm.here ?_))));rw [B4b _ ho];refine Z04 (Z00 (I.type.here (Z00 ((looks_findIn X ha).here (Z00 (L3.here ?_))))));exact h _
theorem exc_setattr {E:Value->Shared->Prop} {ox:Obj} {vs:Array Value} {name:Str} {v:Value} {Q:Unit->Shared->Prop} (X:K.In s.heap) (hx:s.heap.get? x=some ox) (hcl:ox.cls= .ref C) (hdn:ox.dict=none) (hdt:ox.data= .fields vs)
  (hs:findIn K (.ref C) "__setattr__"=some (some (.builtin "object.__setattr__"))) (hp:excOver K C=true) (ht:takerIn K C name=some none) (hh:(clsIn K C).any (·.hasDict)=true)
  (h:∀h' tk,h'.get? x=some { ox with dict:=some s.heap.objs.size }->h'.Ns1 s.heap.objs.size (λy=>if y=name then some v else none)->(∀b o,b≠x->s.heap.get? b=some o->h'.get? b=some o)->Q () { s with heap:=h',toks:=tk }) :
  wpAny (model prog w) A (setAttr (.ref x) name v) Q E s:=by
 obtain ⟨hp0,g,d,t,os⟩:=s;dsimp only at X hx h;have I:InstAt hp0 x ox C none:=⟨hx,hcl,by obtain ⟨_,_,d,_⟩:=ox;cases hdt;rfl,by rw [hdn];exact True.intro⟩;refine set_plain X I hs (C7t (s:=⟨hp0,g,d,t+1,os⟩) X I hp ht λb=> ?_);obtain ⟨cd,hc,hd'⟩:=any_some hh;obtain ⟨oc,odi,oda,osl⟩:=ox;dsimp only at hcl hdn hdt;subst hcl hdn hdt;have L:=looks_clsIn (M:=model prog w) X hc;refine Z00 (Z04 (Z00 (Z00 (wpAny_loadPart hx (Z00 (Looks.here (s:=⟨hp0,g,d,t+1,os⟩) L ?_))))));rw [hd'];have hx₁:(hp0.push { cls:= .type "dict",data:= .dict #[] }).get? x=some { cls:= .ref C,data:= .fields vs,slots:=osl }:=Z01 _ hx;have hxs:x≠hp0.objs.size:=Z0h (Z0a hx);show wpAny _ _ (if (!true|| !typeHasDict (.ref C))=true then pure none else (alloc { cls:=Value.type "dict",data:=Data.dict #[] } >>= λd=>update x (λo=>{ cls:=o.cls,dict:=some d,data:=o.data,slots:=o.slots }) >>= λ_=>dictMade (.ref C) x d)) _ _ _;rw [Z0t (by simp [typeHasDict])];refine Z00 (wpAny_alloc' ?_);refine Z00 (wpAny_update' hx₁ ?_);refine Z04 ?_
 have hgd:((hp0.push { cls:= .type "dict",data:= .dict #[] }).update x λo=>{ cls:=o.cls,dict:=some hp0.objs.size,data:=o.data,slots:=o.slots }).get? hp0.objs.size
   = some { cls:= .type "dict",data:= .dict #[] } :=
  (Heap.get?_update_ne _ _ _ _ hxs.symm).trans (Heap.get?_push_at rfl rfl)
 have hnd:((hp0.push { cls:= .type "dict",data:= .dict #[] }).update x λo=>{ cls:=o.cls,dict:=some hp0.objs.size,data:=o.data,slots:=o.slots }).Ns hp0.objs.size (λ_=>none) :=
  ⟨_,#[],_,hgd,rfl,λe he=>absurd he (by simp),λ_=>rfl⟩
 show wpAny _ _ (storeInDict hp0.objs.size (.str name t) name v) _ _ _;unfold storeInDict newKeyGuard;refine Z00 (Z04 (Z00 (wpAny_nsSet1 (Heap.Ns1.of_empty hnd) λh' hn' hs=> ?_)));obtain ⟨oD,esD,epD,hoD,hdD,hcD⟩:=hn'.count (Within.cons name v Within.nil);refine Z00 (wpAny_lookBehind hoD (by rw [hdD];exact pastItsLine_dict (Z1n hcD (by rw [Z0y,List.length_nil,sizeLine_eq];lia))) ?_);refine Z04 ?_;refine h h' _ ((hs.2 x hxs).trans (Z1r _ hx₁ rfl)) hn' λb o hb e=> ?_;exact (hs.2 b (Z0h (Z0a e))).trans ((Heap.get?_update_ne _ _ _ _ hb).trans (Z01 _ e))
end
end PySem.W
namespace L2
open PySem PySem.Spec PyProof.Rows
section
variable {X:Cx} {pins:List (Addr×Obj)} {σ:St} {H H1:Hp} {s s1:Shared} {a:Addr} {o:HO}
theorem Inv.trackO (I1:Inv X pins σ H1 s1) (I:Inv X pins σ H s) (hn:s1.heap.get? a=none) (hH:H a=none) (new:A1v X.prog X.w (upd H a o) s.heap a o):Inv X pins σ (upd H a o) s:=by
 have ne1:∀b o,s1.heap.get? b=some o->b≠a:=λb o e z=>by
  rw [z,hn] at e;cases e
 have up:∀b u,H b=some u->upd H a o b=some u:=λb u e=>by
  rw [A0l (A0t e hH)];exact e
 refine ⟨I.ok,I.os,I.bare,⟨I.base.keep,I.base.slot,λb o e n hb=> ?_,I.base.there,λb xs e=>up _ _ (I.base.tups b xs e),λb o u e=>up _ _ (I.base.frzs b o u e),λb ps e=> ?_⟩,I.loc,I.cell,?_,λx c e=> ?_,λp hp=> ?_,λb u e=> ?_,I.len⟩
 ·obtain ⟨o1,e1⟩:=I1.base.there b o e hb;rw [A0l (ne1 b o1 e1)];exact I.base.free b o e n hb
 ·obtain ⟨m,q⟩:=I.base.tbls b ps e;exact ⟨m,up _ _ q⟩
 ·obtain ⟨m,⟨o,_,_,ho,_⟩,_⟩:=I1.loc;rw [A0l (ne1 _ o ho)];exact I.free
 ·obtain ⟨v,o,ho,_⟩:=I1.cell x c e;rw [A0l (ne1 _ o ho)];exact I.freeC x c e
 ·obtain ⟨e,n,r⟩:=I.pin p hp;have e1:=(I1.pin p hp).1;exact ⟨e,by rw [A0l (ne1 _ _ e1)];exact n,r⟩
 ·by_cases hb:b=a
  ·subst hb;rw [A0b] at e;cases e;exact new
  ·rw [A0l hb] at e;exact (I.hok b u e).stay (λ_ _ _ q=>q) (λc q=>up _ _ q) λc xs q=>up _ _ q
end
noncomputable def A6s (C t:Addr) (d:Option Addr):Obj:={ cls:= .ref C,dict:=d,data:= .fields #[.ref t,.none,.none,.none,.bool false,.none] }
noncomputable def xcN (e C t:Addr):HO:= .ext λh=>h.get? e=some (A6s C t none)
noncomputable def xcD (e C t dx:Addr):HO:= .ext λh=>h.get? e=some (A6s C t (some dx))
theorem D1j {P:Program} {w:World} {H:Hp} {h:Heap} {e C t:Addr} (q:h.get? e=some (A6s C t none)):A1v P w H h e (xcN e C t):=⟨q,⟨_,q⟩,λh1 h2 p k=>k _ p⟩
theorem D6q {P:Program} {w:World} {H:Hp} {h:Heap} {e C t dx:Addr} (q:h.get? e=some (A6s C t (some dx))):A1v P w H h e (xcD e C t dx):=⟨q,⟨_,q⟩,λh1 h2 p k=>k _ p⟩
structure D1n (K:PySem.W.Frag) (C:Addr) (f:Str):Prop where
 sa:PySem.W.findIn K (.ref C) "__setattr__"=some (some (.builtin "object.__setattr__"))
 ov:PySem.W.excOver K C=true
 hd:(PySem.W.clsIn K C).any (·.hasDict)=true
 no:A4b K C f
noncomputable def D8h (K:PySem.W.Frag) (ta tv:TE) (f:Str):TS:=λD σ H=>tv σ H λy H1=>ta σ H1 λx H2=>∃e C t,x= .ref e/\H2 e=some (xcN e C t)/\D1n K C f/\
 ∀dx,H2 dx=none->D.nx σ (upd (upd H2 e (xcD e C t dx)) dx (.xd [(f,y)]))
theorem C5k {X:Cx} {o value:Expr} {f:Str} {pos pos':Pos} {ta tv:TE} (ha:PE X o ta) (hv:PE X value tv) (hs:swapsWith value (some (.Attribute o f pos')) pos.line X.env=pure false):PS X (.Assign [.Attribute o f pos'] value pos) (D8h X.K ta tv f):=by
 intro pins s σ H D I h;refine plainObj_wpAny_Assign_Attribute (thn (hv pins s σ H _ I h) λu s1 ⟨y,H1,I1,ry,q⟩=>thn (ha pins s1 σ H1 _ I1 q) λov s2 ⟨x,H2,I2,rx,e,C,t,ex,ee,xs,q2⟩=> ?_) hs;subst ex;obtain rfl:ov=Value.ref e:=rx;obtain ⟨he,_,_⟩:=(show A1v X.prog X.w H2 s2.heap e (xcN e C t) from I2.hok e _ ee);refine PySem.W.exc_setattr I2.kIn he rfl rfl rfl xs.sa xs.ov xs.no.taker xs.hd λh' tk q1 q3 q4=> ?_;have hn:H2 s2.heap.objs.size=none:=I2.hok.fresh (Z09 _);have ne:s2.heap.objs.size≠e:=(A0t ee hn).symm;have Ia:=I2.write (x:=e) (e:=e) (o:=xcD e C t s2.heap.objs.size) (h':=h') (t':=tk) (by rw [ee];exact True.intro) (.inl rfl) (λb u hb z=>q4 b u hb z) ⟨_,q1⟩ (D6q q1)
 have Ib:=I2.trackO (a:=s2.heap.objs.size) (o:= .xd [(f,y)]) Ia (Heap.get?_none_of_le (Z09 _)) (by rw [A0l ne];exact hn) ⟨_,q3,λg=>by
  by_cases z:g=f
  ·subst z;rw [Z12 rfl];show B9b (([(g,y)]:List (Str×V)).lookup g) (some u);simp [List.lookup];exact ry
  ·rw [Z0t z];show B9b (([(f,y)]:List (Str×V)).lookup g) none;have:(([(f,y)]:List (Str×V)).lookup g)=none:=by simp [List.lookup,Z22.mpr z]
   rw [this]
   exact True.intro⟩
 exact ⟨σ,_,Ib,q2 _ hn⟩
end L2
namespace PySem.W
open PySem PySem.Spec PySem.Calls PyProof.Rows
noncomputable def excInI (K:Frag) (C f:Addr) (bmB:List Value) (newId:String):Bool:=match K.lookup C with
 | some ⟨.type "type",_,.cls cd,sl⟩=>(match cd.mro,sl.toList with
  | .ref C'::bm,[_,_,_,_,some (.builtin n),_]=>C' == C&&n == newId&& !cd.hasDel&&tailIn K bmB bm&&nsOkIn K cd.ns&&nsIn K cd.ns "__init__" == some (some (.ref f))&&isFn K (.ref f)
  | _,_=>false)
 | _=>false
end PySem.W
namespace L2
open PySem PySem.Spec PyProof.Rows
theorem D7x {K:PySem.W.Frag} {h:Heap} {N:Addr} {m:Str->Option Value} {x:Str} {v:Value} (X:K.In h) (G:h.Ns N m) (e:PySem.W.nsIn K N x=some (some v)):m x=some v:=by
 obtain ⟨ob,row,_,at1,dict1,_,same⟩:=G;unfold PySem.W.nsIn at e;split at e
 case h_2=>cases e
 case h_1 _ _ row' _ _ lk =>
  have two:=X _ _ lk;rw [at1] at two;cases two;cases dict1;split at e
  case h_2=>split at e <;> cases e
  case h_1 en found =>
   cases e
   rw [<-same];unfold nsFind findBy;rw [<-Array.find?_toList,found];rfl
theorem D6r {K:PySem.W.Frag} {h:Heap} {f:Addr} (X:K.In h) (q:PySem.W.isFn K (.ref f)=true):∃o,h.get? f=some o/\o.cls= .type "function":=by
 have z:PySem.W.typeIn K (.ref f)=some (.type "function"):=beq_iff_eq.mp q
 cases lk:K.lookup f with
 | none=>simp [PySem.W.typeIn,lk] at z
 | some o=>exact ⟨o,X _ _ lk,by simpa [PySem.W.typeIn,lk] using z⟩
theorem B1l {K:PySem.W.Frag} {h:Heap} {C f:Addr} {bmB:List Value} {newId:String} (X:K.In h) (q:PySem.W.excInI K C f bmB newId=true) :
  ∃(nm qn:Str) (N:Addr) (bs bm:List Value) (hdct:Bool) (sn:List Str) (sub:List Value) (ab:Bool) (col:Option Bool) (dd:Option Addr) (k0 k1 k2 k3 k5:Option Value) (mN:Str->Option Value),
   h.get? C=some (excClassObj nm qn C N bs bm hdct sn sub ab col dd k0 k1 k2 k3 k5 newId)/\h.Ns N mN/\mN "__init__"=some (.ref f)/\OwnTail h bmB bm/\PySem.W.isFn K (.ref f)=true:=by
 cases lk:K.lookup C with
 | none=>simp [PySem.W.excInI,lk] at q
 | some ob =>
  have there:=X _ _ lk;unfold PySem.W.excInI at q;rw [lk] at q;split at q
  case h_2=>cases q
  case h_1 dct cls parts same =>
   injection same with same;subst same;split at q
   case h_2=>cases q
   case h_1 own tl p0 p1 p2 p3 made p5 along row =>
    repeat rw [Z1x] at q
    have w1:own=C:=beq_iff_eq.mp q.1.1.1.1.1.1;have w2:made=newId:=beq_iff_eq.mp q.1.1.1.1.1.2;have w3:cls.hasDel=false:=by simpa using q.1.1.1.1.2
    have w4:=beq_iff_eq.mp q.1.2;subst w1 w2;have sl:parts= #[p0,p1,p2,p3,some (.builtin made),p5]:=Array.toList_inj.mp row;rw [sl] at there;cases cls;dsimp only at along w3 w4 q;rw [along,w3] at there;have hN:=Heap.Ns.of_isNs (PySem.W.isNs_of_in X q.1.1.2);refine ⟨_,_,_,_,tl,_,_,_,_,_,dct,p0,p1,p2,p3,p5,_,there,hN,?_,PySem.W.tail_of_in X q.1.1.1.2,q.2⟩;exact D7x X hN w4
section
variable {X:Cx} {CX:CXT} {k:Nat} {f C:Addr} {fd:FuncData} {ps:List Str} {ds:List Value} {dvs:List V} {sp:Sp} {E:XK}
theorem C7o {pins:List (Addr×Obj)} {σ:St} {H:Hp} {s:Shared} {Q:Addr->Addr->Hp->Prop} {us:List Value} {vs:List V} (q:PySem.W.excInI X.K C f D8b "ValueError.__new__"=true)
  (F:A1y X.prog X.w X.K X.mg X.base CX k f fd ps sp) (hr:A6p (k+1) X.A) (hb:A1p X.K fd ps ds) (hd:A2v dvs ds) (hx:A5r CX X E) (I:Inv X pins σ H s) (r:A2v vs us) (hz:us.length<=sizeLine)
  (h:∀ea ta,H ea=none->sp (.ref ea::(vs++dvs)) (upd H ea (xcN ea C ta)) (λv H2=>v= .non/\Q ea ta H2) E) :
  wpAny (model X.prog X.w) X.A (call (.ref C) us) (λv s'=>∃ea ta H2,v= .ref ea/\Inv X pins σ H2 s'/\s.heap.get? ea=none/\Q ea ta H2) X.xe s:=by
 obtain ⟨nm,qn,N,bs,bm,hdct,sn,sub,ab,col,dd,k0,k1,k2,k3,k5,mN,hC,hN,hi,T,fn⟩:=B1l I.mod.kin q;obtain ⟨oI,hoI,hcI⟩:=D6r I.kIn fn;obtain ⟨hp,g,d,t,os⟩:=s;refine A8r PySem.F.excBase_ValueError (by decide +kernel) PySem.F.excBase_ValueError (T.keeps I.bk) (I.bk _ _ hC) (hN.keeps I.bk) hi hoI hcI (λh' e hm=> ?_) hz;obtain ⟨ta,he,_,_⟩:=hm.there
 have hH:H e=none:=by
  cases z:H e with
  | none=>rfl
  | some u =>
   obtain ⟨o,ho⟩:=(I.hok e u z).at18;have:=hm.new;rw [show hp.get? e=some o from ho] at this;cases this
 have I1:Inv X pins σ H ⟨h',g,d,t,os⟩:=I.kept (t':=t) (λb o z=>hm.keeps b o z);have I2:=I.trackO (a:=e) (o:=xcN e C ta) I1 hm.new hH (D1j he);have hq:=h e ta hH;have r2:A2v (V.ref e::(vs++dvs)) (Value.ref e::(us++ds)):= .cons rfl (r.append hd)
 have hl:(Value.ref e::us++ds).length=ps.length:=by
  have z:=r2.length;rw [F.len _ _ _ _ hq] at z;exact z.symm
 refine wpAny_call (codeAny_mono (F.run _ X.stack _ _ ⟨Value.ref e::us,[]⟩ (Value.ref e::(us++ds)) _ _ E (hr.make C us []) (I2.env0.make C us []) (hb _ (Value.ref e::us) I2.kIn hl) r2 hq) λr s' hq'=> ?_)
 cases r with
 | error e'=>exact hx pins σ _ _ e' s' I2 hq'
 | ok fl =>
  cases fl with
  | ret u =>
   obtain ⟨v,H',I3,rv,ev,q3⟩:=I2.after hq';subst ev;exact ⟨rv,e,ta,H',rfl,I3,hm.new,q3⟩
  | next=>exact False.elim hq'
  | brk=>exact False.elim hq'
  | cont=>exact False.elim hq'
end
noncomputable def A3y (H:Hp) (a:Addr):Hp:=λb=>if b=a then none else H b
theorem A4l {H:Hp} {a b:Addr} (h:b≠a):A3y H a b=H b:=by unfold A3y;rw [Z0t h]
theorem A7u {H:Hp} {a b:Addr} {o:HO} (h:A3y H a b=some o):b≠a/\H b=some o:=by
 unfold A3y at h;by_cases z:b=a
 ·rw [Z12 z] at h;cases h
 ·rw [Z0t z] at h;exact ⟨z,h⟩
theorem A8h {H:Hp} {a b:Addr} (h:H b=none):A3y H a b=none:=by
 unfold A3y;split
 ·rfl
 ·exact h
section
variable {X:Cx} {pins:List (Addr×Obj)} {σ:St} {H:Hp} {s:Shared} {a:Addr} {φ:Heap->Prop}
theorem Inv.drop (I:Inv X pins σ H s) (e:H a=some (.ext φ)):Inv X pins σ (A3y H a) s:=by
 have up:∀b o,H b=some o->o≠.ext φ->A3y H a b=some o:=λb o q n=>by
  rw [A4l (A7s q e n)];exact q
 refine ⟨I.ok,I.os,I.bare,⟨I.base.keep,I.base.slot,λb o q n hb=>A8h (I.base.free b o q n hb),I.base.there,λb xs q=>up _ _ (I.base.tups b xs q) (λz=>nomatch z),λb o u q=>up _ _ (I.base.frzs b o u q) (λz=>nomatch z),λb ps q=> ?_⟩,I.loc,I.cell,A8h I.free,λx c q=>A8h (I.freeC x c q),λp hp=> ?_,λb o q=> ?_,I.len⟩
 ·obtain ⟨m,z⟩:=I.base.tbls b ps q;exact ⟨m,up _ _ z (λz=>nomatch z)⟩
 ·obtain ⟨q,n,r⟩:=I.pin p hp;exact ⟨q,A8h n,r⟩
 ·obtain ⟨_,z⟩:=A7u q;exact (I.hok b o z).stay (λ_ _ _ q=>q) (λc q=>up _ _ q (λz=>nomatch z)) λc xs q=>up _ _ q (λz=>nomatch z)
theorem C7y {B h':Heap} (I:Inv X pins σ H s) (hx:X.ex=[]) (B1:∀b o,X.s₀.heap.get? b=some o->b∉X.fs->∃o',B.get? b=some o') (hst:B.StaysIn s.heap) (hst':B.StaysIn h') (up:s.heap.UpToSlots h'):Un X.fs [] X.H₀ H X.s₀.heap h':=by
 have a:Un X.fs [] X.H₀ H X.s₀.heap s.heap:=by
  have z:=I.base;rw [hx] at z;exact z
 have no:∀b:Addr,b∉([]:List Addr):=λb=>by simp
 have slot:∀b o,X.s₀.heap.get? b=some o->X.H₀ b=none->b∈X.fs->∃sl,h'.get? b=some { o with slots:=sl }:=λb o e n hb=>by
  obtain ⟨sl,e1⟩:=a.slot b o e n hb (no b);obtain ⟨_,of,ho,hd⟩:=I.ok.funs.mem hb;rw [e] at ho;cases ho;obtain ⟨sl3,e3⟩:=up b _ e1 hd;exact ⟨sl3,e3⟩
 refine ⟨λb o e n hb _=> ?_,λb o e n hb _=>slot b o e n hb,λb o e n _=>a.free b o e n (no b),λb o e _=> ?_,λb xs e=>a.tups b xs e,λb o v e=>a.frzs b o v e,λb ps e=>a.tbls b ps e⟩
 ·have e2:=a.keep b o e n hb (no b);obtain ⟨o',eB⟩:=B1 b o e hb;have e3:=hst b o' eB;rw [e2] at e3;cases e3;exact hst' b o eB
 ·by_cases hb:b∈X.fs
  ·obtain ⟨sl,q⟩:=slot b o e (I.ok.frf b hb) hb;exact ⟨_,q⟩
  ·obtain ⟨o',eB⟩:=B1 b o e hb;exact ⟨o',hst' b o' eB⟩
end
section
variable {P:Program} {w:World} {K:PySem.W.Frag} {mg:Str->Option Value} {base:Heap} {N:List Str} {qual:Str} {scope:Scope} {f:Addr} {cd:Value} {A:Around} {outer:List Env} {s:Shared} {H:Hp} {E:XK}
end
section
variable {M:Model} {A:Around} {E:Value->Shared->Prop} {env:Env} {nm q:Str} {C N:Addr} {bs bm:List Value} {hdct:Bool} {sn:List Str} {sub:List Value} {ab:Bool} {col:Option Bool} {dd:Option Addr} {k0 k1 k2 k3 k5:Option Value} {newId:String}
theorem A7q {s:Shared} {x:Sem Value} {Q:Flow->Shared->Prop} (hbase:bm.contains (.type "BaseException")=true) (hh:A.handled=none)
  (h:wpAny M A x (λv s₁=>∃e t dx,v= .ref e/\s₁.heap.get? C=some (excClassObj nm q C N bs bm hdct sn sub ab col dd k0 k1 k2 k3 k5 newId)/\s₁.heap.get? e=some (A6s C t dx)/\E (.ref e) s₁) E s) :
  wpAny M A (raiseStmt env (some x) none) Q E s:=by
 have hcB:(Value.ref C::bm).contains (.type "BaseException")=true:=by rw [List.contains_cons,hbase,Bool.or_true]
 unfold raiseStmt;refine Z00 (Z10 h (λv s₁ h₁=> ?_) λ_ _ x=>x);obtain ⟨e,t,dx,rfl,hC,he,hE⟩:=h₁;obtain ⟨hp,g,d,tk,os⟩:=s₁;unfold A6s at he
 repeat (first | with_reducible refine Z1k he ?_ | with_reducible refine Z1k hC ?_ | (with_reducible refine wpAny_isSubtype_exc hC ?_;rw [hcB]) | wp_step)
 exact wpAny_raiseNew_none hh hE
end
structure MkX (K:PySem.W.Frag) (C f:Addr):Prop where
 xe:PySem.W.excInI K C f D8b "ValueError.__new__"=true
 kp:PySem.W.keepIn K (.ref C)=true
section
variable {X:Cx} {CX:CXT} {k:Nat} {f C:Addr} {fd:FuncData} {ps:List Str} {ds:List Value} {dvs:List V} {sp:Sp} {E E':XK}
end
noncomputable def C2 (o o':Obj):Prop:=∀vs,o.data= .fields vs->∃vs',o'.data= .fields vs'/\vs'[2]? =vs[2]?
theorem C2.refl (o:Obj):C2 o o:=λvs e=>⟨vs,e,rfl⟩
theorem C2.trans {a b c:Obj} (x:C2 a b) (y:C2 b c):C2 a c:=λvs e=>by
 obtain ⟨v1,e1,q1⟩:=x vs e;obtain ⟨v2,e2,q2⟩:=y v1 e1;exact ⟨v2,e2,q2.trans q1⟩
noncomputable def KD (h h':Heap):Prop:=∀b o,h.get? b=some o->∃o',h'.get? b=some o'/\o'.cls=o.cls/\o'.dict=o.dict/\C2 o o'
theorem KD.refl (h:Heap):KD h h:=λb o e=>⟨o,e,rfl,rfl,C2.refl o⟩
theorem KD.trans {h1 h2 h3:Heap} (a:KD h1 h2) (b:KD h2 h3):KD h1 h3:=λx o e=>by
 obtain ⟨o1,e1,c1,d1,f1⟩:=a x o e;obtain ⟨o2,e2,c2,d2,f2⟩:=b x o1 e1;exact ⟨o2,e2,c2.trans c1,d2.trans d1,f1.trans f2⟩
theorem KD.field {h:Heap} {T:Addr} {o:Obj} {ts:Array Value} (hT:h.get? T=some o) (hd:o.data= .fields ts) (f:Array Value->Array Value) (hf:∀a:Array Value,(f a)[2]? =a[2]?):KD h (h.update T (Obj.mapFields f)):=λb u e=>by
 by_cases z:b=T
 ·subst z;rw [hT] at e;cases e;exact ⟨_,Z1r _ hT (Obj.isFreed_of_fields (Obj.data_mapFields hd _)),Obj.cls_mapFields _ _,by obtain ⟨_,_,dd,_⟩:=o;cases hd;rfl,λvs ev=>⟨_,Obj.data_mapFields ev _,hf vs⟩⟩
 ·exact ⟨u,(Z1d _ _ (Ne.symm z)).trans e,rfl,rfl,C2.refl u⟩
noncomputable def C4r (h B:Heap) (e:Addr) (cls a0:Value):Prop:=(∃oe vs,h.get? e=some oe/\(oe.cls=cls/\vs[0]? =some a0)/\oe.data= .fields vs/\vs[1]? =some .none)\/∃fl,h.TracedAtW B e cls a0 fl
section
variable {M:Model} {A:Around} {E:Value->Shared->Prop} {s:Shared} {B:Heap} {env:Env} {outer:List Env} {L e:Addr} {cls a0:Value} {Q:Unit->Shared->Prop}
theorem D1x {oe:Obj} {vs:Array Value} {hd:Value} {nx:Bool} (hfr:A.frames=some (env::outer)) (ff:s.heap.FunFrames B (env::outer)) (hf:env.frame=some L) (he:s.heap.get? e=some oe) (st:B.StaysIn s.heap) (hn:B.get? e=none) (hv:oe.data= .fields vs) (hz:1<vs.size) (h0:vs[0]? =some a0)
  (h:∀h',Heap.NotedW B (env::outer) e oe.cls a0 (rawInt L) s.heap h'->KD s.heap h'->Q () { s with heap:=h' }) :
  wpAny M A (do let a<-frameOf env;let pl<-entryPlaceOf L nx;let b<-EntryCells.newEntry hd a .none (rawInt L) .none pl;setField (.ref e) 1 b) Q E s:=by
 have nf:e∉(env::outer).filterMap (·.frame):=λm=>by
  obtain ⟨_,o,ho,hnf⟩:=ff.mem m;rw [he] at ho;cases ho;exact hnf vs hv
 refine Z00 (wpAny_frameOf_fun hfr ff hf λg sg=>Z00 (wpAny_entryPlaceOf λpl hpl=> ?_));unfold EntryCells.newEntry newFields;refine Z00 (Z16 ?_ (hpl.sizeOk5 _ _ _ _ _));have he1:g.get? e=some oe:=(sg.2.1 e nf).trans he;have st1:B.StaysIn g:=λb o hb=>(sg.2.1 b λm=>by rw [(ff.mem m).1] at hb;cases hb).trans (st b o hb);generalize hob:({ cls:= .type "traceback",dict:=none,data:= .fields ([hd,.ref L,.none,rawInt L,.none]++(if pl.isEmpty then List.replicate 6 Value.none else pl)).toArray }:Obj)=ob;have he2:=Z01 (h:=g) ob he1;have eb:({ cls:=Value.type "traceback",data:= .fields ([hd,.ref L,.none,rawInt L,.none]++(if pl.isEmpty then List.replicate 6 Value.none else pl)).toArray }:Obj)=ob:=hob;refine Z1t (by first | exact he2 | (rw [eb];exact he2)) hv hz ?_
 try rw [eb]
 have nTe:g.objs.size≠e:=Z1q (Z0a he1);have dm:=Obj.data_mapFields hv (·.setIfInBounds 1 (Value.ref g.objs.size));have he3:=Z1r (Obj.mapFields (·.setIfInBounds 1 (Value.ref g.objs.size))) he2 (Obj.isFreed_of_fields dm);have hT3:((g.push ob).update e (Obj.mapFields (·.setIfInBounds 1 (Value.ref g.objs.size)))).get? g.objs.size=some ob:=(Z1d _ _ (Ne.symm nTe)).trans (Z0c g (by rw [<-hob];rfl));have kp:∀b o,b≠e->g.get? b=some o->((g.push ob).update e (Obj.mapFields (·.setIfInBounds 1 (Value.ref g.objs.size)))).get? b=some o:=λb o ne hb=>(Z1d _ _ (Ne.symm ne)).trans (Z01 _ hb)
 have nr:∀b o,s.heap.get? b=some o->(∀vs,o.data≠.fields vs)->b≠e:=λb o hb hnf z=>by
  rw [z,he] at hb;cases hb;exact hnf vs hv
 refine h _ ⟨λb o hb=>kp b o (λz=>by rw [z,hn] at hb;cases hb) (st1 b o hb),ff.of_keeps λb o hb hnf=> ?_,?_,λb o hb hnf=> ?_⟩ λb o hb=> ?_
 ·obtain ⟨sl,hs⟩:=sg.2.2 b o hb;exact ⟨_,kp b _ (nr b o hb hnf) hs,rfl⟩
 ·refine ⟨_,_,g.objs.size,ob,_,he3,⟨Obj.cls_mapFields _ _,?_⟩,dm,by simp [hz],st1.fresh,nTe,hT3,by rw [<-hob],?_⟩
  ·rw [Z25 (by decide)];exact h0
  ·rcases hpl with rfl | ⟨_,_,_,_,_,_,_,rfl⟩ <;> simp
 ·obtain ⟨sl,hs⟩:=sg.2.2 b o hb;exact ⟨sl,kp b _ (nr b o hb hnf) hs⟩
 ·by_cases z:b=e
  ·subst z;rw [he] at hb;cases hb;exact ⟨_,he3,Obj.cls_mapFields _ _,by obtain ⟨_,_,dd,_⟩:=oe;cases hv;rfl,λws ew=>⟨_,Obj.data_mapFields ew _,Z25 (by decide)⟩⟩
  ·obtain ⟨sl,hs⟩:=sg.2.2 b o hb;exact ⟨_,kp b _ z hs,rfl,rfl,λws ew=>⟨ws,ew,rfl⟩⟩
theorem C5o (hfr:A.frames=some (env::outer)) (hf:env.frame=some L) (st:B.StaysIn s.heap) (hn:B.get? e=none) (ff:s.heap.FunFrames B (env::outer)) (ht:C4r s.heap B e cls a0)
  (hQ:∀h',Heap.HeldW B (env::outer) e cls a0 L h'->s.heap.UpToSlots h'->KD s.heap h'->Q () { s with heap:=h' }):wpAny M A (noteFrame (.ref e) env) Q E s:=by
 rcases ht with ⟨oe,vs,he,⟨hc,h0⟩,hv,h1⟩ | ⟨fl,ht⟩
 ·subst hc;unfold noteFrame;simp only [hf];refine Z00 (Z11 he hv h1 ?_);rw [Z0t (show¬((Value.none != Value.none)=true) by simp)];exact D1x hfr ff hf he st hn hv (Z1m.mp h1).1 h0 λh' N kd=>hQ h' ⟨N.1,hn,N.2.1,N.2.2.1⟩ N.2.2.2 kd
 ·by_cases hfl:(fl == rawInt L)=true
  ·have e1:fl=rawInt L:=beq_iff_eq.mp hfl;subst e1;exact wpAny_noteFrame_againW hf ht (hQ s.heap ⟨st,hn,ff,ht⟩ (Heap.UpToSlots.refl _) (KD.refl _))
  ·obtain ⟨oe,vs,T,oT,ts,he,⟨hcls,h0⟩,hd,h1,hnT,hTe,hT,hdT,h3⟩:=id ht;subst hcls;unfold noteFrame;simp only [hf];refine Z00 (Z11 he hd h1 ?_);rw [Z12 (show (Value.ref T != Value.none)=true by simp)];refine Z00 (Z11 hT hdT h3 ?_);rw [Z0t hfl];refine Z00 (Z1t hT hdT (Z1m.mp h3).1 ?_);have oth:∀b,b≠T->(s.heap.update T (Obj.mapFields (·.setIfInBounds 3 Value.none))).get? b=s.heap.get? b:=λb hb=>Z1d _ _ (Ne.symm hb)
   have nr:∀b o,s.heap.get? b=some o->(∀vs,o.data≠.fields vs)->b≠T:=λb o hb hnf q=>by
    rw [q,hT] at hb;cases hb;exact hnf ts hdT
   exact D1x hfr (ff.of_keeps λb o hb hnf=>⟨o,(oth b (nr b o hb hnf)).trans hb,rfl⟩) hf ((oth e (Ne.symm hTe)).trans he) (λb o hbo=>(oth b λq=>by rw [q,hnT] at hbo;cases hbo).trans (st b o hbo)) hn hd (Z1m.mp h1).1 h0
    λh' N kd=>hQ h' ⟨N.1,hn,N.2.1,N.2.2.1⟩ (λb o hb hnf=>N.2.2.2 b o ((oth b (nr b o hb hnf)).trans hb) hnf) ((KD.field hT hdT _ λ_=>Z25 (by decide)).trans kd)
theorem C2r {l:List Env} {fl:Value} {fr:Option Addr} (st:B.StaysIn s.heap) (ff:s.heap.FunFrames B l) (ht:s.heap.TracedAtW B e cls a0 fl)
  (hQ:∀h',B.StaysIn h'->h'.FunFrames B l->h'.TracedAtW B e cls a0 (fr.elim .none λf=>rawInt f)->s.heap.UpToSlots h'->KD s.heap h'->Q () { s with heap:=h' }):wpAny M A (setFlight (.ref e) fr) Q E s:=by
 obtain ⟨oe,vs,T,oT,ts,he,hcls,hd,h1,hnT,hTe,hT,hdT,h3⟩:=ht;have z3:3<ts.size:=(Z1m.mp h3).1;have oth:∀b,b≠T->(s.heap.update T (Obj.mapFields (·.setIfInBounds 3 (fr.elim Value.none λf=>rawInt f)))).get? b=s.heap.get? b:=λb hb=>Z1d _ _ (Ne.symm hb)
 have nr:∀b o,s.heap.get? b=some o->(∀vs,o.data≠.fields vs)->b≠T:=λb o hb hnf q=>by
  rw [q,hT] at hb;cases hb;exact hnf ts hdT
 unfold setFlight;refine Z00 (Z11 he hd h1 ?_);rw [Z12 (show (Value.ref T != Value.none)=true by simp)];refine Z1t hT hdT z3 (hQ _ (λb o hbo=>(oth b λq=>by rw [q,hnT] at hbo;cases hbo).trans (st b o hbo)) (ff.of_keeps λb o hb hnf=>⟨o,(oth b (nr b o hb hnf)).trans hb,rfl⟩) ?_ (λb o hb hnf=>⟨o.slots,(oth b (nr b o hb hnf)).trans hb⟩) (KD.field hT hdT _ λ_=>Z25 (by decide)));exact ⟨oe,vs,T,_,_,(oth e (Ne.symm hTe)).trans he,hcls,hd,h1,hnT,hTe,Z1r _ hT (Obj.isFreed_of_fields (Obj.data_mapFields hdT _)),Obj.data_mapFields hdT _,by simp [z3]⟩
theorem C6j (hfr:A.frames=some (env::outer)) (hf:env.frame=some L) (st:B.StaysIn s.heap) (hn:B.get? e=none) (ff:s.heap.FunFrames B (env::outer)) (ht:C4r s.heap B e cls a0)
  (hQ:∀h',Heap.FlyingW B outer e cls a0 h'->s.heap.UpToSlots h'->KD s.heap h'->Q () { s with heap:=h' }):wpAny M A (leaving env (.ref e)) Q E s:=by
 unfold leaving;refine Z00 (C5o hfr hf st hn ff ht λh1 held u1 k1=>C2r (s:={ s with heap:=h1 }) held.1 held.2.2.1 held.2.2.2 λh2 s2 f2 t2 u2 k2=> ?_)
 exact hQ h2 ⟨s2,hn,f2.2.2,t2⟩ (u1.trans u2) (k1.trans k2)
end
theorem FlyingW.exc {B h:Heap} {l:List Env} {e:Addr} {cls a0:Value} (f:Heap.FlyingW B l e cls a0 h):C4r h B e cls a0:= .inr ⟨.none,f.2.2.2⟩
noncomputable def B1a (h:Heap) (e:Addr) (od:Option Addr):Prop:=∃o vs,h.get? e=some o/\o.dict=od/\o.data= .fields vs/\vs[2]? =some .none
theorem B1a.kd {h h':Heap} {e:Addr} {od:Option Addr} (d:B1a h e od) (k:KD h h'):B1a h' e od:=by
 obtain ⟨o,vs,e1,e2,e5,e6⟩:=d;obtain ⟨o',e3,_,e4,c2⟩:=k _ o e1;obtain ⟨vs',e7,e8⟩:=c2 vs e5;exact ⟨o',vs',e3,e4.trans e2,e7,e8.trans e6⟩
noncomputable def CXD (P:Program) (w:World):CXT:=λouter H s E e s' =>
 ∃(ea C:Addr) (a0:Value) (od:Option Addr) (H':Hp) (B:Heap),e= .ref ea/\s'.os=s.os/\AllBare s'.gens/\Un (frs outer) [] H H' s.heap s'.heap/\HOk P w H' s'.heap/\
  (∀b o,s.heap.get? b=some o->b∉frs outer->∃o',B.get? b=some o')/\(∀b o,H' b=some o->∃o',B.get? b=some o')/\
  Heap.FlyingW B outer ea (.ref C) a0 s'.heap/\B1a s'.heap ea od/\E (.ref C) od H'
section
variable {P:Program} {w:World} {K:PySem.W.Frag} {mg:Str->Option Value} {base:Heap} {N:List Str} {qual:Str} {scope:Scope} {f:Addr} {cd:Value} {A:Around} {outer:List Env} {s:Shared} {H:Hp} {E:XK}
theorem C3n:A5r (CXD P w) (A6t (CXD P w) P w K mg base N qual scope f cd A outer s H E) E:=by
 intro pins σ H1 s1 e s' I hcx;obtain ⟨ea,C,a0,od,H',B,rfl,os,bare,un,hok,b1,b2,fl,dd,q⟩:=hcx;refine C6j I.ok.frames rfl fl.1 fl.2.1 fl.2.2.1 (FlyingW.exc fl) λh' fl' up kd=> ?_;obtain ⟨un',b1'⟩:=D6w I rfl un b1 fl.1 fl'.1 up;exact ⟨ea,C,a0,od,H',B,rfl,os.trans I.os,bare,un',B7s hok b2 fl.1 fl'.1,b1',b2,fl',dd.kd kd,q⟩
noncomputable def C5a (X:Cx) (C:Addr) (E:XK):Prop:=∀(pins:List (Addr×Obj)) (σ:St) (H:Hp) (s:Shared) (ea ta:Addr) (d:Option Addr),Inv X pins σ H s->H ea=some (.ext λh=>h.get? ea=some (A6s C ta d))->X.s₀.heap.get? ea=none->
 E (.ref C) d (A3y H ea)->X.xe (.ref ea) s
theorem A8w {C:Addr}:C5a (A6t (CXD P w) P w K mg base N qual scope f cd A outer s H E) C E:=by
 intro pins σ H2 s1 ea ta d I he h0 q;obtain ⟨hobj,_,_⟩:=(show A1v _ _ H2 s1.heap ea (.ext λh=>h.get? ea=some (A6s C ta d)) from I.hok ea _ he);have I':=I.drop he
 have kB:∀b o,s1.heap.get? b=some o->b≠ea->b∉frs (envOfC qual scope s.heap.objs.size f cd::outer)->(PySem.W.hideAll s1.heap (ea::frs (envOfC qual scope s.heap.objs.size f cd::outer))).get? b=some o:=λb o e ne hb =>
  PySem.W.hideAll_get _ e (λm=>(Z0e.mp m).elim ne hb)
 have b2:∀b o,A3y H2 ea b=some o->∃o',(PySem.W.hideAll s1.heap (ea::frs (envOfC qual scope s.heap.objs.size f cd::outer))).get? b=some o':=λb o z=>by
  obtain ⟨ne,z'⟩:=A7u z;obtain ⟨u,hu⟩:=(I.hok b o z').at18;refine ⟨u,kB b u hu ne λm=> ?_⟩;have:=I.stkFree b m;rw [z'] at this;cases this
 have nst:∀b o,s.heap.get? b=some o->b∉frs outer->b∉frs (envOfC qual scope s.heap.objs.size f cd::outer):=λb o e hb m=>by
  rcases Z0e.mp m with z | z
  ·exact absurd (Z0a e) (by rw [z];exact Nat.lt_irrefl _)
  ·exact hb z
 have b1:∀b o,s.heap.get? b=some o->b∉frs outer->∃o',(PySem.W.hideAll s1.heap (ea::frs (envOfC qual scope s.heap.objs.size f cd::outer))).get? b=some o':=λb o e hb=>by
  obtain ⟨o1,e1⟩:=I.base.there b o e (by show b∉([]:List Addr);simp);refine ⟨o1,kB b o1 e1 (λz=> ?_) (nst b o e hb)⟩;rw [z] at e;rw [show s.heap.get? ea=none from h0] at e;cases e
 have st1:(PySem.W.hideAll s1.heap (ea::frs (envOfC qual scope s.heap.objs.size f cd::outer))).StaysIn s1.heap:=λb o z=>PySem.W.of_hideAll _ z
 refine C6j (B:=PySem.W.hideAll s1.heap (ea::frs (envOfC qual scope s.heap.objs.size f cd::outer))) (cls:= .ref C) (a0:= .ref ta) I.ok.frames rfl st1 (PySem.W.hideAll_none _ Z27)
  (PySem.W.funFrames_hide I.stack λenv he b hb=>Z1f _ (List.mem_filterMap.mpr ⟨env,he,hb⟩)) (.inl ⟨_,_,hobj,⟨rfl,rfl⟩,rfl,rfl⟩) λh' fl up kd=> ?_
 exact ⟨ea,C,.ref ta,d,A3y H2 ea,_,rfl,I.os,I.bare,C7y I' rfl b1 st1 fl.1 up,B7s I'.hok b2 st1 fl.1,b1,b2,fl,B1a.kd (h:=s1.heap) ⟨_,_,hobj,rfl,rfl,rfl⟩ kd,q⟩
theorem Fun.okD {x qual:Str} {st:Stmt} {f:Addr} {fd:FuncData} {N ps:List Str} {k:Nat} {sp:Sp} (F:Fun K x qual st f fd) (S:A0y N ps (A0m st)) (len:∀vs H Q E,sp vs H Q E->vs.length=ps.length)
  (hbody:∀(cdv:Value) (A:Around) (outer:List Env) (s:Shared) (H:Hp) (vs:List V) (Q:VK) (E:XK),A6p k (A.deeper (envOfC qual (A0m st) s.heap.objs.size f cdv))->sp vs H Q E->
   ∃t,PSs (A6t (CXD P w) P w K mg base N qual (A0m st) f cdv A outer s H E) (A5g st) t/\t { nx:=λ_ H'=>Q .non H',rt:=Q } (B0i N vs) H):A1y P w K mg base (CXD P w) (k+1) f fd ps sp:=by
 obtain ⟨oc,od,kV,doc,pm,an,cdv,ct,osl,rfl,lk,hcd⟩:=F.ex;exact D3c lk hcd S len λA outer s H vs Q E hr hsp=>hbody cdv A outer s H vs Q E hr hsp
end
noncomputable def xcG (ea C:Addr) (od:Option Addr):Heap->Prop:=λh=>∃o vs,h.get? ea=some o/\o.cls= .ref C/\o.dict=od/\o.data= .fields vs/\vs[2]? =some .none
section
variable {X:Cx} {pins:List (Addr×Obj)} {σ:St} {H H1:Hp} {s s1:Shared} {ea C:Addr} {a0:Value} {B:Heap} {od:Option Addr}
theorem D5g {P:Program} {w:World} {H:Hp} {h:Heap} (q:xcG ea C od h):A1v P w H h ea (.ext (xcG ea C od)):=by
 obtain ⟨o,vs,r⟩:=id q;exact ⟨q,⟨o,r.1⟩,λh1 h2 ⟨o,vs,q1,q2⟩ k=>⟨o,vs,k o q1,q2⟩⟩
structure C0m (X:Cx) (pins:List (Addr×Obj)) (σ:St) (H:Hp) (B:Heap) (ea C:Addr) (a0:Value) (od:Option Addr) (s:Shared):Prop where
 inv:Inv X pins σ H s
 fl:Heap.FlyingW B X.stack ea (.ref C) a0 s.heap
 d:B1a s.heap ea od
 no:H ea=none
 go:∀h',B.StaysIn h'->s.heap.UpToSlots h'->xcG ea C od h'->Inv X pins σ H { s with heap:=h' }/\Inv X pins σ (upd H ea (.ext (xcG ea C od))) { s with heap:=h' }
theorem D1q (fl:Heap.FlyingW B X.stack ea (.ref C) a0 s.heap) (d:B1a s.heap ea od):xcG ea C od s.heap:=by
 obtain ⟨oe,vs,e,c,dt,_⟩:=fl.first;obtain ⟨o,vs',e2,d2,d3,d4⟩:=d;rw [e] at e2;cases e2;exact ⟨oe,vs',e,c,d2,d3,d4⟩
theorem C0m.cls (F:C0m X pins σ H B ea C a0 od s):xcF ea C s.heap:=by
 obtain ⟨oe,vs,e,c,d,_⟩:=F.fl.first;exact ⟨oe,vs,e,c,d⟩
end
noncomputable def PHD (X:Cx) (hs:List ExceptHandler) (C:Addr) (th:Option Addr->Addr->TS):Prop :=
 ∀(pins:List (Addr×Obj)) (σ:St) (H:Hp) (B:Heap) (ea:Addr) (a0:Value) (od:Option Addr) (s:Shared) (D:B4d),C0m X pins σ H B ea C a0 od s->th od ea D σ H->wpAny (model X.prog X.w) X.A (handleBy (.ref ea) X.env hs) (SP X pins D) X.xe s
section
variable {M:Model} {A:Around} {E:Value->Shared->Prop} {s:Shared} {B:Heap} {l:List Env} {e:Addr} {cls a0:Value} {Q:Unit->Shared->Prop}
theorem B0w (f:Heap.FlyingW B l e cls a0 s.heap) (hQ:∀h',Heap.FlyingW B l e cls a0 h'->s.heap.UpToSlots h'->KD s.heap h'->Q () { s with heap:=h' }):wpAny M A (setFlight (.ref e) none) Q E s :=
 C2r f.1 f.2.2.1 f.2.2.2 λh' s2 f2 t2 u2 k2=>hQ h' ⟨s2,f.2.1,f2,t2⟩ u2 k2
end
section
variable {X:Cx} {C C':Addr} {y n:Str} {yp hpos:Pos} {b₀:Stmt} {suite:List Stmt} {rest:List ExceptHandler} {i:Nat}
end
noncomputable def Rsd (X:Cx) (pins:List (Addr×Obj)) (σ:St) (E:XK) (e:Value) (s':Shared):Prop:=∃(ea C:Addr) (a0:Value) (od:Option Addr) (H':Hp) (B:Heap),e= .ref ea/\B.StaysIn s'.heap/\B.get? ea=none/\s'.heap.FunFrames B X.stack/\C4r s'.heap B ea (.ref C) a0/\B1a s'.heap ea od/\H' ea=none/\X.A.frames=some X.stack/\
 (∀h',B.StaysIn h'->s'.heap.UpToSlots h'->xcG ea C od h'->Inv X pins σ H' { s' with heap:=h' }/\Inv X pins σ (upd H' ea (.ext (xcG ea C od))) { s' with heap:=h' })/\E (.ref C) od H'
noncomputable def D3x (X:Cx) (hs:List ExceptHandler) (D:B4d) (σ:St):XK:=λc od H2=>∃(C:Addr) (th:Option Addr->Addr->TS),c= .ref C/\PHD X hs C th/\∀ea,H2 ea=none->th od ea D σ H2
section
variable {X:Cx} {hs:List ExceptHandler} {h₀:ExceptHandler} {e:Expr} {pos epos npos:Pos} {i:Nat} {n:Str}
theorem B9q {pins:List (Addr×Obj)} {σ:St} {D:B4d} {s':Shared} {ev:Value} (hst:X.stack=X.env::X.outer/\X.env.frame=some X.env.locals) (hc:Rsd X pins σ (D3x X (h₀::hs) D σ) ev s') :
  wpAny (model X.prog X.w) X.A (noteFrame ev X.env) (λ_ s₂=>wpAny (model X.prog X.w) X.A (setFlight ev none) (λ_ s₃=>wpAny (model X.prog X.w) X.A (handleBy ev X.env (h₀::hs)) (SP X pins D) X.xe s₃) X.xe s₂) X.xe s':=by
 obtain ⟨ea,C,a0,od,H',B,rfl,st,en,ff,ex,dd,hno,hfr0,go,q⟩:=hc;obtain ⟨C',th,hC,hP,q⟩:=q;cases hC;have hfr:X.A.frames=some (X.env::X.outer):=by rw [<-hst.1];exact hfr0
 refine C5o hfr hst.2 st en (by rw [<-hst.1];exact ff) ex λh4 held up4 kd4=> ?_;refine C2r (s:={ s' with heap:=h4 }) held.1 held.2.2.1 held.2.2.2 λh5 st5 ff5 t5 up5 kd5=> ?_
 have fl5:Heap.FlyingW B X.stack ea (.ref C) a0 h5:=⟨st5,en,by rw [hst.1];exact ff5,t5⟩;have d5:=(dd.kd kd4).kd kd5;have up:=up4.trans up5;have x5:xcG ea C od h5:=D1q (X:=X) (s:={ s' with heap:=h5 }) fl5 d5;exact hP pins σ H' B ea a0 od _ D ⟨(go h5 st5 up x5).1,fl5,d5,hno,λh' s2 u2 x2=>go h' s2 (up.trans u2) x2⟩ (q ea hno)
noncomputable def PXD (X:Cx) (e:Expr) (t:TX):Prop :=
 ∀(pins:List (Addr×Obj)) (s:Shared) (σ:St) (H:Hp) (Q:VK) (E:XK),Inv X pins σ H s->t σ H Q E->wpAny (model X.prog X.w) X.A (eval e X.env) (EP X pins σ Q) (Rsd X pins σ E) s
theorem Rsd.of_call {pins:List (Addr×Obj)} {σ:St} {H1:Hp} {s1 s':Shared} {E:XK} {ev:Value} (I1:Inv X pins σ H1 s1) (h:CXD X.prog X.w X.stack H1 s1 E ev s'):Rsd X pins σ E ev s':=by
 obtain ⟨ea,C,a0,od,H',B,rfl,os,bare,un,hok,b1,b2,fl,dd,q⟩:=h;have F:C2x X pins σ H1 s1 H' B ea C a0 s':=⟨I1,os,bare,un,hok,b1,b2,fl⟩;have no:∀b:Addr,b∉([]:List Addr):=λb=>by simp
 refine ⟨ea,C,a0,od,H',B,rfl,fl.1,fl.2.1,fl.2.2.1,FlyingW.exc fl,dd,F.no,I1.ok.frames,λh5 st5 up x5=> ?_,q⟩
 have slot:∀b o,s1.heap.get? b=some o->H1 b=none->b∈frs X.stack->∃sl,h5.get? b=some { o with slots:=sl }:=λb o e n hb=>by
  obtain ⟨sl,e1⟩:=un.slot b o e n hb (no b);obtain ⟨_,of,ho,hd⟩:=I1.stack.mem hb;rw [e] at ho;cases ho;obtain ⟨sl3,e3⟩:=up b _ e1 hd;exact ⟨sl3,e3⟩
 have u5:Un (frs X.stack) [] H1 H' s1.heap h5:=by
  refine ⟨λb o e n hb _=> ?_,λb o e n hb _=>slot b o e n hb,un.free,λb o e _=> ?_,un.tups,un.frzs,un.tbls⟩
  ·have e2:=un.keep b o e n hb (no b);obtain ⟨o',eB⟩:=b1 b o e hb;have e3:=fl.1 b o' eB;rw [e2] at e3;cases e3;exact st5 b o eB
  ·by_cases hb:b∈frs X.stack
   ·obtain ⟨sl,q⟩:=slot b o e (I1.stkFree b hb) hb;exact ⟨_,q⟩
   ·obtain ⟨o',eB⟩:=b1 b o e hb;exact ⟨o',st5 b o' eB⟩
 have I5:Inv X pins σ H' { s' with heap:=h5 }:=I1.call' (s':={ s' with heap:=h5 }) os u5 (B7s hok b2 fl.1 st5) bare (ch:=[]) (λb z=>absurd z (by simp))
 exact ⟨I5,I1.trackO I5 F.new F.no (D5g x5)⟩
theorem C9m {k:Nat} {f:Addr} {fd:FuncData} {ps:List Str} {sp:Sp} {x:Str} {p pos:Pos} {e:Expr} {es:List Expr} {t:TA} (F:A1y X.prog X.w X.K X.mg X.base (CXD X.prog X.w) k f fd ps sp) (hr:A6p k X.A) (hg:Gl X x) (hm:X.mg x=some (.ref f)) (hk:PySem.W.keepIn X.K (.ref f)=true) (hb:A1p X.K fd ps [])
  (ha:PA X.nox (e::es) t) (hdb:(x == ("__debug__":Str))=false:=by decide) (he:starEach (e::es) X.env=(false,eval e X.env)::starEach es X.env:=by rfl) (hpl:(backTo pos (starEach es X.env)).any (·.1)=false:=by rfl) :
  PXD X (.Call (.Name x p) (e::es) [] pos) (D1f sp t):=by
 intro pins s σ H Q E I h;refine wpAny_Call_Name_kw (A5p I hg hm ?_ hdb)
 have hA:wpAny (model X.prog X.w) X.A (spliced (backTo pos (starEach (e::es) X.env))) (AP X pins σ λvs H1=>sp vs H1 Q E) (Rsd X pins σ E) s :=
  Z10 (ha pos pins s σ H _ (I.wish _) h) (λus s1 ⟨vs,H1,I1,r,q⟩=>⟨vs,H1,I1.unwish,r,q⟩) λ_ _ z=>False.elim z
 refine PySem.W.callWith_K (h₀:=X.base) I.ok.mod.kin hk (thn hA λus s1 ⟨vs,H1,I1,r,q⟩=>⟨I1.kIn,?_⟩) he hpl;have hl:us.length=ps.length:=by rw [<-r.length];exact F.len _ _ _ _ q
 have hb':=hb s1 us I1.kIn (by simpa using hl);rw [Z0u] at hb';refine wpAny_call (codeAny_mono (F.run X.A X.stack s1 H1 ⟨us,[]⟩ us vs Q E hr I1.env0 hb' r q) λr s' hq=> ?_)
 cases r with
 | error e=>exact Rsd.of_call I1 hq
 | ok fl =>
  cases fl with
  | ret u=>exact I1.after hq
  | next=>exact False.elim hq
  | brk=>exact False.elim hq
  | cont=>exact False.elim hq
noncomputable def D6e (X:Cx) (hs:List ExceptHandler) (tx:TX) (i:Nat):TS:=λD σ H=>tx σ H (λv H1=>D.nx (σ.set i (some v)) H1) (D3x X hs D σ)
theorem C9l {tx:TX} (hst:X.stack=X.env::X.outer/\X.env.frame=some X.env.locals) (he:PXD X e tx) (hN:X.N.Nodup) (hi:X.N[i]? =some n) (hx:Loc X.env.scope n)
  (hs':swapsWith e (some (.Name n npos)) epos.line X.env=pure false:=by rfl) (hf:X.fn n=true\/X.env.scope.names.lookup n=some .local:=by first | exact .inl rfl | exact .inr rfl | assumption) :
  PS X (.Try [.Assign [.Name n npos] e epos] (h₀::hs) [] [] pos) (D6e X (h₀::hs) tx i):=by
 intro pins s σ H D I h;refine wpAny_Try_except (Z10 (Q:=λf s1=>f= .next/\∃σ' H',Inv X pins σ' H' s1/\D.nx σ' H') (E:=Rsd X pins σ (D3x X (h₀::hs) D σ)) ?_ (λf s1 q=> ?_) λev s1 hc=>B9q hst hc)
 ·refine wpAny_execs_cons (wpAny_Assign_Name (thn (he pins s σ H _ _ I h) λv s1 ⟨y,H1,I1,r1,q1⟩=> ?_) hs');exact A8d I1 hN hi hx r1 (λs2 I2=>Z2b ⟨rfl,_,H1,I2,q1⟩) hf
 ·obtain ⟨rfl,q⟩:=q;exact Z2b q
end
end L2
namespace PySem.W
open PySem PySem.Spec PySem.Calls PyProof.Rows PySem.Builtin.ObjectAttr PySem.Builtin
section
variable {prog:Program} {w:World} {A:Around} {s:Shared} {K:Frag} {x C:Addr}
theorem D2e {M:Model} {h:Heap} {ox:Obj} {dx:Addr} {cd:ClassData} {m:Str->Option Value} {name:Str} (X:K.In h) (hx:h.get? x=some ox) (hcl:ox.cls= .ref C) (hdn:ox.dict=some dx) (no:notCls ox=true) (hc:clsIn K C=some cd) (hh:cd.hasDict=true) (hn:h.Ns dx m) :
  Looks M h (inOwnDict name (.ref x)) (m name):=by
 obtain ⟨o,es,ep,ho,hd,hr,same⟩:=hn
 have e:ownOf cd (some o) name=some (m name):=by
  unfold ownOf;rw [hh,Z12 rfl];unfold lookIn;dsimp only;rw [hd];dsimp only;rw [<-same name];unfold nsFind findBy;rw [<-Array.find?_toList]
  cases q:es.toList.find? (λe=>e.key.isStr name) with
  | some en=>rfl
  | none =>
   have:es.toList.any (·.refKey)=false:=by
    rw [List.any_eq_false];intro en hen;obtain ⟨n,t,ek⟩:=hr en (Array.mem_toList_iff.mp hen);simp [DictEntry.refKey,ek]
   rw [this];rfl
 exact looks_own X ⟨hx,hcl,no,by rw [hdn];exact ho⟩ hc e
theorem exc_get {E:Value->Shared->Prop} {ox:Obj} {dx:Addr} {vs:Array Value} {m:Str->Option Value} {name:Str} {v:Value} {b:Bool} {Q:Value->Shared->Prop} (X:K.In s.heap) (c:XcIn K C) (hx:s.heap.get? x=some ox) (hcl:ox.cls= .ref C) (hdn:ox.dict=some dx) (hdt:ox.data= .fields vs)
  (hh:(clsIn K C).any (·.hasDict)=true) (na:findIn K (.ref C) name=some none) (hn:s.heap.Ns dx m) (hm:m name=some v) (hv:handedIn v=true) (h:Q v { s with toks:=s.toks+1 }) :
  wpAny (model prog w) A (getAttr (.ref x) name b) Q E s:=by
 obtain ⟨h0,g,d,t,os⟩:=s;dsimp only at X hx hn;obtain ⟨cd,hc,hd'⟩:=any_some hh;have no:notCls ox=true:=by obtain ⟨_,_,d,_⟩:=ox;cases hdt;rfl
 have Lo:=D2e (M:=model prog w) (name:=name) X hx hcl hdn no hc hd' hn;rw [hm] at Lo;have Lf:Looks (model prog w) h0 (find (.ref x) (.ref C) name) (.value v):=(looks_findIn X na).andThen ((show Looks (model prog w) h0 (getOf none) none from .now).andThen ((show Looks (model prog w) h0 (dataDescriptor? none none) none from .now).andThen (Lo.andThen (Looks.tag .now))));unfold getAttr;refine Z00 (wpAny_mkText ?_);refine D8j X c hx hcl (λA R hR=>codeAny_call_builtin F.attr_ValueError.ga.plain F.entry_bexc_ga (C8q X c hx hcl ?_)) hv h;unfold Builtin.«object.__getattribute__»
 repeat (any_goals (first | assumption | (with_reducible refine Lf.at ?_) | (with_reducible refine Z1k hx ?_;rw [hcl]) | wp_step))
end
end PySem.W
namespace L2
open PySem PySem.Spec PyProof.Rows
section
variable {X:Cx} {pins:List (Addr×Obj)} {σ:St} {H:Hp} {s:Shared} {dx:Addr} {fs fs':List (Str×V)} {h':Heap} {t':Nat}
end
structure D9t (K:PySem.W.Frag) (C:Addr) (f:Str):Prop where
 c:PySem.W.XcIn K C
 hd:(PySem.W.clsIn K C).any (·.hasDict)=true
 no:PySem.W.findIn K (.ref C) f=some none
noncomputable def D2f (C:Addr) (sp:Sp) (dvs:List V) (E E':XK) (t:TA):TS:=λ_ σ H=>t σ H λvs H1=>vs.length<=sizeLine/\
 ∀ea ta,H1 ea=none->sp (.ref ea::(vs++dvs)) (upd H1 ea (xcN ea C ta)) (λv H2=>v= .non/\∃d,H2 ea=some (.ext λh=>h.get? ea=some (A6s C ta d))/\E (.ref C) d (A3y H2 ea)) E'
section
variable {X:Cx} {CX:CXT} {k:Nat} {f C:Addr} {fd:FuncData} {ps:List Str} {ds:List Value} {dvs:List V} {sp:Sp} {E E':XK}
theorem A4x {x:Str} {np cpos pos:Pos} {e:Expr} {es:List Expr} {t:TA} (hT:C5a X C E) (M:MkX X.K C f) (F:A1y X.prog X.w X.K X.mg X.base CX k f fd ps sp) (hr:A6p (k+1) X.A) (hg:Gl X x) (hm:X.mg x=some (.ref C)) (hb:A1p X.K fd ps ds) (hd:A2v dvs ds) (hx:A5r CX X E') (hc:X.calm=true)
  (hex:X.ex=[]) (ha:PA X (e::es) t) (hdb:(x == ("__debug__":Str))=false:=by decide) (he:starEach (e::es) X.env=(false,eval e X.env)::starEach es X.env:=by rfl) (hpl:(backTo cpos (starEach es X.env)).any (·.1)=false:=by rfl) :
  PS X (.Raise (some (.Call (.Name x np) (e::es) [] cpos)) none pos) (D2f C sp dvs E E' t):=by
 intro pins s σ H D I h;obtain ⟨nm,qn,N,bs,bm,hdct,sn,sub,ab,col,dd,k0,k1,k2,k3,k5,mN,hC,hN,hi,T,fn⟩:=B1l I.mod.kin M.xe
 have call:wpAny (model X.prog X.w) X.A (eval (.Call (.Name x np) (e::es) [] cpos) X.env) (λv s₁=>∃e t dx,v= .ref e/\s₁.heap.get? C=some (excClassObj nm qn C N bs bm hdct sn sub ab col dd k0 k1 k2 k3 k5 "ValueError.__new__")/\s₁.heap.get? e=some (A6s C t dx)/\X.xe (.ref e) s₁) X.xe s:=by
  refine wpAny_Call_Name_kw (A5p I hg hm ?_ hdb);refine PySem.W.callWith_K (h₀:=X.base) I.ok.mod.kin M.kp (thn (ha cpos pins s σ H _ I h) λus s1 ⟨vs,H1,I1,r,hl,q⟩=>⟨I1.kIn,?_⟩) he hpl;refine thn (C7o (Q:=λea ta H2=>∃d,H2 ea=some (.ext λh=>h.get? ea=some (A6s C ta d))/\E (.ref C) d (A3y H2 ea)) M.xe F hr hb hd hx I1 r (r.length▸hl) q) λv s2 ⟨ea,ta,H2,ev,I2,hn,d,hea,hE⟩=> ?_;obtain ⟨hobj,_,_⟩:=(show A1v X.prog X.w H2 s2.heap ea (.ext λh=>h.get? ea=some (A6s C ta d)) from I2.hok ea _ hea)
  have h0:X.s₀.heap.get? ea=none:=by
   cases z:X.s₀.heap.get? ea with
   | none=>rfl
   | some o =>
    obtain ⟨o1,e1⟩:=I1.base.there ea o z (by rw [hex];simp);rw [hn] at e1;cases e1
  exact ⟨ea,ta,d,ev,I2.bk _ _ hC,hobj,hT pins σ H2 s2 ea ta d I2 hea h0 hE⟩
 rw [arm_exec_Raise]
 first
  | exact Z00 (Z1y (A7q (C:=C) (nm:=nm) (q:=qn) (N:=N) (bs:=bs) (bm:=bm) (hdct:=hdct) (sn:=sn) (sub:=sub) (ab:=ab) (col:=col) (dd:=dd) (k0:=k0) (k1:=k1) (k2:=k2) (k3:=k3) (k5:=k5) (newId:="ValueError.__new__") (T.hasType (by decide +kernel)) (I.ok.hd hc) (Z00 (Z10 call (λv s₃ h₃=>Z00 (Z1y (Z04 h₃))) λ_ _ x=>x))))
  | (simp only [evalOpt,Option.map];exact Z00 (Z1y (A7q (C:=C) (nm:=nm) (q:=qn) (N:=N) (bs:=bs) (bm:=bm) (hdct:=hdct) (sn:=sn) (sub:=sub) (ab:=ab) (col:=col) (dd:=dd) (k0:=k0) (k1:=k1) (k2:=k2) (k3:=k3) (k5:=k5) (newId:="ValueError.__new__") (T.hasType (by decide +kernel)) (I.ok.hd hc) (Z00 (Z10 call (λv s₃ h₃=>Z00 (Z1y (Z04 h₃))) λ_ _ x=>x)))))
end
section
variable {X:Cx} {CX:CXT} {k:Nat} {f C:Addr} {fd:FuncData} {ps:List Str} {sp:Sp}
end
abbrev B5s (A:Around):Around:={ A with handled:=none }
noncomputable def A8i (k:Nat) (A:Around):Prop:=A6p k (B5s A)
theorem A8i.deeper {k:Nat} {A:Around} (r:A8i (k+1) A) (env:Env):A8i k (A.deeper env):=A6p.deeper r env
theorem A8i.depth {k:Nat} {A:Around} (r:A8i k A):A.depth<recursionLimit:=A6p.depth (A:=B5s A) r
theorem A6p.anyH {k:Nat} {A:Around} (r:A6p k A):A8i k A:=⟨rfl,r.dp,r.un,r.gd⟩
theorem A6p.held {k:Nat} {A:Around} (r:A6p k A) (h:Option Value):A8i k (A.mark h):=⟨rfl,r.dp,r.un,r.gd⟩
abbrev cxH (CX:CXT) (P:Program) (w:World) (K:PySem.W.Frag) (mg:Str->Option Value) (base:Heap) (N:List Str) (qual:Str) (scope:Scope) (f:Addr) (cd:Value) (A:Around) (outer:List Env) (s:Shared) (H:Hp) (E:XK):Cx :=
 { A6t CX P w K mg base N qual scope f cd A outer s H E with calm:=false }
structure B5r (P:Program) (w:World) (K:PySem.W.Frag) (mg:Str->Option Value) (base:Heap) (CX:CXT) (k:Nat) (f:Addr) (fd:FuncData) (ps:List Str) (sp:Sp):Prop where
 len:∀vs H Q E,sp vs H Q E->vs.length=ps.length
 run:∀(A:Around) (outer:List Env) (s:Shared) (H:Hp) (args:Args) (us:List Value) (vs:List V) (Q:VK) (E:XK),A8i k A->C8l P w K mg base A outer s H->BindsTo s fd args (ps.zip us)->A2v vs us->sp vs H Q E->
  codeAny (model P w) A (.call (.ref f) args) (CR CX outer P w H s Q E) s
theorem B5r.ok {P:Program} {w:World} {K:PySem.W.Frag} {mg:Str->Option Value} {base:Heap} {CX:CXT} {k:Nat} {f:Addr} {fd:FuncData} {ps:List Str} {sp:Sp} (F:B5r P w K mg base CX k f fd ps sp):A1y P w K mg base CX k f fd ps sp :=
 ⟨F.len,λA outer s H args us vs Q E hr=>F.run A outer s H args us vs Q E hr.anyH⟩
theorem C3b {CX:CXT} {P:Program} {w:World} {K:PySem.W.Frag} {mg:Str->Option Value} {base:Heap} {N ps:List Str} {qual:Str} {scope:Scope} {f:Addr} {cd:Value} {A:Around} {outer:List Env} {s s1:Shared} {H:Hp} {E:XK} {us:List Value} {vs:List V}
  (S:A0y N ps scope) (e0:C8l P w K mg base A outer s H) (hl:vs.length=ps.length) (r:A2v vs us)
  (x:InCallC s s.heap.objs.size (bindL (envOfC qual scope s.heap.objs.size f cd).kindOf (ps.zip us) λ_=>none) (cellsFrom (s.heap.objs.size+1) scope.names []) (bindC (envOfC qual scope s.heap.objs.size f cd).kindOf (ps.zip us) λ_=>none) s1) :
  Inv (cxH CX P w K mg base N qual scope f cd A outer s H E) [] (B0i N vs) H s1:=by
 have e1:C8l P w K mg base (B5s A) outer s H:=⟨e0.frames,e0.mod,e0.bs,e0.bsz,e0.funs,e0.frf,e0.hok,e0.bare⟩;have I:=B8q (CX:=CX) (E:=E) S rfl e1 hl r x;have ok:=I.ok
 exact ⟨⟨ok.mod,ok.kind,ok.glob,ok.blt,ok.above,ok.inj,ok.has,ok.cab,(λz=>nomatch z),Around.frames_deeper e0.frames,ok.stk,ok.exf,ok.bs,ok.bsz,ok.noex,ok.exfs,ok.funs,ok.frf⟩,
  I.os,I.bare,I.base,I.loc,I.cell,I.free,I.freeC,I.pin,I.hok,I.len⟩
section
variable {P:Program} {w:World} {K:PySem.W.Frag} {mg:Str->Option Value} {base:Heap}
theorem Fun.okH {x qual:Str} {st:Stmt} {f:Addr} {fd:FuncData} {N ps:List Str} {k:Nat} {sp:Sp} (F:Fun K x qual st f fd) (S:A0y N ps (A0m st)) (len:∀vs H Q E,sp vs H Q E->vs.length=ps.length)
  (hbody:∀(cdv:Value) (A:Around) (outer:List Env) (s:Shared) (H:Hp) (vs:List V) (Q:VK) (E:XK),A8i k (A.deeper (envOfC qual (A0m st) s.heap.objs.size f cdv))->sp vs H Q E->
   ∃t,PSs (cxH CX0 P w K mg base N qual (A0m st) f cdv A outer s H E).nox (A5g st) t/\t { nx:=λ_ H'=>Q .non H',rt:=Q } (B0i N vs) H):B5r P w K mg base CX0 (k+1) f fd ps sp:=by
 obtain ⟨oc,od,kV,doc,pm,an,cdv,ct,osl,rfl,lk,hcd⟩:=F.ex;refine ⟨len,λA outer s H args us vs Q E hr e0 hb r hsp=> ?_⟩;have stay:∀b o,base.get? b=some o->s.heap.get? b=some o:=λb o e=>(e0.bs b o e).1;have kin:=e0.mod.kin.keeps stay;have nl:=e0.mod.nolimit.keeps stay;have hl:vs.length=ps.length:=len _ _ _ _ hsp
 have kinds:∀y∈ps.zip us,(A0m st).names.lookup y.1=some .local\/((A0m st).names.lookup y.1=some .cell/\((cellsFrom (s.heap.objs.size+1) (A0m st).names []).lookup y.1).isSome=true):=by
  rintro ⟨n,v⟩ hy;exact (S.par n (List.of_mem_zip hy).1).imp id λq=>⟨q,PySem.W.cellsFrom_some _ _ _ (.inl q)⟩
 refine codeAny_call_function (A8i.depth hr) (kin _ _ lk) rfl S.co S.gen rfl
  (PySem.W.codeRec_of kin hcd) (hb _ _ _ _ (wpAny_newFunctionEnv_cells S.kind kinds λenv he s1 x=> ?_))
 cases he
 refine ⟨nl.keeps x.toInCall.keep,codeAny_func ?_⟩;obtain ⟨t,ht,hq⟩:=hbody cdv A outer s H vs Q E (hr.deeper _) hsp;have ht:=PSs.nox ht;have I:=C3b (CX:=CX0) (E:=E) S e0 hl r x;refine Z10 (ht [] s1 (B0i N vs) H _ I hq) (λfl s' hs=> ?_) λe s' hs=>hs
 cases fl with
 | ret u =>
  obtain ⟨v,σ',H',J,rv,q⟩:=hs;exact ⟨v,H',J.os,J.bare,J.base,J.hok,rv,q⟩
 | next =>
  obtain ⟨σ',H',J,q⟩:=hs;exact ⟨.non,H',J.os,J.bare,J.base,J.hok,rfl,q⟩
 | brk =>
  obtain ⟨_,_,_,q⟩:=hs;exact False.elim q
 | cont =>
  obtain ⟨_,_,_,q⟩:=hs;exact False.elim q
end
section
variable {X:Cx} {CX:CXT} {k:Nat} {f:Addr} {fd:FuncData} {ps:List Str} {sp:Sp} {dvs:List V} {ds:List Value} {E:XK} {x:Str} {p pos:Pos} {e:Expr} {es:List Expr} {t:TA}
theorem D3l {pins:List (Addr×Obj)} {σ:St} {H:Hp} {s:Shared} {Q:VK} {us:List Value} {vs:List V} (F:B5r X.prog X.w X.K X.mg X.base CX k f fd ps sp) (hr:A8i k X.A) (hb:A1p X.K fd ps ds) (hd:A2v dvs ds) (hx:A5r CX X E)
  (I:Inv X pins σ H s) (r:A2v vs us) (h:sp (vs++dvs) H Q E):wpAny (model X.prog X.w) X.A (call (.ref f) us) (EP X pins σ Q) X.xe s:=by
 have r2:=r.append hd;have hl:(us++ds).length=ps.length:=by rw [<-r2.length];exact F.len _ _ _ _ h
 refine wpAny_call (codeAny_mono (F.run X.A X.stack s H ⟨us,[]⟩ (us++ds) (vs++dvs) Q E hr I.env0 (hb s us I.kIn hl) r2 h) λr s' hq=> ?_);rcases r with e | fl
 ·exact hx pins σ H s e s' I hq
 ·cases fl with
  | ret u=>exact I.after hq
  | _=>exact False.elim hq
theorem D0l (F:B5r X.prog X.w X.K X.mg X.base CX k f fd ps sp) (hr:A8i k X.A) (hg:Gl X x) (hm:X.mg x=some (.ref f)) (hk:PySem.W.keepIn X.K (.ref f)=true) (hb:A1p X.K fd ps ds) (hd:A2v dvs ds) (hx:A5r CX X E)
  (ha:PA X (e::es) t) (hdb:(x == ("__debug__":Str))=false:=by decide) (he:starEach (e::es) X.env=(false,eval e X.env)::starEach es X.env:=by rfl) (hpl:(backTo pos (starEach es X.env)).any (·.1)=false:=by rfl) :
  PE X (.Call (.Name x p) (e::es) [] pos) (D5b sp dvs E t):=by
 intro pins s σ H Q I h;refine wpAny_Call_Name_kw (A5p I hg hm ?_ hdb);exact PySem.W.callWith_K (h₀:=X.base) I.ok.mod.kin hk (thn (ha pos pins s σ H _ I h) λus s1 ⟨vs,H1,I1,r,q⟩=>⟨I1.kIn,D3l F hr hb hd hx I1 r q⟩) he hpl
end
section
variable {prog:Program} {w:World} {A:Around} {E:Value->Shared->Prop} {s:Shared}
theorem B5b:entryFor table "proto.unchain"=some Builtin.«proto.unchain»:=entryFor_of_fast (by kernel_rfl)
theorem B8j {e:Value} {h:Addr} {oh:Obj} {vs:Array Value} {Q:Value->Shared->Prop} (ho:s.heap.get? h=some oh) (hd:oh.data= .fields vs) (h2:vs[2]? =some .none) (hq:Q .none s) :
  wpAny (model prog w) A (runValue (.builtin "proto.unchain" ⟨[e,.ref h,.ref h,.bool false],[]⟩)) Q E s:=by
 refine runValue_entry B5b ?_;show wpAny _ _ (field (.ref h) 2 >>= _) _ _ s;refine Z00 (Z11 ho hd h2 ?_);exact Z04 ⟨_,rfl,hq⟩
theorem B6f {α:Type} {h e:Addr} {oh oe:Obj} {vs es:Array Value} {Q:α->Shared->Prop} (hh:A.handled=some (.ref h)) (ne:h≠e) (ho:s.heap.get? h=some oh) (hd:oh.data= .fields vs) (h2:vs[2]? =some .none) (he:s.heap.get? e=some oe) (hde:oe.data= .fields es) (hz:2<es.size)
  (hE:E (.ref e) { s with heap:=s.heap.update e (Obj.mapFields (·.setIfInBounds 2 (.ref h))) }):wpAny (model prog w) A (raiseNew (.ref e)) Q E s:=by
 simp only [raiseNew];refine Z00 (wpAny_handled ?_);rw [hh];have nb:(Value.ref h != Value.ref e)=true:=by simpa using ne
 dsimp only;rw [Z12 nb];refine Z00 (Z1w (B8j ho hd h2 ?_));refine Z00 (Z1t (x:= .ref h) he hde hz (wpAny_throw hE))
end
noncomputable def B3r (h:Heap) (e:Addr) (od:Option Addr):Prop:=∃o,h.get? e=some o/\o.dict=od
theorem B3r.kd {h h':Heap} {e:Addr} {od:Option Addr} (d:B3r h e od) (k:KD h h'):B3r h' e od:=by
 obtain ⟨o,e1,e2⟩:=d;obtain ⟨o',e3,_,e4⟩:=k _ o e1;exact ⟨o',e3,e4.1.trans e2⟩
noncomputable def CXV (P:Program) (w:World):CXT:=λouter H s E e s' =>
 ∃(ea C:Addr) (a0:Value) (od:Option Addr) (H':Hp) (B:Heap),e= .ref ea/\s'.os=s.os/\AllBare s'.gens/\Un (frs outer) [] H H' s.heap s'.heap/\HOk P w H' s'.heap/\
  (∀b o,s.heap.get? b=some o->b∉frs outer->∃o',B.get? b=some o')/\(∀b o,H' b=some o->∃o',B.get? b=some o')/\
  Heap.FlyingW B outer ea (.ref C) a0 s'.heap/\B3r s'.heap ea od/\E (.ref C) od H'
section
variable {P:Program} {w:World} {K:PySem.W.Frag} {mg:Str->Option Value} {base:Heap} {N:List Str} {qual:Str} {scope:Scope} {f:Addr} {cd:Value} {A:Around} {outer:List Env} {s:Shared} {H:Hp} {E:XK}
noncomputable def xcT (ea C ta:Addr) (od:Option Addr):Heap->Prop:=λh=>∃o vs,h.get? ea=some o/\o.cls= .ref C/\o.dict=od/\o.data= .fields vs/\vs[0]? =some (.ref ta)/\vs[1]? =some .none
theorem Fun.okV {x qual:Str} {st:Stmt} {f:Addr} {fd:FuncData} {N ps:List Str} {k:Nat} {sp:Sp} (F:Fun K x qual st f fd) (S:A0y N ps (A0m st)) (len:∀vs H Q E,sp vs H Q E->vs.length=ps.length)
  (hbody:∀(cdv:Value) (A:Around) (outer:List Env) (s:Shared) (H:Hp) (vs:List V) (Q:VK) (E:XK),A6p k (A.deeper (envOfC qual (A0m st) s.heap.objs.size f cdv))->sp vs H Q E->
   ∃t,PSs (A6t (CXV P w) P w K mg base N qual (A0m st) f cdv A outer s H E) (A5g st) t/\t { nx:=λ_ H'=>Q .non H',rt:=Q } (B0i N vs) H):A1y P w K mg base (CXV P w) (k+1) f fd ps sp:=by
 obtain ⟨oc,od,kV,doc,pm,an,cdv,ct,osl,rfl,lk,hcd⟩:=F.ex;exact D3c lk hcd S len λA outer s H vs Q E hr hsp=>hbody cdv A outer s H vs Q E hr hsp
end
theorem D5l {P:Program} {w:World} {X:Cx}:A5r (CXV P w) X (λ_ _ _=>False):=by
 intro pins σ H s e s' I h;obtain ⟨_,_,_,_,_,_,_,_,_,_,_,_,_,_,_,q⟩:=h;exact q.elim
noncomputable def xcV (ea C:Addr) (od:Option Addr):Heap->Prop:=λh=>∃o vs,h.get? ea=some o/\o.cls= .ref C/\o.dict=od/\o.data= .fields vs
section
variable {X:Cx} {pins:List (Addr×Obj)} {σ:St} {H H1:Hp} {s s1:Shared} {ea C:Addr} {a0:Value} {B:Heap} {od:Option Addr}
theorem C4f {P:Program} {w:World} {H:Hp} {h:Heap} (q:xcV ea C od h):A1v P w H h ea (.ext (xcV ea C od)):=by
 obtain ⟨o,vs,r⟩:=id q;exact ⟨q,⟨o,r.1⟩,λh1 h2 ⟨o,vs,q1,q2⟩ k=>⟨o,vs,k o q1,q2⟩⟩
structure C0j (X:Cx) (pins:List (Addr×Obj)) (σ:St) (H:Hp) (B:Heap) (ea C:Addr) (a0:Value) (od:Option Addr) (s:Shared):Prop where
 inv:Inv X pins σ H s
 fl:Heap.FlyingW B X.stack ea (.ref C) a0 s.heap
 d:B3r s.heap ea od
 no:H ea=none
 go:∀h',B.StaysIn h'->s.heap.UpToSlots h'->xcV ea C od h'->Inv X pins σ H { s with heap:=h' }/\Inv X pins σ (upd H ea (.ext (xcV ea C od))) { s with heap:=h' }
theorem D1d (fl:Heap.FlyingW B X.stack ea (.ref C) a0 s.heap) (d:B3r s.heap ea od):xcV ea C od s.heap:=by
 obtain ⟨oe,vs,e,c,dt,_⟩:=fl.first;obtain ⟨o,e2,d2⟩:=d;rw [e] at e2;cases e2;exact ⟨oe,vs,e,c,d2,dt⟩
theorem C0j.cls (F:C0j X pins σ H B ea C a0 od s):xcF ea C s.heap:=by
 obtain ⟨oe,vs,e,c,d,_⟩:=F.fl.first;exact ⟨oe,vs,e,c,d⟩
end
noncomputable def PHV (X:Cx) (hs:List ExceptHandler) (C:Addr) (th:Option Addr->Addr->TS):Prop :=
 ∀(pins:List (Addr×Obj)) (σ:St) (H:Hp) (B:Heap) (ea:Addr) (a0:Value) (od:Option Addr) (s:Shared) (D:B4d),C0j X pins σ H B ea C a0 od s->th od ea D σ H->wpAny (model X.prog X.w) X.A (handleBy (.ref ea) X.env hs) (SP X pins D) X.xe s
section
variable {X:Cx} {C C':Addr} {y n:Str} {yp hpos:Pos} {b₀:Stmt} {suite:List Stmt} {rest:List ExceptHandler} {i:Nat}
noncomputable def D8p (i:Nat) (C:Addr) (ts:TS):Option Addr->Addr->TS:=λod ea D σ H=>ts { nx:=λσ' H'=>D.nx (σ'.set i none) H',rt:=D.rt,bk:=λσ' H'=>D.bk (σ'.set i none) H',ct:=λσ' H'=>D.ct (σ'.set i none) H' } (σ.set i (some (.ref ea))) (upd H ea (.ext (xcV ea C od)))
theorem D3d {ts:TS} (hg:Gl X y) (hm:X.mg y=some (.ref C')) (q:PySem.W.exmOne X.K (.ref C) (.ref C')=some true) (hN:X.N.Nodup) (hi:X.N[i]? =some n) (hx:X.env.scope.names.lookup n=some .local)
  (hs:∀ea,PSs (X.held ea) (b₀::suite) ts) (hd:(y == ("__debug__":Str))=false:=by decide) :
  PHV X (.ExceptHandler (some (.Name y yp)) (some n) (b₀::suite) hpos::rest) C (D8p i C ts):=by
 intro pins σ H B ea a0 od s D F h;refine wpAny_handleBy_cons (codeAny_handlers_test ?_) (by intro q;cases q);refine A5p (X:=X.held ea) (F.inv.held ea) hg hm ?_ hd;refine (D1u F.inv.kIn F.cls q).here (codeAny_handlers_suite_as ?_);refine B0w F.fl λh' fl' up kd=> ?_;have F':=(F.go h' fl'.1 up (D1d (s:={ s with heap:=h' }) fl' (F.d.kd kd))).2;refine A8d (X:=X.held ea) (v:= .ref ea) (F'.held ea) hN hi (.inl hx) rfl (λs2 I2=> ?_) (.inr hx)
 refine Z10 (hs ea pins s2 _ _ _ I2 h) (λf s3 hf=> ?_) λ_ _ z=>False.elim z;dsimp only
 cases f with
 | next =>
  obtain ⟨σ',H',I',r⟩:=hf;exact A9u (I'.unheld F.inv.ok) hN hi hx λs4 I4=>⟨_,H',I4,r⟩
 | brk =>
  obtain ⟨σ',H',I',r⟩:=hf;exact A9u (I'.unheld F.inv.ok) hN hi hx λs4 I4=>⟨_,H',I4,r⟩
 | cont =>
  obtain ⟨σ',H',I',r⟩:=hf;exact A9u (I'.unheld F.inv.ok) hN hi hx λs4 I4=>⟨_,H',I4,r⟩
 | ret u =>
  obtain ⟨v,σ',H',I',rv,r⟩:=hf;exact A9u (I'.unheld F.inv.ok) hN hi hx λs4 I4=>⟨v,_,H',I4,rv,r⟩
end
noncomputable def D2j (X:Cx) (pins:List (Addr×Obj)) (σ:St) (E:XK) (e:Value) (s':Shared):Prop:=∃(ea C:Addr) (a0:Value) (od:Option Addr) (H':Hp) (B:Heap),e= .ref ea/\B.StaysIn s'.heap/\B.get? ea=none/\s'.heap.FunFrames B X.stack/\C4r s'.heap B ea (.ref C) a0/\B3r s'.heap ea od/\H' ea=none/\X.A.frames=some X.stack/\
 (∀h',B.StaysIn h'->s'.heap.UpToSlots h'->xcV ea C od h'->Inv X pins σ H' { s' with heap:=h' }/\Inv X pins σ (upd H' ea (.ext (xcV ea C od))) { s' with heap:=h' })/\E (.ref C) od H'
noncomputable def D2x (X:Cx) (hs:List ExceptHandler) (D:B4d) (σ:St):XK:=λc od H2=>∃(C:Addr) (th:Option Addr->Addr->TS),c= .ref C/\PHV X hs C th/\∀ea,H2 ea=none->th od ea D σ H2
section
variable {X:Cx} {hs:List ExceptHandler} {h₀:ExceptHandler} {e:Expr} {pos epos npos:Pos} {i:Nat} {n:Str}
theorem C0p {pins:List (Addr×Obj)} {σ:St} {D:B4d} {s':Shared} {ev:Value} (hst:X.stack=X.env::X.outer/\X.env.frame=some X.env.locals) (hc:D2j X pins σ (D2x X (h₀::hs) D σ) ev s') :
  wpAny (model X.prog X.w) X.A (noteFrame ev X.env) (λ_ s₂=>wpAny (model X.prog X.w) X.A (setFlight ev none) (λ_ s₃=>wpAny (model X.prog X.w) X.A (handleBy ev X.env (h₀::hs)) (SP X pins D) X.xe s₃) X.xe s₂) X.xe s':=by
 obtain ⟨ea,C,a0,od,H',B,rfl,st,en,ff,ex,dd,hno,hfr0,go,q⟩:=hc;obtain ⟨C',th,hC,hP,q⟩:=q;cases hC;have hfr:X.A.frames=some (X.env::X.outer):=by rw [<-hst.1];exact hfr0
 refine C5o hfr hst.2 st en (by rw [<-hst.1];exact ff) ex λh4 held up4 kd4=> ?_;refine C2r (s:={ s' with heap:=h4 }) held.1 held.2.2.1 held.2.2.2 λh5 st5 ff5 t5 up5 kd5=> ?_
 have fl5:Heap.FlyingW B X.stack ea (.ref C) a0 h5:=⟨st5,en,by rw [hst.1];exact ff5,t5⟩;have d5:=(dd.kd kd4).kd kd5;have up:=up4.trans up5;have x5:xcV ea C od h5:=D1d (X:=X) (s:={ s' with heap:=h5 }) fl5 d5;exact hP pins σ H' B ea a0 od _ D ⟨(go h5 st5 up x5).1,fl5,d5,hno,λh' s2 u2 x2=>go h' s2 (up.trans u2) x2⟩ (q ea hno)
noncomputable def PXV (X:Cx) (e:Expr) (t:TX):Prop :=
 ∀(pins:List (Addr×Obj)) (s:Shared) (σ:St) (H:Hp) (Q:VK) (E:XK),Inv X pins σ H s->t σ H Q E->wpAny (model X.prog X.w) X.A (eval e X.env) (EP X pins σ Q) (D2j X pins σ E) s
theorem D2j.of_call {pins:List (Addr×Obj)} {σ:St} {H1:Hp} {s1 s':Shared} {E:XK} {ev:Value} (I1:Inv X pins σ H1 s1) (h:CXV X.prog X.w X.stack H1 s1 E ev s'):D2j X pins σ E ev s':=by
 obtain ⟨ea,C,a0,od,H',B,rfl,os,bare,un,hok,b1,b2,fl,dd,q⟩:=h;have F:C2x X pins σ H1 s1 H' B ea C a0 s':=⟨I1,os,bare,un,hok,b1,b2,fl⟩;have no:∀b:Addr,b∉([]:List Addr):=λb=>by simp
 refine ⟨ea,C,a0,od,H',B,rfl,fl.1,fl.2.1,fl.2.2.1,FlyingW.exc fl,dd,F.no,I1.ok.frames,λh5 st5 up x5=> ?_,q⟩
 have slot:∀b o,s1.heap.get? b=some o->H1 b=none->b∈frs X.stack->∃sl,h5.get? b=some { o with slots:=sl }:=λb o e n hb=>by
  obtain ⟨sl,e1⟩:=un.slot b o e n hb (no b);obtain ⟨_,of,ho,hd⟩:=I1.stack.mem hb;rw [e] at ho;cases ho;obtain ⟨sl3,e3⟩:=up b _ e1 hd;exact ⟨sl3,e3⟩
 have u5:Un (frs X.stack) [] H1 H' s1.heap h5:=by
  refine ⟨λb o e n hb _=> ?_,λb o e n hb _=>slot b o e n hb,un.free,λb o e _=> ?_,un.tups,un.frzs,un.tbls⟩
  ·have e2:=un.keep b o e n hb (no b);obtain ⟨o',eB⟩:=b1 b o e hb;have e3:=fl.1 b o' eB;rw [e2] at e3;cases e3;exact st5 b o eB
  ·by_cases hb:b∈frs X.stack
   ·obtain ⟨sl,q⟩:=slot b o e (I1.stkFree b hb) hb;exact ⟨_,q⟩
   ·obtain ⟨o',eB⟩:=b1 b o e hb;exact ⟨o',st5 b o' eB⟩
 have I5:Inv X pins σ H' { s' with heap:=h5 }:=I1.call' (s':={ s' with heap:=h5 }) os u5 (B7s hok b2 fl.1 st5) bare (ch:=[]) (λb z=>absurd z (by simp))
 exact ⟨I5,I1.trackO I5 F.new F.no (C4f x5)⟩
theorem D0y {k:Nat} {f:Addr} {fd:FuncData} {ps:List Str} {sp:Sp} {x:Str} {p pos:Pos} {e:Expr} {es:List Expr} {t:TA} (F:A1y X.prog X.w X.K X.mg X.base (CXV X.prog X.w) k f fd ps sp) (hr:A6p k X.A) (hg:Gl X x) (hm:X.mg x=some (.ref f)) (hk:PySem.W.keepIn X.K (.ref f)=true) (hb:A1p X.K fd ps [])
  (ha:PA X.nox (e::es) t) (hdb:(x == ("__debug__":Str))=false:=by decide) (he:starEach (e::es) X.env=(false,eval e X.env)::starEach es X.env:=by rfl) (hpl:(backTo pos (starEach es X.env)).any (·.1)=false:=by rfl) :
  PXV X (.Call (.Name x p) (e::es) [] pos) (D1f sp t):=by
 intro pins s σ H Q E I h;refine wpAny_Call_Name_kw (A5p I hg hm ?_ hdb)
 have hA:wpAny (model X.prog X.w) X.A (spliced (backTo pos (starEach (e::es) X.env))) (AP X pins σ λvs H1=>sp vs H1 Q E) (D2j X pins σ E) s :=
  Z10 (ha pos pins s σ H _ (I.wish _) h) (λus s1 ⟨vs,H1,I1,r,q⟩=>⟨vs,H1,I1.unwish,r,q⟩) λ_ _ z=>False.elim z
 refine PySem.W.callWith_K (h₀:=X.base) I.ok.mod.kin hk (thn hA λus s1 ⟨vs,H1,I1,r,q⟩=>⟨I1.kIn,?_⟩) he hpl;have hl:us.length=ps.length:=by rw [<-r.length];exact F.len _ _ _ _ q
 have hb':=hb s1 us I1.kIn (by simpa using hl);rw [Z0u] at hb';refine wpAny_call (codeAny_mono (F.run X.A X.stack s1 H1 ⟨us,[]⟩ us vs Q E hr I1.env0 hb' r q) λr s' hq=> ?_)
 cases r with
 | error e=>exact D2j.of_call I1 hq
 | ok fl =>
  cases fl with
  | ret u=>exact I1.after hq
  | next=>exact False.elim hq
  | brk=>exact False.elim hq
  | cont=>exact False.elim hq
noncomputable def D5t (X:Cx) (hs:List ExceptHandler) (tx:TX):TS:=λD σ H=>tx σ H (λ_ H1=>D.nx σ H1) (D2x X hs D σ)
theorem C8n {tx:TX} (hst:X.stack=X.env::X.outer/\X.env.frame=some X.env.locals) (he:PXV X e tx) (hs':swapsWith e none epos.line X.env=pure false:=by rfl) :
  PS X (.Try [.Expr e epos] (h₀::hs) [] [] pos) (D5t X (h₀::hs) tx):=by
 intro pins s σ H D I h;refine wpAny_Try_except (Z10 (Q:=λf s1=>f= .next/\∃σ' H',Inv X pins σ' H' s1/\D.nx σ' H') (E:=D2j X pins σ (D2x X (h₀::hs) D σ)) ?_ (λf s1 q=> ?_) λev s1 hc=>C0p hst hc)
 ·exact wpAny_execs_cons (wpAny_Expr_any (thn (he pins s σ H _ _ I h) λv s1 ⟨y,H1,I1,r1,q1⟩=>Z2b ⟨rfl,σ,H1,I1,q1⟩) I.quiet hs')
 ·obtain ⟨rfl,q⟩:=q;exact Z2b q
end
noncomputable def D7w (K:PySem.W.Frag) (ta:TE) (f:Str):TE:=λσ H Q=>ta σ H λx H1=>∃ea C dx fs v,x= .ref ea/\H1 ea=some (.ext (xcV ea C (some dx)))/\H1 dx=some (.xd fs)/\fs.lookup f=some v/\D9t K C f/\Q v H1
theorem C4e {X:Cx} {K:PySem.W.Frag} {e:Expr} {f:Str} {pos:Pos} {ta:TE} (hK:X.K=K) (he:PE X e ta) (hb:attributeBase e f X.env (eval e X.env)=eval e X.env):PE X (.Attribute e f pos) (D7w K ta f):=by
 intro pins s σ H Q I h;refine C5f hb (thn (he pins s σ H _ I h) λu s1 ⟨x,H1,I1,rx,ea,C,dx,fs,v,ex,ee,ed,l,g,q⟩=> ?_);subst ex hK;obtain rfl:u=Value.ref ea:=rx;obtain ⟨⟨o,vs,ho,hc,hd,hv⟩,_,_⟩:=(show A1v X.prog X.w H1 s1.heap ea (.ext (xcV ea C (some dx))) from I1.hok ea _ ee);obtain ⟨mA,n1,r⟩:=(show A1v X.prog X.w H1 s1.heap dx (.xd fs) from I1.hok dx _ ed);obtain ⟨u,hu,ru⟩:=B9b.some_of (v:=v) (o:=mA f) (by rw [<-l];exact r f);exact PySem.W.exc_get I1.kIn g.c ho hc hd hv g.hd g.no n1.ns hu (B8b ru) ⟨v,H1,I1.tok _,ru,q⟩
section
variable {prog:Program} {w:World} {A:Around} {E:Value->Shared->Prop} {env:Env} {nm q:Str} {C N:Addr} {bs bm:List Value} {hdct:Bool} {sn:List Str} {sub:List Value} {ab:Bool} {col:Option Bool} {dd:Option Addr} {k0 k1 k2 k3 k5:Option Value} {newId:String}
theorem B0s {e:Addr} {h:Heap} {o:Obj} {vs:Array Value} (he:h.get? e=some o) (hd:o.data= .fields vs) (i:Nat) (v:Value):(h.update e (Obj.mapFields (·.setIfInBounds i v))).get? e=some (Obj.mapFields (·.setIfInBounds i v) o) :=
 Z1r _ he (Obj.isFreed_of_fields (Obj.data_mapFields hd _))
theorem B3k {s:Shared} {e:Addr} {oe:Obj} {vs:Array Value} {msg:String} {Q:Value->Shared->Prop} (hbase:bm.contains (.type "BaseException")=true) (hC:s.heap.get? C=some (excClassObj nm q C N bs bm hdct sn sub ab col dd k0 k1 k2 k3 k5 newId)) (he:s.heap.get? e=some oe) (hc:oe.cls= .ref C) (hd:oe.data= .fields vs) (h:Q (.ref e) s) :
  wpAny (model prog w) A (excFromValue (.ref e) msg) Q E s:=by
 have hcB:(Value.ref C::bm).contains (.type "BaseException")=true:=by rw [List.contains_cons,hbase,Bool.or_true]
 obtain ⟨hp,g,d,tk,os⟩:=s;obtain ⟨oc,od,oda,osl⟩:=oe;dsimp only at hc hd;subst hc hd;unfold excFromValue
 repeat (first | with_reducible refine Z1k he ?_ | with_reducible refine Z1k hC ?_ | (with_reducible refine wpAny_isSubtype_exc hC ?_;rw [hcB]) | wp_step)
 exact h
theorem B2j {s:Shared} {x c:Sem Value} {h:Addr} {Q:Flow->Shared->Prop} (hbase:bm.contains (.type "BaseException")=true) (hh:A.handled=some (.ref h))
  (hx:wpAny (model prog w) A x (λv s₁=>∃e,v= .ref e/\wpAny (model prog w) A c (λcv s₂=>cv= .ref h/\∃t dx oh vs,s₂.heap.get? C=some (excClassObj nm q C N bs bm hdct sn sub ab col dd k0 k1 k2 k3 k5 newId)/\s₂.heap.get? e=some (A6s C t dx)/\
   s₂.heap.get? h=some oh/\oh.cls= .ref C/\oh.data= .fields vs/\vs[2]? =some .none/\h≠e/\e≠C/\h≠C/\
   ∀h',(∀b,b≠e->h'.get? b=s₂.heap.get? b)->(∃o' vs',h'.get? e=some o'/\o'.cls= .ref C/\o'.dict=dx/\o'.data= .fields vs'/\vs'[0]? =some (.ref t)/\vs'[1]? =some .none)->E (.ref e) { s₂ with heap:=h' }) E s₁) E s) :
  wpAny (model prog w) A (raiseStmt env (some x) (some c)) Q E s:=by
 unfold raiseStmt;refine Z00 (Z10 hx (λv s₁ h₁=> ?_) λ_ _ z=>z);obtain ⟨e,rfl,hc⟩:=h₁;refine Z00 (Z1w (Z10 hc (λcv s₂ h₂=> ?_) λ_ _ z=>z));obtain ⟨rfl,t,dx,oh,vs,hC,he,ho,hoc,hod,h2,ne,neC,nhC,hE⟩:=h₂;refine Z00 (Z04 ?_);refine Z00 (Z1w (B3k hbase hC he rfl rfl ?_));dsimp only;rw [Z0t (show¬((Value.ref h == Value.none)=true) by simp)];refine Z00 (Z1w (B3k hbase hC ho hoc hod ?_));refine Z00 (Z1t he rfl (by simp) ?_);have he1:=B0s (vs:=_) he rfl 3 (.ref h);have oth1:∀b,b≠e->(s₂.heap.update e (Obj.mapFields (·.setIfInBounds 3 (.ref h)))).get? b=s₂.heap.get? b:=λb hb=>Z1d _ _ (Ne.symm hb);generalize s₂.heap.update e (Obj.mapFields (·.setIfInBounds 3 (.ref h)))=g1 at he1 oth1⊢;refine Z00 (Z1t (s:={ s₂ with heap:=g1 }) he1 rfl (by simp) ?_);have he2:=B0s (vs:=_) he1 rfl 4 (.bool true);have oth2:∀b,b≠e->(g1.update e (Obj.mapFields (·.setIfInBounds 4 (.bool true)))).get? b=s₂.heap.get? b:=λb hb=>(Z1d _ _ (Ne.symm hb)).trans (oth1 b hb)
 generalize g1.update e (Obj.mapFields (·.setIfInBounds 4 (.bool true)))=g2 at he2 oth2⊢;have hC2:=(oth2 C (Ne.symm neC)).trans hC;have ho2:=(oth2 h ne).trans ho;obtain ⟨hp,g,d,tk,os⟩:=s₂;dsimp only at he2 hC2 ho2 oth2 hE⊢;have he3:g2.get? e=some { cls:= .ref C,dict:=dx,data:= .fields #[.ref t,.none,.none,.ref h,.bool true,.none] }:=he2
 repeat (first | with_reducible refine Z1k he3 ?_ | with_reducible refine Z1k hC2 ?_ | wp_step)
 refine B6f (s:=⟨g2,g,d,tk,os⟩) hh ne ho2 hod h2 he3 rfl (by simp) ?_;exact hE _ (λb hb=>(Z1d _ _ (Ne.symm hb)).trans (oth2 b hb)) ⟨_,_,B0s he3 rfl 2 _,rfl,rfl,rfl,rfl,rfl⟩
end
section
variable {X:Cx} {CX:CXT} {k:Nat} {f C:Addr} {fd:FuncData} {ps:List Str} {ds:List Value} {dvs:List V} {sp:Sp} {E:XK}
theorem A8i.make {k:Nat} {A:Around} (r:A8i (k+1) A) (C:Addr) (us:List Value) (kw:List (Str×Value)):A8i k (A.under (.builtin "type.__call__" ⟨.ref C::us,kw⟩)):=A6p.make (A:=B5s A) r C us kw
theorem C3f {pins:List (Addr×Obj)} {σ:St} {H:Hp} {s:Shared} {Q:Addr->Addr->Hp->Prop} {us:List Value} {vs:List V} (q:PySem.W.excInI X.K C f D8b "ValueError.__new__"=true)
  (F:B5r X.prog X.w X.K X.mg X.base CX k f fd ps sp) (hr:A8i (k+1) X.A) (hb:A1p X.K fd ps ds) (hd:A2v dvs ds) (hx:A5r CX X E) (I:Inv X pins σ H s) (r:A2v vs us) (hz:us.length<=sizeLine)
  (h:∀ea ta,H ea=none->sp (.ref ea::(vs++dvs)) (upd H ea (xcN ea C ta)) (λv H2=>v= .non/\Q ea ta H2) E) :
  wpAny (model X.prog X.w) X.A (call (.ref C) us) (λv s'=>∃ea ta H2,v= .ref ea/\Inv X pins σ H2 s'/\s.heap.get? ea=none/\Q ea ta H2) X.xe s:=by
 obtain ⟨nm,qn,N,bs,bm,hdct,sn,sub,ab,col,dd,k0,k1,k2,k3,k5,mN,hC,hN,hi,T,fn⟩:=B1l I.mod.kin q;obtain ⟨oI,hoI,hcI⟩:=D6r I.kIn fn;obtain ⟨hp,g,d,t,os⟩:=s;refine A8r PySem.F.excBase_ValueError (by decide +kernel) PySem.F.excBase_ValueError (T.keeps I.bk) (I.bk _ _ hC) (hN.keeps I.bk) hi hoI hcI (λh' e hm=> ?_) hz;obtain ⟨ta,he,_,_⟩:=hm.there
 have hH:H e=none:=by
  cases z:H e with
  | none=>rfl
  | some u =>
   obtain ⟨o,ho⟩:=(I.hok e u z).at18;have:=hm.new;rw [show hp.get? e=some o from ho] at this;cases this
 have I1:Inv X pins σ H ⟨h',g,d,t,os⟩:=I.kept (t':=t) (λb o z=>hm.keeps b o z);have I2:=I.trackO (a:=e) (o:=xcN e C ta) I1 hm.new hH (D1j he);have hq:=h e ta hH;have r2:A2v (V.ref e::(vs++dvs)) (Value.ref e::(us++ds)):= .cons rfl (r.append hd)
 have hl:(Value.ref e::us++ds).length=ps.length:=by
  have z:=r2.length;rw [F.len _ _ _ _ hq] at z;exact z.symm
 refine wpAny_call (codeAny_mono (F.run _ X.stack _ _ ⟨Value.ref e::us,[]⟩ (Value.ref e::(us++ds)) _ _ E (hr.make C us []) (I2.env0.make C us []) (hb _ (Value.ref e::us) I2.kIn hl) r2 hq) λr s' hq'=> ?_)
 cases r with
 | error e'=>exact hx pins σ _ _ e' s' I2 hq'
 | ok fl =>
  cases fl with
  | ret u =>
   obtain ⟨v,H',I3,rv,ev,q3⟩:=I2.after hq';subst ev;exact ⟨rv,e,ta,H',rfl,I3,hm.new,q3⟩
  | next=>exact False.elim hq'
  | brk=>exact False.elim hq'
  | cont=>exact False.elim hq'
end
section
variable {X:Cx} {pins:List (Addr×Obj)} {σ:St} {H:Hp} {s:Shared}
theorem C3j {M:Model} {A:Around} {E:Value->Shared->Prop} {i:Nat} {x:Str} {pos:Pos} {Q:Unit->Shared->Prop} (I:Inv X pins σ H s) (hN:X.N.Nodup) (hi:X.N[i]? =some x) (hx:X.env.scope.names.lookup x=some .local)
  (h:∀s',Inv X pins (σ.set i none) H s'->(∀b o vs,s.heap.get? b=some o->o.data= .fields vs->s'.heap.get? b=some o)->Q () s'):wpAny M A (do bindName X.env x .none;unbindBehindTheSuite X.env x pos) Q E s:=by
 refine Z00 (wpAny_bindName (B2l (v:= .non) (u:= .none) I hN hi (.inl hx) rfl (λs1 I1 hsb=> ?_) (.inr hx)));unfold unbindBehindTheSuite;refine wpAny_onRaise ?_;obtain ⟨m,hn,hl⟩:=id I1.loc;have hcls:(X.env.scope.kind == .class||(X.env.scope.kind == .module&&X.env.locals != X.env.globals))=false:=by rw [I1.ok.kind];rfl
 have hiσ:i<σ.length:=by rw [I.len];exact (Z03.mp hi).1
 have cne:=I1.cne;have hk:X.env.kindOf x=some .local:=hx;obtain ⟨u,ru,hu⟩:=hl i x .non hi (Z23 hiσ) (.inl hx)
 have hm:m x=some u:=by
  rcases hu with ⟨_,e⟩ | ⟨k,_⟩
  ·exact e
  ·rw [hk] at k;rcases k with k | k <;> cases k
 refine wpAny_unbindName_local hk hn hm hcls λh' v hn' hs=> ?_;obtain ⟨oL,_,_,hoL,_⟩:=id hn;refine h _ ⟨I1.ok,I1.os,I1.bare,⟨λb o e n hb hx=> ?_,λb o e n hb hx=> ?_,I1.base.free,λb o e hx=> ?_,I1.base.tups,I1.base.frzs,I1.base.tbls⟩,⟨_,hn',λj y v' e1 e2 e3=> ?_⟩,λy c e=> ?_,I1.free,I1.freeC,λp hp=> ?_,λb ob e=> ?_,by simpa using I.len⟩ λb o vs eb ed=> ?_
 ·exact (hs.2 b (Z0h (Z0q (Z0a e) I1.ok.above))).trans (I1.base.keep b o e n hb hx)
 ·obtain ⟨sl,e1⟩:=I1.base.slot b o e n hb hx;exact ⟨sl,(hs.2 b (Z0h (Z0q (Z0a e) I1.ok.above))).trans e1⟩
 ·obtain ⟨o',e1⟩:=I1.base.there b o e hx;exact ⟨o',(hs.2 b (Z0h (Z0q (Z0a e) I1.ok.above))).trans e1⟩
 ·by_cases hj:j=i
  ·subst hj;rw [Z23 hiσ] at e2;cases e2
  ·rw [Z2a (Ne.symm hj)] at e2;obtain ⟨u',r',q⟩:=hl j y v' e1 (by rw [Z2a (Ne.symm hj)];exact e2) e3;refine ⟨u',r',?_⟩;rcases q with ⟨k,e⟩ | ⟨k,c,e,z⟩
   ·refine .inl ⟨k,?_⟩;have:y≠x:=λe=>hj (B1p hN e1 (e▸hi));simp [this,e]
   ·exact .inr ⟨k,c,e,z.sameBut hs (cne y c e)⟩
 ·obtain ⟨w',z⟩:=I1.cell y c e;exact ⟨w',z.sameBut hs (cne y c e)⟩
 ·obtain ⟨e,n,ne,nf,d⟩:=I1.pin p hp;exact ⟨(hs.2 p.1 ne).trans e,n,ne,nf,d⟩
 ·refine (I1.hok b ob e).stay (λc w' hc q=>(hs.2 c ?_).trans q) (λ_ q=>q) λ_ _ q=>q;rintro rfl;rcases hc with rfl | hc
  ·rw [I1.free] at e;cases e
  ·rw [I1.free] at hc;cases hc
 ·obtain ⟨a0,sb0,ha0⟩:=hsb
  have nl:b≠X.env.locals:=λz=>by
   obtain ⟨m0,hn0,_⟩:=id I.loc;obtain ⟨oL0,es0,ep0,hoL0,hdL0,_⟩:=id hn0;rw [z,hoL0] at eb;cases eb;rw [hdL0] at ed;cases ed
  have na:b≠a0:=λz=>by
   rcases ha0 with e0 | e0
   ·exact nl (z.trans e0)
   ·obtain ⟨v0,z0⟩:=I.cell x a0 e0;obtain ⟨oc0,hoc0,hdc0⟩:=id z0;rw [z,hoc0] at eb;cases eb;rw [hdc0] at ed;cases ed
  exact (hs.2 b nl).trans ((sb0.2 b na).trans eb)
end
theorem D7m {P:Program} {w:World} {H:Hp} {h:Heap} {ea C ta:Addr} {od:Option Addr} (q:xcT ea C ta od h):A1v P w H h ea (.ext (xcT ea C ta od)):=by
 obtain ⟨o,vs,r⟩:=id q;exact ⟨q,⟨o,r.1⟩,λh1 h2 ⟨o,vs,q1,q2⟩ k=>⟨o,vs,k o q1,q2⟩⟩
theorem D2t {pins:List (Addr×Obj)} {σ:St} {H2:Hp} {s2:Shared} {ea ta C:Addr} {d:Option Addr} {X:Cx} (I2:Inv X pins σ H2 s2) (hea:H2 ea=some (.ext (xcT ea C ta d))) (h':Heap) (st:(PySem.W.hideAll s2.heap (ea::frs X.stack)).StaysIn h') (up:s2.heap.UpToSlots h') (x':xcV ea C d h') :
  Inv X pins σ (A3y H2 ea) { s2 with heap:=h' }:=by
 obtain ⟨⟨ox,vx,hobj,hcx,hdx,hvx,h0x,h1x⟩,_,_⟩:=(show A1v X.prog X.w H2 s2.heap ea (.ext (xcT ea C ta d)) from I2.hok ea _ hea)
 have e3:upd (A3y H2 ea) ea (.ext (xcV ea C d))=upd H2 ea (.ext (xcV ea C d)):=by
  funext b;by_cases z:b=ea
  ·rw [z,A0b,A0b]
  ·rw [A0l z,A0l z,A4l z]
 have e4:A3y (upd H2 ea (.ext (xcV ea C d))) ea=A3y H2 ea:=by
  funext b;by_cases z:b=ea
  ·unfold A3y;rw [Z12 z,Z12 z]
  ·rw [A4l z,A4l z,A0l z]
 have x2:xcV ea C d s2.heap:=⟨_,_,hobj,hcx,hdx,hvx⟩;have I3:Inv X pins σ (upd H2 ea (.ext (xcV ea C d))) s2:=I2.write (x:=ea) (e:=ea) (o:= .ext (xcV ea C d)) (h':=s2.heap) (t':=s2.toks) (by rw [hea];exact True.intro) (.inl rfl) (λb u _ z=>z) ⟨_,hobj⟩ (C4f x2);have kB:∀b o,s2.heap.get? b=some o->b≠ea->b∉frs X.stack->(PySem.W.hideAll s2.heap (ea::frs X.stack)).get? b=some o:=λb o e ne hb=>PySem.W.hideAll_get _ e (λm=>(Z0e.mp m).elim ne hb)
 have slot:∀b o,s2.heap.get? b=some o->b∈frs X.stack->∃sl,h'.get? b=some { o with slots:=sl }:=λb o e hb=>by
  obtain ⟨_,of,ho,hd⟩:=I2.stack.mem hb;rw [e] at ho;cases ho;exact up b o e hd
 have ne3:∀b,upd H2 ea (.ext (xcV ea C d)) b=none->b≠ea:=λb n z=>by rw [z,A0b] at n;cases n
 have ok3:HOk X.prog X.w (upd H2 ea (.ext (xcV ea C d))) h':=λb u q=>by
  by_cases z:b=ea
  ·subst z;rw [A0b] at q;cases q;exact C4f x'
  ·refine (I3.hok b u q).stay (λc v hc e=>st c v (kB c v e (λzz=> ?_) λm=> ?_)) (λc q=>q) λc xs q=>q
   ·rcases hc with hc | hc
    ·exact z (hc.symm.trans zz)
    ·rw [zz,A0b] at hc;cases hc
   ·have:=I3.stkFree c m;rcases hc with hc | hc
    ·rw [hc,q] at this;cases this
    ·rw [hc] at this;cases this
 have u3:Un (frs X.stack) [] (upd H2 ea (.ext (xcV ea C d))) (upd H2 ea (.ext (xcV ea C d))) s2.heap h':=by
  refine ⟨λb o e n hb _=>st b o (kB b o e (ne3 b n) hb),λb o e n hb _=>slot b o e hb,λb o e n _=>n,λb o e _=> ?_,λb xs q=>q,λb o u q=>q,λb ps q=>⟨#[],by rw [q];simp⟩⟩;by_cases z:b=ea
  ·obtain ⟨o',_,e',_⟩:=id x';exact ⟨o',by rw [z];exact e'⟩
  ·by_cases hb:b∈frs X.stack
   ·obtain ⟨sl,q⟩:=slot b o e hb;exact ⟨_,q⟩
   ·exact ⟨o,st b o (kB b o e z hb)⟩
 have I5:Inv X pins σ (upd H2 ea (.ext (xcV ea C d))) { s2 with heap:=h' }:=I3.call' (s':={ s2 with heap:=h' }) rfl u3 ok3 I3.bare (ch:=[]) (λb z=>absurd z (by simp))
 have I6:=I5.drop (a:=ea) A0b;rw [e4] at I6;exact I6
noncomputable def D2v (i:Nat) (C:Addr) (sp:Sp) (E:XK) (t:TA):Option Addr->Addr->TS:=λod ea _ σ H=>t (σ.set i (some (.ref ea))) (upd H ea (.ext (xcG ea C od))) λvs H1=>vs.length<=sizeLine/\(σ.set i (some (.ref ea)))[i]? =some (some (.ref ea))/\H1 ea=some (.ext (xcG ea C od))/\
 ∀e2 ta,H1 e2=none->sp (.ref e2::vs) (upd H1 e2 (xcN e2 C ta)) (λv H2=>v= .non/\∃d,H2 e2=some (.ext λh=>h.get? e2=some (A6s C ta d))/\H2 ea=some (.ext (xcG ea C od))/\E (.ref C) d (A3y H2 e2)) E0
section
variable {P:Program} {w:World} {K:PySem.W.Frag} {mg:Str->Option Value} {base:Heap} {N ps:List Str} {qual:Str} {scope:Scope} {f fi:Addr} {fd:FuncData} {cd:Value} {A:Around} {outer:List Env} {s:Shared} {H:Hp} {E:XK} {C C':Addr} {k i:Nat} {sp:Sp} {CX:CXT}
theorem C7l {y x n:Str} {yp np cpos rp rpos hpos:Pos} {e:Expr} {es:List Expr} {t:TA} {rest:List ExceptHandler}
  (hg:Gl (A6t (CXV P w) P w K mg base N qual scope f cd A outer s H E) y) (hm:mg y=some (.ref C')) (q:PySem.W.exmOne K (.ref C) (.ref C')=some true) (hN:N.Nodup) (hi:N[i]? =some n) (hx:(A6t (CXV P w) P w K mg base N qual scope f cd A outer s H E).env.scope.names.lookup n=some .local)
  (M:MkX K C fi) (F:B5r P w K mg base CX k fi fd ps sp) (hr:A6p (k+1) (A6t (CXV P w) P w K mg base N qual scope f cd A outer s H E).A) (hgx:Gl (A6t (CXV P w) P w K mg base N qual scope f cd A outer s H E) x) (hmx:mg x=some (.ref C)) (hb:A1p K fd ps [])
  (hp:∀ea,A5r CX ((A6t (CXV P w) P w K mg base N qual scope f cd A outer s H E).held ea) E0)
  (ha:∀ea,PA ((A6t (CXV P w) P w K mg base N qual scope f cd A outer s H E).held ea) (e::es) t) (hv:∀ea,PE ((A6t (CXV P w) P w K mg base N qual scope f cd A outer s H E).held ea) (.Name n rp) (D8m i))
  (hd:(y == ("__debug__":Str))=false:=by decide) (hdb:(x == ("__debug__":Str))=false:=by decide) (he:starEach (e::es) (A6t (CXV P w) P w K mg base N qual scope f cd A outer s H E).env=(false,eval e (A6t (CXV P w) P w K mg base N qual scope f cd A outer s H E).env)::starEach es (A6t (CXV P w) P w K mg base N qual scope f cd A outer s H E).env:=by rfl)
  (hpl:(backTo cpos (starEach es (A6t (CXV P w) P w K mg base N qual scope f cd A outer s H E).env)).any (·.1)=false:=by rfl) :
  PHD (A6t (CXV P w) P w K mg base N qual scope f cd A outer s H E) (.ExceptHandler (some (.Name y yp)) (some n) [.Raise (some (.Call (.Name x np) (e::es) [] cpos)) (some (.Name n rp)) rpos] hpos::rest) C (D2v i C sp E t):=by
 intro pins σ H1 B ea a0 od s1 D Fc h;refine wpAny_handleBy_cons (codeAny_handlers_test ?_) (by intro q;cases q);refine A5p (X:=(A6t (CXV P w) P w K mg base N qual scope f cd A outer s H E).held ea) (Fc.inv.held ea) hg hm ?_ hd;refine (D1u Fc.inv.kIn Fc.cls q).here (codeAny_handlers_suite_as ?_);refine B0w Fc.fl λh' fl' up kd=> ?_;have F':=(Fc.go h' fl'.1 up (D1q (s:={ s1 with heap:=h' }) fl' (Fc.d.kd kd))).2;refine A8d (X:=(A6t (CXV P w) P w K mg base N qual scope f cd A outer s H E).held ea) (v:= .ref ea) (F'.held ea) hN hi (.inl hx) rfl (λs2 I2=> ?_) (.inr hx)
 obtain ⟨nm,qn,N',bs,bm,hdct,sn,sub,ab,col,dd,k0,k1,k2,k3,k5,mN,hC,hN',hi',T',fn⟩:=B1l Fc.inv.mod.kin M.xe;refine wpAny_execs_cons ?_;rw [arm_exec_Raise];refine Z00 (Z1y ?_);refine B2j (h:=ea) (C:=C) (nm:=nm) (q:=qn) (N:=N') (bs:=bs) (bm:=bm) (hdct:=hdct) (sn:=sn) (sub:=sub) (ab:=ab) (col:=col) (dd:=dd) (k0:=k0) (k1:=k1) (k2:=k2) (k3:=k3) (k5:=k5) (newId:="ValueError.__new__") (T'.hasType (by decide +kernel)) rfl ?_;have ok0:=Fc.inv.ok
 have call:wpAny (model P w) ((A6t (CXV P w) P w K mg base N qual scope f cd A outer s H E).held ea).A (eval (.Call (.Name x np) (e::es) [] cpos) (A6t (CXV P w) P w K mg base N qual scope f cd A outer s H E).env) (λv s₁=>∃e2 ta d H3,v= .ref e2/\Inv ((A6t (CXV P w) P w K mg base N qual scope f cd A outer s H E).held ea) pins (σ.set i (some (.ref ea))) H3 s₁/\s.heap.get? e2=none/\ea≠e2/\(σ.set i (some (.ref ea)))[i]? =some (some (.ref ea))/\
   H3 e2=some (.ext λh=>h.get? e2=some (A6s C ta d))/\H3 ea=some (.ext (xcG ea C od))/\E (.ref C) d (A3y H3 e2)) (λ_ _=>False) s2:=by
  refine wpAny_Call_Name_kw (A5p I2 hgx hmx ?_ hdb);refine PySem.W.callWith_K (h₀:=base) I2.ok.mod.kin M.kp (thn (ha ea cpos pins s2 _ _ _ I2 h) λus s3 ⟨vs,H2,I3,r,hl,hσ,hea,q⟩=>⟨I3.kIn,?_⟩) he hpl;refine Z10 (C3f (X:=(A6t (CXV P w) P w K mg base N qual scope f cd A outer s H E).held ea) (ds:=[]) (dvs:=[]) (Q:=λe2 ta H3=>∃d,H3 e2=some (.ext λh=>h.get? e2=some (A6s C ta d))/\H3 ea=some (.ext (xcG ea C od))/\E (.ref C) d (A3y H3 e2)) M.xe F (hr.held _) hb .nil (hp ea) I3 r (r.length▸hl) (λe2 ta hn=>by rw [Z0u];exact q e2 ta hn)) (λv s4 ⟨e2,ta,H3,ev,I4,hn,d,he2,hea3,hE⟩=> ?_) λ_ _ z=>z;refine ⟨e2,ta,d,H3,ev,I4,?_,?_,hσ,he2,hea3,hE⟩
  ·cases z:s.heap.get? e2 with
   | none=>rfl
   | some o =>
    obtain ⟨o1,e1⟩:=I3.base.there e2 o z (by show e2∉([]:List Addr);simp);rw [hn] at e1;cases e1
  ·intro z;obtain ⟨o,ho⟩:=(I3.hok ea _ hea).at18;rw [z,hn] at ho;cases ho
 refine Z00 (Z10 call (λv s3 h3=>Z00 (Z1y (Z04 ?_))) λ_ _ z=>z.elim);obtain ⟨e2,ta,d,H3,rfl,I3,h0,ne,hσ,he2,hea3,hE⟩:=h3;refine ⟨e2,rfl,?_⟩;refine Z00 (Z10 (hv ea pins s3 _ H3 (λv H'=>v= .ref ea/\H'=H3) I3 ⟨_,hσ,rfl,rfl⟩) (λcv s4 h4=>Z00 (Z1y (Z04 ?_))) λ_ _ z=>z.elim);obtain ⟨v,H4,I4,rv,ev,eH⟩:=h4;subst ev eH;obtain rfl:cv=Value.ref ea:=rv;have hC4:=I4.bk _ _ hC;obtain ⟨ho2,_,_⟩:=(show A1v P w H4 s4.heap e2 (.ext λh=>h.get? e2=some (A6s C ta d)) from I4.hok e2 _ he2);obtain ⟨⟨oh,vs,hoh,hoc,hodx,hod,h2⟩,_,_⟩:=(show A1v P w H4 s4.heap ea (.ext (xcG ea C od)) from I4.hok ea _ hea3);refine ⟨rfl,ta,d,oh,vs,hC4,ho2,hoh,hoc,hod,h2,ne,λz=> ?_,λz=> ?_,λh5 same ho5=> ?_⟩
 ·rw [z,hC4] at ho2;have:=congrArg Obj.data (Z1a ho2);cases this
 ·rw [z,hC4] at hoh;rw [<-Z1a hoh] at hod;cases hod
 ·obtain ⟨o',vs',ho',hcl',hdi',hda',hv0,hv1⟩:=ho5
  have I5h:Inv ((A6t (CXV P w) P w K mg base N qual scope f cd A outer s H E).held ea) pins (σ.set i (some (.ref ea))) (upd H4 e2 (.ext (xcT e2 C ta d))) { s4 with heap:=h5 } :=
   I4.write (x:=e2) (e:=e2) (o:= .ext (xcT e2 C ta d)) (h':=h5) (t':=s4.toks) (by rw [he2];exact True.intro) (.inl rfl) (λb u hb z=>(same b hb).trans z) ⟨_,ho'⟩ (D7m ⟨o',vs',ho',hcl',hdi',hda',hv0,hv1⟩)
  have I5:=I5h.unheld ok0
  have eH:A3y (upd H4 e2 (.ext (xcT e2 C ta d))) e2=A3y H4 e2:=by
   funext b;by_cases z:b=e2
   ·unfold A3y;rw [Z12 z,Z12 z]
   ·rw [A4l z,A4l z,A0l z]
  refine C5o (B:=PySem.W.hideAll h5 (e2::frs (A6t (CXV P w) P w K mg base N qual scope f cd A outer s H E).stack)) (cls:= .ref C) (a0:= .ref ta) I5.ok.frames rfl (λb o z=>PySem.W.of_hideAll _ z) (PySem.W.hideAll_none _ Z27)
   (PySem.W.funFrames_hide I5.stack λenv he b hb=>Z1f _ (List.mem_filterMap.mpr ⟨env,he,hb⟩)) (.inl ⟨o',vs',ho',⟨hcl',hv0⟩,hda',hv1⟩) λh6 held up6 kd6=> ?_
  have d6:B3r h6 e2 d:=B3r.kd (h:=h5) ⟨o',ho',hdi'⟩ kd6;obtain ⟨oe,ws,Tb,oT,ts,heT,⟨hcT,h0T⟩,hdT,h1T,hnT,hTe,hTb,hdTb,h3T⟩:=id held.2.2.2
  have x6:xcV e2 C d h6:=by
   obtain ⟨o6,e6,d6'⟩:=d6;rw [heT] at e6;cases e6;exact ⟨oe,ws,heT,hcT,d6',hdT⟩
  have I6:=D2t I5 A0b h6 held.1 up6 x6;rw [eH] at I6
  have nT5:h5.get? Tb=none:=by
   cases z:h5.get? Tb with
   | none=>rfl
   | some o =>
    have nfr:Tb∉frs (A6t (CXV P w) P w K mg base N qual scope f cd A outer s H E).stack:=λm=>by
     obtain ⟨_,of,ho,hnf⟩:=held.2.2.1.mem m;rw [hTb] at ho;cases ho;exact hnf ts hdTb
    have:=PySem.W.hideAll_get (h:=h5) (l:=e2::frs (A6t (CXV P w) P w K mg base N qual scope f cd A outer s H E).stack) z (λm=>(Z0e.mp m).elim hTe nfr);rw [hnT] at this;cases this
  have nT0:s.heap.get? Tb=none:=by
   cases z:s.heap.get? Tb with
   | none=>rfl
   | some o =>
    obtain ⟨o1,e1⟩:=I5.base.there Tb o z (by show Tb∉([]:List Addr);simp);rw [show h5.get? Tb=none from nT5] at e1;cases e1
  have nTH:A3y H4 e2 Tb=none:=by
   cases z:A3y H4 e2 Tb with
   | none=>rfl
   | some u =>
    obtain ⟨nz,z'⟩:=A7u z;obtain ⟨o,ho⟩:=(I5.hok Tb u (by rw [A0l nz];exact z')).at18;rw [show h5.get? Tb=none from nT5] at ho;cases ho
  have d6e:oe.dict=d:=by
   obtain ⟨o6,e6,d6'⟩:=d6;rw [heT] at e6;cases e6;exact d6'
  refine C3j I6 hN hi hx λs7 I7 fr7=> ?_;have he7:=fr7 e2 oe ws heT hdT;have hT7:=fr7 Tb oT ts hTb hdTb;generalize hB7:PySem.W.hideAll s7.heap (e2::Tb::frs (A6t (CXV P w) P w K mg base N qual scope f cd A outer s H E).stack)=B7;have st7:B7.StaysIn s7.heap:=λb o z=>by rw [<-hB7] at z;exact PySem.W.of_hideAll _ z
  have n7:B7.get? e2=none:=by rw [<-hB7];exact PySem.W.hideAll_none _ Z27
  have nT7:B7.get? Tb=none:=by rw [<-hB7];exact PySem.W.hideAll_none _ (Z1f _ Z27)
  have ff7:s7.heap.FunFrames B7 (A6t (CXV P w) P w K mg base N qual scope f cd A outer s H E).stack:=by
   rw [<-hB7];exact PySem.W.funFrames_hide I7.stack λenv he b hb=>Z1f _ (Z1f _ (List.mem_filterMap.mpr ⟨env,he,hb⟩))
  have kB:∀b o,s7.heap.get? b=some o->b≠e2->b≠Tb->b∉frs (A6t (CXV P w) P w K mg base N qual scope f cd A outer s H E).stack->B7.get? b=some o:=λb o e n1 n2 hb=>by
   rw [<-hB7];exact PySem.W.hideAll_get _ e (λm=>(Z0e.mp m).elim n1 λm=>(Z0e.mp m).elim n2 hb)
  have b2:∀b o,A3y H4 e2 b=some o->∃o',B7.get? b=some o':=λb o z=>by
   obtain ⟨nz,_⟩:=A7u z;obtain ⟨u,hu⟩:=(I7.hok b o z).at18;refine ⟨u,kB b u hu nz (λzz=> ?_) λm=> ?_⟩
   ·rw [zz,nTH] at z;cases z
   ·have:=I7.stkFree b m;rw [z] at this;cases this
  have b1:∀b o,s.heap.get? b=some o->b∉frs outer->∃o',B7.get? b=some o':=λb o e hb=>by
   obtain ⟨o1,e1⟩:=I7.base.there b o e (by show b∉([]:List Addr);simp);refine ⟨o1,kB b o1 e1 (λz=> ?_) (λz=> ?_) λm=> ?_⟩
   ·rw [z,h0] at e;cases e
   ·rw [z,nT0] at e;cases e
   ·rcases Z0e.mp m with z | z
    ·exact absurd (Z0a e) (by rw [z];exact Nat.lt_irrefl _)
    ·exact hb z
  have tr7:s7.heap.TracedAtW B7 e2 (.ref C) (.ref ta) _:=⟨oe,ws,Tb,oT,ts,he7,⟨hcT,h0T⟩,hdT,h1T,nT7,hTe,hT7,hdTb,h3T⟩;unfold PySem.passOn;refine Z00 (Z11 he7 hdT h1T ?_);rw [Z0t (show¬((Value.ref Tb == Value.none)=true) by simp)];refine Z00 (C2r st7 ff7 tr7 λh8 st8 ff8 t8 up8 kd8=>wpAny_throw ?_);refine C5o (B:=B7) (cls:= .ref C) (a0:= .ref ta) I5.ok.frames rfl st8 n7 ff8 (.inr ⟨_,t8⟩) λh9 held9 up9 kd9=> ?_;obtain ⟨oe9,ws9,T9,oT9,ts9,he9,hc9,hd9,h19,hn9,hTe9,hT9,hdT9,h39⟩:=id held9.2.2.2;refine Z00 (Z11 (s:={ s7 with heap:=h9 }) he9 hd9 h19 ?_);rw [Z0t (show¬((Value.ref T9 == Value.none)=true) by simp)];refine C2r (s:={ s7 with heap:=h9 }) held9.1 held9.2.2.1 held9.2.2.2 λhA stA ffA tA upA kdA=> ?_
  refine C6j (s:={ s7 with heap:=hA }) (B:=B7) (cls:= .ref C) (a0:= .ref ta) I5.ok.frames rfl stA n7 ffA (.inr ⟨_,tA⟩) λh10 fl10 up10 kd10=> ?_
  exact ⟨e2,C,.ref ta,d,A3y H4 e2,B7,rfl,I7.os,I7.bare,C7y I7 rfl b1 st7 fl10.1 (up8.trans (up9.trans (upA.trans up10))),B7s I7.hok b2 st7 fl10.1,b1,b2,fl10,(((B3r.kd (h:=s7.heap) ⟨oe,he7,d6e⟩ kd8).kd kd9).kd kdA).kd kd10,hE⟩
end
section
variable {X:Cx} {pos:Pos}
noncomputable def gLst (K:PySem.W.Frag) (n:Nat) (t:TGs):TG:=λv σ H Q=>∃a xs,v= .ref a/\SqL K H a xs/\xs.length=n/\t xs σ H Q
theorem D6z {es:List Expr} {k:Nat} {t:TGs} {n:Nat} (hc:X.calm=true) (h:PGs X es t)
  (hn:(assignEach es X.env).length=n:=by rfl) (hst:(assignEach es X.env).findIdx? (·.1)=none:=by rfl):PG X (.Tuple es k pos) (gLst X.K n t):=by
 intro pins s σ H v u Q I r hw;obtain ⟨a,xs,e1,hq,hl,hw⟩:=hw;subst e1;cases r;obtain ⟨its,rv,ht,hz⟩:=I.list hq;rw [assign_Tuple];refine Z00 (Z1y ?_);unfold unpack;rw [show (assignEach es X.env).length=its.toArray.size by simp [hn,<-hl,rv.length],hst];refine Z00 (Z1w (PySem.W.kun_itemsOf (I.ok.hd hc) ht.isList λh' hx=> ?_));have I1:Inv X pins σ H { s with heap:=h' }:=I.kept (t':=s.toks) λb o e=>hx b o (Z0h (Z0a e)) e
 exact h pins _ σ H xs _ Q I1 (by simpa using rv) hw
end
end L2
namespace My
open PySem L2
section
variable {G:Hp} {v:V}
end
noncomputable def D4a (cs:List (List Int)) (n:Int):List (List Int):=cs.flatMap λc=>(List.range n.toNat).map λ(k:Nat)=>c++[(k:Int)]
noncomputable def B4g (ls:List Int):List (List Int):=ls.foldl D4a [[]]
noncomputable def A3f (ls:List Int):Int:=ls.foldl (· * ·) 1
theorem C0n (ls:List Int) (n:Int):B4g (ls++[n])=D4a (B4g ls) n:=by
 unfold B4g;rw [List.foldl_append];rfl
theorem B0h (ls:List Int) (n:Int):A3f (ls++[n])=A3f ls*n:=by
 unfold A3f;rw [List.foldl_append];rfl
theorem B9o (cs:List (List Int)) (n:Int):(D4a cs n).length=cs.length*n.toNat:=by
 induction cs with
 | nil=>simp [D4a]
 | cons c r ih =>
  have:D4a (c::r) n=((List.range n.toNat).map λ(k:Nat)=>c++[(k:Int)])++D4a r n:=by simp [D4a]
  rw [this,Z06,ih,Z08,List.length_range,Z0y,Nat.succ_mul];lia
theorem A5l (ls:List Int) (h:∀n∈ls,1<=n):((B4g ls).length:Int)=A3f ls/\1<=A3f ls:=by
 have key:∀(m:Nat) (ls:List Int),ls.length=m->(∀n∈ls,1<=n)->((B4g ls).length:Int)=A3f ls/\1<=A3f ls:=by
  intro m
  induction m with
  | zero =>
   intro ls hl _;have:ls=[]:=List.length_eq_zero_iff.mp hl;subst this;simp [B4g,A3f]
  | succ m ih =>
   intro ls hl hp;obtain ⟨init,n,rfl⟩:∃init n,ls=init++[n]:=⟨ls.dropLast,ls.getLast (by intro e;simp [e] at hl),(List.dropLast_concat_getLast _).symm⟩;obtain ⟨h1,h2⟩:=ih init (by simp at hl;lia) λn hn=>hp n (by simp [hn]);have h3:1<=n:=hp n (by simp);rw [C0n,B0h,B9o];have e:((n.toNat:Nat):Int)=n:=by lia
   refine ⟨by rw [Int.natCast_mul,h1,e],?_⟩;have:=Int.mul_le_mul h2 h3 (by lia) (by lia)
   simpa using this
 exact key _ ls rfl h
structure D6n (ls:List Int):Prop where
 pos:∀n∈ls,1<=n/\n<=60
 few:ls.length<=8
 most:A3f ls<=4000
structure Rw where
 own:List Str
 sums:List Str
 so:List Int
 ss:List Int
structure D9d (e:Rw):Prop where
 go:D6n e.so
 gs:D6n e.ss
 po:A3f e.so<=1200
 ps:A3f e.ss<=1200
 pp:A3f e.so*A3f e.ss<=1200
 lo:e.own.length=e.so.length
 ls:e.sums.length=e.ss.length
 pl:e.own.length+e.sums.length<=8
inductive Nd where
 | loop (n sz wd out:Int) (bd:List Nd)
 | deed (n k:Int) (w:Str) (cs us:List Int)
noncomputable def ins (o w y:Int):Int:=if y=o then w else y
mutual
noncomputable def B6v (o w:Int):Nd->Nd
 | .deed n k x cs us=> .deed n k x (cs.map (ins o w)) (us.map (ins o w))
 | .loop n sz wd out bd=> .loop n sz wd (ins o w out) (A8q o w bd)
noncomputable def A8q (o w:Int):List Nd->List Nd
 | []=>[]
 | x::r=>B6v o w x::A8q o w r
end
theorem A9v (o w:Int):∀l:List Nd,A8q o w l=l.map (B6v o w)
 | []=>rfl
 | x::r=>by rw [A8q,A9v o w r,Z0p]
mutual
noncomputable def nmN:Nd->List Int
 | .deed .. =>[]
 | .loop n _ _ _ bd=>n::nmL bd
noncomputable def nmL:List Nd->List Int
 | []=>[]
 | x::r=>nmN x++nmL r
end
theorem A6n:∀(a b:List Nd),nmL (a++b)=nmL a++nmL b
 | [],b=>by simp [nmL]
 | x::r,b=>by rw [Z17,nmL,nmL,A6n r b,Z0z]
abbrev Rd:=List (Int×Int)
theorem A7d {o w y:Int} (h:y≠o):ins o w y=y:=Z0t h
theorem A9i {o w:Int}:ins o w o=w:=Z12 rfl
noncomputable def C3s (T w:Int):Nd->Nd
 | .loop n sz wd out bd=> .loop n ((sz+T-1)/T) wd out [.loop w sz T n (A8q n w bd)]
 | x=>x
mutual
noncomputable def dpN:Nd->Nat
 | .deed .. =>0
 | .loop _ _ _ _ bd=>dpL bd+1
noncomputable def dpL:List Nd->Nat
 | []=>0
 | x::r=>max (dpN x) (dpL r)
end
theorem B6t:∀(a b:List Nd),dpL (a++b)=max (dpL a) (dpL b)
 | [],b=>by simp [dpL]
 | x::r,b=>by rw [Z17,dpL,dpL,B6t r b,Nat.max_assoc]
mutual
theorem D4g (o w:Int):∀x:Nd,dpN (B6v o w x)=dpN x
 | .deed .. =>by simp [B6v,dpN]
 | .loop n sz wd out bd=>by rw [B6v,dpN,dpN,B4z o w bd]
theorem B4z (o w:Int):∀l:List Nd,dpL (A8q o w l)=dpL l
 | []=>by simp [A8q,dpL]
 | x::r=>by rw [A8q,dpL,dpL,D4g o w x,B4z o w r]
end
noncomputable def A3i:List Nat->List Nd->Nd->Prop
 | [],_,_=>False
 | [p],l,x=>l[p]? =some x
 | p::q::r,l,x=>∃n sz wd out bd,l[p]? =some (.loop n sz wd out bd)/\A3i (q::r) bd x
theorem A3r {l:List Nd} {p:Nat} {x:Nd} (h:l[p]? =some x):l=l.take p++x::l.drop (p+1):=by
 obtain ⟨hl,rfl⟩:=Z03.mp h;rw [<-Z1u hl,Z2e]
theorem B6s (a b:List Nd) (x:Nd):nmL (a++x::b)=nmL a++(nmN x++nmL b):=by rw [A6n,nmL]
theorem A3g (a b:List Nd) (x:Nd):dpL (a++x::b)=max (dpL a) (max (dpN x) (dpL b)):=by rw [B6t,dpL]
noncomputable def A2f (fr:Int) (m:Nat):List Int:=(List.range m).map λ(j:Nat)=>fr+j
theorem A2p (fr:Int) (m:Nat):(A2f fr m).length=m:=by simp [A2f]
theorem B1q {fr x:Int} {m:Nat} (h:x∈A2f fr m):fr<=x/\x<fr+m:=by
 obtain ⟨j,hj,rfl⟩:=Z2c.mp h;have:=List.mem_range.mp hj
 lia
theorem B4j (fr:Int) (m:Nat):(A2f fr m).Nodup:=by
 unfold A2f;rw [List.Nodup,List.pairwise_map];exact List.pairwise_lt_range.imp λh=>by lia
theorem C4m (fr:Int) (ls:List Int):((A2f fr ls.length).zip ls).map (·.1)=A2f fr ls.length:=by
 show ((A2f fr ls.length).zip ls).map Prod.fst=_;rw [List.map_fst_zip (by rw [A2p];exact Z09 _)]
noncomputable def A3q:List (Int×Int)->List Nd->List Nd
 | [],l=>l
 | p::r,l=>[.loop p.1 p.2 0 (-1) (A3q r l)]
theorem B5j (l:List Nd):∀ps:List (Int×Int),nmL (A3q ps l)=ps.map (·.1)++nmL l
 | []=>by simp [A3q]
 | p::r=>by
  show nmL [.loop p.1 p.2 0 (-1) (A3q r l)]=_;rw [nmL,nmL,nmN,B5j l r,Z0u,Z0p,Z17]
theorem B6j (l:List Nd):∀ps:List (Int×Int),dpL (A3q ps l)=ps.length+dpL l
 | []=>by simp [A3q]
 | p::r=>by
  show dpL [.loop p.1 p.2 0 (-1) (A3q r l)]=_;rw [dpL,dpL,dpN,B6j l r,Z0y]
  lia
noncomputable def A3c (k:Int) (e:Rw) (fr:Int):List Nd :=
 if e.ss=[] then [.deed (fr+e.so.length) k "set" (A2f fr e.so.length) []]
 else .deed (fr+e.so.length) k "start" (A2f fr e.so.length) []::A3q ((A2f (fr+e.so.length+1) e.ss.length).zip e.ss) [.deed (fr+e.so.length+1+e.ss.length) k "add" (A2f fr e.so.length) (A2f (fr+e.so.length+1) e.ss.length)]
noncomputable def A6k (k:Int) (e:Rw) (fr:Int):List Nd:=A3q ((A2f fr e.so.length).zip e.so) (A3c k e fr)
noncomputable def B8d (e:Rw) (fr:Int):List Int:=A2f fr e.so.length++A2f (fr+e.so.length+1) e.ss.length
noncomputable def B9a (e:Rw):Int:=e.so.length+1+(if e.ss=[] then 0 else e.ss.length+1)
theorem D3b (k:Int) (e:Rw) (fr:Int):nmL (A6k k e fr)=B8d e fr:=by
 unfold A6k B8d;rw [B5j,C4m];congr 1;unfold A3c;split
 ·rename_i h;rw [h];simp [nmL,nmN,A2f]
 ·rw [nmL,B5j,C4m];simp [nmL,nmN]
theorem C2p (k:Int) (e:Rw) (fr:Int):(A3c k e fr).length<=2:=by
 unfold A3c;split
 ·simp
 ·cases h:(A2f (fr+e.so.length+1) e.ss.length).zip e.ss with
  | nil=>simp [A3q]
  | cons p r=>simp [A3q]
theorem C1c (k:Int) (e:Rw) (fr:Int):(A6k k e fr).length<=2:=by
 unfold A6k
 cases h:(A2f fr e.so.length).zip e.so with
 | nil=>exact C2p k e fr
 | cons p r=>show 1<=2;decide
noncomputable def frM (rows:List Rw):Nat->Int
 | 0=>0
 | i+1=>frM rows i+(match rows[i]? with | some e=>B9a e | none=>0)
noncomputable def A2h (rows:List Rw):Nat->List Nd
 | 0=>[]
 | i+1=>A2h rows i++(match rows[i]? with | some e=>A6k i e (frM rows i) | none=>[])
theorem B4u {rows:List Rw} {i:Nat} {e:Rw} (h:rows[i]? =some e):frM rows (i+1)=frM rows i+B9a e:=by rw [frM,h]
theorem A8g {rows:List Rw} {i:Nat} {e:Rw} (h:rows[i]? =some e):A2h rows (i+1)=A2h rows i++A6k i e (frM rows i):=by rw [A2h,h]
theorem D4k (e:Rw):1<=B9a e/\(e.so.length:Int)+e.ss.length+1<=B9a e:=by
 unfold B9a;split
 ·rename_i h;rw [h];simp
  lia
 ·lia
inductive Mv where
 | swap (N:Int) | cut (N T:Int) | join (N:Int)
noncomputable def Mv.num:Mv->Int
 | .swap N=>N | .cut N _=>N | .join N=>N
noncomputable def Mv.took:Mv->Int
 | .cut .. =>1 | _=>0
noncomputable def swp:Nd->Option Nd
 | .loop n sz wd out [.loop m szm wdm outm bd]=>if outm=n then none else some (.loop m szm wdm outm [.loop n sz wd out bd])
 | _=>none
noncomputable def C3p (T w:Int):Nd->Option Nd
 | .loop n sz wd out bd=>if out= -1/\1<=T then some (C3s T w (.loop n sz wd out bd)) else none
 | _=>none
noncomputable def jnd:Nd->List Nd->Option Nd
 | .loop n sz wd out bd,.loop m szm wdm outm bdm::_=>if sz=szm/\wd=wdm/\out=outm then some (.loop n sz wd out (bd++A8q m n bdm)) else none
 | _,_=>none
noncomputable def mvO (mv:Mv) (w:Int) (x:Nd) (r:List Nd):Option (List Nd):=match mv with
 | .swap _=>(swp x).map λy=>y::r
 | .cut _ T=>(C3p T w x).map λy=>y::r
 | .join _=>(jnd x r).map λy=>y::r.drop 1
noncomputable def mvP (mv:Mv) (w:Int):List Nat->List Nd->Option (List Nd)
 | [],_=>none
 | [p],l=>match l[p]? with
  | some x=>(mvO mv w x (l.drop (p+1))).map λt=>l.take p++t
  | none=>none
 | p::q::r,l=>match l[p]? with
  | some (.loop n sz wd out bd)=>(mvP mv w (q::r) bd).map λbd'=>l.take p++ .loop n sz wd out bd'::l.drop (p+1)
  | _=>none
inductive Hd where
 | loop (n sz wd out:Int)
 | deed (n k:Int) (w:Str) (cs us:List Int)
noncomputable def Hd.num:Hd->Int
 | .loop n .. =>n | .deed n .. =>n
abbrev Ro:=Int×Hd
noncomputable def Hd.lp:Hd->List Int
 | .loop n .. =>[n] | .deed .. =>[]
noncomputable def lps (rs:List Ro):List Int:=rs.flatMap λr=>r.2.lp
theorem A4s (a b:List Ro):lps (a++b)=lps a++lps b:=List.flatMap_append
theorem A8a (r:Ro) (b:List Ro):lps (r::b)=r.2.lp++lps b:=List.flatMap_cons
mutual
noncomputable def rwN (a:Int):Nd->List Ro
 | .deed n k w cs us=>[(a,.deed n k w cs us)]
 | .loop n sz wd out bd=>(a,.loop n sz wd out)::rwL n bd
noncomputable def rwL (a:Int):List Nd->List Ro
 | []=>[]
 | x::r=>rwN a x++rwL a r
end
theorem A2j (a:Int):∀l m:List Nd,rwL a (l++m)=rwL a l++rwL a m
 | [],m=>by simp [rwL]
 | x::r,m=>by rw [Z17,rwL,rwL,A2j a r m,Z0z]
mutual
theorem D9m:∀(x:Nd) (a:Int),lps (rwN a x)=nmN x
 | .deed ..,a=>by simp [rwN,nmN,lps,Hd.lp]
 | .loop n sz wd out bd,a=>by rw [rwN,A8a,nmN,A8l bd n];rfl
theorem A8l:∀(l:List Nd) (a:Int),lps (rwL a l)=nmL l
 | [],a=>by simp [rwL,nmL,lps]
 | x::r,a=>by rw [rwL,A4s,D9m x a,A8l r a,nmL]
end
mutual
theorem ab_N:∀(x:Nd) (a:Int),∀z∈rwN a x,z.1=a\/z.1∈nmN x
 | .deed ..,a,z,h=>by
  rw [rwN,Z0w] at h;subst h;exact .inl rfl
 | .loop n sz wd out bd,a,z,h=>by
  rw [rwN] at h;rcases Z0e.mp h with h | h
  ·subst h;exact .inl rfl
  ·rw [nmN];exact .inr ((D0x bd n z h).elim (λe=>by rw [e];exact .head _) λe=> .tail _ e)
theorem D0x:∀(l:List Nd) (a:Int),∀z∈rwL a l,z.1=a\/z.1∈nmL l
 | [],a,z,h=>by rw [rwL] at h;cases h
 | x::r,a,z,h=>by
  rw [rwL] at h;rw [nmL];rcases Z07.mp h with h | h
  ·exact (ab_N x a z h).imp id λe=>Z05 _ e
  ·exact (D0x r a z h).imp id λe=>Z02 _ e
end
theorem B1w {l:List Nd} {a N:Int} (h:N∉nmL l) (ha:a≠N):∀z∈rwL a l,z.1≠N:=λz hz e=>by
 rcases D0x l a z hz with q | q
 ·exact ha (q.symm.trans e)
 ·rw [e] at q;exact h q
theorem B7l {mv:Mv} {w:Int} {x:Nd}:∀{path:List Nat} {l:List Nd} {a:Int},A3i path l x->(nmL l).Nodup->a∉nmL l->
  ∃(pre post:List Ro) (c:Int) (r:List Nd),rwL a l=pre++(rwL c (x::r)++post)/\(∀z∈pre,z.1∉nmL (x::r))/\(∀z∈post,z.1∉nmL (x::r))/\c∉nmL (x::r)/\(∀z∈nmL (x::r),z∈nmL l)/\
   (mvO mv w x r=none->mvP mv w path l=none)/\(∀t,mvO mv w x r=some t->∃t',mvP mv w path l=some t'/\rwL a t'=pre++(rwL c t++post))
 | [],l,a,h,_,_=>h.elim
 | [p],l,a,h,nd,ha=>by
  have h:l[p]? =some x:=h;have ec:=A3r h;have en:nmL l=nmL (l.take p)++nmL (x::l.drop (p+1)):=by rw [<-A6n,<-ec]
  rw [en] at nd ha;obtain ⟨n1,n2,n3⟩:=Z0l.mp nd;have a2:a∉nmL (x::l.drop (p+1)):=λe=>ha (Z02 _ e);refine ⟨rwL a (l.take p),[],a,l.drop (p+1),?_,λz hz q=> ?_,(λz hz=>by cases hz),a2,λz hz=>by rw [en];exact Z02 _ hz,λe=> ?_,λt e=>⟨l.take p++t,?_,?_⟩⟩
  ·rw [Z0u,<-A2j,<-ec]
  ·rcases D0x _ a z hz with e | e
   ·rw [e] at q;exact a2 q
   ·exact n3 _ e _ q rfl
  ·rw [mvP,h];show Option.map _ (mvO mv w x _)=none;rw [e];rfl
  ·rw [mvP,h];show Option.map _ (mvO mv w x _)=_;rw [e];rfl
  ·rw [A2j,Z0u]
 | p::q::rr,l,a,h,nd,ha=>by
  obtain ⟨n,sz,wd,out,bd,h,hp⟩:=h;have ec:=A3r h
  have en:nmL l=nmL (l.take p)++(n::nmL bd++nmL (l.drop (p+1))):=by
   have:=B6s (l.take p) (l.drop (p+1)) (.loop n sz wd out bd);rw [<-ec,nmN] at this;exact this
  rw [en] at nd ha;obtain ⟨n1,n2,n3⟩:=Z0l.mp nd;obtain ⟨m1,m2,m3⟩:=Z0l.mp n2;obtain ⟨k1,k2⟩:=Z15.mp m1;obtain ⟨pre,post,c,r,e1,hpre,hpost,hc,hsub,hno,hso⟩:=B7l (mv:=mv) (w:=w) hp k2 k1
  have er:rwL a l=rwL a (l.take p)++((a,.loop n sz wd out)::rwL n bd++rwL a (l.drop (p+1))):=by
   have:=A2j a (l.take p) (.loop n sz wd out bd::l.drop (p+1));rw [<-ec,rwL,rwN] at this;exact this
  have aout:a∉nmL (x::r):=λz=>ha (Z02 _ (Z05 _ (.tail _ (hsub _ z))));refine ⟨rwL a (l.take p)++(a,.loop n sz wd out)::pre,post++rwL a (l.drop (p+1)),c,r,?_,λz hz v=> ?_,λz hz v=> ?_,hc,λz hz=>by rw [en];exact Z02 _ (Z05 _ (.tail _ (hsub z hz))),λe=> ?_,λt e=> ?_⟩
  ·rw [er,e1];simp
  ·rcases Z07.mp hz with hz | hz
   ·rcases D0x _ a z hz with e | e
    ·rw [e] at v;exact aout v
    ·exact n3 _ e _ (Z05 _ (.tail _ (hsub _ v))) rfl
   ·rcases Z0e.mp hz with hz | hz
    ·subst hz;exact aout v
    ·exact hpre z hz v
  ·rcases Z07.mp hz with hz | hz
   ·exact hpost z hz v
   ·rcases D0x _ a z hz with e | e
    ·rw [e] at v;exact aout v
    ·exact m3 _ (.tail _ (hsub _ v)) _ e rfl
  ·rw [mvP,h];show Option.map _ (mvP mv w (q::rr) bd)=none;rw [hno e];rfl
  ·obtain ⟨bd',hb,eb⟩:=hso t e;refine ⟨l.take p++ .loop n sz wd out bd'::l.drop (p+1),?_,?_⟩
   ·rw [mvP,h];show Option.map _ (mvP mv w (q::rr) bd)=_;rw [hb];rfl
   ·rw [A2j,rwL,rwN,eb];simp
noncomputable def A3j (N:Int):List Ro->Option Nat
 | []=>none
 | (_,.loop n _ _ _)::rs=>if n=N then some 0 else (A3j N rs).map (· +1)
 | (_,.deed _ _ _ _ _)::rs=>(A3j N rs).map (· +1)
theorem A5c {N:Int}:∀{rs:List Ro},N∉lps rs->A3j N rs=none
 | [],_=>rfl
 | (a,.loop n sz wd out)::rs,h=>by
  rw [A8a] at h;rw [A3j,Z0t (λe=>h (by rw [e];exact .head _)),A5c λe=>h (Z02 _ e)];rfl
 | (a,.deed n k w cs us)::rs,h=>by
  rw [A8a] at h;rw [A3j,A5c λe=>h (Z02 _ e)];rfl
theorem A4g {N a sz wd out:Int} {b:List Ro}:∀{rs:List Ro},N∉lps rs->A3j N (rs++(a,.loop N sz wd out)::b)=some rs.length
 | [],_=>by rw [List.nil_append,A3j,Z12 rfl];rfl
 | (c,.loop n s1 w1 o1)::rs,h=>by
  rw [A8a] at h;rw [Z17,A3j,Z0t (λe=>h (by rw [e];exact .head _)),A4g λe=>h (Z02 _ e)];rfl
 | (c,.deed n k w cs us)::rs,h=>by
  rw [A8a] at h;rw [Z17,A3j,A4g λe=>h (Z02 _ e)];rfl
noncomputable def reab (m N:Int) (r:Ro):Ro:=if r.1=m then (N,r.2) else r
noncomputable def B5i (rs:List Ro) (N:Int):Option (List Ro):=match A3j N rs with
 | none=>none
 | some i=>match rs[i]?,rs.filter (λr=>decide (r.1=N)) with
  | some h,[(_,.loop m sz wd out)]=>if out=N then none else some (rs.take i++((h.1,.loop m sz wd out)::(m,h.2)::(rs.drop (i+2)).map (reab m N)))
  | _,_=>none
theorem A8f {N:Int} {rs:List Ro} (h:∀z∈rs,z.1≠N):rs.filter (λr=>decide (r.1=N))=[]:=by
 rw [List.filter_eq_nil_iff];intro z hz e;exact h z hz (of_decide_eq_true e)
noncomputable def D9x (N:Int):Nd->Ro
 | .loop n sz wd out _=>(N,.loop n sz wd out)
 | .deed n k w cs us=>(N,.deed n k w cs us)
theorem B2v {N:Int}:∀{l:List Nd},N∉nmL l->(rwL N l).filter (λr=>decide (r.1=N))=l.map (D9x N)
 | [],_=>rfl
 | .deed n k w cs us::r,h=>by
  rw [nmL] at h;rw [rwL,rwN,List.singleton_append,List.filter_cons_of_pos (by simp),B2v λe=>h (Z02 _ e)];rfl
 | .loop n sz wd out bd::r,h=>by
  rw [nmL,nmN] at h
  rw [rwL,rwN,Z17,List.filter_cons_of_pos (by simp),List.filter_append,B2v λe=>h (Z02 _ e),
   A8f (B1w (λe=>h (Z05 _ (.tail _ e))) λe=>h (by rw [<-e];exact .head _))]
  rfl
theorem B6d {m N:Int} {rs:List Ro} (h:∀z∈rs,z.1≠m):rs.map (reab m N)=rs:=by
 induction rs with
 | nil=>rfl
 | cons r t ih=>rw [Z0p,ih λz hz=>h z (.tail _ hz),reab,Z0t (h r (.head _))]
theorem B9d {m N:Int}:∀{l:List Nd},m∉nmL l->(rwL m l).map (reab m N)=rwL N l
 | [],_=>rfl
 | .deed n k w cs us::r,h=>by
  rw [nmL] at h;rw [rwL,rwN,List.singleton_append,Z0p,B9d λe=>h (Z02 _ e),rwL,rwN,reab,Z12 rfl];rfl
 | .loop n sz wd out bd::r,h=>by
  rw [nmL,nmN] at h
  rw [rwL,rwN,Z17,Z0p,Z0s,B9d λe=>h (Z02 _ e),
   B6d (B1w (λe=>h (Z05 _ (.tail _ e))) λe=>h (by rw [<-e];exact .head _)),rwL,rwN,reab,Z12 rfl]
  rfl
theorem C3h {l:List Nd} {a N:Int} (h:N∉nmL l):B5i (rwL a l) N=none:=by
 rw [B5i,A5c (by rw [A8l];exact h)]
theorem D0p {l:List Nd} {a N w:Int} {path:List Nat} {sz wd out:Int} {bd:List Nd} (hp:A3i path l (.loop N sz wd out bd)) (nd:(nmL l).Nodup) (ha:a∉nmL l) :
  B5i (rwL a l) N=(mvP (.swap N) w path l).map (rwL a):=by
 obtain ⟨pre,post,c,r,e1,hpre,hpost,hc,hsub,hno,hso⟩:=B7l (mv:= .swap N) (w:=w) hp nd ha;have nd0:=nd;rw [<-A8l l a,e1,A4s,A4s,A8l,nmL,nmN] at nd;obtain ⟨n1,n2,n3⟩:=Z0l.mp nd;obtain ⟨m1,m2,m3⟩:=Z0l.mp n2;obtain ⟨k1,k2,k3⟩:=Z0l.mp m1;obtain ⟨j1,j2⟩:=Z15.mp k1;rw [nmL,nmN] at hpre hpost hc;have Nin:N∈N::nmL bd++nmL r:= .head _;have Npre:N∉lps pre:=λe=>n3 _ e _ (Z05 _ Nin) rfl;have e2:rwL a l=pre++(c,.loop N sz wd out)::(rwL N bd++(rwL c r++post)):=by rw [e1,rwL,rwN];simp
 have hat:A3j N (rwL a l)=some pre.length:=by rw [e2];exact A4g Npre
 have hget:(rwL a l)[pre.length]? =some (c,.loop N sz wd out):=by rw [e2];simp
 have hr:∀z∈rwL c r,z.1≠N:=B1w (λe=>k3 N (.head _) N e rfl) λe=>hc (by rw [e];exact Nin)
 have hfil:(rwL a l).filter (λr=>decide (r.1=N))=bd.map (D9x N):=by
  rw [e2,List.filter_append,List.filter_cons_of_neg (by simpa using λe=>hc (by rw [e];exact Nin)),List.filter_append,List.filter_append,B2v j1,
   A8f λz hz e=>hpre z hz (by rw [e];exact Nin),A8f hr,A8f λz hz e=>hpost z hz (by rw [e];exact Nin)]
  simp
 have fail:swp (.loop N sz wd out bd)=none->(mvP (.swap N) w path l).map (rwL a)=none:=λe=>by
  rw [hno (by rw [mvO];show Option.map _ (swp _)=none;rw [e];rfl)];rfl
 rw [B5i,hat]
 show (match (rwL a l)[pre.length]?,(rwL a l).filter (λr=>decide (r.1=N)) with
  | some h,[(_,Hd.loop m sz wd out)]=>if out=N then none else some ((rwL a l).take pre.length++((h.1,Hd.loop m sz wd out)::(m,h.2)::((rwL a l).drop (pre.length+2)).map (reab m N)))
  | _,_=>none)=_
 rw [hget,hfil];rcases bd with _ | ⟨x,tl⟩
 ·exact (fail rfl).symm
 rcases x with ⟨m,szm,wdm,outm,bdm⟩ | ⟨n,k,v,cs,us⟩
 ·rcases tl with _ | ⟨y,tl⟩
  case cons=>exact (fail rfl).symm
  show (if outm=N then none else some _)=_;by_cases ho:outm=N
  ·rw [Z12 ho];exact (fail (by rw [swp,Z12 ho])).symm
  ·rw [Z0t ho];obtain ⟨t',ht,et⟩:=hso (.loop m szm wdm outm [.loop N sz wd out bdm]::r) (by rw [mvO];show Option.map _ (swp _)=_;rw [swp,Z0t ho];rfl);rw [ht];show _=some (rwL a t');rw [et];have min:m∈nmL [Nd.loop m szm wdm outm bdm]:=by rw [nmL,nmN];exact .head _
   have mall:m∈N::nmL [Nd.loop m szm wdm outm bdm]++nmL r:=Z05 _ (.tail _ min)
   have mbd:m∉nmL bdm:=by
    rw [nmL,nmN,nmL,Z0u] at j2;exact (Z15.mp j2).1
   have e3:rwL a l=pre++((c,.loop N sz wd out)::(N,.loop m szm wdm outm)::(rwL m bdm++(rwL c r++post))):=by
    rw [e2,rwL,rwN,rwL,Z0u];rfl
   have t1:(rwL a l).take pre.length=pre:=by rw [e3];simp
   have t2:(rwL a l).drop (pre.length+2)=rwL m bdm++(rwL c r++post):=by
    rw [e3,List.drop_append,Z24 (by lia),show pre.length+2-pre.length=2 by lia];rfl
   rw [t1,t2,Z0s,Z0s,B9d mbd,B6d (B1w (λe=>k3 m (.tail _ min) m e rfl) λe=>hc (by rw [e];exact mall)),B6d λz hz e=>hpost z hz (by rw [e];exact mall),
    rwL,rwN,rwL,rwN,rwL,Z0u]
   simp
 ·rcases tl with _ | ⟨y,tl⟩ <;> exact (fail rfl).symm
noncomputable def Hd.mt:Hd->List Int
 | .loop _ _ _ out=>[out]
 | .deed _ _ _ cs us=>cs++us
noncomputable def rnH (o w:Int):Hd->Hd
 | .loop n sz wd out=> .loop n sz wd (ins o w out)
 | .deed n k v cs us=> .deed n k v (cs.map (ins o w)) (us.map (ins o w))
noncomputable def rnR (o w:Int) (r:Ro):Ro:=(ins o w r.1,rnH o w r.2)
mutual
theorem rn_N {o w:Int}:∀(x:Nd) (a:Int),o∉nmN x->(rwN a x).map (rnR o w)=rwN (ins o w a) (B6v o w x)
 | .deed n k v cs us,a,_=>by rw [rwN,B6v,rwN];rfl
 | .loop n sz wd out bd,a,h=>by
  rw [nmN] at h;have hn:n≠o:=λe=>h (by rw [e];exact .head _);rw [rwN,B6v,rwN,Z0p,D4u bd n λe=>h (.tail _ e),A7d hn];rfl
theorem D4u {o w:Int}:∀(l:List Nd) (a:Int),o∉nmL l->(rwL a l).map (rnR o w)=rwL (ins o w a) (A8q o w l)
 | [],a,_=>by rw [rwL,A8q,rwL];rfl
 | x::r,a,h=>by
  rw [nmL] at h;rw [rwL,A8q,rwL,Z0s,rn_N x a λe=>h (Z05 _ e),D4u r a λe=>h (Z02 _ e)]
end
theorem A8s {o w:Int}:∀{cs:List Int},(∀y∈cs,y≠o)->cs.map (ins o w)=cs
 | [],_=>rfl
 | c::cs,h=>by rw [Z0p,A7d (h c (.head _)),A8s λy hy=>h y (.tail _ hy)]
theorem D4r {o w:Int}:∀{r:Ro},r.1≠o->(∀y∈r.2.mt,y≠o)->rnR o w r=r
 | (a,.loop n sz wd out),h,g=>by
  show (ins o w a,Hd.loop n sz wd (ins o w out))=_;rw [A7d h,A7d (g out (.head _))]
 | (a,.deed n k v cs us),h,g=>by
  show (ins o w a,Hd.deed n k v (cs.map (ins o w)) (us.map (ins o w)))=_;rw [A7d h,A8s λy hy=>g y (Z05 _ hy),A8s λy hy=>g y (Z02 _ hy)]
theorem B8p {o w:Int}:∀{rs:List Ro},(∀z∈rs,z.1≠o/\∀y∈z.2.mt,y≠o)->rs.map (rnR o w)=rs
 | [],_=>rfl
 | r::rs,h=>by rw [Z0p,D4r (h r (.head _)).1 (h r (.head _)).2,B8p λz hz=>h z (.tail _ hz)]
mutual
noncomputable def wsN:List Int->Nd->Prop
 | e,.deed _ _ _ cs us=>∀y∈cs++us,y∈e
 | e,.loop n _ _ out bd=>(out= -1\/out∈e)/\wsL (n::e) bd
noncomputable def wsL:List Int->List Nd->Prop
 | _,[]=>True
 | e,x::r=>wsN e x/\wsL e r
end
theorem A4z {e:List Int}:∀{l m:List Nd},wsL e (l++m)↔wsL e l/\wsL e m
 | [],m=>by simp [wsL]
 | x::r,m=>by rw [Z17,wsL,wsL,A4z,and_assoc]
mutual
theorem mt_N:∀(x:Nd) (a:Int) (e:List Int),wsN e x->∀z∈rwN a x,∀y∈z.2.mt,y= -1\/y∈e\/y∈nmN x
 | .deed n k v cs us,a,e,h,z,hz,y,hy=>by
  rw [rwN,Z0w] at hz;subst hz;rw [wsN] at h;exact .inr (.inl (h y hy))
 | .loop n sz wd out bd,a,e,h,z,hz,y,hy=>by
  rw [wsN] at h;rw [rwN] at hz;rw [nmN];rcases Z0e.mp hz with hz | hz
  ·subst hz;have:y=out:=by simpa [Hd.mt] using hy
   subst this;exact h.1.imp id .inl
  ·rcases D4w bd n (n::e) h.2 z hz y hy with q | q | q
   ·exact .inl q
   ·rcases Z0e.mp q with q | q
    ·exact .inr (.inr (by rw [q];exact .head _))
    ·exact .inr (.inl q)
   ·exact .inr (.inr (.tail _ q))
theorem D4w:∀(l:List Nd) (a:Int) (e:List Int),wsL e l->∀z∈rwL a l,∀y∈z.2.mt,y= -1\/y∈e\/y∈nmL l
 | [],a,e,h,z,hz,y,hy=>by rw [rwL] at hz;cases hz
 | x::r,a,e,h,z,hz,y,hy=>by
  rw [wsL] at h;rw [rwL] at hz;rw [nmL];rcases Z07.mp hz with hz | hz
  ·exact (mt_N x a e h.1 z hz y hy).imp id λq=>q.imp id λq=>Z05 _ q
  ·exact (D4w r a e h.2 z hz y hy).imp id λq=>q.imp id λq=>Z02 _ q
end
theorem B4h {mv:Mv} {w:Int} {x:Nd}:∀{path:List Nat} {l:List Nd} {a:Int} {e:List Int},A3i path l x->(nmL l).Nodup->a∉nmL l->wsL e l->(∀y∈e,y∉nmL l)->(∀y∈nmL l,y≠-1)->
  ∃(pre post:List Ro) (c:Int) (r:List Nd) (e':List Int),rwL a l=pre++(rwL c (x::r)++post)/\c∉nmL (x::r)/\(∀z∈nmL (x::r),z∈nmL l)/\wsL e' (x::r)/\(∀y∈e',y∉nmL (x::r))/\
   (∀z∈post,z.1∉nmL (x::r)/\∀y∈z.2.mt,y∉nmL (x::r))/\
   (mvO mv w x r=none->mvP mv w path l=none)/\(∀t,mvO mv w x r=some t->∃t',mvP mv w path l=some t'/\rwL a t'=pre++(rwL c t++post))
 | [],l,a,e,h,_,_,_,_,_=>h.elim
 | [p],l,a,e,h,nd,ha,ws,he,hm=>by
  have h:l[p]? =some x:=h;have ec:=A3r h;have en:nmL l=nmL (l.take p)++nmL (x::l.drop (p+1)):=by rw [<-A6n,<-ec]
  rw [ec,A4z] at ws;have a2:a∉nmL (x::l.drop (p+1)):=λz=>ha (by rw [en];exact Z02 _ z);refine ⟨rwL a (l.take p),[],a,l.drop (p+1),e,?_,a2,λz hz=>by rw [en];exact Z02 _ hz,ws.2,λy hy z=>he y hy (by rw [en];exact Z02 _ z),(λz hz=>by cases hz),λq=> ?_,λt q=>⟨l.take p++t,?_,?_⟩⟩
  ·rw [Z0u,<-A2j,<-ec]
  ·rw [mvP,h];show Option.map _ (mvO mv w x _)=none;rw [q];rfl
  ·rw [mvP,h];show Option.map _ (mvO mv w x _)=_;rw [q];rfl
  ·rw [A2j,Z0u]
 | p::q::rr,l,a,e,h,nd,ha,ws,he,hm=>by
  obtain ⟨n,sz,wd,out,bd,h,hp⟩:=h;have ec:=A3r h
  have en:nmL l=nmL (l.take p)++(n::nmL bd++nmL (l.drop (p+1))):=by
   have:=B6s (l.take p) (l.drop (p+1)) (.loop n sz wd out bd);rw [<-ec,nmN] at this;exact this
  rw [ec,A4z,wsL,wsN] at ws;obtain ⟨_,⟨_,wb⟩,wr⟩:=ws;have nd0:=nd;rw [en] at nd;obtain ⟨n1,n2,n3⟩:=Z0l.mp nd;obtain ⟨m1,m2,m3⟩:=Z0l.mp n2;obtain ⟨k1,k2⟩:=Z15.mp m1;have inb:∀y∈nmL bd,y∈nmL l:=λy hy=>by rw [en];exact Z02 _ (Z05 _ (.tail _ hy))
  obtain ⟨pre,post,c,r,e',e1,hc,hsub,hws,hee,hpost,hno,hso⟩:=B4h (mv:=mv) (w:=w) hp k2 k1 wb (λy hy z=>by
   rcases Z0e.mp hy with hy | hy
   ·rw [hy] at z;exact k1 z
   ·exact he y hy (inb y z)) (λy hy=>hm y (inb y hy))
  have er:rwL a l=rwL a (l.take p)++((a,.loop n sz wd out)::rwL n bd++rwL a (l.drop (p+1))):=by
   have:=A2j a (l.take p) (.loop n sz wd out bd::l.drop (p+1));rw [<-ec,rwL,rwN] at this;exact this
  refine ⟨rwL a (l.take p)++(a,.loop n sz wd out)::pre,post++rwL a (l.drop (p+1)),c,r,e',?_,hc,λz hz=>inb z (hsub z hz),hws,hee,λz hz=> ?_,λe=> ?_,λt e=> ?_⟩
  ·rw [er,e1];simp
  ·rcases Z07.mp hz with hz | hz
   ·exact hpost z hz
   ·refine ⟨λv=> ?_,λy hy v=> ?_⟩
    ·rcases D0x _ a z hz with q' | q'
     ·rw [q'] at v;exact ha (inb _ (hsub _ v))
     ·exact m3 _ (.tail _ (hsub _ v)) _ q' rfl
    ·rcases D4w _ a _ wr z hz y hy with q' | q' | q'
     ·exact hm y (inb _ (hsub _ v)) q'
     ·exact he y q' (inb _ (hsub _ v))
     ·exact m3 _ (.tail _ (hsub _ v)) _ q' rfl
  ·rw [mvP,h];show Option.map _ (mvP mv w (q::rr) bd)=none;rw [hno e];rfl
  ·obtain ⟨bd',hb,eb⟩:=hso t e;refine ⟨l.take p++ .loop n sz wd out bd'::l.drop (p+1),?_,?_⟩
   ·rw [mvP,h];show Option.map _ (mvP mv w (q::rr) bd)=_;rw [hb];rfl
   ·rw [A2j,rwL,rwN,eb];simp
noncomputable def C9h (rs:List Ro) (N T w:Int):Option (List Ro):=match A3j N rs with
 | none=>none
 | some i=>match rs[i]? with
  | some (ab,.loop _ sz _ out)=>if out= -1/\1<=T then some (rs.take i++((ab,.loop N ((sz+T-1)/T) 0 (-1))::(N,.loop w sz T N)::(rs.drop (i+1)).map (rnR N w))) else none
  | _=>none
theorem C4n {l:List Nd} {a N T w:Int} (h:N∉nmL l):C9h (rwL a l) N T w=none:=by
 rw [C9h,A5c (by rw [A8l];exact h)]
theorem D2d {l:List Nd} {a N T w:Int} {path:List Nat} {sz wd out:Int} {bd:List Nd} (hp:A3i path l (.loop N sz wd out bd)) (nd:(nmL l).Nodup) (ha:a∉nmL l) (ws:wsL [] l) (hm:∀y∈nmL l,y≠-1) (h0:out= -1->wd=0) :
  C9h (rwL a l) N T w=(mvP (.cut N T) w path l).map (rwL a):=by
 obtain ⟨pre,post,c,r,e',e1,hc,hsub,hws,hee,hpost,hno,hso⟩:=B4h (mv:= .cut N T) (w:=w) hp nd ha ws (λy hy=>by cases hy) hm;have nd0:=nd;rw [<-A8l l a,e1,A4s,A4s,A8l,nmL,nmN] at nd;obtain ⟨n1,n2,n3⟩:=Z0l.mp nd;obtain ⟨m1,m2,m3⟩:=Z0l.mp n2;obtain ⟨k1,k2,k3⟩:=Z0l.mp m1;obtain ⟨j1,j2⟩:=Z15.mp k1;rw [nmL,nmN] at hpost hc hee hsub;have Nin:N∈N::nmL bd++nmL r:= .head _;have Npre:N∉lps pre:=λe=>n3 _ e _ (Z05 _ Nin) rfl;have e2:rwL a l=pre++(c,.loop N sz wd out)::(rwL N bd++(rwL c r++post)):=by rw [e1,rwL,rwN];simp
 have hat:A3j N (rwL a l)=some pre.length:=by rw [e2];exact A4g Npre
 have hget:(rwL a l)[pre.length]? =some (c,.loop N sz wd out):=by rw [e2];simp
 have t1:(rwL a l).take pre.length=pre:=by rw [e2];simp
 have t2:(rwL a l).drop (pre.length+1)=rwL N bd++(rwL c r++post):=by
  rw [e2,List.drop_append,Z24 (by lia),show pre.length+1-pre.length=1 by lia];rfl
 rw [wsL] at hws;have cN:c≠N:=λe=>hc (by rw [e];exact Nin)
 have r1:(rwL c r).map (rnR N w)=rwL c r:=B8p λz hz=>⟨B1w (λe=>k3 N (.head _) N e rfl) cN z hz,λy hy e=>by
  subst e;rcases D4w r c e' hws.2 z hz _ hy with q | q | q
  ·exact hm _ (hsub _ Nin) q
  ·exact hee _ q Nin
  ·exact k3 _ (.head _) _ q rfl⟩
 have r2:post.map (rnR N w)=post:=B8p λz hz=>⟨λe=>(hpost z hz).1 (by rw [e];exact Nin),λy hy e=>(hpost z hz).2 y hy (by rw [e];exact Nin)⟩;rw [C9h,hat]
 show (match (rwL a l)[pre.length]? with
  | some (ab,Hd.loop _ sz _ out)=>if out= -1/\1<=T then some ((rwL a l).take pre.length++((ab,Hd.loop N ((sz+T-1)/T) 0 (-1))::(N,Hd.loop w sz T N)::((rwL a l).drop (pre.length+1)).map (rnR N w))) else none
  | _=>none)=_
 rw [hget];show (if out= -1/\1<=T then some _ else none)=_;by_cases ho:out= -1/\1<=T
 ·rw [Z12 ho];obtain ⟨t',ht,et⟩:=hso (C3s T w (.loop N sz wd out bd)::r) (by rw [mvO];show Option.map _ (C3p T w _)=_;rw [C3p,Z12 ho];rfl);rw [ht];show _=some (rwL a t');rw [et,t1,t2,Z0s,Z0s,D4u bd N j1,r1,r2,A9i,rwL,C3s,rwN,rwL,rwN,rwL,Z0u,h0 ho.1,ho.1];simp
 ·rw [Z0t ho,hno (by rw [mvO];show Option.map _ (C3p T w _)=none;rw [C3p,Z0t ho];rfl)];rfl
theorem A7y {mv:Mv} {w:Int} {x:Nd}:∀{path:List Nat} {l:List Nd} {a:Int} {e:List Int},A3i path l x->(nmL l).Nodup->a∉nmL l->wsL e l->(∀y∈e,y∉nmL l)->(∀y∈nmL l,y≠-1)->
  ∃(pre post:List Ro) (c:Int) (r:List Nd) (e':List Int),rwL a l=pre++(rwL c (x::r)++post)/\c∉nmL (x::r)/\(∀z∈nmL (x::r),z∈nmL l)/\wsL e' (x::r)/\(∀y∈e',y∉nmL (x::r))/\
   (∀z∈post,z.1≠c/\z.1∉nmL (x::r)/\∀y∈z.2.mt,y∉nmL (x::r))/\(c=a\/c∈nmL l)/\
   (mvO mv w x r=none->mvP mv w path l=none)/\(∀t,mvO mv w x r=some t->∃t',mvP mv w path l=some t'/\rwL a t'=pre++(rwL c t++post))
 | [],l,a,e,h,_,_,_,_,_=>h.elim
 | [p],l,a,e,h,nd,ha,ws,he,hm=>by
  have h:l[p]? =some x:=h;have ec:=A3r h;have en:nmL l=nmL (l.take p)++nmL (x::l.drop (p+1)):=by rw [<-A6n,<-ec]
  rw [ec,A4z] at ws;have a2:a∉nmL (x::l.drop (p+1)):=λz=>ha (by rw [en];exact Z02 _ z);refine ⟨rwL a (l.take p),[],a,l.drop (p+1),e,?_,a2,λz hz=>by rw [en];exact Z02 _ hz,ws.2,λy hy z=>he y hy (by rw [en];exact Z02 _ z),(λz hz=>by cases hz),.inl rfl,λq=> ?_,λt q=>⟨l.take p++t,?_,?_⟩⟩
  ·rw [Z0u,<-A2j,<-ec]
  ·rw [mvP,h];show Option.map _ (mvO mv w x _)=none;rw [q];rfl
  ·rw [mvP,h];show Option.map _ (mvO mv w x _)=_;rw [q];rfl
  ·rw [A2j,Z0u]
 | p::q::rr,l,a,e,h,nd,ha,ws,he,hm=>by
  obtain ⟨n,sz,wd,out,bd,h,hp⟩:=h;have ec:=A3r h
  have en:nmL l=nmL (l.take p)++(n::nmL bd++nmL (l.drop (p+1))):=by
   have:=B6s (l.take p) (l.drop (p+1)) (.loop n sz wd out bd);rw [<-ec,nmN] at this;exact this
  rw [ec,A4z,wsL,wsN] at ws;obtain ⟨_,⟨_,wb⟩,wr⟩:=ws;have nd0:=nd;rw [en] at nd;obtain ⟨n1,n2,n3⟩:=Z0l.mp nd;obtain ⟨m1,m2,m3⟩:=Z0l.mp n2;obtain ⟨k1,k2⟩:=Z15.mp m1;have inb:∀y∈nmL bd,y∈nmL l:=λy hy=>by rw [en];exact Z02 _ (Z05 _ (.tail _ hy))
  obtain ⟨pre,post,c,r,e',e1,hc,hsub,hws,hee,hpost,hcc,hno,hso⟩:=A7y (mv:=mv) (w:=w) hp k2 k1 wb (λy hy z=>by
   rcases Z0e.mp hy with hy | hy
   ·rw [hy] at z;exact k1 z
   ·exact he y hy (inb y z)) (λy hy=>hm y (inb y hy))
  have er:rwL a l=rwL a (l.take p)++((a,.loop n sz wd out)::rwL n bd++rwL a (l.drop (p+1))):=by
   have:=A2j a (l.take p) (.loop n sz wd out bd::l.drop (p+1));rw [<-ec,rwL,rwN] at this;exact this
  have cb:c∈n::nmL bd:=hcc.elim (λe=>by rw [e];exact .head _) λe=> .tail _ e;have cin:c∈nmL l:=by rw [en];exact Z02 _ (Z05 _ cb)
  refine ⟨rwL a (l.take p)++(a,.loop n sz wd out)::pre,post++rwL a (l.drop (p+1)),c,r,e',?_,hc,λz hz=>inb z (hsub z hz),hws,hee,λz hz=> ?_,.inr cin,λe=> ?_,λt e=> ?_⟩
  ·rw [er,e1];simp
  ·rcases Z07.mp hz with hz | hz
   ·exact hpost z hz
   ·refine ⟨λv=> ?_,λv=> ?_,λy hy v=> ?_⟩
    ·rcases D0x _ a z hz with q' | q'
     ·rw [q'] at v;exact ha (by rw [v];exact cin)
     ·exact m3 _ cb _ q' v.symm
    ·rcases D0x _ a z hz with q' | q'
     ·rw [q'] at v;exact ha (inb _ (hsub _ v))
     ·exact m3 _ (.tail _ (hsub _ v)) _ q' rfl
    ·rcases D4w _ a _ wr z hz y hy with q' | q' | q'
     ·exact hm y (inb _ (hsub _ v)) q'
     ·exact he y q' (inb _ (hsub _ v))
     ·exact m3 _ (.tail _ (hsub _ v)) _ q' rfl
  ·rw [mvP,h];show Option.map _ (mvP mv w (q::rr) bd)=none;rw [hno e];rfl
  ·obtain ⟨bd',hb,eb⟩:=hso t e;refine ⟨l.take p++ .loop n sz wd out bd'::l.drop (p+1),?_,?_⟩
   ·rw [mvP,h];show Option.map _ (mvP mv w (q::rr) bd)=_;rw [hb];rfl
   ·rw [A2j,rwL,rwN,eb];simp
noncomputable def B3t (c:Int):List Ro->Option Nat
 | []=>none
 | r::rs=>if r.1=c then some 0 else (B3t c rs).map (· +1)
theorem B2y {c:Int}:∀{rs:List Ro},(∀z∈rs,z.1≠c)->B3t c rs=none
 | [],_=>rfl
 | r::rs,h=>by rw [B3t,Z0t (h r (.head _)),B2y λz hz=>h z (.tail _ hz)];rfl
theorem B6m {c:Int}:∀{rs qs:List Ro},(∀z∈rs,z.1≠c)->B3t c (rs++qs)=(B3t c qs).map (· +rs.length)
 | [],qs,_=>by cases h:B3t c qs <;> simp [h]
 | r::rs,qs,h=>by
  rw [Z17,B3t,Z0t (h r (.head _)),B6m λz hz=>h z (.tail _ hz),Option.map_map];congr 1
noncomputable def B5l (rs:List Ro) (N:Int):Option (List Ro):=match A3j N rs with
 | none=>none
 | some i=>match rs[i]? with
  | some (ab,.loop _ sz wd out)=>match B3t ab (rs.drop (i+1)) with
   | none=>none
   | some j=>match rs[i+1+j]? with
    | some (_,.loop m szm wdm outm)=>if sz=szm/\wd=wdm/\out=outm then some (rs.take (i+1+j)++(rs.drop (i+1+j+1)).map (rnR m N)) else none
    | _=>none
  | _=>none
theorem B8k {rs:List Ro} {N ab sz wd out:Int} {i:Nat} (hl:A3j N rs=some i) (hg:rs[i]? =some (ab,.loop N sz wd out)) :
  B5l rs N=match B3t ab (rs.drop (i+1)) with
   | none=>none
   | some j=>match rs[i+1+j]? with
    | some (_,.loop m szm wdm outm)=>if sz=szm/\wd=wdm/\out=outm then some (rs.take (i+1+j)++(rs.drop (i+1+j+1)).map (rnR m N)) else none
    | _=>none:=by
 rw [B5l,hl];simp only [hg]
theorem C2k {l:List Nd} {a N:Int} (h:N∉nmL l):B5l (rwL a l) N=none:=by
 rw [B5l,A5c (by rw [A8l];exact h)]
theorem C9s {l:List Nd} {a N w:Int} {path:List Nat} {sz wd out:Int} {bd:List Nd} (hp:A3i path l (.loop N sz wd out bd)) (nd:(nmL l).Nodup) (ha:a∉nmL l) (ws:wsL [] l) (hm:∀y∈nmL l,y≠-1) :
  B5l (rwL a l) N=(mvP (.join N) w path l).map (rwL a):=by
 obtain ⟨pre,post,c,r,e',e1,hc,hsub,hws,hee,hpost,hcc,hno,hso⟩:=A7y (mv:= .join N) (w:=w) hp nd ha ws (λy hy=>by cases hy) hm;have nd0:=nd;rw [<-A8l l a,e1,A4s,A4s,A8l,nmL,nmN] at nd;obtain ⟨n1,n2,n3⟩:=Z0l.mp nd;obtain ⟨m1,m2,m3⟩:=Z0l.mp n2;obtain ⟨k1,k2,k3⟩:=Z0l.mp m1;obtain ⟨j1,j2⟩:=Z15.mp k1;rw [nmL,nmN] at hpost hc hee hsub;have Nin:N∈N::nmL bd++nmL r:= .head _;have Npre:N∉lps pre:=λe=>n3 _ e _ (Z05 _ Nin) rfl;have e2:rwL a l=pre++(c,.loop N sz wd out)::(rwL N bd++(rwL c r++post)):=by rw [e1,rwL,rwN];simp
 have hat:A3j N (rwL a l)=some pre.length:=by rw [e2];exact A4g Npre
 have hget:(rwL a l)[pre.length]? =some (c,.loop N sz wd out):=by rw [e2];simp
 have t2:(rwL a l).drop (pre.length+1)=rwL N bd++(rwL c r++post):=by
  rw [e2,List.drop_append,Z24 (by lia),show pre.length+1-pre.length=1 by lia];rfl
 have cN:c≠N:=λe=>hc (by rw [e];exact Nin);have cb:c∉nmL bd:=λe=>hc (Z05 _ (.tail _ e));have nb:∀z∈rwL N bd,z.1≠c:=λz hz=>B1w cb (λe=>cN e.symm) z hz;rw [B8k hat hget,t2,B6m nb];rw [wsL] at hws;have e3:rwL a l=(pre++(c,.loop N sz wd out)::rwL N bd)++(rwL c r++post):=by rw [e2];simp
 have len:(pre++(c,Hd.loop N sz wd out)::rwL N bd).length=pre.length+1+(rwL N bd).length:=by simp;lia
 cases r with
 | nil =>
  rw [rwL,List.nil_append,B2y λz hz=>(hpost z hz).1,hno (by rw [mvO];rfl)];rfl
 | cons y r' =>
  cases y with
  | deed n k v cs us =>
   rw [rwL,rwN] at e3⊢;rw [Z17,Z17,B3t,Z12 rfl,hno (by rw [mvO];rfl)]
   show (match (rwL a l)[pre.length+1+(0+(rwL N bd).length)]? with
    | some (_,Hd.loop m szm wdm outm)=>if sz=szm/\wd=wdm/\out=outm then some ((rwL a l).take (pre.length+1+(0+(rwL N bd).length))++((rwL a l).drop (pre.length+1+(0+(rwL N bd).length)+1)).map (rnR m N)) else none
    | _=>none)=none
   have g:(rwL a l)[pre.length+1+(0+(rwL N bd).length)]? =some (c,.deed n k v cs us):=by
    rw [e3,Nat.zero_add,<-len,Z1l (Z09 _),Nat.sub_self];rfl
   rw [g]
  | loop m szm wdm outm bdm =>
   rw [rwL,rwN] at e3⊢;rw [Z17,Z17,B3t,Z12 rfl]
   show (match (rwL a l)[pre.length+1+(0+(rwL N bd).length)]? with
    | some (_,Hd.loop m szm wdm outm)=>if sz=szm/\wd=wdm/\out=outm then some ((rwL a l).take (pre.length+1+(0+(rwL N bd).length))++((rwL a l).drop (pre.length+1+(0+(rwL N bd).length)+1)).map (rnR m N)) else none
    | _=>none)=_
   have g:(rwL a l)[pre.length+1+(0+(rwL N bd).length)]? =some (c,.loop m szm wdm outm):=by
    rw [e3,Nat.zero_add,<-len,Z1l (Z09 _),Nat.sub_self];rfl
   have t1:(rwL a l).take (pre.length+1+(0+(rwL N bd).length))=pre++(c,.loop N sz wd out)::rwL N bd:=by
    rw [e3,Nat.zero_add,<-len,List.take_left'];rfl
   have t3:(rwL a l).drop (pre.length+1+(0+(rwL N bd).length)+1)=rwL m bdm++(rwL c r'++post):=by
    rw [e3,Nat.zero_add,<-len,List.drop_append,Z24 (by lia),List.nil_append];rw [show (pre++(c,Hd.loop N sz wd out)::rwL N bd).length+1-(pre++(c,Hd.loop N sz wd out)::rwL N bd).length=1 by lia];simp
   rw [g];show (if sz=szm/\wd=wdm/\out=outm then some _ else none)=_;by_cases ho:sz=szm/\wd=wdm/\out=outm
   ·rw [Z12 ho,t1,t3];obtain ⟨t',ht,et⟩:=hso (.loop N sz wd out (bd++A8q m N bdm)::r') (by rw [mvO];show Option.map _ (jnd _ _)=_;rw [jnd,Z12 ho];rfl);rw [ht];show _=some (rwL a t');rw [nmL,nmN] at k2 k3 hpost hc hee hsub;obtain ⟨q1,q2,q3⟩:=Z0l.mp k2;obtain ⟨q4,q5⟩:=Z15.mp q1;have Min:m∈N::nmL bd++(m::nmL bdm++nmL r'):=Z02 _ (.head _);have cM:c≠m:=λe=>hc (by rw [e];exact Min);rw [wsL] at hws
    have r1:(rwL c r').map (rnR m N)=rwL c r':=B8p λz hz=>⟨B1w (λe=>q3 m (.head _) m e rfl) cM z hz,λy hy e=>by
     subst e;rcases D4w r' c e' hws.2.2 z hz _ hy with q | q | q
     ·exact hm _ (hsub _ Min) q
     ·exact hee _ q Min
     ·exact q3 _ (.head _) _ q rfl⟩
    have r2:post.map (rnR m N)=post:=B8p λz hz=>⟨λe=>(hpost z hz).2.1 (by rw [e];exact Min),λy hy e=>(hpost z hz).2.2 y hy (by rw [e];exact Min)⟩;rw [et,Z0s,Z0s,D4u bdm m q4,r1,r2,A9i,rwL,rwN,A2j];simp
   ·rw [Z0t ho,hno (by rw [mvO];show Option.map _ (jnd _ _)=none;rw [jnd,Z0t ho];rfl)];rfl
noncomputable def RoG:Ro->Prop
 | (_,.loop _ sz wd out)=>1<=sz/\sz<=2^100/\(out= -1->wd=0)
 | (_,.deed _ _ w cs us)=>PyData.strOk w=true/\cs.length<=100/\us.length<=100
noncomputable def Hd.dn:Hd->List Int
 | .deed n .. =>[n] | .loop .. =>[]
noncomputable def dns (rs:List Ro):List Int:=rs.flatMap λr=>r.2.dn
theorem A1x (a b:List Ro):dns (a++b)=dns a++dns b:=List.flatMap_append
theorem A9p (r:Ro) (b:List Ro):dns (r::b)=r.2.dn++dns b:=List.flatMap_cons
noncomputable def A2o (rs:List Ro):Prop:=∃rs' a n k w cs us,rs=rs'++[(a,.deed n k w cs us)]
theorem A2o.app {a b:List Ro} (h:A2o b):A2o (a++b):=by
 obtain ⟨r,x,n,k,w,cs,us,rfl⟩:=h;exact ⟨a++r,x,n,k,w,cs,us,by simp⟩
theorem A2o.cons {a:Ro} {b:List Ro} (h:A2o b):A2o (a::b):=A2o.app (a:=[a]) h
theorem A2o.of_app {a b:List Ro} (h:A2o (a++b)) (hb:b≠[]):A2o b:=by
 obtain ⟨r,x,n,k,w,cs,us,e⟩:=h;rcases b.eq_nil_or_concat with z | ⟨b',y,z⟩
 ·exact absurd z hb
 ·rw [List.concat_eq_append] at z;subst z;rw [<-Z0z] at e;have:=List.append_inj_right' e rfl;cases this;exact ⟨b',x,n,k,w,cs,us,rfl⟩
theorem A2o.ne {a:List Ro} (h:A2o a):a≠[]:=by
 obtain ⟨r,x,n,k,w,cs,us,e⟩:=h;rw [e];simp
theorem A2o.map {f:Ro->Ro} (hf:∀a n k w cs us,∃a' cs' us',f (a,.deed n k w cs us)=(a',.deed n k w cs' us')) {rs:List Ro} (h:A2o rs):A2o (rs.map f):=by
 obtain ⟨r,x,n,k,w,cs,us,rfl⟩:=h;obtain ⟨a',cs',us',e⟩:=hf x n k w cs us;exact ⟨r.map f,a',n,k,w,cs',us',by simp [e]⟩
mutual
theorem C9r:∀(x:Nd) {e e':List Int},(∀y∈e,y∈e')->wsN e x->wsN e' x
 | .deed n k v cs us,e,e',h,q=>by
  rw [wsN] at q⊢;exact λy hy=>h y (q y hy)
 | .loop n sz wd out bd,e,e',h,q=>by
  rw [wsN] at q⊢;refine ⟨q.1.imp id (h out),B4q bd (λy hy=> ?_) q.2⟩;rcases Z0e.mp hy with z | z
  ·rw [z];exact .head _
  ·exact .tail _ (h y z)
theorem B4q:∀(l:List Nd) {e e':List Int},(∀y∈e,y∈e')->wsL e l->wsL e' l
 | [],e,e',h,q=>by rw [wsL];exact True.intro
 | x::r,e,e',h,q=>by
  rw [wsL] at q⊢;exact ⟨C9r x h q.1,B4q r h q.2⟩
end
mutual
theorem D3h {o w:Int} (ho:o≠-1):∀(x:Nd) {e e':List Int},(∀y∈e,ins o w y∈e')->o∉nmN x->wsN e x->wsN e' (B6v o w x)
 | .deed n k v cs us,e,e',h,_,q=>by
  rw [wsN] at q;rw [B6v,wsN];intro y hy;rw [<-Z0s] at hy;obtain ⟨z,hz,rfl⟩:=Z2c.mp hy;exact h z (q z hz)
 | .loop n sz wd out bd,e,e',h,hn,q=>by
  rw [wsN] at q;rw [nmN] at hn;have nn:n≠o:=λz=>hn (by rw [z];exact .head _);rw [B6v,wsN];refine ⟨?_,B6n ho bd (λy hy=> ?_) (λz=>hn (.tail _ z)) q.2⟩
  ·rcases q.1 with z | z
   ·rw [z,A7d (Ne.symm ho)];exact .inl rfl
   ·exact .inr (h out z)
  ·rcases Z0e.mp hy with z | z
   ·rw [z,A7d nn];exact .head _
   ·exact .tail _ (h y z)
theorem B6n {o w:Int} (ho:o≠-1):∀(l:List Nd) {e e':List Int},(∀y∈e,ins o w y∈e')->o∉nmL l->wsL e l->wsL e' (A8q o w l)
 | [],e,e',h,_,q=>by rw [A8q,wsL];exact True.intro
 | x::r,e,e',h,hn,q=>by
  rw [wsL] at q;rw [nmL] at hn;rw [A8q,wsL];exact ⟨D3h ho x h (λz=>hn (Z05 _ z)) q.1,B6n ho r h (λz=>hn (Z02 _ z)) q.2⟩
end
mutual
theorem D2r (o w:Int):∀x:Nd,nmN (B6v o w x)=nmN x
 | .deed .. =>by rw [B6v,nmN,nmN]
 | .loop n sz wd out bd=>by rw [B6v,nmN,nmN,B5d o w bd]
theorem B5d (o w:Int):∀l:List Nd,nmL (A8q o w l)=nmL l
 | []=>by rw [A8q]
 | x::r=>by rw [A8q,nmL,nmL,D2r o w x,B5d o w r]
end
theorem D8t (o w:Int) (r:Ro):(rnR o w r).2.dn=r.2.dn:=by
 obtain ⟨a,h⟩:=r;cases h <;> rfl
theorem C6p (o w:Int):∀rs:List Ro,dns (rs.map (rnR o w))=dns rs
 | []=>rfl
 | r::rs=>by rw [Z0p,A9p,A9p,D8t,C6p o w rs]
theorem RoG.rn {o w:Int} (ho:o≠-1) (hw:w≠-1):∀{r:Ro},RoG r->RoG (rnR o w r)
 | (a,.loop n sz wd out),h=>⟨h.1,h.2.1,λz=>h.2.2 (by
   by_cases q:out=o
   ·rw [q,A9i] at z;exact absurd z hw
   ·rw [A7d q] at z;exact z)⟩
 | (a,.deed n k v cs us),h=>⟨h.1,by rw [Z08];exact h.2.1,by rw [Z08];exact h.2.2⟩
theorem D2w:∀(l:List Nd) (a b:Int),dns (rwL a l)=dns (rwL b l)/\(rwL a l).length=(rwL b l).length/\((∀z∈rwL a l,RoG z)->∀z∈rwL b l,RoG z)/\(A2o (rwL a l)->A2o (rwL b l))
 | [],a,b=>by rw [rwL,rwL];exact ⟨rfl,rfl,id,id⟩
 | .deed n k v cs us::r,a,b=>by
  obtain ⟨h1,h2,h3,h4⟩:=D2w r a b;rw [rwL,rwL,rwN,rwN];refine ⟨by rw [A1x,A1x,h1];rfl,by simp [h2],λq z hz=> ?_,λq=> ?_⟩
  ·rcases Z07.mp hz with hz | hz
   ·rw [Z0w.mp hz];exact q (a,.deed n k v cs us) (Z05 _ (.head _))
   ·exact h3 (λy hy=>q y (Z02 _ hy)) z hz
  ·by_cases e:rwL a r=[]
   ·have:rwL b r=[]:=List.eq_nil_of_length_eq_zero (by rw [<-h2,e];rfl);rw [this];exact ⟨[],b,n,k,v,cs,us,rfl⟩
   ·exact A2o.app (h4 (A2o.of_app q e))
 | .loop n sz wd out bd::r,a,b=>by
  obtain ⟨h1,h2,h3,h4⟩:=D2w r a b;rw [rwL,rwL,rwN,rwN];refine ⟨by rw [A1x,A1x,h1,A9p,A9p],by simp [h2],λq z hz=> ?_,λq=> ?_⟩
  ·rcases Z07.mp hz with hz | hz
   ·rcases Z0e.mp hz with hz | hz
    ·rw [hz];exact q (a,.loop n sz wd out) (Z05 _ (.head _))
    ·exact q z (Z05 _ (.tail _ hz))
   ·exact h3 (λy hy=>q y (Z02 _ hy)) z hz
  ·by_cases e:rwL a r=[]
   ·have e2:rwL b r=[]:=List.eq_nil_of_length_eq_zero (by rw [<-h2,e];rfl);rw [e,Z0u] at q;rw [e2,Z0u];by_cases eb:rwL n bd=[]
    ·rw [eb] at q;obtain ⟨r',x,n',k',w',cs',us',z⟩:=q
     cases r' with
     | nil=>cases z
     | cons y r'=>simp at z
    ·exact A2o.cons (A2o.of_app (a:=[(a,.loop n sz wd out)]) q eb)
   ·exact A2o.app (h4 (A2o.of_app q e))
theorem C0u {rs:List Ro} {a n sz wd out:Int} (h:A2o (rs++[(a,.loop n sz wd out)])):False:=by
 obtain ⟨r',x,n',k',w',cs',us',z⟩:=h;have:=List.append_inj_right' z rfl;cases this
theorem LD3 {A A' B B' R:List Ro} (hA:¬A2o A) (hB:A2o B->A2o B') (h:A2o (A++(B++R))):A2o (A'++(B'++R)):=by
 by_cases e:R=[]
 ·subst e;rw [Z0u] at h⊢;by_cases eb:B=[]
  ·subst eb;rw [Z0u] at h;exact absurd h hA
  ·exact A2o.app (hB (h.of_app eb))
 ·rw [<-Z0z] at h;exact A2o.app (A2o.app (h.of_app e))
structure Loc (w tk:Int) (x:Nd) (r t:List Nd):Prop where
 nm:∀y∈nmL t,y∈nmL (x::r)\/(y=w/\tk=1)
 nd:(nmL t).Nodup
 ro:∀c,(∀z∈rwL c (x::r),RoG z)->∀z∈rwL c t,RoG z
 dn:∀c,∀z∈dns (rwL c t),z∈dns (rwL c (x::r))
 ln:∀c,(rwL c t).length<=(rwL c (x::r)).length+1
 la:∀c,A2o (rwL c (x::r))->A2o (rwL c t)
 ws:∀e,wsL e (x::r)->wsL e t
theorem C9x {w n sz wd out m szm wdm outm:Int} {bd r:List Nd} (ho:outm≠n) (nd:(nmL (.loop n sz wd out [.loop m szm wdm outm bd]::r)).Nodup):Loc w 0 (.loop n sz wd out [.loop m szm wdm outm bd]) r (.loop m szm wdm outm [.loop n sz wd out bd]::r):=by
 have e1:nmL (.loop n sz wd out [.loop m szm wdm outm bd]::r)=n::m::(nmL bd++nmL r):=by simp [nmL,nmN]
 have e2:nmL (.loop m szm wdm outm [.loop n sz wd out bd]::r)=m::n::(nmL bd++nmL r):=by simp [nmL,nmN]
 have r1:∀c,rwL c (.loop n sz wd out [.loop m szm wdm outm bd]::r)=[(c,.loop n sz wd out),(n,.loop m szm wdm outm)]++(rwL m bd++rwL c r):=λc=>by simp [rwL,rwN]
 have r2:∀c,rwL c (.loop m szm wdm outm [.loop n sz wd out bd]::r)=[(c,.loop m szm wdm outm),(m,.loop n sz wd out)]++(rwL n bd++rwL c r):=λc=>by simp [rwL,rwN]
 obtain ⟨a1,a2,a3,a4⟩:=D2w bd m n;rw [e1] at nd;refine ⟨λy hy=> ?_,?_,λc h z hz=> ?_,λc z hz=> ?_,λc=> ?_,λc h=> ?_,λe h=> ?_⟩
 ·rw [e2] at hy;rw [e1];simp only [Z0e] at hy⊢;rcases hy with hy | hy | hy
  ·exact .inl (.inr (.inl hy))
  ·exact .inl (.inl hy)
  ·exact .inl (.inr (.inr hy))
 ·rw [e2];obtain ⟨q1,q2⟩:=Z15.mp nd;obtain ⟨q3,q4⟩:=Z15.mp q2;refine Z15.mpr ⟨λz=> ?_,Z15.mpr ⟨λz=>q1 (.tail _ z),q4⟩⟩;rcases Z0e.mp z with z | z
  ·exact q1 (by rw [z];exact .head _)
  ·exact q3 z
 ·rw [r1] at h;rw [r2] at hz;have hm:RoG (n,.loop m szm wdm outm):=h _ (by simp);have hn:RoG (c,.loop n sz wd out):=h _ (by simp);rcases Z07.mp hz with hz | hz
  ·rcases Z0e.mp hz with hz | hz
   ·rw [hz];exact hm
   ·rw [Z0w.mp hz];exact hn
  ·rcases Z07.mp hz with hz | hz
   ·exact a3 (λy hy=>h y (Z02 _ (Z05 _ hy))) z hz
   ·exact h z (Z02 _ (Z02 _ hz))
 ·rw [r2,A1x,A1x,<-a1] at hz;rw [r1,A1x,A1x];exact hz
 ·rw [r1,r2];simp [a2]
 ·rw [r1] at h;rw [r2];exact LD3 (λz=>C0u (rs:=[(c,.loop n sz wd out)]) z) a4 h
 ·rw [wsL,wsN,wsL,wsN,wsL] at h⊢;obtain ⟨⟨h1,⟨h2,h3⟩,_⟩,h4⟩:=h;refine ⟨⟨?_,⟨h1.imp id (.tail _),B4q bd (λy hy=> ?_) h3⟩,True.intro⟩,h4⟩
  ·rcases h2 with h2 | h2
   ·exact .inl h2
   ·exact .inr ((Z0e.mp h2).elim (λz=>absurd z ho) id)
  ·simp only [Z0e] at hy⊢;rcases hy with hy | hy | hy
   ·exact .inr (.inl hy)
   ·exact .inl hy
   ·exact .inr (.inr hy)
theorem D3m {w n sz wd T:Int} {bd r:List Nd} (ht:1<=T) (nd:(nmL (.loop n sz wd (-1) bd::r)).Nodup) (hn:∀y∈nmL (.loop n sz wd (-1) bd::r),0<=y/\y<w):Loc w 1 (.loop n sz wd (-1) bd) r (C3s T w (.loop n sz wd (-1) bd)::r):=by
 have e1:nmL (.loop n sz wd (-1) bd::r)=n::(nmL bd++nmL r):=by simp [nmL,nmN]
 have e2:nmL (C3s T w (.loop n sz wd (-1) bd)::r)=n::w::(nmL bd++nmL r):=by simp [C3s,nmL,nmN,B5d]
 rw [e1] at nd hn;obtain ⟨q1,q2⟩:=Z15.mp nd;have nb:n∉nmL bd:=λz=>q1 (Z05 _ z);have n0:=hn n (.head _);have n1:n≠-1:=by lia
 have w1:w≠-1:=by lia
 have rr:rwL w (A8q n w bd)=(rwL n bd).map (rnR n w):=by rw [D4u bd n nb,A9i]
 have r1:∀c,rwL c (.loop n sz wd (-1) bd::r)=[(c,.loop n sz wd (-1))]++(rwL n bd++rwL c r):=λc=>by simp [rwL,rwN]
 have r2:∀c,rwL c (C3s T w (.loop n sz wd (-1) bd)::r)=[(c,.loop n ((sz+T-1)/T) wd (-1)),(n,.loop w sz T n)]++((rwL n bd).map (rnR n w)++rwL c r):=λc=>by simp [C3s,rwL,rwN,rr]
 refine ⟨λy hy=> ?_,?_,λc h z hz=> ?_,λc z hz=> ?_,λc=> ?_,λc h=> ?_,λe h=> ?_⟩
 ·rw [e2] at hy;rw [e1];simp only [Z0e] at hy⊢;rcases hy with hy | hy | hy
  ·exact .inl (.inl hy)
  ·exact .inr ⟨hy,True.intro⟩
  ·exact .inl (.inr hy)
 ·rw [e2];refine Z15.mpr ⟨λz=> ?_,Z15.mpr ⟨λz=> ?_,q2⟩⟩
  ·rcases Z0e.mp z with z | z
   ·lia
   ·exact q1 z
  ·have:=hn w (.tail _ z);lia
 ·rw [r1] at h;rw [r2] at hz;have hx:RoG (c,.loop n sz wd (-1)):=h _ (by simp);obtain ⟨s1,s2,s3⟩:=hx;rcases Z07.mp hz with hz | hz
  ·rcases Z0e.mp hz with hz | hz
   ·rw [hz];have b1:1<=(sz+T-1)/T:=Int.le_ediv_of_mul_le (by lia) (by lia)
    have b2:(sz+T-1)/T<=sz:=by
     have:(sz+T-1)/T<sz+1:=Int.ediv_lt_of_lt_mul (by lia) (by
      have:=Z29 ht (show 0<=sz by lia);rw [Int.add_mul,Int.one_mul];have h2:sz-1<=(sz-1)*T:=by have:=Z29 ht (show 0<=sz-1 by lia);lia
      have h3:(sz-1)*T=sz*T-T:=by rw [Int.sub_mul,Int.one_mul]
      lia)
     lia
    exact ⟨b1,by lia,s3⟩
   ·rw [Z0w.mp hz];exact ⟨s1,s2,λz=>absurd z n1⟩
  ·rcases Z07.mp hz with hz | hz
   ·obtain ⟨y,hy,rfl⟩:=Z2c.mp hz;exact RoG.rn n1 w1 (h y (Z02 _ (Z05 _ hy)))
   ·exact h z (Z02 _ (Z02 _ hz))
 ·rw [r2,A1x,A1x,C6p] at hz;rw [r1,A1x,A1x];exact hz
 ·rw [r1,r2];simp
 ·rw [r1] at h;rw [r2];exact LD3 (λz=>C0u (rs:=[]) z) (λq=>q.map λa n' k v cs us=>⟨_,_,_,rfl⟩) h
 ·rw [C3s];rw [wsL,wsN] at h;rw [wsL,wsN,wsL,wsN,wsL]
  exact ⟨⟨h.1.1,⟨.inr (.head _),B6n n1 bd (λy hy=>by
   rcases Z0e.mp hy with z | z
   ·rw [z,A9i];exact .head _
   ·by_cases q:y=n
    ·rw [q,A9i];exact .head _
    ·rw [A7d q];exact .tail _ (.tail _ z)) nb h.1.2⟩,True.intro⟩,h.2⟩
theorem D0z {w n sz wd out m:Int} {bd bdm r:List Nd} (nd:(nmL (.loop n sz wd out bd:: .loop m sz wd out bdm::r)).Nodup) (hn:∀y∈nmL (.loop n sz wd out bd:: .loop m sz wd out bdm::r),0<=y/\y<w):Loc w 0 (.loop n sz wd out bd) (.loop m sz wd out bdm::r) (.loop n sz wd out (bd++A8q m n bdm)::r):=by
 have e1:nmL (.loop n sz wd out bd:: .loop m sz wd out bdm::r)=n::(nmL bd++(m::(nmL bdm++nmL r))):=by simp [nmL,nmN]
 have e2:nmL (.loop n sz wd out (bd++A8q m n bdm)::r)=n::(nmL bd++(nmL bdm++nmL r)):=by simp [nmL,nmN,A6n,B5d]
 rw [e1] at nd hn;obtain ⟨q1,q2⟩:=Z15.mp nd;obtain ⟨q3,q4,q5⟩:=Z0l.mp q2;obtain ⟨q6,q7⟩:=Z15.mp q4;have mb:m∉nmL bdm:=λz=>q6 (Z05 _ z);have n1:n≠-1:=by have:=hn n (.head _);lia
 have m1:m≠-1:=by have:=hn m (.tail _ (Z02 _ (.head _)));lia
 have rr:rwL n (A8q m n bdm)=(rwL m bdm).map (rnR m n):=by rw [D4u bdm m mb,A9i]
 have r1:∀c,rwL c (.loop n sz wd out bd:: .loop m sz wd out bdm::r)=((c,.loop n sz wd out)::rwL n bd++[(c,.loop m sz wd out)])++(rwL m bdm++rwL c r):=λc=>by simp [rwL,rwN]
 have r2:∀c,rwL c (.loop n sz wd out (bd++A8q m n bdm)::r)=((c,.loop n sz wd out)::rwL n bd)++((rwL m bdm).map (rnR m n)++rwL c r):=λc=>by simp [rwL,rwN,A2j,rr]
 refine ⟨λy hy=> ?_,?_,λc h z hz=> ?_,λc z hz=> ?_,λc=> ?_,λc h=> ?_,λe h=> ?_⟩
 ·rw [e2] at hy;rw [e1];simp only [Z0e,Z07] at hy⊢;rcases hy with hy | hy | hy | hy
  ·exact .inl (.inl hy)
  ·exact .inl (.inr (.inl hy))
  ·exact .inl (.inr (.inr (.inr (.inl hy))))
  ·exact .inl (.inr (.inr (.inr (.inr hy))))
 ·rw [e2];refine Z15.mpr ⟨λz=>q1 ?_,Z0l.mpr ⟨q3,q7,λa ha b hb=>q5 a ha b (.tail _ hb)⟩⟩;rcases Z07.mp z with z | z
  ·exact Z05 _ z
  ·exact Z02 _ (.tail _ z)
 ·rw [r1] at h;rw [r2] at hz;rcases Z07.mp hz with hz | hz
  ·exact h z (Z05 _ (Z05 _ hz))
  ·rcases Z07.mp hz with hz | hz
   ·obtain ⟨y,hy,rfl⟩:=Z2c.mp hz;exact RoG.rn m1 n1 (h y (Z02 _ (Z05 _ hy)))
   ·exact h z (Z02 _ (Z02 _ hz))
 ·rw [r2,A1x,A1x,C6p] at hz;rw [r1,A1x,A1x,A1x];rcases Z07.mp hz with hz | hz
  ·exact Z05 _ (Z05 _ hz)
  ·exact Z02 _ hz
 ·rw [r1,r2];simp;lia
 ·rw [r1] at h;rw [r2];exact LD3 (λz=>C0u z) (λq=>q.map λa n' k v cs us=>⟨_,_,_,rfl⟩) h
 ·rw [wsL,wsN,wsL,wsN] at h;rw [wsL,wsN]
  exact ⟨⟨h.1.1,A4z.mpr ⟨h.1.2,B6n m1 bdm (λy hy=>by
   rcases Z0e.mp hy with z | z
   ·rw [z,A9i];exact .head _
   ·by_cases q:y=m
    ·rw [q,A9i];exact .head _
    ·rw [A7d q];exact .tail _ z) mb h.2.1.2⟩⟩,h.2.2⟩
theorem D2b {mv:Mv} {w:Int} {x:Nd} {r t:List Nd} (h:mvO mv w x r=some t) (nd:(nmL (x::r)).Nodup) (hn:∀y∈nmL (x::r),0<=y/\y<w):Loc w mv.took x r t:=by
 cases mv with
 | swap N =>
  obtain ⟨y,hy,rfl⟩:=Z0i.mp h;unfold swp at hy;split at hy
  ·split at hy
   ·cases hy
   ·cases hy
    exact C9x (by assumption) nd
  ·cases hy
 | cut N T =>
  obtain ⟨y,hy,rfl⟩:=Z0i.mp h;unfold C3p at hy;split at hy
  ·split at hy
   ·rename_i hc;cases hy;obtain ⟨ho,ht⟩:=hc;subst ho;exact D3m ht nd hn
   ·cases hy
  ·cases hy
 | join N =>
  obtain ⟨y,hy,rfl⟩:=Z0i.mp h;unfold jnd at hy;split at hy
  ·split at hy
   ·rename_i hc;cases hy;obtain ⟨rfl,rfl,rfl⟩:=hc;exact D0z nd hn
   ·cases hy
  ·cases hy
theorem C7k {N w:Int}:∀{path:List Nat} {l t:List Nd},mvP (.swap N) w path l=some t->dpL t<=dpL l
 | [],l,t,e=>by cases e
 | [p],l,t,e=>by
  rw [mvP] at e
  cases q:l[p]? with
  | none=>rw [q] at e;cases e
  | some x =>
   rw [q] at e;obtain ⟨u,hu,rfl⟩:=Z0i.mp e;obtain ⟨y,hy,rfl⟩:=Z0i.mp hu
   have hd:dpN y=dpN x:=by
    unfold swp at hy;split at hy
    ·split at hy
     ·cases hy
     ·cases hy;simp [dpN,dpL]
    ·cases hy
   have ec:=A3r q;have e1:dpL l=max (dpL (l.take p)) (max (dpN x) (dpL (l.drop (p+1)))):=by rw [<-A3g,<-ec]
   rw [A3g,hd]
   lia
 | p::q::r,l,t,e=>by
  rw [mvP] at e
  cases z:l[p]? with
  | none=>rw [z] at e;cases e
  | some x =>
   rw [z] at e
   cases x with
   | deed n k v cs us=>cases e
   | loop n sz wd out bd =>
    obtain ⟨bd',hb,rfl⟩:=Z0i.mp e;have ih:=C7k hb;have ec:=A3r z;have e1:dpL l=max (dpL (l.take p)) (max (dpN (.loop n sz wd out bd)) (dpL (l.drop (p+1)))):=by rw [<-A3g,<-ec]
    rw [dpN] at e1;rw [A3g,dpN]
    lia
theorem D1p {N T w:Int}:∀{path:List Nat} {l t:List Nd},mvP (.cut N T) w path l=some t->dpL t<=dpL l+1
 | [],l,t,e=>by cases e
 | [p],l,t,e=>by
  rw [mvP] at e
  cases q:l[p]? with
  | none=>rw [q] at e;cases e
  | some x =>
   rw [q] at e;obtain ⟨u,hu,rfl⟩:=Z0i.mp e;obtain ⟨y,hy,rfl⟩:=Z0i.mp hu
   have hd:dpN y<=dpN x+1:=by
    unfold C3p at hy;split at hy
    ·split at hy
     ·cases hy;simp [C3s,dpN,dpL,B4z]
     ·cases hy
    ·cases hy
   have ec:=A3r q;have e1:dpL l=max (dpL (l.take p)) (max (dpN x) (dpL (l.drop (p+1)))):=by rw [<-A3g,<-ec]
   rw [A3g]
   lia
 | p::q::r,l,t,e=>by
  rw [mvP] at e
  cases z:l[p]? with
  | none=>rw [z] at e;cases e
  | some x =>
   rw [z] at e
   cases x with
   | deed n k v cs us=>cases e
   | loop n sz wd out bd =>
    obtain ⟨bd',hb,rfl⟩:=Z0i.mp e;have ih:=D1p hb;have ec:=A3r z;have e1:dpL l=max (dpL (l.take p)) (max (dpN (.loop n sz wd out bd)) (dpL (l.drop (p+1)))):=by rw [<-A3g,<-ec]
    rw [dpN] at e1;rw [A3g,dpN]
    lia
theorem C7e {N w:Int}:∀{path:List Nat} {l t:List Nd},mvP (.join N) w path l=some t->dpL t<=dpL l
 | [],l,t,e=>by cases e
 | [p],l,t,e=>by
  rw [mvP] at e
  cases q:l[p]? with
  | none=>rw [q] at e;cases e
  | some x =>
   rw [q] at e;obtain ⟨u,hu,rfl⟩:=Z0i.mp e;obtain ⟨y,hy,rfl⟩:=Z0i.mp hu;have ec:=A3r q;have e1:dpL l=max (dpL (l.take p)) (max (dpN x) (dpL (l.drop (p+1)))):=by rw [<-A3g,<-ec]
   have hd:max (dpN y) (dpL ((l.drop (p+1)).drop 1))<=max (dpN x) (dpL (l.drop (p+1))):=by
    generalize l.drop (p+1)=r at hy
    cases r with
    | nil=>cases x <;> cases hy
    | cons z r' =>
     cases x with
     | deed n k v cs us=>cases hy
     | loop n sz wd out bd =>
      cases z with
      | deed n k v cs us=>cases hy
      | loop m szm wdm outm bdm =>
       rw [jnd] at hy;split at hy
       ·cases hy
        simp only [dpN,dpL,B6t,B4z,List.drop_succ_cons,List.drop_zero]
        lia
       ·cases hy
   rw [A3g]
   lia
 | p::q::r,l,t,e=>by
  rw [mvP] at e
  cases z:l[p]? with
  | none=>rw [z] at e;cases e
  | some x =>
   rw [z] at e
   cases x with
   | deed n k v cs us=>cases e
   | loop n sz wd out bd =>
    obtain ⟨bd',hb,rfl⟩:=Z0i.mp e;have ih:=C7e hb;have ec:=A3r z;have e1:dpL l=max (dpL (l.take p)) (max (dpN (.loop n sz wd out bd)) (dpL (l.drop (p+1)))):=by rw [<-A3g,<-ec]
    rw [dpN] at e1;rw [A3g,dpN]
    lia
theorem D9b {m:Mv} {w:Int} {path:List Nat} {l t:List Nd} (h:mvP m w path l=some t):dpL t<=dpL l+1:=by
 cases m with
 | swap N=>have:=C7k h;lia
 | cut N T=>exact D1p h
 | join N=>have:=C7e h;lia
theorem C1u {m:Mv} {w:Int} {x:Nd}:∀{path:List Nat} {l t':List Nd} {e:List Int},A3i path l x->(nmL l).Nodup->(∀y∈nmL l,0<=y/\y<w)->mvP m w path l=some t'->wsL e l->wsL e t'
 | [],l,t',e,h,_,_,_,_=>h.elim
 | [p],l,t',e,h,nd,hn,q,ws=>by
  have h:l[p]? =some x:=h;have ec:=A3r h;rw [mvP,h] at q;obtain ⟨t,ht,rfl⟩:=Z0i.mp q;have en:nmL l=nmL (l.take p)++nmL (x::l.drop (p+1)):=by rw [<-A6n,<-ec]
  rw [ec,A4z] at ws;rw [en] at nd hn;have loc:=D2b ht (Z0l.mp nd).2.1 (λy hy=>hn y (Z02 _ hy));exact A4z.mpr ⟨ws.1,loc.ws e ws.2⟩
 | p::q'::rr,l,t',e,h,nd,hn,q,ws=>by
  obtain ⟨n,sz,wd,out,bd,h,hp⟩:=h;have ec:=A3r h;rw [mvP,h] at q;obtain ⟨bd',hb,rfl⟩:=Z0i.mp q
  have en:nmL l=nmL (l.take p)++(n::nmL bd++nmL (l.drop (p+1))):=by
   have:=B6s (l.take p) (l.drop (p+1)) (.loop n sz wd out bd);rw [<-ec,nmN] at this;exact this
  rw [ec,A4z,wsL,wsN] at ws;rw [en] at nd hn;have nb:=(Z15.mp (Z0l.mp (Z0l.mp nd).2.1).1).2;have ih:=C1u hp nb (λy hy=>hn y (Z02 _ (Z05 _ (.tail _ hy)))) hb ws.2.1.2;refine A4z.mpr ⟨ws.1,?_⟩;rw [wsL,wsN];exact ⟨⟨ws.2.1.1,ih⟩,ws.2.2⟩
structure B0c (l:List Nd) (fr:Int) (c:Nat):Prop where
 f0:0<=fr
 nd:(nmL l).Nodup
 nm:∀y∈nmL l,0<=y/\y<fr
 ro:∀r∈rwL (-1) l,RoG r
 dn:∀z∈dns (rwL (-1) l),0<=z/\z<fr/\z∉nmL l
 ws:wsL [] l
 dp:dpL l<=3+c
 rl:(rwL (-1) l).length<=24+c
 la:l≠[]->A2o (rwL (-1) l)
theorem B0c.m1 {l:List Nd} {fr:Int} {c:Nat} (h:B0c l fr c):(-1)∉nmL l:=λz=>by have:=h.nm _ z;lia
theorem D4c {x:Nd}:∀{path:List Nat} {l:List Nd},A3i path l x->l≠[]
 | [],l,h=>h.elim
 | [p],l,h=>λe=>by
  have h:l[p]? =some x:=h;rw [e] at h;simp at h
 | p::q::r,l,h=>λe=>by
  obtain ⟨n,sz,wd,out,bd,h,_⟩:=h;rw [e] at h;simp at h
theorem D3y (m:Mv):0<=m.took/\m.took<=1:=by cases m <;> simp [Mv.took]
theorem B0c.step {l t':List Nd} {fr:Int} {c:Nat} {m:Mv} {path:List Nat} {sz wd out:Int} {bd:List Nd} (ok:B0c l fr c) (hp:A3i path l (.loop m.num sz wd out bd)) (h:mvP m fr path l=some t'):B0c t' (fr+m.took) (c+1):=by
 have m1:=ok.m1;have tk:=D3y m;obtain ⟨pre,post,a,r,e',e1,ha,hsub,hws,hee,hpost,hcc,hno,hso⟩:=A7y (mv:=m) (w:=fr) hp ok.nd m1 ok.ws (λy hy=>by cases hy) (λy hy e=>m1 (by rw [<-e];exact hy))
 cases ht:mvO m fr (.loop m.num sz wd out bd) r with
 | none=>rw [hno ht] at h;cases h
 | some t =>
  obtain ⟨t2,h2,e2⟩:=hso t ht;rw [h] at h2;cases h2;have n1:nmL l=lps pre++(nmL (.loop m.num sz wd out bd::r)++lps post):=by rw [<-A8l l (-1),e1,A4s,A4s,A8l]
  have n2:nmL t'=lps pre++(nmL t++lps post):=by rw [<-A8l t' (-1),e2,A4s,A4s,A8l]
  have nd:=ok.nd;rw [n1] at nd;obtain ⟨q1,q2,q3⟩:=Z0l.mp nd;obtain ⟨q4,q5,q6⟩:=Z0l.mp q2;have nm:=ok.nm;have nmx:∀y∈nmL (.loop m.num sz wd out bd::r),0<=y/\y<fr:=λy hy=>nm y (hsub y hy);have loc:=D2b ht q4 nmx;have pin:∀y∈lps pre,y∈nmL l:=λy hy=>by rw [n1];exact Z05 _ hy
  have poin:∀y∈lps post,y∈nmL l:=λy hy=>by rw [n1];exact Z02 _ (Z02 _ hy)
  have sub:∀y∈nmL t',y∈nmL l\/(y=fr/\m.took=1):=λy hy=>by
   rw [n2] at hy;rcases Z07.mp hy with hy | hy
   ·exact .inl (pin y hy)
   ·rcases Z07.mp hy with hy | hy
    ·exact (loc.nm y hy).imp (hsub y) id
    ·exact .inl (poin y hy)
  have f0:=ok.f0;refine ⟨by lia,?_,λy hy=> ?_,λz hz=> ?_,λz hz=> ?_,C1u hp ok.nd ok.nm h ok.ws,?_,?_,λ_=> ?_⟩
  ·rw [n2];refine Z0l.mpr ⟨q1,Z0l.mpr ⟨loc.nd,q5,λy hy z hz e=> ?_⟩,λy hy z hz e=> ?_⟩
   ·rcases loc.nm y hy with w | w
    ·exact q6 y w z hz e
    ·have:=nm z (poin z hz);lia
   ·rcases Z07.mp hz with hz | hz
    ·rcases loc.nm z hz with w | w
     ·exact q3 y hy z (Z05 _ w) e
     ·have:=nm y (pin y hy);lia
    ·exact q3 y hy z (Z02 _ hz) e
  ·rcases sub y hy with w | w
   ·have:=nm y w;lia
   ·lia
  ·have ro:=ok.ro;rw [e1] at ro;rw [e2] at hz;rcases Z07.mp hz with hz | hz
   ·exact ro z (Z05 _ hz)
   ·rcases Z07.mp hz with hz | hz
    ·exact loc.ro a (λy hy=>ro y (Z02 _ (Z05 _ hy))) z hz
    ·exact ro z (Z02 _ (Z02 _ hz))
  ·have hz':z∈dns (rwL (-1) l):=by
    rw [e1,A1x,A1x];rw [e2,A1x,A1x] at hz;rcases Z07.mp hz with hz | hz
    ·exact Z05 _ hz
    ·rcases Z07.mp hz with hz | hz
     ·exact Z02 _ (Z05 _ (loc.dn a z hz))
     ·exact Z02 _ (Z02 _ hz)
   obtain ⟨d1,d2,d3⟩:=ok.dn z hz';refine ⟨d1,by lia,λw=> ?_⟩;rcases sub z w with w | w
   ·exact d3 w
   ·lia
  ·have:=D9b h;have:=ok.dp
   lia
  ·have rl:=ok.rl;have ln:=loc.ln a;rw [e1] at rl;rw [e2];simp only [Z06] at rl⊢
   lia
  ·have la:=ok.la (D4c hp);rw [e1] at la;rw [e2];by_cases ep:post=[]
   ·subst ep;rw [Z0u] at la⊢;refine A2o.app (loc.la a (la.of_app ?_));rw [rwL,rwN];simp
   ·rw [<-Z0z] at la⊢;exact A2o.app (la.of_app ep)
noncomputable def mvR (m:Mv) (rs:List Ro) (fr:Int):Option (List Ro):=match m with
 | .swap N=>B5i rs N
 | .cut N T=>C9h rs N T fr
 | .join N=>B5l rs N
theorem B6k {m:Mv} {l:List Nd} {fr:Int} (h:m.num∉nmL l):mvR m (rwL (-1) l) fr=none:=by
 cases m with
 | swap N=>exact C3h h
 | cut N T=>exact C4n h
 | join N=>exact C2k h
theorem C1q:∀{path:List Nat} {l:List Nd} {x:Nd} {a:Int},A3i path l x->∃ab,∀z∈rwN ab x,z∈rwL a l
 | [],l,x,a,h=>h.elim
 | [p],l,x,a,h=>by
  have h:l[p]? =some x:=h;have e:=A2j a (l.take p) (x::l.drop (p+1));rw [<-A3r h,rwL] at e;exact ⟨a,λz hz=>by rw [e];exact Z02 _ (Z05 _ hz)⟩
 | p::q::r,l,x,a,h=>by
  obtain ⟨n,sz,wd,out,bd,h,hp⟩:=h;have e:=A2j a (l.take p) (.loop n sz wd out bd::l.drop (p+1));rw [<-A3r h,rwL,rwN] at e;obtain ⟨ab,g⟩:=C1q (a:=n) hp;exact ⟨ab,λz hz=>by rw [e];exact Z02 _ (Z05 _ (.tail _ (g z hz)))⟩
theorem C2c {m:Mv} {l:List Nd} {fr:Int} {c:Nat} {path:List Nat} {sz wd out:Int} {bd:List Nd} (ok:B0c l fr c) (hp:A3i path l (.loop m.num sz wd out bd)):mvR m (rwL (-1) l) fr=(mvP m fr path l).map (rwL (-1)):=by
 have m1:=ok.m1;have hm:∀y∈nmL l,y≠-1:=λy hy e=>m1 (by rw [<-e];exact hy)
 cases m with
 | swap N=>exact D0p hp ok.nd m1
 | cut N T =>
  obtain ⟨ab,g⟩:=C1q (a:= -1) hp;have h:=ok.ro _ (g (ab,.loop N sz wd out) (by rw [rwN];exact .head _));exact D2d hp ok.nd m1 ok.ws hm h.2.2
 | join N=>exact C9s hp ok.nd m1 ok.ws hm
inductive B9c:List Nd->Int->List Mv->List Nd->Int->Prop
 | nil (l fr):B9c l fr [] l fr
 | snoc {l fr ms l1 fr1 m path sz wd out bd l2}:B9c l fr ms l1 fr1->A3i path l1 (.loop m.num sz wd out bd)->mvP m fr1 path l1=some l2->B9c l fr (ms++[m]) l2 (fr1+m.took)
noncomputable def C3t (m:Mv) (l:List Nd) (fr:Int):Prop:=m.num∉nmL l\/∃(path:List Nat) (sz wd out:Int) (bd:List Nd),A3i path l (.loop m.num sz wd out bd)/\mvP m fr path l=none
noncomputable def B0y (rs:List Ro) (fr:Int):List Mv->Option (List Ro×Int)
 | []=>some (rs,fr)
 | m::ms=>match mvR m rs fr with
  | some rs'=>B0y rs' (fr+m.took) ms
  | none=>none
theorem B0a {rs:List Ro} {fr:Int}:∀{ms ns:List Mv},B0y rs fr (ms++ns)=match B0y rs fr ms with | some (rs',fr')=>B0y rs' fr' ns | none=>none
 | [],ns=>rfl
 | m::ms,ns=>by
  rw [Z17,B0y,B0y]
  cases mvR m rs fr with
  | none=>rfl
  | some rs'=>exact B0a (ms:=ms)
theorem B9c.ok {l l':List Nd} {fr fr':Int} {ms:List Mv} {c:Nat} (h:B9c l fr ms l' fr') (ok:B0c l fr c):B0c l' fr' (c+ms.length)/\B0y (rwL (-1) l) fr ms=some (rwL (-1) l',fr'):=by
 induction h with
 | nil=>exact ⟨ok,rfl⟩
 | snoc _ hp hm ih =>
  obtain ⟨o1,r1⟩:=ih;refine ⟨?_,?_⟩
  ·rw [Z06,Z0j,<-Nat.add_assoc];exact o1.step hp hm
  ·rw [B0a,r1];show B0y _ _ [_]=_;rw [B0y,C2c o1 hp,hm];rfl
theorem B9c.refused {l l':List Nd} {fr fr':Int} {ms ns:List Mv} {m:Mv} {c:Nat} (h:B9c l fr ms l' fr') (ok:B0c l fr c) (q:C3t m l' fr'):B0y (rwL (-1) l) fr (ms++m::ns)=none:=by
 obtain ⟨o1,r1⟩:=h.ok ok;rw [B0a,r1];show B0y _ _ (m::ns)=none;rw [B0y]
 have:mvR m (rwL (-1) l') fr'=none:=by
  rcases q with q | ⟨path,sz,wd,out,bd,hp,e⟩
  ·exact B6k q
  ·rw [C2c o1 hp,e];rfl
 rw [this]
noncomputable def B2i (a:Int):List (Int×Int)->List Ro
 | []=>[]
 | p::r=>(a,.loop p.1 p.2 0 (-1))::B2i p.1 r
noncomputable def inP (a:Int):List (Int×Int)->Int
 | []=>a
 | p::r=>inP p.1 r
theorem A4u (l:List Nd):∀(ps:List (Int×Int)) (a:Int),rwL a (A3q ps l)=B2i a ps++rwL (inP a ps) l
 | [],a=>rfl
 | p::r,a=>by
  show rwL a [.loop p.1 p.2 0 (-1) (A3q r l)]=_;rw [rwL,rwL,rwN,A4u l r p.1,Z0u];rfl
theorem A6b:∀(ps:List (Int×Int)) (a:Int),(B2i a ps).length=ps.length
 | [],a=>rfl
 | p::r,a=>by rw [B2i,Z0y,Z0y,A6b r]
theorem B6i:∀(ps:List (Int×Int)) (a:Int),dns (B2i a ps)=[]
 | [],a=>rfl
 | p::r,a=>by rw [B2i,A9p,B6i r];rfl
theorem C0l:∀(ps:List (Int×Int)) (a:Int),(∀p∈ps,1<=p.2/\p.2<=60)->∀z∈B2i a ps,RoG z
 | [],a,_,z,hz=>by cases hz
 | p::r,a,h,z,hz=>by
  rw [B2i] at hz;rcases Z0e.mp hz with e | hz
  ·rw [e];have:=h p (.head _);exact ⟨this.1,by lia,λ_=>rfl⟩
  ·exact C0l r p.1 (λq hq=>h q (.tail _ hq)) z hz
theorem B6b (l:List Nd):∀(ps:List (Int×Int)) (e:List Int),(∀e',(∀y∈e,y∈e')->(∀p∈ps,p.1∈e')->wsL e' l)->wsL e (A3q ps l)
 | [],e,h=>h e (λ_ z=>z) (λ_ z=>by cases z)
 | p::r,e,h=>by
  show wsL e [.loop p.1 p.2 0 (-1) (A3q r l)];rw [wsL,wsN,wsL];refine ⟨⟨.inl rfl,B6b l r (p.1::e) λe' h1 h2=>h e' (λy hy=>h1 y (.tail _ hy)) λq hq=> ?_⟩,True.intro⟩;rcases Z0e.mp hq with z | z
  ·rw [z];exact h1 _ (.head _)
  ·exact h2 q z
structure LnOk (l:List Nd) (fr fr':Int):Prop where
 le:fr<=fr'
 nd:(nmL l).Nodup
 nm:∀y∈nmL l,fr<=y/\y<fr'
 ro:∀r∈rwL (-1) l,RoG r
 dn:∀z∈dns (rwL (-1) l),fr<=z/\z<fr'/\z∉nmL l
 ws:wsL [] l
 dp:dpL l<=3
 rl:(rwL (-1) l).length<=5
 la:A2o (rwL (-1) l)
theorem C3y {fr:Int} {ls:List Int} (h:∀n∈ls,1<=n/\n<=60):∀p∈(A2f fr ls.length).zip ls,1<=p.2/\p.2<=60:=λp hp=>h p.2 (List.of_mem_zip hp).2
theorem C4c {fr x:Int} {ls:List Int} (h:x∈A2f fr ls.length):∃p∈(A2f fr ls.length).zip ls,p.1=x:=by
 obtain ⟨i,hi⟩:=List.mem_iff_getElem?.mp h;have hl:i<ls.length:=by have:=(Z03.mp hi).1;rw [A2p] at this;exact this
 refine ⟨(x,ls[i]),Z13 (i:=i) ?_,rfl⟩;rw [List.getElem?_zip_eq_some];exact ⟨hi,Z0b hl⟩
theorem D3g {k fr:Int} {e:Rw} (go:∀n∈e.so,1<=n/\n<=60) (gs:∀n∈e.ss,1<=n/\n<=60) (l3:e.so.length+e.ss.length<=3):LnOk (A6k k e fr) fr (fr+B9a e):=by
 have nin:B9a e=e.so.length+1+(if e.ss=[] then 0 else e.ss.length+1):=rfl;have n0:(0:Int)<=(if e.ss=[] then 0 else (e.ss.length:Int)+1):=by split <;> lia
 have nml:nmL (A6k k e fr)=B8d e fr:=D3b k e fr
 have mem:∀y∈B8d e fr,(fr<=y/\y<fr+e.so.length)\/(e.ss≠[]/\fr+e.so.length+1<=y/\y<fr+e.so.length+1+e.ss.length):=λy hy=>by
  rcases Z07.mp hy with hy | hy
  ·exact .inl (B1q hy)
  ·refine .inr ⟨λz=> ?_,B1q hy⟩;rw [z] at hy;simp [A2f] at hy
 have rows:rwL (-1) (A6k k e fr)=B2i (-1) ((A2f fr e.so.length).zip e.so)++rwL (inP (-1) ((A2f fr e.so.length).zip e.so)) (A3c k e fr):=A4u _ _ _;have c3:(A2f fr e.so.length).length<=100:=by rw [A2p];lia
 have c4:(A2f (fr+e.so.length+1) e.ss.length).length<=100:=by rw [A2p];lia
 refine ⟨by lia,?_,λy hy=> ?_,?_,?_,?_,?_,?_,?_⟩
 ·rw [nml];unfold B8d;refine Z0l.mpr ⟨B4j _ _,B4j _ _,λa ha b hb e=> ?_⟩;have:=B1q ha;have:=B1q hb
  lia
 ·rw [nml] at hy;rw [nin];rcases mem y hy with q | ⟨q0,q⟩
  ·lia
  ·rw [Z0t q0];lia
 ·rw [rows];intro z hz;rcases Z07.mp hz with hz | hz
  ·exact C0l _ _ (C3y go) z hz
  ·unfold A3c at hz;split at hz
   ·rw [rwL,rwN,rwL] at hz;rw [Z0w.mp hz];exact ⟨by decide +kernel,c3,by simp⟩
   ·rw [rwL,rwN,A4u] at hz;rcases Z07.mp hz with hz | hz
    ·rw [Z0w.mp hz];exact ⟨by decide +kernel,c3,by simp⟩
    ·rcases Z07.mp hz with hz | hz
     ·exact C0l _ _ (C3y gs) z hz
     ·rw [rwL,rwN,rwL] at hz;rw [Z0w.mp hz];exact ⟨by decide +kernel,c3,c4⟩
 ·intro z hz
  have hz':z=fr+e.so.length\/(e.ss≠[]/\z=fr+e.so.length+1+e.ss.length):=by
   rw [rows,A1x,B6i,List.nil_append] at hz;unfold A3c at hz;split at hz
   ·rw [rwL,rwN,rwL] at hz;exact .inl (Z0w.mp hz)
   ·rename_i hs;rw [rwL,rwN,A4u,A1x,A1x,B6i,List.nil_append,rwL,rwN,rwL] at hz;rcases Z07.mp hz with hz | hz
    ·exact .inl (Z0w.mp hz)
    ·exact .inr ⟨hs,Z0w.mp hz⟩
  have hn:∀y∈nmL (A6k k e fr),y≠z:=λy hy q=>by
   rw [nml] at hy;rcases mem y hy with m | ⟨_,m⟩ <;> rcases hz' with h | ⟨_,h⟩ <;> lia
  refine ⟨?_,?_,λq=>hn z q rfl⟩
  ·rcases hz' with h | ⟨_,h⟩ <;> lia
  ·rw [nin];rcases hz' with h | ⟨h0,h⟩
   ·lia
   ·rw [Z0t h0];lia
 ·refine B6b _ _ _ λe' _ h2=> ?_
  have own:∀y∈A2f fr e.so.length,y∈e':=λy hy=>by
   obtain ⟨p,hp,rfl⟩:=C4c hy;exact h2 p hp
  unfold A3c;split
  ·rw [wsL,wsN,wsL];exact ⟨λy hy=>by rw [Z0u] at hy;exact own y hy,True.intro⟩
  ·rw [wsL,wsN];refine ⟨λy hy=>by rw [Z0u] at hy;exact own y hy,B6b _ _ _ λe2 h3 h4=> ?_⟩;rw [wsL,wsN,wsL];refine ⟨λy hy=> ?_,True.intro⟩;rcases Z07.mp hy with hy | hy
   ·exact h3 y (own y hy)
   ·obtain ⟨p,hp,rfl⟩:=C4c hy;exact h4 p hp
 ·unfold A6k;rw [B6j,List.length_zip,A2p,Nat.min_self];unfold A3c;split
  ·simp [dpL,dpN];lia
  ·rw [dpL,dpN,B6j,List.length_zip,A2p,Nat.min_self];simp [dpL,dpN];lia
 ·rw [rows,Z06,A6b,List.length_zip,A2p,Nat.min_self];unfold A3c;split
  ·simp [rwL,rwN];lia
  ·rw [rwL,rwN,A4u,Z06,Z06,A6b,List.length_zip,A2p,Nat.min_self];simp [rwL,rwN];lia
 ·rw [rows];refine A2o.app ?_;unfold A3c;split
  ·rw [rwL,rwN,rwL];exact ⟨[],_,_,_,_,_,_,rfl⟩
  ·rw [rwL,rwN,A4u,rwL,rwN,rwL];exact A2o.app (A2o.app ⟨[],_,_,_,_,_,_,rfl⟩)
theorem B5m {rows:List Rw} (hr:∀e∈rows,(∀n∈e.so,1<=n/\n<=60)/\(∀n∈e.ss,1<=n/\n<=60)/\e.so.length+e.ss.length<=3) (hl:rows.length<=4):∀i,i<=rows.length->B0c (A2h rows i) (frM rows i) 0/\(rwL (-1) (A2h rows i)).length<=5*i
 | 0,_=>⟨⟨by simp [frM],by simp [A2h,nmL],by simp [A2h,nmL],by simp [A2h,rwL],by simp [A2h,rwL,dns],by simp [A2h,wsL],by simp [A2h,dpL],by simp [A2h,rwL],λh=>absurd rfl h⟩,by simp [A2h,rwL]⟩
 | i+1,hi=>by
  obtain ⟨ok,ln⟩:=B5m hr hl i (by lia);have he:rows[i]? =some rows[i]:=Z0b (by lia);obtain ⟨go,gs,l3⟩:=hr _ (Z13 he);have lo:=D3g (k:=i) (fr:=frM rows i) go gs l3;rw [A8g he,B4u he];generalize A6k i rows[i] (frM rows i)=l2 at lo;generalize frM rows i+B9a rows[i]=fr' at lo;have e1:rwL (-1) (A2h rows i++l2)=rwL (-1) (A2h rows i)++rwL (-1) l2:=A2j _ _ _;have n1:nmL (A2h rows i++l2)=nmL (A2h rows i)++nmL l2:=A6n _ _;have f0:=ok.f0;have le:=lo.le;have rl:=lo.rl;refine ⟨⟨by lia,?_,λy hy=> ?_,λz hz=> ?_,λz hz=> ?_,A4z.mpr ⟨ok.ws,lo.ws⟩,?_,?_,λ_=> ?_⟩,?_⟩
  ·rw [n1];exact Z0l.mpr ⟨ok.nd,lo.nd,λa ha b hb e=>by have:=ok.nm a ha;have:=lo.nm b hb;lia⟩
  ·rw [n1] at hy;rcases Z07.mp hy with hy | hy
   ·have:=ok.nm y hy;lia
   ·have:=lo.nm y hy;lia
  ·rw [e1] at hz;exact (Z07.mp hz).elim (ok.ro z) (lo.ro z)
  ·rw [e1,A1x] at hz;rw [n1];rcases Z07.mp hz with hz | hz
   ·obtain ⟨d1,d2,d3⟩:=ok.dn z hz;refine ⟨d1,by lia,λw=>(Z07.mp w).elim d3 λw=> ?_⟩;have:=lo.nm z w;lia
   ·obtain ⟨d1,d2,d3⟩:=lo.dn z hz;refine ⟨by lia,d2,λw=>(Z07.mp w).elim (λw=> ?_) d3⟩;have:=ok.nm z w;lia
  ·rw [B6t];have:=ok.dp;have:=lo.dp
   lia
  ·rw [e1,Z06];lia
  ·rw [e1];exact A2o.app lo.la
  ·rw [e1,Z06];lia
noncomputable def top (i:Nat):Stmt:=PySem.Challenge.pw_arrayloom_k54_rows_of_moves.main.body.getD i (.Pass ⟨0,0,0,0⟩)
abbrev A6l:Stmt:=B4r (top 3) 0
abbrev B6a:Stmt:=top 5
abbrev A6f:Stmt:=top 6
abbrev A5f:Stmt:=top 8
abbrev B1z:Stmt:=top 12
abbrev B3c:Stmt:=top 13
abbrev A9e:Stmt:=top 14
abbrev A6x:Stmt:=top 15
abbrev B0m:Stmt:=top 16
abbrev B0v:Stmt:=top 17
abbrev A5o:Stmt:=top 18
abbrev B6q:Stmt:=top 19
abbrev B2h:Stmt:=top 21
abbrev B9s:Stmt:=top 22
abbrev B2g:Stmt:=top 23
abbrev A6h:Stmt:=top 24
abbrev B0o:Stmt:=top 25
abbrev B1s:Stmt:=top 26
abbrev B5u:Stmt:=top 27
abbrev A6g:Stmt:=top 28
abbrev A7a:Stmt:=top 29
abbrev A4i:Stmt:=top 30
abbrev A7k:Stmt:=top 31
abbrev B1t:Stmt:=top 32
abbrev A8u:Stmt:=B4r (top 34) 0
abbrev A7t:Stmt:=B4r (top 35) 0
abbrev A6c:Stmt:=B4r (top 38) 0
abbrev A8y:Stmt:=top 40
abbrev B2d:Stmt:=top 41
abbrev A8v:Stmt:=top 42
abbrev B1x:Stmt:=top 43
abbrev A6e:Stmt:=top 44
abbrev A9b:Stmt:=top 45
abbrev C0w:Stmt:=top 46
abbrev B0e:Stmt:=top 47
abbrev A6w:Stmt:=top 48
abbrev B6p:Stmt:=top 49
abbrev A8z:Stmt:=top 50
abbrev A7b:Stmt:=top 51
abbrev A7m:Stmt:=top 52
abbrev A9d:Stmt:=top 53
abbrev B0j:Stmt:=top 54
abbrev A8x:Stmt:=top 55
abbrev A9f:Stmt:=top 56
abbrev A5q:Stmt:=top 57
abbrev C9u:Stmt:=top 58
structure TyC (K:PySem.W.Frag) (C:Addr):Prop where
 ha:PySem.W.findIn K (.ref C) "__class__"=some (some (.builtin "object.__class__"))
 hn:PySem.W.specialIn K (.builtin "object.__class__") "__get__"=some (some (.builtin "getset_descriptor.__get__"))
 htk:PySem.W.takesIn K (.builtin "object.__class__")=some true
 hm:PySem.W.mroIn K C (.type "object")=some true
set_option genInjectivity false in
set_option genSizeOf false in
structure Adr where
 fT:Addr
 ae:Addr
 ao:Addr
 af:Addr
 hJ:Addr
 aL:Addr
 aP:Addr
 aO:FuncData
 aA:Addr
 aB:FuncData
 au:Addr
 av:FuncData
 aX:Addr
 aW:FuncData
 dR:Addr
 dN:FuncData
 eh:Addr
 dP:FuncData
 cw:Addr
 ce:FuncData
 bR:Addr
 bV:FuncData
 dg:Addr
 dy:FuncData
 dl:Addr
 dw:FuncData
 bf:Addr
 bg:FuncData
 e_:Addr
 eO:FuncData
 dW:Addr
 dZ:FuncData
 fS:Addr
 fL:FuncData
 bF:Addr
 bC:FuncData
 aF:Addr
 aG:FuncData
 dz:Addr
 dj:FuncData
 dJ:Addr
 dX:FuncData
 eV:Addr
 eZ:FuncData
 bq:Addr
 bw:FuncData
 aM:Addr
 aK:FuncData
 az:Addr
 aw:FuncData
 bN:Addr
 bL:FuncData
 dQ:Addr
 e9:FuncData
 cj:Addr
 cr:FuncData
 bX:Addr
 bW:FuncData
 br:Addr
 bA:FuncData
 cI:Addr
 cJ:FuncData
 cR:Addr
 cL:FuncData
 cH:Addr
 cz:FuncData
 dY:Addr
 dO:FuncData
 bx:Addr
 bz:FuncData
 cG:Addr
 cq:FuncData
 fQ:Addr
 fB:FuncData
 di:Addr
 dq:FuncData
 bS:Addr
 bQ:FuncData
 fg:Addr
 eY:FuncData
 cE:Addr
 cn:FuncData
 bP:Addr
 bJ:FuncData
 bM:Addr
 b_:FuncData
 cK:Addr
 cD:FuncData
 du:Addr
 df:FuncData
 cC:Addr
 cA:FuncData
 c9:Addr
 cy:FuncData
 be:Addr
 ba:FuncData
 gJ:Addr
 gI:FuncData
structure Txt (K:PySem.W.Frag) (mg:Str->Option Value) (t:Adr):Prop where
 de:Fun K "__init__" "NoMove.__init__" A6l t.aP t.aO
 aq:A1p K t.aO ["self","place"] []
 ag:Fun K "copied" "copied" B6a t.aA t.aB
 am:mg "copied"=some (.ref t.aA)
 aj:A1p K t.aB ["value"] []
 aH:Fun K "copied_dict" "copied_dict" A6f t.au t.av
 aR:mg "copied_dict"=some (.ref t.au)
 aQ:A1p K t.av ["value"] []
 aY:Fun K "lengths_along" "lengths_along" A5f t.aX t.aW
 c5:mg "lengths_along"=some (.ref t.aX)
 c6:A1p K t.aW ["axes","lengths"] []
 bE:Fun K "is_loop" "is_loop" B1z t.dR t.dN
 cS:mg "is_loop"=some (.ref t.dR)
 cT:A1p K t.dN ["node"] []
 bD:Fun K "body_of" "body_of" B3c t.eh t.dP
 cO:mg "body_of"=some (.ref t.eh)
 cV:A1p K t.dP ["loop"] []
 aT:Fun K "with_body" "with_body" A9e t.cw t.ce
 bi:mg "with_body"=some (.ref t.cw)
 bn:A1p K t.ce ["loop","body"] []
 dE:Fun K "first_nest" "first_nest" A6x t.bR t.bV
 fK:mg "first_nest"=some (.ref t.bR)
 fN:A1p K t.bV ["cloth"] []
 eR:Fun K "nodes_in" "nodes_in" B0m t.dg t.dy
 gl:mg "nodes_in"=some (.ref t.dg)
 gp:A1p K t.dy ["line"] []
 eW:Fun K "nodes_of" "nodes_of" B0v t.dl t.dw
 gv:mg "nodes_of"=some (.ref t.dl)
 gn:A1p K t.dw ["place","line","lengths","fresh"] []
 a_:Fun K "numbers_from" "numbers_from" A5o t.bf t.bg
 cm:mg "numbers_from"=some (.ref t.bf)
 ci:A1p K t.bg ["fresh","axes"] []
 eQ:Fun K "looped" "looped" B6q t.e_ t.eO
 gg:mg "looped"=some (.ref t.e_)
 gh:A1p K t.eO ["numbers","sizes","inside"] []
 d_:Fun K "planned" "planned" B2h t.dW t.dZ
 fw:mg "planned"=some (.ref t.dW)
 ft:A1p K t.dZ ["cloth","moves"] []
 gw:Fun K "moved" "moved" B9s t.fS t.fL
 gO:mg "moved"=some (.ref t.fS)
 gL:A1p K t.fL ["nest","move"] []
 eg:Fun K "path_to" "path_to" B2g t.bF t.bC
 fz:mg "path_to"=some (.ref t.bF)
 fu:A1p K t.bC ["number","body"] []
 bv:Fun K "moved_along" "moved_along" A6h t.aF t.aG
 cW:mg "moved_along"=some (.ref t.aF)
 cZ:A1p K t.aG ["path","body","move","fresh"] []
 fe:Fun K "moved_at" "moved_at" B0o t.dz t.dj
 gr:mg "moved_at"=some (.ref t.dz)
 gm:A1p K t.dj ["place","body","move","fresh"] []
 fx:Fun K "swapped" "swapped" B1s t.dJ t.dX
 gz:mg "swapped"=some (.ref t.dJ)
 gC:A1p K t.dX ["loop"] []
 fU:Fun K "cut_by" "cut_by" B5u t.eV t.eZ
 gH:mg "cut_by"=some (.ref t.eV)
 gG:A1p K t.eZ ["tile","loop","fresh"] []
 cY:Fun K "joined_with" "joined_with" A6g t.bq t.bw
 fh:mg "joined_with"=some (.ref t.bq)
 fk:A1p K t.bw ["behind","loop"] []
 aZ:Fun K "renumbered" "renumbered" A7a t.aM t.aK
 bK:mg "renumbered"=some (.ref t.aM)
 bU:A1p K t.aK ["body","old","new"] []
 bj:Fun K "renumbered_node" "renumbered_node" A4i t.az t.aw
 dH:mg "renumbered_node"=some (.ref t.az)
 dC:A1p K t.aw ["node","old","new"] []
 bT:Fun K "instead_in" "instead_in" A7k t.bN t.bL
 dF:mg "instead_in"=some (.ref t.bN)
 dI:A1p K t.bL ["numbers","old","new"] []
 dU:Fun K "instead" "instead" B1t t.dQ t.e9
 fv:mg "instead"=some (.ref t.dQ)
 fy:A1p K t.e9 ["number","old","new"] []
 gc:Fun K "__init__" "Line.__init__" A8u t.cj t.cr
 fV:A1p K t.cr ["self","name","axes","sums","term"] []
 fA:Fun K "__init__" "Cloth.__init__" A7t t.bX t.bW
 fG:A1p K t.bW ["self","wheel","lengths","arrays","tables","lines","outs"] []
 fm:Fun K "__init__" "Number.__init__" A6c t.br t.bA
 fj:A1p K t.bA ["self","number"] []
 aJ:Fun K "_law_cell_at" "_law_cell_at" A8y t.cI t.cJ
 aV:mg "_law_cell_at"=some (.ref t.cI)
 aS:A1p K t.cJ ["_law_script","_law_k"] []
 cU:Fun K "_law_whole" "_law_whole" B2d t.cR t.cL
 dL:mg "_law_whole"=some (.ref t.cR)
 dS:A1p K t.cL ["_law_found"] []
 eI:Fun K "_law_rows_of" "_law_rows_of" A8v t.cH t.cz
 ge:mg "_law_rows_of"=some (.ref t.cH)
 gb:A1p K t.cz ["_law_lines","_law_lengths"] []
 bH:Fun K "_law_named" "_law_named" B1x t.dY t.dO
 cP:mg "_law_named"=some (.ref t.dY)
 cQ:A1p K t.dO ["_law_some","_law_old","_law_new"] []
 bu:Fun K "_law_all_named" "_law_all_named" A6e t.bx t.bz
 c_:mg "_law_all_named"=some (.ref t.bx)
 cX:A1p K t.bz ["_law_rows","_law_old","_law_new"] []
 eE:Fun K "_law_swapped" "_law_swapped" A9b t.cG t.cq
 fZ:mg "_law_swapped"=some (.ref t.cG)
 g9:A1p K t.cq ["_law_rows","_law_at"] []
 gy:Fun K "_law_cut" "_law_cut" C0w t.fQ t.fB
 gN:mg "_law_cut"=some (.ref t.fQ)
 gP:A1p K t.fB ["_law_rows","_law_at","_law_width","_law_behind"] []
 eP:Fun K "_law_joined" "_law_joined" B0e t.di t.dq
 gq:mg "_law_joined"=some (.ref t.di)
 gu:A1p K t.dq ["_law_rows","_law_at"] []
 bY:Fun K "_law_width_by" "_law_width_by" A6w t.bS t.bQ
 dA:mg "_law_width_by"=some (.ref t.bS)
 dB:A1p K t.bQ ["_law_cell"] []
 gf:Fun K "_law_made" "_law_made" B6p t.fg t.eY
 gF:mg "_law_made"=some (.ref t.fg)
 gD:A1p K t.eY ["_law_rows","_law_at","_law_cell","_law_behind"] []
 cF:Fun K "_law_move_of" "_law_move_of" A8z t.cE t.cn
 eD:mg "_law_move_of"=some (.ref t.cE)
 eA:A1p K t.cn ["_law_number","_law_cell"] []
 dG:Fun K "_law_bad_move" "_law_bad_move" A7b t.bP t.bJ
 fF:mg "_law_bad_move"=some (.ref t.bP)
 fP:A1p K t.bJ ["_law_rows","_law_cell","_law_behind"] []
 dD:Fun K "_law_lines_by" "_law_lines_by" A7m t.bM t.b_
 fM:mg "_law_lines_by"=some (.ref t.bM)
 fJ:A1p K t.b_ ["_law_cells","_law_axes","_law_lengths"] []
 eC:Fun K "_law_plan_by" "_law_plan_by" A9d t.cK t.cD
 fW:mg "_law_plan_by"=some (.ref t.cK)
 fY:A1p K t.cD ["_law_script","_law_rows"] []
 bc:Fun K "_law_wholes" "_law_wholes" B0j t.du t.df
 bO:mg "_law_wholes"=some (.ref t.du)
 bZ:A1p K t.df ["_law_found"] []
 eJ:Fun K "_law_is_node" "_law_is_node" A8x t.cC t.cA
 gi:mg "_law_is_node"=some (.ref t.cC)
 fX:A1p K t.cA ["_law_node"] []
 eG:Fun K "_law_written" "_law_written" A9f t.c9 t.cy
 f_:mg "_law_written"=some (.ref t.c9)
 gj:A1p K t.cy ["_law_found","_law_most"] []
 cB:Fun K "_law_refused_at" "_law_refused_at" A5q t.be t.ba
 fc:mg "_law_refused_at"=some (.ref t.be)
 eU:A1p K t.ba ["_law_cloth","_law_moves","_law_place"] []
 gY:Fun K "law" "law" C9u t.gJ t.gI
 hV:mg "law"=some (.ref t.gJ)
 hX:A1p K t.gI ["_law_script"] []
 eF:∃u,mg "NO_OUTER"=some u/\A3a (.int (-1)) u
 g6:∃u,mg "NO_WIDTH"=some u/\A3a (.int (0)) u
 aE:mg "NoMove"=some (.ref t.ae)
 aI:MkX K t.ae t.aP
 c8:D1n K t.ae "place"
 c7:D9t K t.ae "place"
 gU:PySem.W.XcIn K t.ae
 gk:PySem.W.kitOne K (.ref t.ae) (.ref t.fT)=some true
 bB:PySem.W.exmOne K (.ref t.ae) (.ref t.ae)=some true
 gS:mg "Line"=some (.ref t.ao)
 gM:mg "Cloth"=some (.ref t.af)
 gE:mg "Number"=some (.ref t.aL)
 aU:Cls K t.af
 gK:Mk K t.af t.bX
 eT:A4b K t.af "wheel"
 bG:A4b K t.af "lengths"
 eK:A4b K t.af "arrays"
 eL:A4b K t.af "tables"
 cx:A4b K t.af "lines"
 fq:A4b K t.af "outs"
 gX:TyC K t.af
 ay:Cls K t.ao
 gQ:Mk K t.ao t.cj
 fE:A4b K t.ao "name"
 aN:A4b K t.ao "axes"
 aC:A4b K t.ao "sums"
 fR:A4b K t.ao "term"
 eN:TyC K t.ao
 fD:PySem.W.mroIn K t.ao (.type "list")=some false
 fo:PySem.W.mroIn K t.ao (.type "tuple")=some false
 fH:PySem.W.mroIn K t.ao (.type "dict")=some false
 gB:Cls K t.aL
 gA:Mk K t.aL t.br
 dM:A4b K t.aL "number"
 gW:TyC K t.aL
 aa:mg "isinstance"=none
 bI:mg "list"=none
 ah:mg "tuple"=none
 fO:mg "dict"=none
 cf:mg "enumerate"=none
 ai:mg "len"=none
 bo:mg "range"=none
 dh:mg "reversed"=none
 gZ:mg "zip"=none
 gT:mg "bool"=none
 gR:mg "int"=none
 hG:mg "min"=none
 g_:mg "max"=none
 gx:mg "str"=none
theorem A8n:A0y ["self","place"] ["self","place"] (A0m A6l):=⟨rfl,rfl,rfl,by decide +kernel,rfl,by decide +kernel,by decide +kernel⟩
theorem A9n:A0y ["value"] ["value"] (A0m B6a):=⟨rfl,rfl,rfl,by decide +kernel,rfl,by decide +kernel,by decide +kernel⟩
theorem A4j:A0y ["value","fresh","key","member"] ["value"] (A0m A6f):=⟨rfl,rfl,rfl,by decide +kernel,rfl,by decide +kernel,by decide +kernel⟩
theorem B1j:A0y ["axes","lengths"] ["axes","lengths"] (A0m A5f):=⟨rfl,rfl,rfl,by decide +kernel,rfl,by decide +kernel,by decide +kernel⟩
theorem C3k:A0y ["node"] ["node"] (A0m B1z):=⟨rfl,rfl,rfl,by decide +kernel,rfl,by decide +kernel,by decide +kernel⟩
theorem A4h:A0y ["loop","kind","number","size","width","outer","body"] ["loop"] (A0m B3c):=⟨rfl,rfl,rfl,by decide +kernel,rfl,by decide +kernel,by decide +kernel⟩
theorem A2y:A0y ["loop","body","kind","number","size","width","outer","former"] ["loop","body"] (A0m A9e):=⟨rfl,rfl,rfl,by decide +kernel,rfl,by decide +kernel,by decide +kernel⟩
theorem A3b:A0y ["cloth","nodes","fresh","place","line"] ["cloth"] (A0m A6x):=⟨rfl,rfl,rfl,by decide +kernel,rfl,by decide +kernel,by decide +kernel⟩
theorem B9t:A0y ["line"] ["line"] (A0m B0m):=⟨rfl,rfl,rfl,by decide +kernel,rfl,by decide +kernel,by decide +kernel⟩
theorem A2x:A0y ["place","line","lengths","fresh","cell","first","inside","turn","add","start"] ["place","line","lengths","fresh"] (A0m B0v):=⟨rfl,rfl,rfl,by decide +kernel,rfl,by decide +kernel,by decide +kernel⟩
theorem B2o:A0y ["fresh","axes"] ["fresh","axes"] (A0m A5o):=⟨rfl,rfl,rfl,by decide +kernel,rfl,by decide +kernel,by decide +kernel⟩
theorem A7o:A0y ["numbers","sizes","inside","body","number","size"] ["numbers","sizes","inside"] (A0m B6q):=⟨rfl,rfl,rfl,by decide +kernel,rfl,by decide +kernel,by decide +kernel⟩
theorem A4w:A0y ["cloth","moves","nest","place","move","refusal"] ["cloth","moves"] (A0m B2h):=⟨rfl,rfl,rfl,by decide +kernel,rfl,by decide +kernel,by decide +kernel⟩
theorem A9q:A0y ["nest","move","fresh","body","path","taken"] ["nest","move"] (A0m B9s):=⟨rfl,rfl,rfl,by decide +kernel,rfl,by decide +kernel,by decide +kernel⟩
theorem A7w:A0y ["number","body","place","node","within"] ["number","body"] (A0m B2g):=⟨rfl,rfl,rfl,by decide +kernel,rfl,by decide +kernel,by decide +kernel⟩
theorem A4k:A0y ["path","body","move","fresh","place","loop","inside"] ["path","body","move","fresh"] (A0m A6h):=⟨rfl,rfl,rfl,by decide +kernel,rfl,by decide +kernel,by decide +kernel⟩
theorem A6m:A0y ["place","body","move","fresh","loop","behind","form"] ["place","body","move","fresh"] (A0m B0o):=⟨rfl,rfl,rfl,by decide +kernel,rfl,by decide +kernel,by decide +kernel⟩
theorem A3p:A0y ["loop","body","kind","number","size","width","outer","inside"] ["loop"] (A0m B1s):=⟨rfl,rfl,rfl,by decide +kernel,rfl,by decide +kernel,by decide +kernel⟩
theorem A3v:A0y ["tile","loop","fresh","kind","number","size","width","outer","body","beginnings","within"] ["tile","loop","fresh"] (A0m B5u):=⟨rfl,rfl,rfl,by decide +kernel,rfl,by decide +kernel,by decide +kernel⟩
theorem A2m:A0y ["behind","loop","kind","number","size","width","outer","body"] ["behind","loop"] (A0m A6g):=⟨rfl,rfl,rfl,by decide +kernel,rfl,by decide +kernel,by decide +kernel⟩
theorem B4p:A0y ["body","old","new"] ["body","old","new"] (A0m A7a):=⟨rfl,rfl,rfl,by decide +kernel,rfl,by decide +kernel,by decide +kernel⟩
theorem A0z:A0y ["node","old","new","kind","number","size","width","outer","body","line","word","cell","turn"] ["node","old","new"] (A0m A4i):=⟨rfl,rfl,rfl,by decide +kernel,rfl,by decide +kernel,by decide +kernel⟩
theorem B5x:A0y ["numbers","old","new"] ["numbers","old","new"] (A0m A7k):=⟨rfl,rfl,rfl,by decide +kernel,rfl,by decide +kernel,by decide +kernel⟩
theorem C3e:A0y ["number","old","new"] ["number","old","new"] (A0m B1t):=⟨rfl,rfl,rfl,by decide +kernel,rfl,by decide +kernel,by decide +kernel⟩
theorem B7t:A0y ["self","name","axes","sums","term"] ["self","name","axes","sums","term"] (A0m A8u):=⟨rfl,rfl,rfl,by decide +kernel,rfl,by decide +kernel,by decide +kernel⟩
theorem B4x:A0y ["self","wheel","lengths","arrays","tables","lines","outs"] ["self","wheel","lengths","arrays","tables","lines","outs"] (A0m A7t):=⟨rfl,rfl,rfl,by decide +kernel,rfl,by decide +kernel,by decide +kernel⟩
theorem B3o:A0y ["self","number"] ["self","number"] (A0m A6c):=⟨rfl,rfl,rfl,by decide +kernel,rfl,by decide +kernel,by decide +kernel⟩
theorem B8f:A0y ["_law_script","_law_k"] ["_law_script","_law_k"] (A0m A8y):=⟨rfl,rfl,rfl,by decide +kernel,rfl,by decide +kernel,by decide +kernel⟩
theorem C2q:A0y ["_law_found"] ["_law_found"] (A0m B2d):=⟨rfl,rfl,rfl,by decide +kernel,rfl,by decide +kernel,by decide +kernel⟩
theorem A1k:A0y ["_law_lines","_law_lengths","_law_rows","_law_k","_law_own","_law_sums","_law_about","_law_cell","_law_name","_law_word","_law_turn"] ["_law_lines","_law_lengths"] (A0m A8v):=⟨rfl,rfl,rfl,by decide +kernel,rfl,by decide +kernel,by decide +kernel⟩
theorem A8b:A0y ["_law_some","_law_old","_law_new","_law_made_here","_law_number"] ["_law_some","_law_old","_law_new"] (A0m B1x):=⟨rfl,rfl,rfl,by decide +kernel,rfl,by decide +kernel,by decide +kernel⟩
theorem A4n:A0y ["_law_rows","_law_old","_law_new","_law_made_here","_law_row","_law_about"] ["_law_rows","_law_old","_law_new"] (A0m A6e):=⟨rfl,rfl,rfl,by decide +kernel,rfl,by decide +kernel,by decide +kernel⟩
theorem A3s:A0y ["_law_rows","_law_at","_law_row","_law_inside","_law_inner","_law_due"] ["_law_rows","_law_at"] (A0m A9b):=⟨rfl,rfl,rfl,by decide +kernel,rfl,by decide +kernel,by decide +kernel⟩
theorem B6c:A0y ["_law_rows","_law_at","_law_width","_law_behind","_law_size","_law_due"] ["_law_rows","_law_at","_law_width","_law_behind"] (A0m C0w):=⟨rfl,rfl,rfl,by decide +kernel,rfl,by decide +kernel,by decide +kernel⟩
theorem B3l:A0y ["_law_rows","_law_at","_law_k"] ["_law_rows","_law_at"] (A0m B0e):=⟨rfl,rfl,rfl,by decide +kernel,rfl,by decide +kernel,by decide +kernel⟩
theorem B4v:A0y ["_law_cell"] ["_law_cell"] (A0m A6w):=⟨rfl,rfl,rfl,by decide +kernel,rfl,by decide +kernel,by decide +kernel⟩
theorem C6g:A0y ["_law_rows","_law_at","_law_cell","_law_behind"] ["_law_rows","_law_at","_law_cell","_law_behind"] (A0m B6p):=⟨rfl,rfl,rfl,by decide +kernel,rfl,by decide +kernel,by decide +kernel⟩
theorem B7b:A0y ["_law_number","_law_cell"] ["_law_number","_law_cell"] (A0m A8z):=⟨rfl,rfl,rfl,by decide +kernel,rfl,by decide +kernel,by decide +kernel⟩
theorem A9t:A0y ["_law_rows","_law_cell","_law_behind","_law_number"] ["_law_rows","_law_cell","_law_behind"] (A0m A7b):=⟨rfl,rfl,rfl,by decide +kernel,rfl,by decide +kernel,by decide +kernel⟩
theorem A1t:A0y ["_law_cells","_law_axes","_law_lengths","_law_lines","_law_left","_law_cell","_law_rest","_law_sides","_law_worth","_law_axis"] ["_law_cells","_law_axes","_law_lengths"] (A0m A7m):=⟨rfl,rfl,rfl,by decide +kernel,rfl,by decide +kernel,by decide +kernel⟩
theorem A1q:A0y ["_law_script","_law_rows","_law_moves","_law_behind","_law_many","_law_bad","_law_k","_law_cell","_law_step","_law_at","_law_due"] ["_law_script","_law_rows"] (A0m A9d):=⟨rfl,rfl,rfl,by decide +kernel,rfl,by decide +kernel,by decide +kernel⟩
theorem B2a:A0y ["_law_found","_law_number"] ["_law_found"] (A0m B0j):=⟨rfl,rfl,rfl,by decide +kernel,rfl,by decide +kernel,by decide +kernel⟩
theorem B7x:A0y ["_law_node"] ["_law_node"] (A0m A8x):=⟨rfl,rfl,rfl,by decide +kernel,rfl,by decide +kernel,by decide +kernel⟩
theorem A3o:A0y ["_law_found","_law_most","_law_rows","_law_node","_law_waiting","_law_about","_law_other"] ["_law_found","_law_most"] (A0m A9f):=⟨rfl,rfl,rfl,by decide +kernel,rfl,by decide +kernel,by decide +kernel⟩
theorem A7n:A0y ["_law_cloth","_law_moves","_law_place","e"] ["_law_cloth","_law_moves","_law_place"] (A0m A5q):=⟨rfl,rfl,rfl,by decide +kernel,rfl,by decide +kernel,by decide +kernel⟩
theorem A4t:A0y ["_law_script","_law_head","_law_axes","_law_lengths","_law_k","_law_sides","_law_arrays","_law_lines","_law_cloth","_law_moves","_law_due","_law_behind","_law_turn","_law_handed","_law_found"] ["_law_script"] (A0m C9u):=⟨rfl,rfl,rfl,by decide +kernel,rfl,by decide +kernel,by decide +kernel⟩
theorem A4r:(["member"]:List Str).Nodup:=by decide +kernel
theorem C8g:(["axis","lengths"]:List Str).Nodup:=by decide +kernel
theorem C6t:(["node","new","old"]:List Str).Nodup:=by decide +kernel
theorem C4g:(["number","new","old"]:List Str).Nodup:=by decide +kernel
theorem C7g:(["_law_row","_law_at","_law_rows"]:List Str).Nodup:=by decide +kernel
theorem C4l:(["_law_node"]:List Str).Nodup:=by decide +kernel
theorem A1y.none {P:Program} {w:World} {K:PySem.W.Frag} {mg:Str->Option Value} {base:Heap} {CX:CXT} {k:Nat} {f:Addr} {fd:FuncData} {ps:List Str} {sp:Sp} (h:∀vs H Q E,¬sp vs H Q E):A1y P w K mg base CX k f fd ps sp :=
 ⟨λvs H Q E q=>(h vs H Q E q).elim,λ_ _ _ H _ _ vs Q E _ _ _ _ q=>(h vs H Q E q).elim⟩
noncomputable def B3p (xs:List Str):PyData:= .list (xs.map PyData.str)
noncomputable def OkS (xs:List Str):Prop:=∀x∈xs,PyData.strOk x=true
theorem C7d:∀xs:List Str,PyData.depthAll (xs.map PyData.str)=0/\A5z (xs.map PyData.str)=xs.length
 | []=>⟨rfl,rfl⟩
 | x::r=>by
  obtain ⟨h2,h3⟩:=C7d r;refine ⟨?_,?_⟩
  ·simp [PyData.depthAll,PyData.depth,h2]
  ·simp [A5z,cnt,h3];lia
theorem C1v:∀{xs:List Str},OkS xs->PyData.canLayAll0 (xs.map PyData.str)=true
 | [],_=>rfl
 | x::r,h=>by
  have h1:=C1v (xs:=r) λy hy=>h y (.tail _ hy);simp [PyData.canLayAll0,PyData.canLay0,h1,h x (.head _)]
theorem A9a (xs:List Str):(B3p xs).depth<=1/\cnt (B3p xs)<=1+xs.length:=by
 obtain ⟨h2,h3⟩:=C7d xs;refine ⟨?_,?_⟩
 ·simp [B3p,PyData.depth,h2]
 ·simp only [B3p,cnt,h3];lia
theorem C0z {xs:List Str} (h:OkS xs):(B3p xs).canLay0=true:=by simp [B3p,PyData.canLay0,C1v h]
theorem A7h {d:PyData} (h:d.canLay0=true) (hd:d.depth<=60):SeqAt.shaped d=true:=by
 unfold SeqAt.shaped;rw [h,Bool.true_and];exact Z20 (by lia)
theorem B7m {H:Hp}:∀{ys:List Str} {xs:List V},A3u H xs (ys.map PyData.str)->xs=ys.map V.str
 | [],_,r=>by cases r;rfl
 | y::ys,_,r=>by
  rw [Z0p] at r
  cases r with
  | cons a r =>
   cases a
   rw [Z0p,B7m r]
theorem C6m {H:Hp} {v:V} {ys:List Str} (h:Rep H v (B3p ys)):∃p,v= .ref p/\H p=some (.lst (ys.map V.str)):=by
 obtain ⟨p,xs,rfl,e,r⟩:=D3t (show Rep H v (.list (ys.map PyData.str)) from h);rw [B7m r] at e;exact ⟨p,rfl,e⟩
theorem B6u {H:Hp} {p:Addr} {ys:List Str} (e:H p=some (.lst (ys.map V.str))):Rep H (.ref p) (B3p ys):= .lst e (A3u.strs ys)
theorem B1k {α β:Type} {F:α->β->Prop}:∀{l:List α} {m:List β},Paired F l m->∀{i:Nat} {x:α},l[i]? =some x->∃y,m[i]? =some y/\F x y
 | _,_,.nil,i,x,e=>by simp at e
 | _,_,.cons r t,0,x,e=>by simp at e;subst e;exact ⟨_,rfl,r⟩
 | _,_,.cons r t,i+1,x,e=>by
  obtain ⟨y,e1,e2⟩:=B1k t (i:=i) (by simpa using e);exact ⟨y,by simpa using e1,e2⟩
theorem B1g {α β:Type} {F:α->β->Prop}:∀{a c:List α} {b d:List β},Paired F a b->Paired F c d->Paired F (a++c) (b++d)
 | _,_,_,_,.nil,h=>h
 | _,_,_,_,.cons r t,h=> .cons r (B1g t h)
theorem A4f {α:Type} {f:α->V} {xs:List α} {i:Nat} {v:V} (h:(xs.map f)[i]? =some v):∃x,xs[i]? =some x/\v=f x:=by
 rw [Z1z] at h
 cases e:xs[i]? with
 | none=>rw [e] at h;cases h
 | some x=>rw [e] at h;exact ⟨x,rfl,(Z1a h).symm⟩
noncomputable def KT (H H':Hp):Prop:=∀p xs,H p=some (.tup xs)->H' p=some (.tup xs)
theorem KT.same {H H':Hp} (s:A0o H H'):KT H H':=λp xs e=>s _ _ e
theorem KT.at {H:Hp} {l:Addr} {u o:HO} (e:H l=some u) (n:∀xs,u≠.tup xs):KT H (upd H l o):=λp xs z=>by rw [A0l (A7s z e (n xs).symm)];exact z
theorem KT.trans {H H' H2:Hp} (a:KT H H') (b:KT H' H2):KT H H2:=λp xs e=>b _ _ (a _ _ e)
noncomputable def A9r (A:Adr) (M:List Addr) (H:Hp) (v:V) (e:Rw):Prop:=∃(a dx c u:Addr) (n:V) (x:Str),v= .ref a/\H a=some (.ins A.ao dx [("name",.str x),("axes",.ref c),("sums",.ref u),("term",n)])/\c∉M/\H c=some (.lst (e.own.map V.str))/\u∉M/\H u=some (.lst (e.sums.map V.str))
abbrev B2e (A:Adr) (M:List Addr) (H:Hp) (xs:List V) (rows:List Rw):Prop:=Paired (A9r A M H) xs rows
theorem A9r.imp {A:Adr} {M M':List Addr} {H H':Hp} {v:V} {e:Rw} (h:A9r A M H v e) (f:∀a C dx fs,H a=some (.ins C dx fs)->H' a=some (.ins C dx fs)) (g:∀c xs,c∉M->H c=some (.lst xs)->c∉M'/\H' c=some (.lst xs)):A9r A M' H' v e:=by
 obtain ⟨a,dx,c,u,n,x,rfl,e1,m1,e2,m2,e3⟩:=h;exact ⟨a,dx,c,u,n,x,rfl,f _ _ _ _ e1,(g _ _ m1 e2).1,(g _ _ m1 e2).2,(g _ _ m2 e3).1,(g _ _ m2 e3).2⟩
theorem A9r.same {A:Adr} {M:List Addr} {H H':Hp} {v:V} {e:Rw} (h:A9r A M H v e) (s:A0o H H'):A9r A M H' v e:=h.imp (λ_ _ _ _ z=>s _ _ z) λ_ _ y z=>⟨y,s _ _ z⟩
abbrev Sz (lk:List (Key×V)) (ys:List Str) (ls:List Int):Prop:=Paired (λ(y:Str) (n:Int)=>B0z lk (Sum.inr y)=some (.int n)) ys ls
noncomputable def Tot (lk:List (Key×V)) (rows:List Rw):Prop:=∀e∈rows,D9d e/\Sz lk e.own e.so/\Sz lk e.sums e.ss/\OkS e.own/\OkS e.sums
local macro_rules | `(tactic| walk_at "lk") => `(tactic| first | with_reducible exact lk0 | (refine lk1 (by decide +kernel) ?_; walk_at "lk") | rfl)
noncomputable def C8p (K:PySem.W.Frag) (f:Str):Sp:=λvs H Q _=>∃(p C dx:Addr) (v:V),vs=[.ref p,v]/\H p=some (.ins C dx [])/\Cls K C/\A4b K C f/\Q .non (upd H p (.ins C dx [(f,v)]))
noncomputable def C5q (n:Nat):Sp:=λvs H Q _=>∃(v:V) (d:PyData),vs=[v]/\Rep H v d/\PyData.depth d<=n/\cnt d<=100000/\∀(v':V) (H':Hp),A0o H H'->Rep (A5k (λa=>H a=none) H') v' d->Q v' H'
noncomputable def D7b (A:Adr):Sp:=λvs H Q _=>∃(a dx:Addr) (fs:List (Str×V)),vs=[.ref a]/\H a=some (.ins A.ao dx fs)/\Q (.ref a) H
noncomputable def D1h (A:Adr):Sp:=λvs H Q _=>∃(p:Addr) (xs:List V),vs=[.ref p]/\H p=some (.lst xs)/\xs.length<=1000/\(∀x∈xs,∃a dx fs,x= .ref a/\H a=some (.ins A.ao dx fs))/\∀(D:Addr) (H':Hp),H D=none->A0o H H'->H' D=some (.lst xs)->Q (.ref D) H'
noncomputable def D3e:Sp:=λvs H Q _=>∃(d:Addr) (kvs:List (Key×V)) (ds:List PyData),vs=[.ref d]/\H d=some (.dK kvs)/\kvs.length<=100000/\Paired (λ(a:Key×V) (x:PyData)=>Rep H a.2 x/\PyData.depth x<=1/\cnt x<=100000) kvs ds/\
 ∀(p:Addr) (kvs':List (Key×V)) (H':Hp),H p=none->A0o H H'->H' p=some (.dK kvs')->kvs'.map (·.1)=kvs.map (·.1)->Paired (λ(b:Key×V) (x:PyData)=>Rep (A5k (λa=>H a=none) H') b.2 x) kvs' ds->Q (.ref p) H'
section
variable {P:Program} {w:World} {K:PySem.W.Frag} {mg:Str->Option Value} {base:Heap} {t:Adr}
theorem B3w (T:Txt K mg t):A1y P w K mg base CX0 1 t.br t.bA ["self","number"] (C8p K "number"):=by
 refine T.fm.ok B3o (λvs H Q E h=> ?_) (λcdv A outer s H vs Q E hr h=> ?_)
 ·obtain ⟨p,C,dx,v,rfl,_⟩:=h;rfl
 ·obtain ⟨p,C,dx,v,rfl,hp,cl,na,k⟩:=h;exact ⟨_,(A0g (A7i (pv 0) (pv 1) rfl)),_,rfl,_,rfl,p,C,dx,[],rfl,hp,cl,na,(by decide),k⟩
theorem A5d {T:String} (h:T="NoneType"\/T="bool"\/T="int"\/T="str"\/T="tuple"):∀u,A3a (.ty "list") u->PySem.W.kitOne K (.type T) u=some false:=by
 rcases h with rfl | rfl | rfl | rfl | rfl <;> exact B4c (by decide +kernel) (by decide +kernel) (by decide +kernel)
theorem A5m {T:String} (h:T="NoneType"\/T="bool"\/T="int"\/T="str"):∀u,A3a (.ty "tuple") u->PySem.W.kitOne K (.type T) u=some false:=by
 rcases h with rfl | rfl | rfl | rfl <;> exact B4c (by decide +kernel) (by decide +kernel) (by decide +kernel)
theorem A6i {T:String} (h:T="NoneType"\/T="bool"\/T="int"\/T="str"):∀u,A3a (.ty "dict") u->PySem.W.kitOne K (.type T) u=some false:=by
 rcases h with rfl | rfl | rfl | rfl <;> exact B4c (by decide +kernel) (by decide +kernel) (by decide +kernel)
theorem C2b (T:Txt K mg t) {m n:Nat} {sp':Sp} (G_copied:A1y P w K mg base CX0 m t.aA t.aB ["value"] sp')
  (hs:∀(v:V) (d:PyData) (H:Hp) (Q:VK),Rep H v d->PyData.depth d+1<=n->cnt d<=100000->(∀(v':V) (H':Hp),A0o H H'->Rep (A5k (λa=>H a=none) H') v' d->Q v' H')->sp' [v] H Q E0) :
  A1y P w K mg base CX0 (m+1) t.aA t.aB ["value"] (C5q n):=by
 refine T.ag.ok A9n (λvs H Q E h=> ?_) (λcdv A outer s H vs Q E hr h=> ?_)
 ·obtain ⟨v,d,rfl,_⟩:=h;rfl
 ·obtain ⟨v,d,rfl,rp,hd,hc,k⟩:=h;have G_copied_dict:A1y P w K mg base CX0 0 t.au t.av ["value"] (λ_ _ _ _=>False):=A1y.none λ_ _ _ _ h=>h
  refine ⟨_,(A0e (A1m (A2q (A0q A1d (by rfl) T.aa Z0d (A0a (pv 0) (A0a (A2l (v:=V.ty "list") rfl T.bI Z1o rfl) A0c))))
    (A0g (A0r (A5b (N':=["member"]) (ix:=(List.replicate 1 none)) rfl (A4a rfl (by decide +kernel) (by decide +kernel)) (A3x rfl) (B1c (pv 0)) (λ_ _ _ _=>(A0k (i:=0) A4r rfl (Or.inl rfl) (Or.inr rfl))) (λ_ _ _ _=>(A0j G_copied (hr.mono (by lia)) rfl T.am T.ag.kp T.aj .nil A1a (A0a (pv 0) A0c))))))
    A0u)
   (A0e (A1m (A2q (A0q A1d (by rfl) T.aa Z0d (A0a (pv 0) (A0a (A2l (v:=V.ty "tuple") rfl T.ah Z0m rfl) A0c))))
    (A0g (A0r (A1u A1s (by rfl) T.ah Z0m (A0a (A5b (N':=["member"]) (ix:=(List.replicate 1 none)) rfl (A4a rfl (by decide +kernel) (by decide +kernel)) (A3x rfl) (B1c (pv 0)) (λ_ _ _ _=>(A0k (i:=0) A4r rfl (Or.inl rfl) (Or.inr rfl))) (λ_ _ _ _=>(A0j G_copied (hr.mono (by lia)) rfl T.am T.ag.kp T.aj .nil A1a (A0a (pv 0) A0c)))) A0c))))
    A0u)
   (A0e (A1m (A2q (A0q A1d (by rfl) T.aa Z0d (A0a (pv 0) (A0a (A2l (v:=V.ty "dict") rfl T.fO PyProof.Rows.boot_dict rfl) A0c))))
    (A0g (A0r (A0j G_copied_dict (hr.mono (by lia)) rfl T.aR T.aH.kp T.aQ .nil A1a (A0a (pv 0) A0c))))
    A0u)
   (A0g (A0r (pv 0)))))),?_⟩
  cases rp with
  | non =>
   refine ⟨_,rfl,_,_,_,_,rfl,.non,A5d (.inl rfl),false,rfl,A6q ?_⟩;refine ⟨_,rfl,_,_,_,_,rfl,.non,A5m (.inl rfl),false,rfl,A6q ?_⟩;exact ⟨_,rfl,_,_,_,_,rfl,.non,A6i (.inl rfl),false,rfl,A6q ⟨_,rfl,k _ _ (A0o.refl _) .non⟩⟩
  | bl b =>
   refine ⟨_,rfl,_,_,_,_,rfl,.bl b,A5d (.inr (.inl rfl)),false,rfl,A6q ?_⟩;refine ⟨_,rfl,_,_,_,_,rfl,.bl b,A5m (.inr (.inl rfl)),false,rfl,A6q ?_⟩;exact ⟨_,rfl,_,_,_,_,rfl,.bl b,A6i (.inr (.inl rfl)),false,rfl,A6q ⟨_,rfl,k _ _ (A0o.refl _) (.bl b)⟩⟩
  | int b =>
   refine ⟨_,rfl,_,_,_,_,rfl,.int b,A5d (.inr (.inr (.inl rfl))),false,rfl,A6q ?_⟩;refine ⟨_,rfl,_,_,_,_,rfl,.int b,A5m (.inr (.inr (.inl rfl))),false,rfl,A6q ?_⟩;exact ⟨_,rfl,_,_,_,_,rfl,.int b,A6i (.inr (.inr (.inl rfl))),false,rfl,A6q ⟨_,rfl,k _ _ (A0o.refl _) (.int b)⟩⟩
  | str b =>
   refine ⟨_,rfl,_,_,_,_,rfl,.str b,A5d (.inr (.inr (.inr (.inl rfl)))),false,rfl,A6q ?_⟩;refine ⟨_,rfl,_,_,_,_,rfl,.str b,A5m (.inr (.inr (.inr rfl))),false,rfl,A6q ?_⟩;exact ⟨_,rfl,_,_,_,_,rfl,.str b,A6i (.inr (.inr (.inr rfl))),false,rfl,A6q ⟨_,rfl,k _ _ (A0o.refl _) (.str b)⟩⟩
  | @lst p xs ds e r =>
   have hl1:=r.len;have hl2:=B9e ds;have hc':A5z ds+1<=100000:=hc;have hd':PyData.depthAll ds+1<=n:=hd;refine ⟨_,rfl,_,_,_,_,rfl,.lst e,A2w "list",true,rfl,C7b ?_⟩;refine .inl ⟨_,rfl,p,rfl,⟨_,SqL.of e⟩,λD hD=> ?_⟩
   refine B0p (K:=K) (a:=p) (D:=D) (xs:=xs) (λi ys H2=>A0o H H2/\H2 D=some (.lst ys)/\A3u (A5k (λa=>H a=none/\a≠D) H2) ys (ds.take i)/\ys.length=i)
    ⟨A0d hD,A0b,(by rw [List.take_zero];exact .nil),rfl⟩ (λi ys H2 ⟨s2,_⟩=>SqL.of (s2 _ _ e)) ?_ ?_
   ·rintro i x ys H2 hx ⟨s2,hD2,rs,hyl⟩;obtain ⟨d,hdi,rx⟩:=r.get2 hx;obtain ⟨c1,c2⟩:=C7a hdi;have hi:i<xs.length:=(Z03.mp hx).1;refine ⟨True.intro,_,rfl,hs x d H2 _ (rx.same s2) (by lia) (by lia) λv' H5 s5 rp5=> ?_⟩;have hnS:¬(H D=none/\D≠D):=λz=>z.2 rfl;refine ⟨s5 _ _ hD2,A1o (by lia),A0s (s2.trans s5) hD,A0b,?_,by simp [hyl]⟩;rw [Z14,hdi];show A3u _ (ys++[v']) (ds.take i++[d]);refine (rs.same (A5a (A7x s5) hnS)).snoc (rp5.same ((A5y (A0o.refl _) λa o _ ha=>⟨s2.free ha,λz=> ?_⟩).trans (A5a (A0o.refl _) hnS)));subst z;rw [hD2] at ha;cases ha
   ·rintro ys H2 ⟨s2,hD2,rs,hyl⟩;refine k (.ref D) H2 s2 (.lst (A9m hD hD2) ?_);rw [hl1,Z18] at rs;exact rs.same (A5y (A0o.refl _) λa o _ h=>h.1)
  | @tup p xs ds e r =>
   have hl1:=r.len;have hl2:=B9e ds;have hc':A5z ds+1<=100000:=hc;have hd':PyData.depthAll ds+1<=n:=hd;refine ⟨_,rfl,_,_,_,_,rfl,.tup e,A5d (.inr (.inr (.inr (.inr rfl)))),false,rfl,A6q ?_⟩;refine ⟨_,rfl,_,_,_,_,rfl,.tup e,A2w "tuple",true,rfl,C7b ?_⟩;refine .inr ⟨_,rfl,p,rfl,⟨_,SqT.of e⟩,λD hD=> ?_⟩
   refine B3h (K:=K) (a:=p) (D:=D) (xs:=xs) (λi ys H2=>A0o H H2/\H2 D=some (.lst ys)/\A3u (A5k (λa=>H a=none/\a≠D) H2) ys (ds.take i)/\ys.length=i)
    ⟨A0d hD,A0b,(by rw [List.take_zero];exact .nil),rfl⟩ (λi ys H2 ⟨s2,_⟩=>SqT.of (s2 _ _ e)) ?_ ?_
   ·rintro i x ys H2 hx ⟨s2,hD2,rs,hyl⟩;obtain ⟨d,hdi,rx⟩:=r.get2 hx;obtain ⟨c1,c2⟩:=C7a hdi;have hi:i<xs.length:=(Z03.mp hx).1;refine ⟨True.intro,_,rfl,hs x d H2 _ (rx.same s2) (by lia) (by lia) λv' H5 s5 rp5=> ?_⟩;have hnS:¬(H D=none/\D≠D):=λz=>z.2 rfl;refine ⟨s5 _ _ hD2,A1o (by lia),A0s (s2.trans s5) hD,A0b,?_,by simp [hyl]⟩;rw [Z14,hdi];show A3u _ (ys++[v']) (ds.take i++[d]);refine (rs.same (A5a (A7x s5) hnS)).snoc (rp5.same ((A5y (A0o.refl _) λa o _ ha=>⟨s2.free ha,λz=> ?_⟩).trans (A5a (A0o.refl _) hnS)));subst z;rw [hD2] at ha;cases ha
   ·rintro ys H2 ⟨s2,hD2,rs,hyl⟩;refine ⟨D,ys,rfl,.inl ⟨SqL.of hD2,λl hl=> ?_⟩⟩;refine k (.ref l) _ (s2.trans (A0d hl)) (.tup (A9m (s2.free hl) A0b) ?_);rw [hl1,Z18] at rs;exact rs.same ((A5y (A0o.refl _) λa o _ h=>h.1).trans (A7x (A0d hl)))
theorem B2t (T:Txt K mg t):∀n:Nat,A1y P w K mg base CX0 (n+1) t.aA t.aB ["value"] (C5q n)
 | 0=>C2b T (sp':=λ_ _ _ _=>False) (m:=0) (A1y.none λ_ _ _ _ h=>h) λv d H Q _ h=>absurd h (by lia)
 | n+1=>C2b T (B2t T n) λv d H Q rp hd hc k=>⟨v,d,rfl,rp,by lia,hc,k⟩
theorem D4p (T:Txt K mg t):A1y P w K mg base CX0 1 t.aA t.aB ["value"] (D7b t):=by
 refine T.ag.ok A9n (λvs H Q E h=> ?_) (λcdv A outer s H vs Q E hr h=> ?_)
 ·obtain ⟨a,dx,fs,rfl,_⟩:=h;rfl
 ·obtain ⟨a,dx,fs,rfl,e,k⟩:=h;have G_copied:A1y P w K mg base CX0 0 t.aA t.aB ["value"] (λ_ _ _ _=>False):=A1y.none λ_ _ _ _ h=>h;have ty:B8z K H (.ref a) (.ref t.ao):= .ins e T.ay T.eN.ha T.eN.hn T.eN.htk T.eN.hm;have G_copied_dict:A1y P w K mg base CX0 0 t.au t.av ["value"] (λ_ _ _ _=>False):=A1y.none λ_ _ _ _ h=>h
  refine ⟨_,(A0e (A1m (A2q (A0q A1d (by rfl) T.aa Z0d (A0a (pv 0) (A0a (A2l (v:=V.ty "list") rfl T.bI Z1o rfl) A0c))))
    (A0g (A0r (A5b (N':=["member"]) (ix:=(List.replicate 1 none)) rfl (A4a rfl (by decide +kernel) (by decide +kernel)) (A3x rfl) (B1c (pv 0)) (λ_ _ _ _=>(A0k (i:=0) A4r rfl (Or.inl rfl) (Or.inr rfl))) (λ_ _ _ _=>(A0j G_copied (hr.mono (by lia)) rfl T.am T.ag.kp T.aj .nil A1a (A0a (pv 0) A0c))))))
    A0u)
   (A0e (A1m (A2q (A0q A1d (by rfl) T.aa Z0d (A0a (pv 0) (A0a (A2l (v:=V.ty "tuple") rfl T.ah Z0m rfl) A0c))))
    (A0g (A0r (A1u A1s (by rfl) T.ah Z0m (A0a (A5b (N':=["member"]) (ix:=(List.replicate 1 none)) rfl (A4a rfl (by decide +kernel) (by decide +kernel)) (A3x rfl) (B1c (pv 0)) (λ_ _ _ _=>(A0k (i:=0) A4r rfl (Or.inl rfl) (Or.inr rfl))) (λ_ _ _ _=>(A0j G_copied (hr.mono (by lia)) rfl T.am T.ag.kp T.aj .nil A1a (A0a (pv 0) A0c)))) A0c))))
    A0u)
   (A0e (A1m (A2q (A0q A1d (by rfl) T.aa Z0d (A0a (pv 0) (A0a (A2l (v:=V.ty "dict") rfl T.fO PyProof.Rows.boot_dict rfl) A0c))))
    (A0g (A0r (A0j G_copied_dict (hr.mono (by lia)) rfl T.aR T.aH.kp T.aQ .nil A1a (A0a (pv 0) A0c))))
    A0u)
   (A0g (A0r (pv 0)))))),?_⟩
  refine ⟨_,rfl,_,_,_,_,rfl,ty,C4i T.fD (by decide +kernel),false,rfl,A6q ?_⟩;refine ⟨_,rfl,_,_,_,_,rfl,ty,C4i T.fo (by decide +kernel),false,rfl,A6q ?_⟩;exact ⟨_,rfl,_,_,_,_,rfl,ty,C4i T.fH (by decide +kernel),false,rfl,A6q ⟨_,rfl,k⟩⟩
theorem D4e (T:Txt K mg t):A1y P w K mg base CX0 2 t.aA t.aB ["value"] (D1h t):=by
 have G_copied:=D4p (P:=P) (w:=w) (base:=base) T;refine T.ag.ok A9n (λvs H Q E h=> ?_) (λcdv A outer s H vs Q E hr h=> ?_)
 ·obtain ⟨p,xs,rfl,_⟩:=h;rfl
 ·obtain ⟨p,xs,rfl,e,hl,hx,k⟩:=h;have G_copied_dict:A1y P w K mg base CX0 0 t.au t.av ["value"] (λ_ _ _ _=>False):=A1y.none λ_ _ _ _ h=>h
  refine ⟨_,(A0e (A1m (A2q (A0q A1d (by rfl) T.aa Z0d (A0a (pv 0) (A0a (A2l (v:=V.ty "list") rfl T.bI Z1o rfl) A0c))))
    (A0g (A0r (A5b (N':=["member"]) (ix:=(List.replicate 1 none)) rfl (A4a rfl (by decide +kernel) (by decide +kernel)) (A3x rfl) (B1c (pv 0)) (λ_ _ _ _=>(A0k (i:=0) A4r rfl (Or.inl rfl) (Or.inr rfl))) (λ_ _ _ _=>(A0j G_copied (hr.mono (by lia)) rfl T.am T.ag.kp T.aj .nil A1a (A0a (pv 0) A0c))))))
    A0u)
   (A0e (A1m (A2q (A0q A1d (by rfl) T.aa Z0d (A0a (pv 0) (A0a (A2l (v:=V.ty "tuple") rfl T.ah Z0m rfl) A0c))))
    (A0g (A0r (A1u A1s (by rfl) T.ah Z0m (A0a (A5b (N':=["member"]) (ix:=(List.replicate 1 none)) rfl (A4a rfl (by decide +kernel) (by decide +kernel)) (A3x rfl) (B1c (pv 0)) (λ_ _ _ _=>(A0k (i:=0) A4r rfl (Or.inl rfl) (Or.inr rfl))) (λ_ _ _ _=>(A0j G_copied (hr.mono (by lia)) rfl T.am T.ag.kp T.aj .nil A1a (A0a (pv 0) A0c)))) A0c))))
    A0u)
   (A0e (A1m (A2q (A0q A1d (by rfl) T.aa Z0d (A0a (pv 0) (A0a (A2l (v:=V.ty "dict") rfl T.fO PyProof.Rows.boot_dict rfl) A0c))))
    (A0g (A0r (A0j G_copied_dict (hr.mono (by lia)) rfl T.aR T.aH.kp T.aQ .nil A1a (A0a (pv 0) A0c))))
    A0u)
   (A0g (A0r (pv 0)))))),?_⟩
  refine ⟨_,rfl,_,_,_,_,rfl,.lst e,A2w "list",true,rfl,C7b ?_⟩;refine .inl ⟨_,rfl,p,rfl,⟨_,SqL.of e⟩,λD hD=> ?_⟩
  refine B0p (K:=K) (a:=p) (D:=D) (xs:=xs) (λi ys H2=>A0o H H2/\H2 D=some (.lst ys)/\ys=xs.take i)
   ⟨A0d hD,A0b,rfl⟩ (λi ys H2 ⟨s2,_⟩=>SqL.of (s2 _ _ e)) ?_ ?_
  ·rintro i x ys H2 hxi ⟨s2,hD2,rfl⟩;obtain ⟨a,dx,fs,rfl,ea⟩:=hx x (Z13 hxi);have hlt:(xs.take i).length<=xs.length:=by rw [Z0x];lia
   refine ⟨True.intro,_,rfl,a,dx,fs,rfl,s2 _ _ ea,hD2,A1o (by lia),A0s s2 hD,A0b,?_⟩;rw [Z14,hxi];rfl
  ·rintro ys H2 ⟨s2,hD2,rfl⟩;rw [Z18] at hD2;exact k D H2 hD s2 hD2
theorem B3y (T:Txt K mg t):A1y P w K mg base CX0 3 t.au t.av ["value"] D3e:=by
 have G_copied:=B2t (P:=P) (w:=w) (base:=base) T 1;refine T.aH.ok A4j (λvs H Q E h=> ?_) (λcdv A outer s H vs Q E hr h=> ?_)
 ·obtain ⟨d,kvs,ds,rfl,_⟩:=h;rfl
 ·obtain ⟨d,kvs,ds,rfl,hd,hl,src,k⟩:=h;have hu:=C6u hr
  refine ⟨_,(D0a (A0e (A0x (i:=1) A4j.nd rfl (Or.inl rfl) C1w)
   (A0e (A3m PassesOwn.never rfl (D0t (D1l PySem.F.plainAttrs_dict PySem.F.slot_dict_items PySem.F.type_dict_items C8u (pv 0))) (A4y (n:=2) rfl (A0n (A0k (i:=2) A4j.nd rfl (Or.inl rfl) (Or.inl rfl)) (A0n (A0k (i:=3) A4j.nd rfl (Or.inl rfl) (Or.inl rfl)) A3e)))
    (A0g (B5v hu (pv 1) (pv 2) (A0j G_copied (hr.mono (by lia)) rfl T.am T.ag.kp T.aj .nil A1a (A0a (pv 3) A0c)) rfl)))
   (C5z (A0g (A0r (pv 1))))))),?_⟩
  intro ap;have nd:=ap.1 d kvs hd;refine λp hp=> ?_;have dp:d≠p:=A0t hd hp;have hd1:upd H p (.dK []) d=some (.dK kvs):=by rw [A0l dp];exact hd
  refine ⟨_,rfl,.inr (.inr (.inl ⟨rfl,.inl ⟨_,hd1⟩⟩)),d,_,rfl,rfl,hd1,.inl ⟨_,rfl⟩,λvw hvw=> ?_⟩;have vp:p≠vw:=A0t A0b hvw;have dv:d≠vw:=A0t hd1 hvw;refine ⟨vw,d,_,rfl,A0b,(by rw [A0l dv];exact hd1),.inl ⟨kvs,rfl,λo=> ?_⟩⟩;have hv0:H vw=none:=by rw [A0l vp.symm] at hvw;exact hvw
  have g0:A0o (upd H d (.frz o (.dK kvs))) (upd (upd (upd H p (.dK [])) vw (C2u vw d)) d (.frz o (.dK kvs))):=λb v e=>by
   by_cases hb:b=d
   ·subst hb;rw [A0b] at e⊢;exact e
   ·rw [A0l hb] at e⊢;rw [A0l (A0t e hv0),A0l (A0t e hp)];exact e
  have hpG:upd H d (.frz o (.dK kvs)) p=none:=by rw [A0l dp.symm];exact hp
  have nd0:∀b,upd H d (.frz o (.dK kvs)) b=none->H b=none:=λb e=>by
   by_cases hb:b=d
   ·subst hb;rw [A0b] at e;cases e
   ·rw [A0l hb] at e;exact e
  refine C5x (L:=kvs.map λq=>(kV q.1,q.2)) (λi σ H4=>∃(o2 o3:Option V) (ws:List (Key×V)),σ=[some (.ref d),some (.ref p),o2,o3]/\A0o (upd H d (.frz o (.dK kvs))) H4/\H4 p=some (.dK ws)/\ws.map (·.1)=(kvs.take i).map (·.1)/\Paired (λ(b:Key×V) (x:PyData)=>Rep (A5k (λa=>H a=none/\a≠p) H4) b.2 x) ws (ds.take i))
   ⟨none,none,[],rfl,g0,(by rw [A0l dp.symm,A0l vp,A0b]),rfl,.nil⟩ (λi σ H4 ⟨_,_,_,_,s4,_⟩=>s4 _ _ A0b) ?_ ?_
  ·rintro i kx vx q σ H4 hx hq ⟨o2,o3,ws,rfl,s4,h4,ks,cp⟩;rw [Z1z] at hx;obtain ⟨⟨k',v⟩,hk,e⟩:=Z0i.mp hx;cases e;obtain ⟨x,hxd,rv,dv1,cv1⟩:=B1k src hk;have sq:A0o H4 (upd H4 q (.tup [kV k',v])):=A0d hq;have rv4:Rep (upd H4 q (.tup [kV k',v])) v x:=(rv.imp2 (λb ys z=>s4 _ _ (by rw [A0l (A7s z hd (by intro w;cases w))];exact z)) λb ys z=>s4 _ _ (by rw [A0l (A7s z hd (by intro w;cases w))];exact z)).same sq;refine ⟨q,_,rfl,SqT.of A0b,rfl,_,_,rfl,_,_,rfl,rfl,_,rfl,v,x,rfl,rv4,dv1,cv1,λv' H6 s6 r6=> ?_⟩;have h6:=s6 _ _ (sq _ _ h4);have lw:ws.length=(kvs.take i).length:=by have:=congrArg List.length ks;simpa using this
   have lt2:(kvs.take i).length<=kvs.length:=by rw [Z0x];lia
   refine ⟨_,rfl,_,rfl,p,_,rfl,D1t.k (k:=k') h6 (A1o (by lia)),?_⟩;have hnS:¬(H p=none/\p≠p):=λz=>z.2 rfl;refine ⟨_,_,_,rfl,A0s (s4.trans (sq.trans s6)) hpG,A0b,?_,?_⟩
   ·rw [C1h nd hk ws ks v',Z14,hk,Z0s,Z0s,ks];rfl
   ·rw [C1h nd hk ws ks v',Z14,hxd];refine B1g (Paired.mapP cp λ_ _ z=>z.same (A5a (A7x (sq.trans s6)) hnS)) (.cons (r6.same ((A5y (A0o.refl _) λa ob ea ha=>⟨?_,λz=> ?_⟩).trans (A5a (A0o.refl _) hnS))) .nil)
    ·exact nd0 a (s4.free (sq.free ha))
    ·subst z;rw [sq _ _ h4] at ha;cases ha
  ·rintro σ H4 ⟨o2,o3,ws,rfl,s4,h4,ks,cp⟩;have ld:=Paired.length src;rw [Z08,Z18] at ks;rw [Z08,ld,Z18] at cp;have hd4:H4 d=some (.frz o (.dK kvs)):=s4 _ _ A0b;refine ⟨d,o,_,hd4,.inl ⟨_,rfl⟩,(λo' u' z=>by have z:H d=some (.frz o' u'):=z;rw [hd] at z;cases z),_,rfl,?_⟩;have hnd:¬(H d=none/\d≠p):=λz=>by rw [hd] at z;cases z.1
   exact k p ws _ hp (C4v hd s4) (by rw [A0l dp.symm];exact h4) ks (Paired.mapP cp λ_ _ z=>z.same ((A5a (A0o.refl _) hnd).trans (A5y (A0o.refl _) λa ob _ h=>h.1)))
theorem D3k (T:Txt K mg t):A1y P w K mg base CX0 4 t.aA t.aB ["value"] D3e:=by
 have G_copied_dict:=B3y (P:=P) (w:=w) (base:=base) T;have G_copied:A1y P w K mg base CX0 0 t.aA t.aB ["value"] (λ_ _ _ _=>False):=A1y.none λ_ _ _ _ h=>h;refine T.ag.ok A9n (λvs H Q E h=> ?_) (λcdv A outer s H vs Q E hr h=> ?_)
 ·obtain ⟨d,kvs,ds,rfl,_⟩:=h;rfl
 ·have h0:=h;obtain ⟨d,kvs,ds,rfl,hd,_⟩:=h
  refine ⟨_,(A0e (A1m (A2q (A0q A1d (by rfl) T.aa Z0d (A0a (pv 0) (A0a (A2l (v:=V.ty "list") rfl T.bI Z1o rfl) A0c))))
    (A0g (A0r (A5b (N':=["member"]) (ix:=(List.replicate 1 none)) rfl (A4a rfl (by decide +kernel) (by decide +kernel)) (A3x rfl) (B1c (pv 0)) (λ_ _ _ _=>(A0k (i:=0) A4r rfl (Or.inl rfl) (Or.inr rfl))) (λ_ _ _ _=>(A0j G_copied (hr.mono (by lia)) rfl T.am T.ag.kp T.aj .nil A1a (A0a (pv 0) A0c))))))
    A0u)
   (A0e (A1m (A2q (A0q A1d (by rfl) T.aa Z0d (A0a (pv 0) (A0a (A2l (v:=V.ty "tuple") rfl T.ah Z0m rfl) A0c))))
    (A0g (A0r (A1u A1s (by rfl) T.ah Z0m (A0a (A5b (N':=["member"]) (ix:=(List.replicate 1 none)) rfl (A4a rfl (by decide +kernel) (by decide +kernel)) (A3x rfl) (B1c (pv 0)) (λ_ _ _ _=>(A0k (i:=0) A4r rfl (Or.inl rfl) (Or.inr rfl))) (λ_ _ _ _=>(A0j G_copied (hr.mono (by lia)) rfl T.am T.ag.kp T.aj .nil A1a (A0a (pv 0) A0c)))) A0c))))
    A0u)
   (A0e (A1m (A2q (A0q A1d (by rfl) T.aa Z0d (A0a (pv 0) (A0a (A2l (v:=V.ty "dict") rfl T.fO PyProof.Rows.boot_dict rfl) A0c))))
    (A0g (A0r (A0j G_copied_dict (hr.mono (by lia)) rfl T.aR T.aH.kp T.aQ .nil A1a (A0a (pv 0) A0c))))
    A0u)
   (A0g (A0r (pv 0)))))),?_⟩
  refine ⟨_,rfl,_,_,_,_,rfl,.dK hd,B4c (by decide +kernel) (by decide +kernel) (by decide +kernel),false,rfl,A6q ?_⟩;refine ⟨_,rfl,_,_,_,_,rfl,.dK hd,B4c (by decide +kernel) (by decide +kernel) (by decide +kernel),false,rfl,A6q ?_⟩;exact ⟨_,rfl,_,_,_,_,rfl,.dK hd,A2w "dict",true,rfl,C7b ⟨_,rfl,h0⟩⟩
noncomputable def D5c (A:Adr):Sp:=λvs H Q E=>(C5q 1 vs H Q E\/D1h A vs H Q E)\/D3e vs H Q E
theorem D1g (T:Txt K mg t):A1y P w K mg base CX0 4 t.aA t.aB ["value"] (D5c t):=A1y.or (A1y.or ((B2t T 1).mono (by lia)) ((D4e T).mono (by lia))) (D3k T)
end
noncomputable def KB (p:Addr) (H H':Hp):Prop:=∀b o,b≠p->H b=some o->H' b=some o
theorem KB.upd {p:Addr} {H H':Hp} {o:HO} (k:KB p H H'):KB p H (upd H' p o):=λb u hb e=>by rw [A0l hb];exact k b u hb e
theorem KB.refl {p:Addr} {H:Hp}:KB p H H:=λ_ _ _ e=>e
theorem KB.trans {p:Addr} {H H' H2:Hp} (a:KB p H H') (b:KB p H' H2):KB p H H2:=λc o hc e=>b c o hc (a c o hc e)
theorem KB.of {p:Addr} {H H':Hp} (s:A0o H H'):KB p H H':=λb o _ e=>s _ _ e
theorem KB.free {p b:Addr} {H H':Hp} {u:HO} (k:KB p H H') (hp:H' p=some u) (hb:H' b=none):H b=none:=by
 cases e:H b with
 | none=>rfl
 | some o =>
  have hne:b≠p:=λz=>by subst z;rw [hp] at hb;cases hb
  rw [k b o hne e] at hb;cases hb
theorem KB.same {p:Addr} {H H2 H':Hp} (s:A0o H H2) (k:KB p H2 H') (hp:H p=none):A0o H H':=λb o e=>k b o (A0t e hp) (s _ _ e)
abbrev AR (S:Addr->Prop) (H:Hp) (kvs:List (Key×V)) (es:List (Str×List Str)):Prop:=Paired (λ(p:Key×V) (e:Str×List Str)=>p.1=Sum.inr e.1/\∃b,p.2= .ref b/\S b/\H b=some (.lst (e.2.map V.str))) kvs es
theorem AR.imp {S S':Addr->Prop} {H H':Hp} {kvs:List (Key×V)} {es:List (Str×List Str)} (h:AR S H kvs es) (f:∀b xs,S b->H b=some (.lst xs)->S' b/\H' b=some (.lst xs)):AR S' H' kvs es :=
 Paired.mapP h λ_ _ ⟨z1,b,z2,z3,z4⟩=>⟨z1,b,z2,(f b _ z3 z4).1,(f b _ z3 z4).2⟩
theorem AR.same {S:Addr->Prop} {H H':Hp} {kvs:List (Key×V)} {es:List (Str×List Str)} (h:AR S H kvs es) (s:A0o H H'):AR S H' kvs es:=h.imp λb xs z e=>⟨z,s _ _ e⟩
theorem AR.src {S:Addr->Prop} {H:Hp}:∀{kvs:List (Key×V)} {es:List (Str×List Str)},AR S H kvs es->(∀e∈es,e.2.length<=100)->Paired (λ(a:Key×V) (x:PyData)=>Rep H a.2 x/\PyData.depth x<=1/\cnt x<=100000) kvs (es.map λe=>B3p e.2)
 | _,_,.nil,_=> .nil
 | _,_,@Paired.cons _ _ _ p e _ _ ⟨_,b,z2,_,z4⟩ t,h=>by
  obtain ⟨c2,c3⟩:=A9a e.2;have:=h e (.head _);exact .cons ⟨by rw [z2];exact B6u z4,c2,(by show cnt (B3p e.2)<=100000;lia)⟩ (AR.src t λx hx=>h x (.tail _ hx))
theorem D7e {S S':Addr->Prop} {H H':Hp}:∀{kvs kvs':List (Key×V)} {es:List (Str×List Str)},AR S H kvs es->kvs'.map (·.1)=kvs.map (·.1)->Paired (λ(b:Key×V) (x:PyData)=>Rep (A5k S' H') b.2 x) kvs' (es.map λe=>B3p e.2)->AR S' H' kvs' es
 | _,[],_,.nil,_,_=> .nil
 | _,_::_,_,.nil,ks,_=>by cases ks
 | _,[],_,.cons _ _,ks,_=>by cases ks
 | _,q::r,_,@Paired.cons _ _ _ p e _ _ ⟨z1,_⟩ t,ks,pr=>by
  rw [Z0p,Z0p] at ks;injection ks with k1 k2;rw [Z0p] at pr
  cases pr with
  | cons a pr =>
   obtain ⟨b,e1,e2⟩:=C6m a;exact .cons ⟨k1.trans z1,b,e1,(A2g e2).1,(A2g e2).2⟩ (D7e t k2 pr)
abbrev C9n (kvs:List (Key×V)) (is:List Int):Prop:=Paired (λ(p:Key×V) (i:Int)=>p.2= .int i) kvs is
theorem C1b {H:Hp}:∀{kvs:List (Key×V)} {is:List Int},C9n kvs is->Paired (λ(a:Key×V) (x:PyData)=>Rep H a.2 x/\PyData.depth x<=1/\cnt x<=100000) kvs (is.map PyData.int)
 | _,_,.nil=> .nil
 | _,_,.cons a t=> .cons ⟨by rw [a];exact .int _,by simp [PyData.depth],by simp [cnt]⟩ (C1b t)
theorem C5d {S:Addr->Prop} {H:Hp}:∀{kvs kvs':List (Key×V)} {is:List Int},C9n kvs is->kvs'.map (·.1)=kvs.map (·.1)->Paired (λ(b:Key×V) (x:PyData)=>Rep (A5k S H) b.2 x) kvs' (is.map PyData.int)->kvs'=kvs
 | _,[],_,.nil,_,_=>rfl
 | _,_::_,_,.nil,ks,_=>by cases ks
 | _,[],_,.cons _ _,ks,_=>by cases ks
 | _,q::r,_,@Paired.cons _ _ _ p i _ _ a t,ks,pr=>by
  rw [Z0p,Z0p] at ks;injection ks with k1 k2;rw [Z0p] at pr
  cases pr with
  | cons b pr =>
   rw [C5d t k2 pr];have hb:=D3v b;have:q=p:=Prod.ext k1 (hb.trans a.symm);rw [this]
noncomputable def C4z (A:Adr):Sp:=λvs H Q _=>∃(p dx l m:Addr) (n:V) (x:Str) (ys zs:List Str),vs=[.ref p,.str x,.ref l,.ref m,n]/\H p=some (.ins A.ao dx [])/\H l=some (.lst (ys.map V.str))/\H m=some (.lst (zs.map V.str))/\ys.length<=1000/\zs.length<=1000/\
 ∀(c u:Addr) (H':Hp),H c=none->H u=none->H' p=some (.ins A.ao dx [("name",.str x),("axes",.ref c),("sums",.ref u),("term",n)])->H' c=some (.lst (ys.map V.str))->H' u=some (.lst (zs.map V.str))->KB p H H'->Q .non H'
abbrev clo (A:Adr) (dx:Addr) (wh:Int) (l a tb ln o:Addr):HO:= .ins A.af dx [("wheel",.int wh),("lengths",.ref l),("arrays",.ref a),("tables",.ref tb),("lines",.ref ln),("outs",.ref o)]
noncomputable def D0b (A:Adr):Sp:=λvs H Q _=>∃(p dx ld ad tl lv ol:Addr) (wh:Int) (lk ak:List (Key×V)) (is:List Int) (es:List (Str×List Str)) (tb os:List Str) (xs:List V) (S:Addr->Prop),vs=[.ref p,.int wh,.ref ld,.ref ad,.ref tl,.ref lv,.ref ol]/\H p=some (.ins A.af dx [])/\
 H ld=some (.dK lk)/\C9n lk is/\lk.length<=1000/\H ad=some (.dK ak)/\AR S H ak es/\es.length<=1000/\(∀e∈es,e.2.length<=100)/\H tl=some (.lst (tb.map V.str))/\tb.length<=1000/\H lv=some (.lst xs)/\xs.length<=1000/\(∀x∈xs,∃a dx fs,x= .ref a/\a≠p/\H a=some (.ins A.ao dx fs))/\H ol=some (.lst (os.map V.str))/\os.length<=1000/\
 ∀(l' a' t' v' o':Addr) (ak':List (Key×V)) (H':Hp),H' p=some (clo A dx wh l' a' t' v' o')->H l'=none->H' l'=some (.dK lk)->H a'=none->H' a'=some (.dK ak')->AR (λb=>H b=none) H' ak' es->H t'=none->H' t'=some (.lst (tb.map V.str))->H v'=none->H' v'=some (.lst xs)->H o'=none->H' o'=some (.lst (os.map V.str))->KB p H H'->Q .non H'
noncomputable def D8d:Sp:=λvs H Q _=>∃(l d:Addr) (ys:List Str) (lk:List (Key×V)) (ls:List Int),vs=[.ref l,.ref d]/\H l=some (.lst (ys.map V.str))/\H d=some (.dK lk)/\Sz lk ys ls/\ys.length<=1000/\∀(q:Addr) (H':Hp),H q=none->A0o H H'->H' q=some (.lst (ls.map V.int))->Q (.ref q) H'
section
variable {P:Program} {w:World} {K:PySem.W.Frag} {mg:Str->Option Value} {base:Heap} {t:Adr}
theorem B6x (T:Txt K mg t):A1y P w K mg base CX0 5 t.cj t.cr ["self","name","axes","sums","term"] (C4z t):=by
 have G_copied:=D1g (P:=P) (w:=w) (base:=base) T;refine T.gc.ok B7t (λvs H Q E h=> ?_) (λcdv A outer s H vs Q E hr h=> ?_)
 ·obtain ⟨p,dx,l,m,n,x,ys,zs,rfl,_⟩:=h;rfl
 ·obtain ⟨p,dx,l,m,n,x,ys,zs,rfl,hp,hl,hm,ly,lz,k⟩:=h;obtain ⟨c2,c3⟩:=A9a ys;obtain ⟨d2,d3⟩:=A9a zs;have lp:l≠p:=A7s hl hp (by intro z;cases z);have mp:m≠p:=A7s hm hp (by intro z;cases z);have e1:∀v:V,B0d "axes" v [("name",.str x)]=([("name",.str x),("axes",v)]:List (Str×V)):=λv=>by rw [A2k (by decide +kernel),A4o]
  have e2:∀u v:V,B0d "sums" v [("name",.str x),("axes",u)]=([("name",.str x),("axes",u),("sums",v)]:List (Str×V)):=λu v=>by rw [A2k (by decide +kernel),A2k (by decide +kernel),A4o]
  have e3:∀u1 u v:V,B0d "term" v [("name",.str x),("axes",u1),("sums",u)]=([("name",.str x),("axes",u1),("sums",u),("term",v)]:List (Str×V)):=λu1 u v=>by rw [A2k (by decide +kernel),A2k (by decide +kernel),A2k (by decide +kernel),A4o]
  refine ⟨_,(A0e (A7i (pv 0) (pv 1) rfl)
   (A0e (A7i (pv 0) (A0j G_copied (hr.mono (by lia)) rfl T.am T.ag.kp T.aj .nil A1a (A0a (pv 2) A0c)) rfl)
   (A0e (A7i (pv 0) (A0j G_copied (hr.mono (by lia)) rfl T.am T.ag.kp T.aj .nil A1a (A0a (pv 3) A0c)) rfl)
   (A0g (A7i (pv 0) (pv 4) rfl))))),_,rfl,_,rfl,p,_,dx,[],rfl,hp,T.ay,T.fE,(by decide),?_⟩
  rw [A4o];have k1:KB p H (upd H p (.ins t.ao dx [("name",.str x)])):=KB.refl.upd;refine ⟨_,rfl,.inl (.inl ⟨.ref l,B3p ys,rfl,B6u (k1 _ _ lp hl),by lia,by lia,λv' H2 s2 rp2=> ?_⟩)⟩;have hp2:=s2 _ _ (A0b (H:=H) (a:=p));obtain ⟨c,rfl,ec⟩:=C6m rp2;obtain ⟨hc1,ec⟩:=A2g ec;have hcn:H c=none:=k1.free A0b hc1;have cp:c≠p:=λz=>by subst z;rw [hp] at hcn;cases hcn
  refine ⟨_,rfl,p,_,dx,_,rfl,hp2,T.ay,T.aN,(by show 1<1000;decide),?_⟩;rw [e1];have k2:KB p H (upd H2 p (.ins t.ao dx [("name",.str x),("axes",.ref c)])):=(k1.trans (KB.of s2)).upd;refine ⟨_,rfl,.inl (.inl ⟨.ref m,B3p zs,rfl,B6u (k2 _ _ mp hm),by lia,by lia,λv'' H3 s3 rp3=> ?_⟩)⟩;have hp3:=s3 _ _ (A0b (H:=H2) (a:=p));obtain ⟨u,rfl,eu⟩:=C6m rp3;obtain ⟨hu1,eu⟩:=A2g eu;have hun:H u=none:=k2.free A0b hu1;have up:u≠p:=λz=>by subst z;rw [hp] at hun;cases hun
  refine ⟨_,rfl,p,_,dx,_,rfl,hp3,T.ay,T.aC,(by show 2<1000;decide),?_⟩;rw [e2];refine ⟨_,rfl,_,rfl,p,_,dx,_,rfl,A0b,T.ay,T.fR,(by show 3<1000;decide),?_⟩;show Q V.non (upd (upd H3 p _) p _);rw [B5g,e3];exact k c u _ hcn hun A0b (by rw [A0l cp];exact s3 _ _ (by rw [A0l cp];exact ec)) (by rw [A0l up];exact eu) (k2.trans (KB.of s3)).upd
theorem B5t (T:Txt K mg t):A1y P w K mg base CX0 5 t.bX t.bW ["self","wheel","lengths","arrays","tables","lines","outs"] (D0b t):=by
 have G_copied:=D1g (P:=P) (w:=w) (base:=base) T;refine T.fA.ok B4x (λvs H Q E h=> ?_) (λcdv A outer s H vs Q E hr h=> ?_)
 ·obtain ⟨p,dx,ld,ad,tl,lv,ol,wh,lk,ak,is,es,tb,os,xs,S,rfl,_⟩:=h;rfl
 ·obtain ⟨p,dx,ld,ad,tl,lv,ol,wh,lk,ak,is,es,tb,os,xs,S,rfl,hp,hld,il,ll,had,ar,les,les2,htl,ltb,hlv,lxs,hxs,hol,los,k⟩:=h;have f1:∀v:V,B0d "lengths" v [("wheel",.int wh)]=([("wheel",.int wh),("lengths",v)]:List (Str×V)):=λv=>by rw [A2k (by decide +kernel),A4o]
  have f2:∀u v:V,B0d "arrays" v [("wheel",.int wh),("lengths",u)]=([("wheel",.int wh),("lengths",u),("arrays",v)]:List (Str×V)):=λu v=>by rw [A2k (by decide +kernel),A2k (by decide +kernel),A4o]
  have f3:∀u1 u v:V,B0d "tables" v [("wheel",.int wh),("lengths",u1),("arrays",u)]=([("wheel",.int wh),("lengths",u1),("arrays",u),("tables",v)]:List (Str×V)):=λu1 u v=>by rw [A2k (by decide +kernel),A2k (by decide +kernel),A2k (by decide +kernel),A4o]
  have f4:∀u1 u2 u v:V,B0d "lines" v [("wheel",.int wh),("lengths",u1),("arrays",u2),("tables",u)]=([("wheel",.int wh),("lengths",u1),("arrays",u2),("tables",u),("lines",v)]:List (Str×V)):=λu1 u2 u v=>by rw [A2k (by decide +kernel),A2k (by decide +kernel),A2k (by decide +kernel),A2k (by decide +kernel),A4o]
  have f5:∀u1 u2 u3 u v:V,B0d "outs" v [("wheel",.int wh),("lengths",u1),("arrays",u2),("tables",u3),("lines",u)]=([("wheel",.int wh),("lengths",u1),("arrays",u2),("tables",u3),("lines",u),("outs",v)]:List (Str×V)):=λu1 u2 u3 u v=>by rw [A2k (by decide +kernel),A2k (by decide +kernel),A2k (by decide +kernel),A2k (by decide +kernel),A2k (by decide +kernel),A4o]
  have np:∀{b:Addr} {u:HO},H b=some u->(∀C d fs,u≠.ins C d fs)->b≠p:=λe n z=>by subst z;rw [hp] at e;cases e;exact n _ _ _ rfl
  have nn:∀{b:Addr},H b=none->b≠p:=λe z=>by subst z;rw [hp] at e;cases e
  refine ⟨_,(A0e (A7i (pv 0) (pv 1) rfl)
   (A0e (A7i (pv 0) (A0j G_copied (hr.mono (by lia)) rfl T.am T.ag.kp T.aj .nil A1a (A0a (pv 2) A0c)) rfl)
   (A0e (A7i (pv 0) (A0j G_copied (hr.mono (by lia)) rfl T.am T.ag.kp T.aj .nil A1a (A0a (pv 3) A0c)) rfl)
   (A0e (A7i (pv 0) (A0j G_copied (hr.mono (by lia)) rfl T.am T.ag.kp T.aj .nil A1a (A0a (pv 4) A0c)) rfl)
   (A0e (A7i (pv 0) (A0j G_copied (hr.mono (by lia)) rfl T.am T.ag.kp T.aj .nil A1a (A0a (pv 5) A0c)) rfl)
   (A0g (A7i (pv 0) (A0j G_copied (hr.mono (by lia)) rfl T.am T.ag.kp T.aj .nil A1a (A0a (pv 6) A0c)) rfl))))))),_,rfl,_,rfl,p,_,dx,[],rfl,hp,T.aU,T.eT,(by decide),?_⟩
  rw [A4o];obtain ⟨G0,hG0⟩:∃G0,G0=upd H p (.ins t.af dx [("wheel",.int wh)]):=⟨_,rfl⟩;rw [<-hG0];have p0:G0 p=some (.ins t.af dx [("wheel",.int wh)]):=by rw [hG0];exact A0b
  have k0:KB p H G0:=by rw [hG0];exact KB.refl.upd
  refine ⟨_,rfl,.inr ⟨ld,lk,is.map PyData.int,rfl,k0 _ _ (np hld (by intros;intro z;cases z)) hld,by lia,C1b il,λl' lk' H1 hl' s1 h1 ks cp=> ?_⟩⟩;have ek:=C5d il ks cp;subst ek;have nl:H l'=none:=k0.free p0 hl';refine ⟨_,rfl,p,_,dx,_,rfl,s1 _ _ p0,T.aU,T.bG,(by show 1<1000;decide),?_⟩;rw [f1];obtain ⟨G1,hG1⟩:∃G1,G1=upd H1 p (.ins t.af dx [("wheel",.int wh),("lengths",.ref l')]):=⟨_,rfl⟩;rw [<-hG1];have p1:G1 p=some (.ins t.af dx [("wheel",.int wh),("lengths",.ref l')]):=by rw [hG1];exact A0b
  have k1:KB p H G1:=by rw [hG1];exact (k0.trans (KB.of s1)).upd
  have gl1:G1 l'=some (.dK lk'):=by rw [hG1,A0l (nn nl)];exact h1
  have ar1:AR (λb=>S b) G1 ak es:=ar.imp λb ys z e=>⟨z,k1 _ _ (np e (by intros;intro z;cases z)) e⟩;refine ⟨_,rfl,.inr ⟨ad,ak,_,rfl,k1 _ _ (np had (by intros;intro z;cases z)) had,by have:=Paired.length ar;lia,ar1.src les2,λa' ak' H2 ha' s2 h2 ks2 cp2=> ?_⟩⟩;have arc:=D7e ar1 ks2 cp2;have na:H a'=none:=k1.free p1 ha';refine ⟨_,rfl,p,_,dx,_,rfl,s2 _ _ p1,T.aU,T.eK,(by show 2<1000;decide),?_⟩;rw [f2];obtain ⟨G2,hG2⟩:∃G2,G2=upd H2 p (.ins t.af dx [("wheel",.int wh),("lengths",.ref l'),("arrays",.ref a')]):=⟨_,rfl⟩;rw [<-hG2];have p2:G2 p=some (.ins t.af dx [("wheel",.int wh),("lengths",.ref l'),("arrays",.ref a')]):=by rw [hG2];exact A0b
  have j2:KB p G1 G2:=by rw [hG2];exact (KB.of s2).upd
  have k2:=k1.trans j2;have ga2:G2 a'=some (.dK ak'):=by rw [hG2,A0l (nn na)];exact h2
  have ar2:AR (λb=>H b=none) G2 ak' es:=arc.imp λb ys z e=>⟨k1.free p1 z,by rw [hG2,A0l (nn (k1.free p1 z))];exact e⟩;obtain ⟨c2,c3⟩:=A9a tb;refine ⟨_,rfl,.inl (.inl ⟨.ref tl,B3p tb,rfl,B6u (k2 _ _ (np htl (by intros;intro z;cases z)) htl),by lia,by lia,λvt H3 s3 rp3=> ?_⟩)⟩;obtain ⟨t',rfl,et⟩:=C6m rp3;obtain ⟨ht1,et⟩:=A2g et;have nt:H t'=none:=k2.free p2 ht1;refine ⟨_,rfl,p,_,dx,_,rfl,s3 _ _ p2,T.aU,T.eL,(by show 3<1000;decide),?_⟩;rw [f3];obtain ⟨G3,hG3⟩:∃G3,G3=upd H3 p (.ins t.af dx [("wheel",.int wh),("lengths",.ref l'),("arrays",.ref a'),("tables",.ref t')]):=⟨_,rfl⟩;rw [<-hG3];have p3:G3 p=some (.ins t.af dx [("wheel",.int wh),("lengths",.ref l'),("arrays",.ref a'),("tables",.ref t')]):=by rw [hG3];exact A0b
  have j3:KB p G2 G3:=by rw [hG3];exact (KB.of s3).upd
  have k3:=k2.trans j3;have gt3:G3 t'=some (.lst (tb.map V.str)):=by rw [hG3,A0l (nn nt)];exact et
  refine ⟨_,rfl,.inl (.inr ⟨lv,xs,rfl,k3 _ _ (np hlv (by intros;intro z;cases z)) hlv,lxs,λx hx=> ?_,λv' H4 hv' s4 hv4=> ?_⟩)⟩
  ·obtain ⟨b,db,fs,rfl,nb,eb⟩:=hxs x hx;exact ⟨b,db,fs,rfl,k3 _ _ nb eb⟩
  have nv:H v'=none:=k3.free p3 hv';refine ⟨_,rfl,p,_,dx,_,rfl,s4 _ _ p3,T.aU,T.cx,(by show 4<1000;decide),?_⟩;rw [f4];obtain ⟨G4,hG4⟩:∃G4,G4=upd H4 p (.ins t.af dx [("wheel",.int wh),("lengths",.ref l'),("arrays",.ref a'),("tables",.ref t'),("lines",.ref v')]):=⟨_,rfl⟩;rw [<-hG4];have p4:G4 p=some (.ins t.af dx [("wheel",.int wh),("lengths",.ref l'),("arrays",.ref a'),("tables",.ref t'),("lines",.ref v')]):=by rw [hG4];exact A0b
  have j4:KB p G3 G4:=by rw [hG4];exact (KB.of s4).upd
  have k4:=k3.trans j4;have gv4:G4 v'=some (.lst xs):=by rw [hG4,A0l (nn nv)];exact hv4
  obtain ⟨o2,o3⟩:=A9a os;refine ⟨_,rfl,.inl (.inl ⟨.ref ol,B3p os,rfl,B6u (k4 _ _ (np hol (by intros;intro z;cases z)) hol),by lia,by lia,λvo H5 s5 rp5=> ?_⟩)⟩;obtain ⟨o',rfl,eo⟩:=C6m rp5;obtain ⟨ho1,eo⟩:=A2g eo;have no:H o'=none:=k4.free p4 ho1;refine ⟨_,rfl,p,_,dx,_,rfl,s5 _ _ p4,T.aU,T.fq,(by show 5<1000;decide),?_⟩;show Q V.non (upd H5 p _);rw [f5];have j5:KB p G4 (upd H5 p (clo t dx wh l' a' t' v' o')):=(KB.of s5).upd;have up:=λ{b:Addr} (hb:H b=none) {u:HO} (e:G4 b=some u)=>j5 _ _ (nn hb) e;exact k l' a' t' v' o' ak' _ A0b nl (up nl (j4 _ _ (nn nl) (j3 _ _ (nn nl) (j2 _ _ (nn nl) gl1)))) na (up na (j4 _ _ (nn na) (j3 _ _ (nn na) ga2))) (ar2.imp λb ys z e=>⟨z,up z (j4 _ _ (nn z) (j3 _ _ (nn z) e))⟩) nt (up nt (j4 _ _ (nn nt) gt3)) nv (up nv gv4) no (by rw [A0l (nn no)];exact eo) (k4.trans j5)
theorem B1h (T:Txt K mg t):A1y P w K mg base CX0 1 t.aX t.aW ["axes","lengths"] D8d:=by
 refine T.aY.ok B1j (λvs H Q E h=> ?_) (λcdv A outer s H vs Q E hr h=> ?_)
 ·obtain ⟨l,d,ys,lk,ls,rfl,_⟩:=h;rfl
 ·obtain ⟨l,d,ys,lk,ls,rfl,hl,hd,sz,ly,k⟩:=h;have hu:=C6u hr;have le:=Paired.length sz;refine ⟨_,(A0g (A0r (A5b (N':=["axis","lengths"]) (ix:=(List.replicate 1 none++[some 1])) rfl (C9z (x:="lengths") rfl rfl rfl (by decide +kernel) (by decide +kernel)) (C6q (N0:=["axis"]) rfl (Or.inl rfl) (by first | exact Or.inl rfl | exact Or.inr rfl | (simp [relabel];rfl) | (with_unfolding_all exact Or.inl rfl) | (with_unfolding_all exact Or.inr rfl) | (with_unfolding_all decide))) (A6a (pv 0)) (λ_ _ _ _=>(A0k (i:=0) C8g rfl (Or.inl rfl) (Or.inr rfl))) (λ_ _ _ _=>(B6o hu (pv 1) (pv 0) (λ_ _=>rfl)))))),?_⟩;refine ⟨_,rfl,l,rfl,⟨_,SqL.of hl⟩,λD hD=> ?_⟩;refine B0p (K:=K) (a:=l) (D:=D) (xs:=ys.map V.str) (λi zs H2=>A0o H H2/\H2 D=some (.lst zs)/\zs=(ls.take i).map V.int) ⟨A0d hD,A0b,rfl⟩ (λi zs H2 ⟨s2,_⟩=>SqL.of (s2 _ _ hl)) ?_ ?_
  ·rintro i x zs H2 hx ⟨s2,hD2,rfl⟩;obtain ⟨y,hy,rfl⟩:=A4f hx;obtain ⟨n,hn,ev⟩:=B1k sz hy;have g:=C8m.k (H:=H2) (a:=d) (k:=Sum.inr y) (s2 _ _ hd);rw [ev] at g;refine ⟨⟨rfl,True.intro⟩,_,rfl,_,rfl,d,_,rfl,g,hD2,A1o (by simp;lia),A0s s2 hD,A0b,?_⟩;rw [Z14,hn,Option.toList_some,Z0s];rfl
  ·rintro zs H2 ⟨s2,hD2,rfl⟩;rw [Z08,le,Z18] at hD2;exact k D H2 hD s2 hD2
end
mutual
noncomputable def A4e (H:Hp):Nd->V->Prop
 | .deed n k w cs us,v=>∃b c u,v= .ref b/\H b=some (.tup [.str "deed",.int n,.int k,.str w,.ref c,.ref u])/\H c=some (.tup (cs.map V.int))/\H u=some (.tup (us.map V.int))
 | .loop n sz wd out bd,v=>∃b p xs,v= .ref b/\H b=some (.tup [.str "loop",.int n,.int sz,.int wd,.int out,.ref p])/\H p=some (.tup xs)/\A1l H bd xs
noncomputable def A1l (H:Hp):List Nd->List V->Prop
 | [],vs=>vs=[]
 | x::r,vs=>∃v vr,vs=v::vr/\A4e H x v/\A1l H r vr
end
theorem A1j {H:Hp}:∀{l:List Nd} {vs:List V},A1l H l vs↔Paired (λv x=>A4e H x v) vs l
 | [],vs=>by
  rw [A1l];constructor
  ·rintro rfl;exact .nil
  ·intro h;cases h;rfl
 | x::r,vs=>by
  rw [A1l];constructor
  ·rintro ⟨v,vr,rfl,h1,h2⟩;exact .cons h1 (A1j.mp h2)
  ·intro h
   cases h with
   | cons a b=>exact ⟨_,_,rfl,a,A1j.mpr b⟩
mutual
theorem A4e.kt {H H':Hp} (k:KT H H'):∀{x:Nd} {v:V},A4e H x v->A4e H' x v
 | .deed n kk w cs us,v,h=>by
  rw [A4e] at h⊢;obtain ⟨b,c,u,e,h1,h2,h3⟩:=h;exact ⟨b,c,u,e,k _ _ h1,k _ _ h2,k _ _ h3⟩
 | .loop n sz wd out bd,v,h=>by
  rw [A4e] at h⊢;obtain ⟨b,p,xs,e,h1,h2,h3⟩:=h;exact ⟨b,p,xs,e,k _ _ h1,k _ _ h2,A1l.kt k h3⟩
theorem A1l.kt {H H':Hp} (k:KT H H'):∀{l:List Nd} {vs:List V},A1l H l vs->A1l H' l vs
 | [],vs,h=>by rw [A1l] at h⊢;exact h
 | x::r,vs,h=>by
  rw [A1l] at h⊢;obtain ⟨v,vr,e,h1,h2⟩:=h;exact ⟨v,vr,e,A4e.kt k h1,A1l.kt k h2⟩
end
theorem A1l.len {H:Hp} {l:List Nd} {vs:List V} (h:A1l H l vs):vs.length=l.length:=Paired.length (A1j.mp h)
mutual
noncomputable def okN:Rd->Nd->Prop
 | _,.deed _ _ _ cs us=>True/\True/\cs.length<=100/\us.length<=100
 | b,.loop _ sz _ _ bd=>True/\1<=sz/\sz<=2^100/\True/\True/\okL b bd/\bd.length<=100
noncomputable def okL:Rd->List Nd->Prop
 | _,[]=>True
 | b,x::r=>okN b x/\okL b r
end
theorem B9x {b:Rd}:∀{l m:List Nd},okL b (l++m)↔okL b l/\okL b m
 | [],m=>by simp [okL]
 | x::r,m=>by rw [Z17,okL,okL,B9x,and_assoc]
theorem C0c {b:Rd}:∀{l:List Nd},okL b l->∀x∈l,okN b x
 | [],_,x,h=>by cases h
 | y::r,h,x,hx=>by
  rw [okL] at h;rcases Z0e.mp hx with e | e
  ·subst e;exact h.1
  ·exact C0c h.2 x e
noncomputable def D6x:Sp:=λvs H Q _=>∃(b:Addr) (x:Str) (xs:List V),vs=[.ref b]/\H b=some (.tup (.str x::xs))/\Q (.bl (decide (V.str x=V.str "loop"))) H
section
variable {P:Program} {w:World} {K:PySem.W.Frag} {mg:Str->Option Value} {base:Heap} {t:Adr}
theorem A8e (T:Txt K mg t):A1y P w K mg base CX0 1 t.dR t.dN ["node"] D6x:=by
 refine T.bE.ok C3k (λvs H Q E h=> ?_) (λcdv A outer s H vs Q E hr h=> ?_)
 ·obtain ⟨b,x,xs,rfl,_⟩:=h;rfl
 ·obtain ⟨b,x,xs,rfl,hb,k⟩:=h;exact ⟨_,(A0g (A0r (B9f A3t (A1b A1e (pv 0) A0f (λ_ _=>rfl)) A1r (A1c _)))),_,rfl,b,_,_,_,rfl,rfl,SqT.of hb,A0i (j:=0) rfl,rfl,k⟩
end
noncomputable def D3p:Sp:=λvs H Q _=>∃(fr:Int) (a:Addr) (xs:List V),vs=[.int fr,.ref a]/\H a=some (.lst xs)/\0<=fr/\fr<=100000/\xs.length<=1000/\∀q,H q=none->Q (.ref q) (upd H q (.tup ((A2f fr xs.length).map V.int)))
noncomputable def C7u:Sp:=λvs H Q _=>∃(nt szl ins:Addr) (ns ls:List Int) (xs:List V) (l:List Nd),vs=[.ref nt,.ref szl,.ref ins]/\H nt=some (.tup (ns.map V.int))/\H szl=some (.lst (ls.map V.int))/\ns.length=ls.length/\H ins=some (.tup xs)/\A1l H l xs/\
 ∀(p:Addr) (xs':List V) (H':Hp),A0o H H'->H' p=some (.tup xs')->A1l H' (A3q (ns.zip ls) l) xs'->Q (.ref p) H'
noncomputable def D5i (A:Adr):Sp:=λvs H Q _=>∃(v:V) (M:List Addr) (e:Rw),vs=[v]/\A9r A M H v e/\e.own.length=e.so.length/\e.sums.length=e.ss.length/\Q (.int (B9a e)) H
noncomputable def D0g (A:Adr):Sp:=λvs H Q _=>∃(k fr:Int) (v:V) (l:Addr) (M:List Addr) (e:Rw) (lk:List (Key×V)),vs=[.int k,v,.ref l,.int fr]/\A9r A M H v e/\D9d e/\Sz lk e.own e.so/\Sz lk e.sums e.ss/\H l=some (.dK lk)/\0<=fr/\fr<=10000/\
 ∀(p:Addr) (xs:List V) (H':Hp),A0o H H'->H' p=some (.tup xs)->A1l H' (A6k k e fr) xs->Q (.ref p) H'
noncomputable def D9j (A:Adr):Sp:=λvs H Q _=>∃(p dx l a tb ln o:Addr) (wh:Int) (lk:List (Key×V)) (xs:List V) (M:List Addr) (rows:List Rw),vs=[.ref p]/\H p=some (clo A dx wh l a tb ln o)/\H l=some (.dK lk)/\H ln=some (.lst xs)/\B2e A M H xs rows/\Tot lk rows/\rows.length<=40/\
 ∀(q tp:Addr) (ns:List V) (H':Hp),A0o H H'->H' q=some (.tup [.int (frM rows rows.length),.ref tp])->H' tp=some (.tup ns)->A1l H' (A2h rows rows.length) ns->Q (.ref q) H'
theorem D0n {ns ls:List Int} {j:Nat} {n z:Int} (h1:ns[j]? =some n) (h2:ls[j]? =some z):(ns.zip ls).drop j=(n,z)::(ns.zip ls).drop (j+1):=by
 have h:(ns.zip ls)[j]? =some (n,z):=by rw [List.getElem?_zip_eq_some];exact ⟨h1,h2⟩
 obtain ⟨hl,he⟩:=Z03.mp h;rw [Z1u hl,he]
section
variable {P:Program} {w:World} {K:PySem.W.Frag} {mg:Str->Option Value} {base:Heap} {t:Adr}
theorem B2s (T:Txt K mg t):A1y P w K mg base CX0 1 t.bf t.bg ["fresh","axes"] D3p:=by
 refine T.a_.ok B2o (λvs H Q E h=> ?_) (λcdv A outer s H vs Q E hr h=> ?_)
 ·obtain ⟨fr,a,xs,rfl,_⟩:=h;rfl
 ·obtain ⟨fr,a,xs,rfl,ha,f0,f1,lx,k⟩:=h;refine ⟨_,(A0g (A0r (B7y rfl (by rfl) T.ah (by rfl) T.bo (A0a (pv 0) (A0a (A0v A2a (pv 0) (A0q A0p (by rfl) T.ai Z0r (A0a (pv 1) A0c))) A0c))))),?_⟩;refine ⟨_,rfl,_,rfl,_,rfl,a,_,rfl,.inl (SqL.of ha),_,_,rfl,rfl,fr,fr+(xs.length:Int),rfl,⟨by lia,by lia,by lia,by lia,by lia⟩,λD hD=> ?_⟩
  have e:((List.range (fr+(xs.length:Int)-fr).toNat).map λ(k:Nat)=>V.int (fr+k))=(A2f fr xs.length).map V.int:=by
   rw [show (fr+(xs.length:Int)-fr).toNat=xs.length by lia];unfold A2f;rw [List.map_map];rfl
  have:=k D hD;rw [<-e] at this;exact this
theorem C4p (T:Txt K mg t):A1y P w K mg base CX0 1 t.e_ t.eO ["numbers","sizes","inside"] C7u:=by
 refine T.eQ.ok A7o (λvs H Q E h=> ?_) (λcdv A outer s H vs Q E hr h=> ?_)
 ·obtain ⟨nt,szl,ins,ns,ls,xs,l,rfl,_⟩:=h;rfl
 ·obtain ⟨nt,szl,ins,ns,ls,xs,l,rfl,hn,hs,hl,hi,nds,k⟩:=h
  refine ⟨_,(A0e (A0x (i:=3) A7o.nd rfl (Or.inl rfl) (pv 2))
   (A0e (A3m PassesOwn.never rfl (D7f rfl T.dh (A0a (C2g rfl (by rfl) T.bI (by rfl) T.gZ (A0a (pv 0) (A0a (pv 1) A0c))) A0c)) (A4y (n:=2) rfl (A0n (A0k (i:=4) A7o.nd rfl (Or.inl rfl) (Or.inl rfl)) (A0n (A0k (i:=5) A7o.nd rfl (Or.inl rfl) (Or.inl rfl)) A3e)))
    (A0g (A0x (i:=3) A7o.nd rfl (Or.inl rfl) (A1i (A0a (A1i (A0a A1r (A0a (pv 4) (A0a (pv 5) (A0a (B6h T.g6 rfl) (A0a (B6h T.eF rfl) (A0a (pv 3) A0c))))))) A0c)))))
   (A0g (A0r (pv 3))))),?_⟩
  refine ⟨_,rfl,_,rfl,_,rfl,nt,szl,_,_,rfl,SqT.of hn,SqL.of hs,by rw [Z08,Z08];exact hl,λD ps G hD s1 hD1 lps pat=>⟨D,_,rfl,SqL.of hD1,?_⟩⟩;rw [Z08] at lps
  refine D3j (K:=K) (a:=D) (xs:=ps.map V.ref) (λi σ G2=>∃(o4 o5:Option V) (p:Addr) (xs':List V),σ=[some (.ref nt),some (.ref szl),some (.ref ins),some (.ref p),o4,o5]/\A0o G G2/\G2 p=some (.tup xs')/\A1l G2 (A3q ((ns.zip ls).drop (ns.length-i)) l) xs')
   ⟨none,none,ins,xs,rfl,A0o.refl _,s1 _ _ hi,?_⟩ (λi σ G2 ⟨_,_,_,_,_,s2,_⟩=>SqL.of (s2 _ _ hD1)) ?_ ?_
  ·rw [Nat.sub_zero,Z24 (by rw [List.length_zip];lia)];exact nds.kt (KT.same s1)
  ·rintro i x σ G2 hlt hx ⟨o4,o5,p,xs',rfl,s2,hp,nd'⟩;rw [Z08,lps] at hlt;rw [Z08,lps] at hx;obtain ⟨q,hq,rfl⟩:=A4f hx;obtain ⟨u,w,hu,hw,eq⟩:=pat _ _ hq;obtain ⟨n,hn',rfl⟩:=A4f hu;obtain ⟨z,hz',rfl⟩:=A4f hw;have e1:ns.length-i=ns.length-1-i+1:=by lia
   have e2:ns.length-(i+1)=ns.length-1-i:=by lia
   refine ⟨q,_,rfl,SqT.of (s2 _ _ eq),rfl,_,_,rfl,_,_,rfl,rfl,?_⟩;refine ⟨_,rfl,_,rfl,_,rfl,A0h (by simp),λq1 hq1=>⟨A0h (by simp),λq2 hq2=> ?_⟩⟩;have t1:A0o G2 (upd G2 q1 (.tup [.str "loop",.int n,.int z,.int 0,.int (-1),.ref p])):=A0d hq1;have t2:A0o (upd G2 q1 (.tup [.str "loop",.int n,.int z,.int 0,.int (-1),.ref p])) (upd (upd G2 q1 (.tup [.str "loop",.int n,.int z,.int 0,.int (-1),.ref p])) q2 (.tup [.ref q1])):=A0d hq2;have t12:=t1.trans t2;refine ⟨_,_,q2,[.ref q1],rfl,s2.trans t12,A0b,?_⟩;rw [e2,D0n hn' hz',A3q,A1l];refine ⟨_,[],rfl,?_,by rw [A1l]⟩;rw [A4e];rw [e1] at nd';exact ⟨q1,p,xs',rfl,t2 _ _ A0b,t12 _ _ hp,nd'.kt (KT.same t12)⟩
  ·rintro σ G2 ⟨o4,o5,p,xs',rfl,s2,hp,nd'⟩;rw [Z08,lps,Nat.sub_self,List.drop_zero] at nd';exact ⟨_,rfl,k p xs' G2 (s1.trans s2) hp nd'⟩
theorem C0d (T:Txt K mg t):A1y P w K mg base CX0 1 t.dg t.dy ["line"] (D5i t):=by
 refine T.eR.ok B9t (λvs H Q E h=> ?_) (λcdv A outer s H vs Q E hr h=> ?_)
 ·obtain ⟨v,M,e,rfl,_⟩:=h;rfl
 ·obtain ⟨v,M,e,rfl,li,lo,ls,k⟩:=h;obtain ⟨al,da,ca,cu,n,nm,rfl,eal,_,eca,_,ecu⟩:=li
  refine ⟨_,(A0e (A1m (A0w A3t (A0q A0p (by rfl) T.ai Z0r (A0a (A6y (pv 0) rfl) A0c)) A0f (A1c _))
    (A0g (A0r (A0v A2a (A0q A0p (by rfl) T.ai Z0r (A0a (A6y (pv 0) rfl) A0c)) A0f)))
    A0u)
   (A0g (A0r (A0v A2a (A0v A2a (A0v A2a (A0q A0p (by rfl) T.ai Z0r (A0a (A6y (pv 0) rfl) A0c)) A0f) (A0q A0p (by rfl) T.ai Z0r (A0a (A6y (pv 0) rfl) A0c))) A0f)))),?_⟩
  refine ⟨_,rfl,al,_,da,_,_,rfl,eal,T.ay,T.aC,(by walk_at "lk"),cu,_,rfl,.inl (SqL.of ecu),rfl,_,rfl,A9h (λh0=> ?_) (λh0=> ?_)⟩
  ·have hz:e.ss=[]:=List.length_eq_zero_iff.mp (by
    have h1:((e.sums.map V.str).length:Int)=0:=by injection h0
    rw [Z08] at h1
    lia)
   refine ⟨_,rfl,al,_,da,_,_,rfl,eal,T.ay,T.aN,(by walk_at "lk"),ca,_,rfl,.inl (SqL.of eca),_,_,rfl,rfl,?_⟩;unfold B9a at k;rw [Z12 hz,show ((e.so.length:Int)+1+((0:Nat):Int))=e.so.length+1 by lia] at k;show Q (.int (((e.own.map V.str).length:Int)+1)) H;rw [Z08,lo];exact k
  ·have hz:e.ss≠[]:=λz=>h0 (by
    show V.int ((e.sums.map V.str).length:Int)=V.int 0;rw [Z08,ls,z]
    rfl)
   refine ⟨_,rfl,al,_,da,_,_,rfl,eal,T.ay,T.aN,(by walk_at "lk"),ca,_,rfl,.inl (SqL.of eca),_,_,rfl,rfl,_,rfl,al,_,da,_,_,rfl,eal,T.ay,T.aC,(by walk_at "lk"),cu,_,rfl,.inl (SqL.of ecu),_,_,rfl,rfl,_,_,rfl,rfl,?_⟩;unfold B9a at k;rw [Z0t hz,show ((e.so.length:Int)+1+((e.ss.length+1:Nat):Int))=e.so.length+1+e.ss.length+1 by lia] at k;show Q (.int (((e.own.map V.str).length:Int)+1+((e.sums.map V.str).length:Int)+1)) H;rw [Z08,Z08,lo,ls];exact k
theorem C0i (T:Txt K mg t):A1y P w K mg base CX0 2 t.dl t.dw ["place","line","lengths","fresh"] (D0g t):=by
 have G_lengths_along:=B1h (P:=P) (w:=w) (base:=base) T;have G_looped:=C4p (P:=P) (w:=w) (base:=base) T;have G_numbers_from:=B2s (P:=P) (w:=w) (base:=base) T;refine T.eW.ok A2x (λvs H Q E h=> ?_) (λcdv A outer s H vs Q E hr h=> ?_)
 ·obtain ⟨k,fr,v,l,M,e,lk,rfl,_⟩:=h;rfl
 ·obtain ⟨k,fr,v,l,M,e,lk,rfl,li,ok,szo,szs,hl,f0,f1,q⟩:=h;obtain ⟨al,da,ca,cu,n,nm,rfl,eal,_,eca,_,ecu⟩:=li;have l1:=ok.lo;have l2:=ok.ls;have l3:=ok.pl;have lo:(e.own.map V.str).length=e.so.length:=by rw [Z08];exact l1
  have lsu:(e.sums.map V.str).length=e.ss.length:=by rw [Z08];exact l2
  refine ⟨_,(A0e (A0x (i:=4) A2x.nd rfl (Or.inl rfl) (A0j G_numbers_from (hr.mono (by lia)) rfl T.cm T.a_.kp T.ci .nil A1a (A0a (pv 3) (A0a (A6y (pv 1) rfl) A0c))))
   (A0e (A0x (i:=5) A2x.nd rfl (Or.inl rfl) (A0v A2a (pv 3) (A0q A0p (by rfl) T.ai Z0r (A0a (pv 4) A0c))))
   (A6j (A1m (A0w A3t (A0q A0p (by rfl) T.ai Z0r (A0a (A6y (pv 1) rfl) A0c)) A0f (A1c _))
    (A0g (A0x (i:=6) A2x.nd rfl (Or.inl rfl) (A1i (A0a (A1i (A0a A1r (A0a (pv 5) (A0a (pv 0) (A0a A1r (A0a (pv 4) (A0a (A1i A0c) A0c))))))) A0c))))
    (A0e (A0x (i:=7) A2x.nd rfl (Or.inl rfl) (A0j G_numbers_from (hr.mono (by lia)) rfl T.cm T.a_.kp T.ci .nil A1a (A0a (A0v A2a (pv 5) A0f) (A0a (A6y (pv 1) rfl) A0c))))
    (A0e (A0x (i:=8) A2x.nd rfl (Or.inl rfl) (A1i (A0a A1r (A0a (A0v A2a (A0v A2a (pv 5) A0f) (A0q A0p (by rfl) T.ai Z0r (A0a (pv 7) A0c))) (A0a (pv 0) (A0a A1r (A0a (pv 4) (A0a (pv 7) A0c))))))))
    (A0e (A0x (i:=9) A2x.nd rfl (Or.inl rfl) (A1i (A0a A1r (A0a (pv 5) (A0a (pv 0) (A0a A1r (A0a (pv 4) (A0a (A1i A0c) A0c))))))))
    (A0g (A0x (i:=6) A2x.nd rfl (Or.inl rfl) (A0v B6g (A1i (A0a (pv 9) A0c)) (A0j G_looped (hr.mono (by lia)) rfl T.gg T.eQ.kp T.gh .nil A1a (A0a (pv 7) (A0a (A0j G_lengths_along (hr.mono (by lia)) rfl T.c5 T.aY.kp T.c6 .nil A1a (A0a (A6y (pv 1) rfl) (A0a (pv 2) A0c))) (A0a (A1i (A0a (pv 8) A0c)) A0c)))))))))))
   (A0g (A0r (A0j G_looped (hr.mono (by lia)) rfl T.gg T.eQ.kp T.gh .nil A1a (A0a (pv 4) (A0a (A0j G_lengths_along (hr.mono (by lia)) rfl T.c5 T.aY.kp T.c6 .nil A1a (A0a (A6y (pv 1) rfl) (A0a (pv 2) A0c))) (A0a (pv 6) A0c))))))))),?_⟩
  refine ⟨_,rfl,_,rfl,al,_,da,_,_,rfl,eal,T.ay,T.aN,(by walk_at "lk"),fr,ca,_,rfl,eca,f0,by lia,by lia,λct hct=> ?_⟩;rw [lo];have s1:A0o H (upd H ct (.tup ((A2f fr e.so.length).map V.int))):=A0d hct;have hc1:upd H ct (.tup ((A2f fr e.so.length).map V.int)) ct=some (.tup ((A2f fr e.so.length).map V.int)):=A0b;generalize upd H ct (.tup ((A2f fr e.so.length).map V.int))=H1 at s1 hc1⊢;refine ⟨_,rfl,_,rfl,ct,_,rfl,.inr (SqT.of hc1),fr,(e.so.length:Int),rfl,(by rw [Z08,A2p]),?_⟩;refine ⟨λσ' G=>∃(ins:Addr) (xs:List V) (o7 o8 o9:Option V),σ'=[some (.int k),some (.ref al),some (.ref l),some (.int fr),some (.ref ct),some (.int (fr+e.so.length)),some (.ref ins),o7,o8,o9]/\A0o H1 G/\G ins=some (.tup xs)/\A1l G (A3c k e fr) xs,?_,?_⟩
  ·refine ⟨_,rfl,al,_,da,_,_,rfl,s1 _ _ eal,T.ay,T.aC,(by walk_at "lk"),cu,_,rfl,.inl (SqL.of (s1 _ _ ecu)),rfl,_,rfl,A9h (λh0=> ?_) (λh0=> ?_)⟩
   ·have hss:e.ss=[]:=List.length_eq_zero_iff.mp (by
     have:((e.sums.map V.str).length:Int)=0:=by injection h0
     lia)
    refine ⟨_,rfl,_,rfl,_,rfl,A0h (by simp),λq0 hq0=>⟨A0h (by simp),λq1 hq1=>⟨A0h (by simp),λq2 hq2=> ?_⟩⟩⟩;have t0:A0o H1 (upd H1 q0 (.tup [])):=A0d hq0;have t1:A0o (upd H1 q0 (.tup [])) (upd (upd H1 q0 (.tup [])) q1 (.tup [.str "deed",.int (fr+e.so.length),.int k,.str "set",.ref ct,.ref q0])):=A0d hq1;have t2:=A0d (o:= .tup [.ref q1]) hq2;have t12:=t1.trans t2;refine ⟨q2,[.ref q1],_,_,_,rfl,t0.trans t12,A0b,?_⟩;unfold A3c;rw [Z12 hss,A1l];refine ⟨_,[],rfl,?_,by rw [A1l]⟩;rw [A4e];exact ⟨q1,ct,q0,rfl,t2 _ _ A0b,t12 _ _ (t0 _ _ hc1),t12 _ _ A0b⟩
   ·have hss:e.ss≠[]:=λz=>h0 (by rw [show (e.sums.map V.str).length=0 by rw [lsu,z];rfl];rfl);refine ⟨_,rfl,_,_,rfl,rfl,_,rfl,al,_,da,_,_,rfl,s1 _ _ eal,T.ay,T.aC,(by walk_at "lk"),fr+e.so.length+1,cu,_,rfl,s1 _ _ ecu,by lia,by lia,by lia,λtt htt=> ?_⟩;rw [lsu];have t1:A0o H1 (upd H1 tt (.tup ((A2f (fr+e.so.length+1) e.ss.length).map V.int))):=A0d htt;have ht1:upd H1 tt (.tup ((A2f (fr+e.so.length+1) e.ss.length).map V.int)) tt=some (.tup ((A2f (fr+e.so.length+1) e.ss.length).map V.int)):=A0b;generalize upd H1 tt (.tup ((A2f (fr+e.so.length+1) e.ss.length).map V.int))=H2 at t1 ht1⊢;refine ⟨_,rfl,_,_,rfl,rfl,_,rfl,tt,_,rfl,.inr (SqT.of ht1),_,_,rfl,rfl,_,rfl,_,rfl,_,rfl,A0h (by simp),λqa hqa=> ?_⟩;have t2:A0o H2 (upd H2 qa (.tup [.str "deed",.int (fr+e.so.length+1+(((A2f (fr+e.so.length+1) e.ss.length).map V.int).length:Int)),.int k,.str "add",.ref ct,.ref tt])):=A0d hqa;have ha2:upd H2 qa (.tup [.str "deed",.int (fr+e.so.length+1+(((A2f (fr+e.so.length+1) e.ss.length).map V.int).length:Int)),.int k,.str "add",.ref ct,.ref tt]) qa=some (.tup [.str "deed",.int (fr+e.so.length+1+(((A2f (fr+e.so.length+1) e.ss.length).map V.int).length:Int)),.int k,.str "add",.ref ct,.ref tt]):=A0b;generalize upd H2 qa (.tup [.str "deed",.int (fr+e.so.length+1+(((A2f (fr+e.so.length+1) e.ss.length).map V.int).length:Int)),.int k,.str "add",.ref ct,.ref tt])=H3 at t2 ha2⊢;refine ⟨_,rfl,_,rfl,_,rfl,A0h (by simp),λq0 hq0=>⟨A0h (by simp),λqs hqs=> ?_⟩⟩;have t3:A0o H3 (upd H3 q0 (.tup [])):=A0d hq0;have t4:A0o (upd H3 q0 (.tup [])) (upd (upd H3 q0 (.tup [])) qs (.tup [.str "deed",.int (fr+e.so.length),.int k,.str "start",.ref ct,.ref q0])):=A0d hqs;have h04:=t4 _ _ (A0b (H:=H3) (a:=q0) (o:= .tup []));have hs4:upd (upd H3 q0 (.tup [])) qs (.tup [.str "deed",.int (fr+e.so.length),.int k,.str "start",.ref ct,.ref q0]) qs=some (.tup [.str "deed",.int (fr+e.so.length),.int k,.str "start",.ref ct,.ref q0]):=A0b;have t34:=t3.trans t4;generalize upd (upd H3 q0 (.tup [])) qs (.tup [.str "deed",.int (fr+e.so.length),.int k,.str "start",.ref ct,.ref q0])=H4 at t34 h04 hs4⊢;clear t3 t4;refine ⟨_,rfl,A0h (by simp),λqt hqt=> ?_⟩;have t5:A0o H4 (upd H4 qt (.tup [.ref qs])):=A0d hqt;have ht5:upd H4 qt (.tup [.ref qs]) qt=some (.tup [.ref qs]):=A0b;generalize upd H4 qt (.tup [.ref qs])=H5 at t5 ht5⊢;have u25:=t2.trans (t34.trans t5);have u15:=t1.trans u25;have u05:=s1.trans u15;refine ⟨_,rfl,_,rfl,al,_,da,_,_,rfl,u05 _ _ eal,T.ay,T.aC,(by walk_at "lk"),_,rfl,cu,l,e.sums,lk,e.ss,rfl,u05 _ _ ecu,u05 _ _ hl,szs,by lia,λsl H6 hsl s6 hs6=>⟨_,rfl,A0h (by simp),λqi hqi=> ?_⟩⟩;have t7:A0o H6 (upd H6 qi (.tup [.ref qa])):=A0d hqi;have hi7:upd H6 qi (.tup [.ref qa]) qi=some (.tup [.ref qa]):=A0b;generalize upd H6 qi (.tup [.ref qa])=H7 at t7 hi7⊢;have u57:=s6.trans t7;have u27:=u25.trans u57;have u17:=t1.trans u27;have ha7:=(t34.trans (t5.trans u57)) _ _ ha2;refine ⟨tt,sl,qi,A2f (fr+e.so.length+1) e.ss.length,e.ss,[.ref qa],[.deed (fr+e.so.length+1+e.ss.length) k "add" (A2f fr e.so.length) (A2f (fr+e.so.length+1) e.ss.length)],rfl,u27 _ _ ht1,t7 _ _ hs6,A2p _ _,hi7,?_,λp xs' H8 s8 hp8 nd8=> ?_⟩
    ·rw [A1l];refine ⟨_,[],rfl,?_,by rw [A1l]⟩;rw [A4e];rw [Z08,A2p] at ha7;exact ⟨qa,ct,tt,rfl,ha7,u17 _ _ hc1,u27 _ _ ht1⟩
    have u78:=u57.trans s8
    have le8:xs'.length<=1:=by
     have l1:=nd8.len
     have:(A3q ((A2f (fr+e.so.length+1) e.ss.length).zip e.ss) [Nd.deed (fr+e.so.length+1+e.ss.length) k "add" (A2f fr e.so.length) (A2f (fr+e.so.length+1) e.ss.length)]).length=1:=by
      cases (A2f (fr+e.so.length+1) e.ss.length).zip e.ss with
      | nil=>rfl
      | cons p r=>rfl
     lia
    have ne8:xs'≠[]:=λz=>by
     have l1:=nd8.len
     have:(A3q ((A2f (fr+e.so.length+1) e.ss.length).zip e.ss) [Nd.deed (fr+e.so.length+1+e.ss.length) k "add" (A2f fr e.so.length) (A2f (fr+e.so.length+1) e.ss.length)]).length=1:=by
      cases (A2f (fr+e.so.length+1) e.ss.length).zip e.ss with
      | nil=>rfl
      | cons p r=>rfl
     rw [z] at l1;simp at l1
     lia
    refine ⟨qt,p,_,_,rfl,rfl,SqT.of (u78 _ _ ht5),SqT.of hp8,ne8,A0h (by simp;lia),(λz=>by cases z),λ_ r hr0=> ?_⟩;have t9:A0o H8 (upd H8 r (.tup ([.ref qs]++xs'))):=A0d hr0;have u49:=t5.trans (u78.trans t9);refine ⟨r,_,_,_,_,rfl,u17.trans (s8.trans t9),A0b,?_⟩;unfold A3c;rw [Z0t hss,A1l];refine ⟨_,xs',rfl,?_,nd8.kt (KT.same t9)⟩;rw [A4e];exact ⟨qs,ct,q0,rfl,u49 _ _ hs4,(u17.trans (s8.trans t9)) _ _ hc1,u49 _ _ h04⟩
  rintro σ' G ⟨ins,xs,o7,o8,o9,rfl,s2,hi,nds⟩;have s02:=s1.trans s2;refine ⟨_,rfl,_,rfl,al,_,da,_,_,rfl,s02 _ _ eal,T.ay,T.aN,(by walk_at "lk"),_,rfl,ca,l,e.own,lk,e.so,rfl,s02 _ _ eca,s02 _ _ hl,szo,by lia,λsl G2 hsl s3 hs3=> ?_⟩;refine ⟨_,rfl,ct,sl,ins,A2f fr e.so.length,e.so,xs,_,rfl,s3 _ _ (s2 _ _ hc1),hs3,A2p _ _,s3 _ _ hi,nds.kt (KT.same s3),λp xs' H' s4 hp nd'=> ?_⟩;exact q p xs' H' (s02.trans (s3.trans s4)) hp nd'
theorem B5p (T:Txt K mg t):A1y P w K mg base CX0 3 t.bR t.bV ["cloth"] (D9j t):=by
 have G_nodes_in:=C0d (P:=P) (w:=w) (base:=base) T;have G_nodes_of:=C0i (P:=P) (w:=w) (base:=base) T;refine T.dE.ok A3b (λvs H Q E h=> ?_) (λcdv A outer s H vs Q E hr h=> ?_)
 ·obtain ⟨p,dx,l,a,tb,ln,o,wh,lk,xs,M,rows,rfl,_⟩:=h;rfl
 ·obtain ⟨p,dx,l,a,tb,ln,o,wh,lk,xs,M,rows,rfl,hp,hl,hln,lis,tot,few,k⟩:=h;have lxs:=Paired.length lis
  refine ⟨_,(A0e (A0x (i:=1) A3b.nd rfl (Or.inl rfl) (A2b A0c))
   (A0e (A0x (i:=2) A3b.nd rfl (Or.inl rfl) A0f)
   (A0e (A3m PassesOwn.never rfl (C3u rfl T.cf (A0a (A6y (pv 0) rfl) A0c)) (A4y (n:=2) rfl (A0n (A0k (i:=3) A3b.nd rfl (Or.inl rfl) (Or.inl rfl)) (A0n (A0k (i:=4) A3b.nd rfl (Or.inl rfl) (Or.inl rfl)) A3e)))
    (A0e (A2r (A5t Z0k PySem.F.slot_list_extend PySem.F.type_list_extend C3i (pv 1) (A0a (A0j G_nodes_of (hr.mono (by lia)) rfl T.gv T.eW.kp T.gn .nil A1a (A0a (pv 3) (A0a (pv 4) (A0a (A6y (pv 0) rfl) (A0a (pv 2) A0c))))) A0c)))
    (A0g (A0x (i:=2) A3b.nd rfl (Or.inl rfl) (A0v A2a (pv 2) (A0j G_nodes_in (hr.mono (by lia)) rfl T.gl T.eR.kp T.gp .nil A1a (A0a (pv 4) A0c)))))))
   (A0g (A0r (A1i (A0a (pv 2) (A0a (A1u A1s (by rfl) T.ah Z0m (A0a (pv 1) A0c)) A0c)))))))),?_⟩
  refine ⟨A0h (by simp),λL hL=> ?_⟩;have s0:A0o H (upd H L (.lst [])):=A0d hL;refine ⟨_,rfl,p,_,dx,_,_,rfl,s0 _ _ hp,T.aU,T.cx,(by walk_at "lk"),ln,xs,rfl,SqL.of (s0 _ _ hln),?_⟩
  have f1:∀i,i<=rows.length->0<=frM rows i/\frM rows i<=i*20:=λi=>by
   induction i with
   | zero=>intro _;simp [frM]
   | succ i ih =>
    intro hi;have he:rows[i]? =some rows[i]:=Z0b (by lia);have ih:=ih (by lia);have np:=D4k rows[i];have pl:=(tot _ (Z13 he)).1.pl;have l1:=(tot _ (Z13 he)).1.lo;have l2:=(tot _ (Z13 he)).1.ls;rw [B4u he]
    have nu:B9a rows[i]<=rows[i].so.length+rows[i].ss.length+2:=by
     unfold B9a;split <;> lia
    lia
  have nl:∀i,(A2h rows i).length<=2*i:=λi=>by
   induction i with
   | zero=>simp [A2h]
   | succ i ih =>
    rw [A2h,Z06];split
    ·have:=C1c i ‹Rw› (frM rows i)
     lia
    ·simp;lia
  refine C1n (K:=K) (a:=ln) (xs:=xs) (λi σ H2=>∃(o3 o4:Option V) (nv:List V),σ=[some (.ref p),some (.ref L),some (.int (frM rows i)),o3,o4]/\A0o H H2/\H2 L=some (.lst nv)/\i<=rows.length/\A1l H2 (A2h rows i) nv)
   ⟨none,none,[],rfl,s0,A0b,Z1e _,by rw [A2h,A1l]⟩ (λi σ H2 ⟨_,_,_,_,s2,_⟩=>SqL.of (s2 _ _ hln)) ?_ ?_
  ·rintro i x σ H2 z hx ⟨o3,o4,nv,rfl,s2,hL2,_,nds⟩ hz;obtain ⟨e,he,li⟩:=B1k lis hx;obtain ⟨ok,szo,szs,_,_⟩:=tot e (Z13 he);have hi:i<rows.length:=(Z03.mp he).1;have fb:=f1 i (by lia);have lnv:=nds.len;have nli:=nl i;have ll:=C1c i e (frM rows i);have sz3:A0o H2 (upd H2 z (.tup [.int (i:Nat),x])):=A0d hz;have hz3:upd H2 z (.tup [.int (i:Nat),x]) z=some (.tup [.int (i:Nat),x]):=A0b;generalize upd H2 z (.tup [.int (i:Nat),x])=H3 at sz3 hz3⊢;have s3:=s2.trans sz3;refine ⟨z,_,rfl,SqT.of hz3,rfl,_,_,rfl,_,_,rfl,rfl,?_⟩;refine ⟨_,rfl,.inl ⟨rfl,_,SqL.of (sz3 _ _ hL2)⟩,_,rfl,_,rfl,_,rfl,p,_,dx,_,_,rfl,s3 _ _ hp,T.aU,T.bG,(by walk_at "lk"),_,rfl,(i:Int),frM rows i,x,l,M,e,lk,rfl,li.same s3,ok,szo,szs,s3 _ _ hl,fb.1,by lia,λq xs' H4 s4 hq nd'=> ?_⟩;have lx':=nd'.len;have hL4:=s4 _ _ (sz3 _ _ hL2);refine ⟨L,q,_,_,rfl,rfl,hL4,hq,A0h (by lia),?_⟩;have kL:KT H4 (upd H4 L (.lst (nv++xs'))):=KT.at hL4 (by intro xs z;cases z);have kb:KB L H4 (upd H4 L (.lst (nv++xs'))):=KB.refl.upd;have hL5:upd H4 L (.lst (nv++xs')) L=some (.lst (nv++xs')):=A0b;generalize upd H4 L (.lst (nv++xs'))=H5 at kL kb hL5⊢;have s5:A0o H H5:=KB.same (s3.trans s4) kb hL;refine ⟨_,rfl,_,rfl,x,M,e,rfl,li.same s5,ok.lo,ok.ls,_,_,rfl,rfl,?_⟩;dsimp only;rw [B4u he,A8g he];refine ⟨_,_,nv++xs',rfl,s5,hL5,hi,?_⟩
   ·exact A1j.mpr (B1g (A1j.mp (nds.kt ((KT.same (sz3.trans s4)).trans kL))) (A1j.mp (nd'.kt kL)))
  ·rintro σ H2 ⟨o3,o4,nv,rfl,s2,hL2,_,nds⟩;rw [lxs] at nds⊢;refine ⟨_,rfl,_,rfl,L,_,rfl,.inl ⟨SqL.of hL2,λtp htp=>⟨A0h (by simp),λq hq=> ?_⟩⟩⟩;have t1:A0o H2 (upd H2 tp (.tup nv)):=A0d htp;have t2:=A0d (o:= .tup [.int (frM rows rows.length),.ref tp]) hq;exact k q tp nv _ (s2.trans (t1.trans t2)) A0b (t2 _ _ A0b) (nds.kt (KT.same (t1.trans t2)))
end
noncomputable def D7a:Sp:=λvs H Q _=>∃(b p:Addr) (a1 a2 a3 a4 a5:V),vs=[.ref b]/\H b=some (.tup [a1,a2,a3,a4,a5,.ref p])/\Q (.ref p) H
noncomputable def D5r:Sp:=λvs H Q _=>∃(b:Addr) (a1 a2 a3 a4 a5 a6 u:V),vs=[.ref b,u]/\H b=some (.tup [a1,a2,a3,a4,a5,a6])/\∀q,H q=none->Q (.ref q) (upd H q (.tup [a1,a2,a3,a4,a5,u]))
noncomputable def D7h:Sp:=λvs H Q _=>∃y o w:Int,vs=[.int y,.int o,.int w]/\Q (.int (ins o w y)) H
noncomputable def C8o:Sp:=λvs H Q _=>∃(c:Addr) (cs:List Int) (o w:Int),vs=[.ref c,.int o,.int w]/\H c=some (.tup (cs.map V.int))/\cs.length<=100/\∀(q:Addr) (H':Hp),A0o H H'->H' q=some (.tup ((cs.map (ins o w)).map V.int))->Q (.ref q) H'
noncomputable def C6h (d:Nat):Sp:=λvs H Q _=>∃(v:V) (x:Nd) (o w:Int) (b:Rd),vs=[v,.int o,.int w]/\A4e H x v/\okN b x/\dpN x<=d/\∀(v':V) (H':Hp),A0o H H'->A4e H' (B6v o w x) v'->Q v' H'
noncomputable def D1c (d:Nat):Sp:=λvs H Q _=>∃(p:Addr) (xs:List V) (l:List Nd) (o w:Int) (b:Rd),vs=[.ref p,.int o,.int w]/\H p=some (.tup xs)/\A1l H l xs/\okL b l/\l.length<=100/\dpL l<=d/\∀(q:Addr) (xs':List V) (H':Hp),A0o H H'->H' q=some (.tup xs')->A1l H' (A8q o w l) xs'->Q (.ref q) H'
noncomputable def B9z (path:List Nat):List V:=path.map λ(p:Nat)=>V.int (p:Int)
noncomputable def C7h (d:Nat):Sp:=λvs H Q _=>∃(N:Int) (bp:Addr) (xs:List V) (l:List Nd) (b:Rd),vs=[.int N,.ref bp]/\H bp=some (.tup xs)/\A1l H l xs/\l.length<=100/\okL b l/\dpL l<=d/\
 ∀(q:Addr) (path:List Nat) (H':Hp),A0o H H'->H' q=some (.lst (B9z path))->(path=[]/\N∉nmL l\/path≠[]/\∃sz wd out bd,A3i path l (.loop N sz wd out bd))->path.length<=d->Q (.ref q) H'
section
variable {P:Program} {w:World} {K:PySem.W.Frag} {mg:Str->Option Value} {base:Heap} {t:Adr}
theorem A7z (T:Txt K mg t):A1y P w K mg base CX0 1 t.eh t.dP ["loop"] D7a:=by
 refine T.bD.ok A4h (λvs H Q E h=> ?_) (λcdv A outer s H vs Q E hr h=> ?_)
 ·obtain ⟨b,p,a1,a2,a3,a4,a5,rfl,_⟩:=h;rfl
 ·obtain ⟨b,p,a1,a2,a3,a4,a5,rfl,hb,k⟩:=h
  refine ⟨_,(A0e (A7f (pv 0) (A4y (n:=6) rfl (A0n (A0k (i:=1) A4h.nd rfl (Or.inl rfl) (Or.inl rfl)) (A0n (A0k (i:=2) A4h.nd rfl (Or.inl rfl) (Or.inl rfl)) (A0n (A0k (i:=3) A4h.nd rfl (Or.inl rfl) (Or.inl rfl)) (A0n (A0k (i:=4) A4h.nd rfl (Or.inl rfl) (Or.inl rfl)) (A0n (A0k (i:=5) A4h.nd rfl (Or.inl rfl) (Or.inl rfl)) (A0n (A0k (i:=6) A4h.nd rfl (Or.inl rfl) (Or.inl rfl)) A3e))))))))
   (A0g (A0r (pv 6)))),?_⟩
  exact ⟨_,rfl,b,_,rfl,SqT.of hb,rfl,_,_,rfl,_,_,rfl,_,_,rfl,_,_,rfl,_,_,rfl,_,_,rfl,rfl,_,rfl,k⟩
theorem A7c (T:Txt K mg t):A1y P w K mg base CX0 1 t.cw t.ce ["loop","body"] D5r:=by
 refine T.aT.ok A2y (λvs H Q E h=> ?_) (λcdv A outer s H vs Q E hr h=> ?_)
 ·obtain ⟨b,a1,a2,a3,a4,a5,a6,u,rfl,_⟩:=h;rfl
 ·obtain ⟨b,a1,a2,a3,a4,a5,a6,u,rfl,hb,k⟩:=h
  refine ⟨_,(A0e (A7f (pv 0) (A4y (n:=6) rfl (A0n (A0k (i:=2) A2y.nd rfl (Or.inl rfl) (Or.inl rfl)) (A0n (A0k (i:=3) A2y.nd rfl (Or.inl rfl) (Or.inl rfl)) (A0n (A0k (i:=4) A2y.nd rfl (Or.inl rfl) (Or.inl rfl)) (A0n (A0k (i:=5) A2y.nd rfl (Or.inl rfl) (Or.inl rfl)) (A0n (A0k (i:=6) A2y.nd rfl (Or.inl rfl) (Or.inl rfl)) (A0n (A0k (i:=7) A2y.nd rfl (Or.inl rfl) (Or.inl rfl)) A3e))))))))
   (A0g (A0r (A1i (A0a (pv 2) (A0a (pv 3) (A0a (pv 4) (A0a (pv 5) (A0a (pv 6) (A0a (pv 1) A0c)))))))))),?_⟩
  exact ⟨_,rfl,b,_,rfl,SqT.of hb,rfl,_,_,rfl,_,_,rfl,_,_,rfl,_,_,rfl,_,_,rfl,_,_,rfl,rfl,_,rfl,_,rfl,_,rfl,_,rfl,_,rfl,_,rfl,A0h (by simp),λq hq=>k q hq⟩
theorem B4a (T:Txt K mg t):A1y P w K mg base CX0 1 t.dQ t.e9 ["number","old","new"] D7h:=by
 refine T.dU.ok C3e (λvs H Q E h=> ?_) (λcdv A outer s H vs Q E hr h=> ?_)
 ·obtain ⟨y,o,w,rfl,_⟩:=h;rfl
 ·obtain ⟨y,o,w,rfl,k⟩:=h
  refine ⟨_,(A0e (A1m (A0w A3t (pv 0) (pv 1) (A1c _))
    (A0g (A0r (pv 2)))
    A0u)
   (A0g (A0r (pv 0)))),?_⟩
  refine ⟨_,rfl,_,rfl,rfl,_,rfl,A9h (λe=> ?_) (λe=> ?_)⟩
  ·have e:y=o:=by injection e
   unfold ins at k;rw [Z12 e] at k;exact ⟨_,rfl,k⟩
  ·have e:y≠o:=λz=>e (by rw [z]);unfold ins at k;rw [Z0t e] at k;exact ⟨_,rfl,k⟩
theorem B5n (T:Txt K mg t):A1y P w K mg base CX0 2 t.bN t.bL ["numbers","old","new"] C8o:=by
 have G_instead:=B4a (P:=P) (w:=w) (base:=base) T;refine T.bT.ok B5x (λvs H Q E h=> ?_) (λcdv A outer s H vs Q E hr h=> ?_)
 ·obtain ⟨c,cs,o,w,rfl,_⟩:=h;rfl
 ·obtain ⟨c,cs,o,w,rfl,hc,lc,k⟩:=h;refine ⟨_,(A0g (A0r (A1u A1s (by rfl) T.ah Z0m (A0a (A5b (N':=["number","new","old"]) (ix:=(List.replicate 1 none++[some 2,some 1])) rfl (B3b (cl:=[("old",_),("new",_)]) (xs:=["old","new"]) rfl ⟨rfl,rfl,trivial⟩ rfl rfl (by decide +kernel) (by decide +kernel)) (B3d (N0:=["number"]) (xs:=["new","old"]) (js:=[2,1]) ⟨⟨rfl,Or.inl rfl,(by first | exact Or.inl rfl | exact Or.inr rfl | (simp [relabel];rfl) | (with_unfolding_all exact Or.inl rfl) | (with_unfolding_all exact Or.inr rfl) | (with_unfolding_all decide))⟩,⟨rfl,Or.inl rfl,(by first | exact Or.inl rfl | exact Or.inr rfl | (simp [relabel];rfl) | (with_unfolding_all exact Or.inl rfl) | (with_unfolding_all exact Or.inr rfl) | (with_unfolding_all decide))⟩,trivial⟩) (B7n (pv 0)) (λ_ _ _ _=>(A0k (i:=0) C4g rfl (Or.inl rfl) (Or.inr rfl))) (λ_ _ _ _=>(A0j G_instead (hr.mono (by lia)) rfl T.fv T.dU.kp T.fy .nil A1a (A0a (pv 0) (A0a (pv 2) (A0a (pv 1) A0c)))))) A0c)))),?_⟩;refine ⟨_,rfl,c,rfl,⟨_,SqT.of hc⟩,λD hD=> ?_⟩;refine B3h (K:=K) (a:=c) (D:=D) (xs:=cs.map V.int) (λi ys H2=>A0o H H2/\H2 D=some (.lst ys)/\ys=((cs.take i).map (ins o w)).map V.int) ⟨A0d hD,A0b,rfl⟩ (λi ys H2 ⟨s2,_⟩=>SqT.of (s2 _ _ hc)) ?_ ?_
  ·rintro i x ys H2 hx ⟨s2,hD2,rfl⟩;obtain ⟨z,hz,rfl⟩:=A4f hx;have hi:i<cs.length:=(Z03.mp hz).1;refine ⟨⟨rfl,rfl,True.intro⟩,_,rfl,_,rfl,_,rfl,z,o,w,rfl,hD2,A1o (by simp;lia),A0s s2 hD,A0b,?_⟩;rw [Z14,hz,Option.toList_some,Z0s,Z0s];rfl
  ·rintro ys H2 ⟨s2,hD2,rfl⟩;rw [Z08,Z18] at hD2;exact ⟨D,_,rfl,.inl ⟨SqL.of hD2,λp hp=>k p _ (s2.trans (A0d hp)) A0b⟩⟩
theorem B8y (T:Txt K mg t) {m d:Nat} {sp':Sp} (G_renumbered:A1y P w K mg base CX0 (m+1) t.aM t.aK ["body","old","new"] sp') (hm:1<=m)
  (hs:∀(p:Addr) (xs:List V) (n sz wd out:Int) (bd:List Nd) (o w:Int) (b:Rd) (H:Hp) (Q:VK),H p=some (.tup xs)->A1l H bd xs->okL b bd->bd.length<=100->dpN (.loop n sz wd out bd)<=d->(∀(q:Addr) (xs':List V) (H':Hp),A0o H H'->H' q=some (.tup xs')->A1l H' (A8q o w bd) xs'->Q (.ref q) H')->sp' [.ref p,.int o,.int w] H Q E0) :
  A1y P w K mg base CX0 (m+2) t.az t.aw ["node","old","new"] (C6h d):=by
 have G_is_loop:=A8e (P:=P) (w:=w) (base:=base) T;have G_instead:=B4a (P:=P) (w:=w) (base:=base) T;have G_instead_in:=B5n (P:=P) (w:=w) (base:=base) T;refine T.bj.ok A0z (λvs H Q E h=> ?_) (λcdv A outer s H vs Q E hr h=> ?_)
 ·obtain ⟨v,x,o,w,b,rfl,_⟩:=h;rfl
 ·obtain ⟨v,x,o,w,b,rfl,na,wb,dp,k⟩:=h
  refine ⟨_,(A0e (A1m (A2q (A0j G_is_loop (hr.mono (by lia)) rfl T.cS T.bE.kp T.cT .nil A1a (A0a (pv 0) A0c)))
    (A0e (A7f (pv 0) (A4y (n:=6) rfl (A0n (A0k (i:=3) A0z.nd rfl (Or.inl rfl) (Or.inl rfl)) (A0n (A0k (i:=4) A0z.nd rfl (Or.inl rfl) (Or.inl rfl)) (A0n (A0k (i:=5) A0z.nd rfl (Or.inl rfl) (Or.inl rfl)) (A0n (A0k (i:=6) A0z.nd rfl (Or.inl rfl) (Or.inl rfl)) (A0n (A0k (i:=7) A0z.nd rfl (Or.inl rfl) (Or.inl rfl)) (A0n (A0k (i:=8) A0z.nd rfl (Or.inl rfl) (Or.inl rfl)) A3e))))))))
    (A0g (A0r (A1i (A0a (pv 3) (A0a (pv 4) (A0a (pv 5) (A0a (pv 6) (A0a (A0j G_instead (hr.mono (by lia)) rfl T.fv T.dU.kp T.fy .nil A1a (A0a (pv 7) (A0a (pv 1) (A0a (pv 2) A0c)))) (A0a (A0j G_renumbered (hr.mono (by lia)) rfl T.bK T.aZ.kp T.bU .nil A1a (A0a (pv 8) (A0a (pv 1) (A0a (pv 2) A0c)))) A0c))))))))))
    A0u)
   (A0e (A7f (pv 0) (A4y (n:=6) rfl (A0n (A0k (i:=3) A0z.nd rfl (Or.inl rfl) (Or.inl rfl)) (A0n (A0k (i:=4) A0z.nd rfl (Or.inl rfl) (Or.inl rfl)) (A0n (A0k (i:=9) A0z.nd rfl (Or.inl rfl) (Or.inl rfl)) (A0n (A0k (i:=10) A0z.nd rfl (Or.inl rfl) (Or.inl rfl)) (A0n (A0k (i:=11) A0z.nd rfl (Or.inl rfl) (Or.inl rfl)) (A0n (A0k (i:=12) A0z.nd rfl (Or.inl rfl) (Or.inl rfl)) A3e))))))))
   (A0g (A0r (A1i (A0a (pv 3) (A0a (pv 4) (A0a (pv 9) (A0a (pv 10) (A0a (A0j G_instead_in (hr.mono (by lia)) rfl T.dF T.bT.kp T.dI .nil A1a (A0a (pv 11) (A0a (pv 1) (A0a (pv 2) A0c)))) (A0a (A0j G_instead_in (hr.mono (by lia)) rfl T.dF T.bT.kp T.dI .nil A1a (A0a (pv 12) (A0a (pv 1) (A0a (pv 2) A0c)))) A0c))))))))))),?_⟩
  cases x with
  | deed n kk wd cs us =>
   rw [A4e] at na;obtain ⟨bb,c,u,rfl,hb,hc,hu'⟩:=na;rw [okN] at wb;refine ⟨_,rfl,bb,_,_,rfl,hb,_,rfl,D5q (by decide +kernel) ?_⟩;refine ⟨_,rfl,bb,_,rfl,SqT.of hb,rfl,_,_,rfl,_,_,rfl,_,_,rfl,_,_,rfl,_,_,rfl,_,_,rfl,rfl,?_⟩;refine ⟨_,rfl,_,rfl,_,rfl,_,rfl,_,rfl,_,rfl,_,rfl,c,cs,o,w,rfl,hc,wb.2.2.1,λq1 H1 s1 e1=> ?_⟩;refine ⟨_,rfl,_,rfl,_,rfl,u,us,o,w,rfl,s1 _ _ hu',wb.2.2.2,λq2 H2 s2 e2=>⟨A0h (by simp),λr hr0=> ?_⟩⟩;have s3:=A0d (o:= .tup [.str "deed",.int n,.int kk,.str wd,.ref q1,.ref q2]) hr0;refine k _ _ (s1.trans (s2.trans s3)) ?_;rw [B6v,A4e];exact ⟨r,q1,q2,rfl,A0b,s3 _ _ (s2 _ _ e1),s3 _ _ e2⟩
  | loop n sz wd out bd =>
   rw [A4e] at na;obtain ⟨bb,p,xs,rfl,hb,hp,nds⟩:=na;rw [okN] at wb;obtain ⟨_,_,_,_,_,wbd,lbd⟩:=wb;refine ⟨_,rfl,bb,_,_,rfl,hb,_,rfl,D1v rfl ?_⟩;refine ⟨_,rfl,bb,_,rfl,SqT.of hb,rfl,_,_,rfl,_,_,rfl,_,_,rfl,_,_,rfl,_,_,rfl,_,_,rfl,rfl,?_⟩;refine ⟨_,rfl,_,rfl,_,rfl,_,rfl,_,rfl,_,rfl,_,rfl,out,o,w,rfl,?_⟩;refine ⟨_,rfl,_,rfl,_,rfl,hs p xs n sz wd out bd o w _ H _ hp nds wbd lbd dp λq xs' H1 s1 hq nd'=>⟨A0h (by simp),λr hr0=> ?_⟩⟩;have s3:=A0d (o:= .tup [.str "loop",.int n,.int sz,.int wd,.int (ins o w out),.ref q]) hr0;refine k _ _ (s1.trans s3) ?_;rw [B6v,A4e];exact ⟨r,q,xs',rfl,A0b,s3 _ _ hq,nd'.kt (KT.same s3)⟩
theorem C2e (T:Txt K mg t) {m d:Nat} (G_renumbered_node:A1y P w K mg base CX0 (m+2) t.az t.aw ["node","old","new"] (C6h d)) :
  A1y P w K mg base CX0 (m+3) t.aM t.aK ["body","old","new"] (D1c d):=by
 refine T.aZ.ok B4p (λvs H Q E h=> ?_) (λcdv A outer s H vs Q E hr h=> ?_)
 ·obtain ⟨p,xs,l,o,w,b,rfl,_⟩:=h;rfl
 ·obtain ⟨p,xs,l,o,w,b,rfl,hp,nds,wb,ll,dp,k⟩:=h;have prs:=A1j.mp nds;have lx:=nds.len;refine ⟨_,(A0g (A0r (A1u A1s (by rfl) T.ah Z0m (A0a (A5b (N':=["node","new","old"]) (ix:=(List.replicate 1 none++[some 2,some 1])) rfl (B3b (cl:=[("old",_),("new",_)]) (xs:=["old","new"]) rfl ⟨rfl,rfl,trivial⟩ rfl rfl (by decide +kernel) (by decide +kernel)) (B3d (N0:=["node"]) (xs:=["new","old"]) (js:=[2,1]) ⟨⟨rfl,Or.inl rfl,(by first | exact Or.inl rfl | exact Or.inr rfl | (simp [relabel];rfl) | (with_unfolding_all exact Or.inl rfl) | (with_unfolding_all exact Or.inr rfl) | (with_unfolding_all decide))⟩,⟨rfl,Or.inl rfl,(by first | exact Or.inl rfl | exact Or.inr rfl | (simp [relabel];rfl) | (with_unfolding_all exact Or.inl rfl) | (with_unfolding_all exact Or.inr rfl) | (with_unfolding_all decide))⟩,trivial⟩) (B7n (pv 0)) (λ_ _ _ _=>(A0k (i:=0) C6t rfl (Or.inl rfl) (Or.inr rfl))) (λ_ _ _ _=>(A0j G_renumbered_node (hr.mono (by lia)) rfl T.dH T.bj.kp T.dC .nil A1a (A0a (pv 0) (A0a (pv 2) (A0a (pv 1) A0c)))))) A0c)))),?_⟩;refine ⟨_,rfl,p,rfl,⟨_,SqT.of hp⟩,λD hD=> ?_⟩;refine B3h (K:=K) (a:=p) (D:=D) (xs:=xs) (λi ys H2=>A0o H H2/\H2 D=some (.lst ys)/\A1l H2 (A8q o w (l.take i)) ys) ⟨A0d hD,A0b,by rw [List.take_zero,A8q,A1l]⟩ (λi ys H2 ⟨s2,_⟩=>SqT.of (s2 _ _ hp)) ?_ ?_
  ·rintro i x ys H2 hx ⟨s2,hD2,ny⟩;obtain ⟨nd,he,na⟩:=B1k prs hx;have hi:i<l.length:=(Z03.mp he).1;have ly:=ny.len;rw [A9v,Z08,Z0x] at ly
   have dpx:dpN nd<=d:=by
    have:dpL l=max (dpL (l.take i)) (max (dpN nd) (dpL (l.drop (i+1)))):=by rw [<-A3g,<-A3r he]
    lia
   refine ⟨⟨rfl,rfl,True.intro⟩,_,rfl,_,rfl,_,rfl,x,nd,o,w,b,rfl,A4e.kt (KT.same s2) na,C0c wb nd (Z13 he),dpx,λv' H3 s3 na'=> ?_⟩;have hD3:=s3 _ _ hD2;have kt:KT H3 (upd H3 D (.lst (ys++[v']))):=KT.at hD3 (by intro xs z;cases z);refine ⟨hD3,A1o (by lia),A0s (s2.trans s3) hD,A0b,?_⟩;have e:A8q o w (l.take (i+1))=A8q o w (l.take i)++[B6v o w nd]:=by rw [Z14,he,Option.toList_some,A9v,A9v,Z0s];rfl
   rw [e];refine A1j.mpr (B1g (A1j.mp ((ny.kt (KT.same s3)).kt kt)) (.cons (A4e.kt kt na') .nil))
  ·rintro ys H2 ⟨s2,hD2,ny⟩;rw [lx,Z18] at ny;exact ⟨D,_,rfl,.inl ⟨SqL.of hD2,λq hq=>k q ys _ (s2.trans (A0d hq)) A0b (ny.kt (KT.same (A0d hq)))⟩⟩
theorem C6c (T:Txt K mg t):∀d:Nat,A1y P w K mg base CX0 (2*d+4) t.aM t.aK ["body","old","new"] (D1c d)
 | 0=>C2e T (m:=1) (B8y T (m:=1) (d:=0) (sp':=λ_ _ _ _=>False) (A1y.none λ_ _ _ _ h=>h) (Z09 _) λp xs n sz wd out bd o w b H Q hp nds wb lb dp=>by
   rw [dpN] at dp
   lia)
 | d+1=>C2e T (m:=2*d+3) (B8y T (m:=2*d+3) (d:=d+1) (C6c T d) (by lia) λp xs n sz wd out bd o w b H Q hp nds wb lb dp k=>by
   rw [dpN] at dp
   exact ⟨p,xs,bd,o,w,b,rfl,hp,nds,wb,lb,by lia,k⟩)
end
theorem A5e {xs:List V} {p:Nat} (h:p<=xs.length):A2u xs none (some (p:Int))=xs.take p:=by
 unfold A2u;rw [HT.sIx_none,HT.sIx_nat,List.drop_zero,Nat.min_eq_left h,Nat.sub_zero]
theorem A4q {xs:List V} {p:Nat} (h:p<=xs.length):A2u xs (some (p:Int)) none=xs.drop p:=by
 unfold A2u;rw [HT.sIx_none,HT.sIx_nat,Nat.min_eq_left h];exact List.take_of_length_le (by rw [Z19];lia)
theorem D2u {α β:Type} {F:α->β->Prop}:∀{a:List α} {b:List β} (n:Nat),Paired F a b->Paired F (a.take n) (b.take n)
 | _,_,0,_=> .nil
 | _,_,_+1,.nil=> .nil
 | _,_,n+1,.cons r t=> .cons r (D2u n t)
theorem D3i {α β:Type} {F:α->β->Prop}:∀{a:List α} {b:List β} (n:Nat),Paired F a b->Paired F (a.drop n) (b.drop n)
 | _,_,0,h=>h
 | _,_,_+1,.nil=> .nil
 | _,_,n+1,.cons _ t=>D3i n t
theorem A3l {b:Bool} {A B:Prop} (h:b=false) (q:B):if b=true then A else B:=by rw [h];exact A6q q
theorem A2c {b:Bool} {A B:Prop} (h:b=true) (q:A):if b=true then A else B:=by rw [h];exact C7b q
theorem C4h (a b c:Int):SeqAt.shaped (.tuple [.int a,.int b,.int c])=true:=by first | rfl | simp [SeqAt.shaped,PyData.canLay0,PyData.canLayAll0,PyData.depth,PyData.depthAll]
noncomputable def C7s (A:Adr):Sp:=λvs H Q _=>∃(ea ta:Addr) (z:Int),vs=[.ref ea,.int z]/\H ea=some (xcN ea A.ae ta)/\∀dx,H dx=none->Q .non (upd (upd H ea (xcD ea A.ae ta dx)) dx (.xd [("place",.int z)]))
theorem A4m {A:Adr} {H:Hp} {E E':XK} (hE:∀dx H',A0o H H'->H' dx=some (.xd [("place",.int 0)])->E (.ref A.ae) (some dx) H'):∀ea ta,H ea=none->C7s A (.ref ea::([V.int 0]++[])) (upd H ea (xcN ea A.ae ta)) (λv H2=>v= .non/\∃d,H2 ea=some (.ext λh=>h.get? ea=some (A6s A.ae ta d))/\E (.ref A.ae) d (A3y H2 ea)) E':=by
 intro ea ta hn;refine ⟨ea,ta,0,rfl,A0b,λdx hdx=>⟨rfl,some dx,?_,hE _ _ (λb o e=> ?_) ?_⟩⟩
 ·have ne:ea≠dx:=λz=>by rw [<-z,A0b] at hdx;cases hdx
  rw [A0l ne,A0b];rfl
 ·have n1:b≠ea:=A0t e hn
  have n2:b≠dx:=λz=>by
   rw [<-z,A0l n1,e] at hdx;cases hdx
  rw [A4l n1,A0l n2,A0l n1,A0l n1];exact e
 ·have ne:dx≠ea:=λz=>by rw [z,A0b] at hdx;cases hdx
  rw [A4l ne,A0b]
abbrev XE (A:Adr) (H:Hp) (E:XK):Prop:=∀dx H',A0o H H'->H' dx=some (.xd [("place",.int 0)])->E (.ref A.ae) (some dx) H'
theorem XE.go {A:Adr} {H H1:Hp} {E:XK} (h:XE A H E) (s:A0o H H1):XE A H1 E:=λdx H' s'=>h dx H' (s.trans s')
noncomputable def D7c (A:Adr):Sp:=λvs H Q E=>∃(v:V) (n sz wd out:Int) (bd:List Nd),vs=[v]/\A4e H (.loop n sz wd out bd) v/\(∀(y:Nd) (v':V) (H':Hp),swp (.loop n sz wd out bd)=some y->A0o H H'->A4e H' y v'->Q v' H')/\(swp (.loop n sz wd out bd)=none->XE A H E)
noncomputable def D2i (A:Adr):Sp:=λvs H Q E=>∃(T w n sz wd out:Int) (bd:List Nd) (v:V) (b:Rd),vs=[.int T,v,.int w]/\A4e H (.loop n sz wd out bd) v/\okN b (.loop n sz wd out bd)/\dpL bd<=40/\T.natAbs<2^4000/\(∀(y:Nd) (v':V) (H':Hp),C3p T w (.loop n sz wd out bd)=some y->A0o H H'->A4e H' y v'->Q v' H')/\(C3p T w (.loop n sz wd out bd)=none->XE A H E)
noncomputable def D6i (A:Adr):Sp:=λvs H Q E=>∃(bh:Addr) (v:V) (xs:List V) (r:List Nd) (n sz wd out:Int) (bd:List Nd) (b:Rd),vs=[.ref bh,v]/\H bh=some (.tup xs)/\A1l H r xs/\A4e H (.loop n sz wd out bd) v/\okL b r/\bd.length<=100/\dpL r<=40/\(∀(y:Nd) (v':V) (H':Hp),jnd (.loop n sz wd out bd) r=some y->A0o H H'->A4e H' y v'->Q v' H')/\(jnd (.loop n sz wd out bd) r=none->XE A H E)
noncomputable def C8j (H:Hp) (a:Addr):Mv->Prop
 | .swap N=>H a=some (.tup [.str "swap",.int N])
 | .cut N T=>H a=some (.tup [.str "cut",.int N,.int T])/\T.natAbs<2^4000
 | .join N=>H a=some (.tup [.str "join",.int N])
theorem C8j.same {H H':Hp} {a:Addr} (s:A0o H H'):∀{m:Mv},C8j H a m->C8j H' a m
 | .swap N,h=>s _ _ h
 | .cut N T,h=>⟨s _ _ h.1,h.2⟩
 | .join N,h=>s _ _ h
noncomputable def D2n (A:Adr):Sp:=λvs H Q E=>∃(p:Nat) (bp mv:Addr) (fr:Int) (m:Mv) (n sz wd out:Int) (bd:List Nd) (xs:List V) (l:List Nd) (b:Rd),vs=[.int (p:Int),.ref bp,.ref mv,.int fr]/\H bp=some (.tup xs)/\A1l H l xs/\l.length<=100/\l[p]? =some (.loop n sz wd out bd)/\okL b l/\dpL l<=40/\C8j H mv m/\
 (∀(t:List Nd) (q:Addr) (xs':List V) (H':Hp),mvO m fr (.loop n sz wd out bd) (l.drop (p+1))=some t->A0o H H'->H' q=some (.tup xs')->A1l H' (l.take p++t) xs'->Q (.ref q) H')/\(mvO m fr (.loop n sz wd out bd) (l.drop (p+1))=none->XE A H E)
section
variable {P:Program} {w:World} {K:PySem.W.Frag} {mg:Str->Option Value} {base:Heap} {t:Adr}
theorem A3k (T:Txt K mg t):A1y P w K mg base CX0 1 t.aP t.aO ["self","place"] (C7s t):=by
 refine T.de.ok A8n (λvs H Q E h=> ?_) (λcdv A outer s H vs Q E hr h=> ?_)
 ·obtain ⟨ea,ta,z,rfl,_⟩:=h;rfl
 ·obtain ⟨ea,ta,z,rfl,he,k⟩:=h;exact ⟨_,(A0g (C5k (pv 0) (pv 1) rfl)),_,rfl,_,rfl,ea,_,ta,rfl,he,T.c8,k⟩
theorem C3g (T:Txt K mg t):A1y P w K mg base (CXD P w) 3 t.dJ t.dX ["loop"] (D7c t):=by
 have G_NoMove_init:=A3k (P:=P) (w:=w) (base:=base) T;have G_body_of:=A7z (P:=P) (w:=w) (base:=base) T;have G_is_loop:=A8e (P:=P) (w:=w) (base:=base) T;have G_with_body:=A7c (P:=P) (w:=w) (base:=base) T;refine T.fx.okD A3p (λvs H Q E h=> ?_) (λcdv A outer s H vs Q E hr h=> ?_)
 ·obtain ⟨v,n,sz,wd,out,bd,rfl,_⟩:=h;rfl
 ·obtain ⟨v,n,sz,wd,out,bd,rfl,na,k,xe⟩:=h;have na0:=na;rw [A4e] at na;obtain ⟨bb,p,xs,rfl,hb,hp,nds⟩:=na;have one:([V.int 0]:List V).length<=sizeLine:=A0h (by show 1<=1000000;decide);have lx:=nds.len
  refine ⟨_,(A0e (A0x (i:=1) A3p.nd rfl (Or.inl rfl) (A0j G_body_of (hr.mono (by lia)) rfl T.cO T.bD.kp T.cV .nil A1a (A0a (pv 0) A0c)))
   (A0e (A1m (PW.pt (B0k (A0w B1u (A0q A0p (by rfl) T.ai Z0r (A0a (pv 1) A0c)) A0f (A1c _)) (A7p (A5x (A2q (A0j G_is_loop (hr.mono (by lia)) rfl T.cS T.bE.kp T.cT .nil A1a (A0a (A1b A1e (pv 1) A0f (λ_ _=>rfl)) A0c)))))))
    (A0g (A4x A8w T.aI G_NoMove_init (hr.mono (by lia)) rfl T.aE T.aq .nil A1a rfl rfl (A0a A0f A0c)))
    A0u)
   (A0e (A7f (A1b A1e (pv 1) A0f (λ_ _=>rfl)) (A4y (n:=6) rfl (A0n (A0k (i:=2) A3p.nd rfl (Or.inl rfl) (Or.inl rfl)) (A0n (A0k (i:=3) A3p.nd rfl (Or.inl rfl) (Or.inl rfl)) (A0n (A0k (i:=4) A3p.nd rfl (Or.inl rfl) (Or.inl rfl)) (A0n (A0k (i:=5) A3p.nd rfl (Or.inl rfl) (Or.inl rfl)) (A0n (A0k (i:=6) A3p.nd rfl (Or.inl rfl) (Or.inl rfl)) (A0n (A0k (i:=7) A3p.nd rfl (Or.inl rfl) (Or.inl rfl)) A3e))))))))
   (A0e (A1m (A0w A3t (pv 6) (A1b A1e (pv 0) A0f (λ_ _=>rfl)) (A1c _))
    (A0g (A4x A8w T.aI G_NoMove_init (hr.mono (by lia)) rfl T.aE T.aq .nil A1a rfl rfl (A0a A0f A0c)))
    A0u)
   (A0g (A0r (A0j G_with_body (hr.mono (by lia)) rfl T.bi T.aT.kp T.bn .nil A1a (A0a (A1b A1e (pv 1) A0f (λ_ _=>rfl)) (A0a (A1i (A0a (A0j G_with_body (hr.mono (by lia)) rfl T.bi T.aT.kp T.bn .nil A1a (A0a (pv 0) (A0a (pv 7) A0c))) A0c)) A0c))))))))),?_⟩
  refine ⟨_,rfl,bb,p,_,_,_,_,_,rfl,hb,?_⟩;refine ⟨_,rfl,p,_,rfl,.inr (SqT.of hp),rfl,_,rfl,?_⟩
  match bd,nds,lx,k,xe with
  | [],nds,lx,k,xe =>
   refine A2c (by rw [show xs.length=0 from lx];decide) ⟨one,A4m (xe rfl)⟩
  | x1::x2::r,nds,lx,k,xe =>
   refine A2c (by rw [lx,Z0y,Z0y];simp;lia) ⟨one,A4m (xe (by cases x1 <;> rfl))⟩
  | [x1],nds,lx,k,xe =>
   refine A3l (by rw [show xs.length=1 from lx];decide) ?_;rw [A1l] at nds;obtain ⟨v1,vr,rfl,n1,nr⟩:=nds;rw [A1l] at nr;subst nr
   cases x1 with
   | deed n' k' w' cs us =>
    rw [A4e] at n1;obtain ⟨b1,c1,u1,rfl,hb1,_,_⟩:=n1;exact ⟨_,rfl,p,_,_,_,rfl,rfl,SqT.of hp,A0i (j:=0) rfl,b1,_,_,rfl,hb1,_,rfl,A2c (by decide +kernel) ⟨one,A4m (xe rfl)⟩⟩
   | loop m szm wdm outm bdm =>
    have n10:=n1;rw [A4e] at n1;obtain ⟨b1,p1,xs1,rfl,hb1,hp1,nds1⟩:=n1;refine ⟨_,rfl,p,_,_,_,rfl,rfl,SqT.of hp,A0i (j:=0) rfl,b1,_,_,rfl,hb1,_,rfl,A3l (by decide +kernel) ?_⟩;refine ⟨_,rfl,p,_,_,_,rfl,rfl,SqT.of hp,A0i (j:=0) rfl,b1,_,rfl,SqT.of hb1,rfl,_,_,rfl,_,_,rfl,_,_,rfl,_,_,rfl,_,_,rfl,_,_,rfl,rfl,?_⟩;refine ⟨_,rfl,_,rfl,bb,_,_,_,rfl,rfl,SqT.of hb,A0i (j:=1) rfl,rfl,_,rfl,A9h (λhc=>⟨one,A4m (xe (by show (if outm=n then none else some _)=none;rw [Z12 (by injection hc)]))⟩) (λhc=> ?_)⟩;have hne:outm≠n:=λz=>hc (by rw [z]);refine ⟨_,rfl,p,_,_,_,rfl,rfl,SqT.of hp,A0i (j:=0) rfl,_,rfl,_,rfl,bb,_,_,_,_,_,_,_,rfl,hb,λq hq=>⟨A0h (by simp),λtp htp=> ?_⟩⟩;have u1:A0o H (upd H q (.tup [.str "loop",.int n,.int sz,.int wd,.int out,.ref p1])):=A0d hq;have hq1:upd H q (.tup [.str "loop",.int n,.int sz,.int wd,.int out,.ref p1]) q=some (.tup [.str "loop",.int n,.int sz,.int wd,.int out,.ref p1]):=A0b;generalize upd H q (.tup [.str "loop",.int n,.int sz,.int wd,.int out,.ref p1])=H1 at u1 hq1 htp⊢;have u2:A0o H1 (upd H1 tp (.tup [.ref q])):=A0d htp;have ht2:upd H1 tp (.tup [.ref q]) tp=some (.tup [.ref q]):=A0b;generalize upd H1 tp (.tup [.ref q])=H2 at u2 ht2⊢;have u12:=u1.trans u2;refine ⟨b1,_,_,_,_,_,_,_,rfl,u12 _ _ hb1,λr hr0=> ?_⟩;have u3:=A0d (H:=H2) (o:= .tup [.str "loop",.int m,.int szm,.int wdm,.int outm,.ref tp]) hr0;refine k (.loop m szm wdm outm [.loop n sz wd out bdm]) _ _ (by show (if outm=n then none else some (Nd.loop m szm wdm outm [.loop n sz wd out bdm]))=_;rw [Z0t hne]) (u12.trans u3) ?_;rw [A4e];refine ⟨r,tp,[.ref q],rfl,A0b,u3 _ _ ht2,?_⟩;rw [A1l];refine ⟨_,[],rfl,?_,by rw [A1l]⟩;rw [A4e];exact ⟨q,p1,xs1,rfl,(u2.trans u3) _ _ hq1,(u12.trans u3) _ _ hp1,nds1.kt (KT.same (u12.trans u3))⟩
theorem C4a (T:Txt K mg t):A1y P w K mg base (CXD P w) 85 t.eV t.eZ ["tile","loop","fresh"] (D2i t):=by
 have G_NoMove_init:=A3k (P:=P) (w:=w) (base:=base) T;have G_renumbered:=C6c (P:=P) (w:=w) (base:=base) T 40;refine T.fU.okD A3v (λvs H Q E h=> ?_) (λcdv A outer s H vs Q E hr h=> ?_)
 ·obtain ⟨T',w',n,sz,wd,out,bd,v,b,rfl,_⟩:=h;rfl
 ·obtain ⟨tl,fr,n,sz,wd,out,bd,v,b,rfl,na,wb,dp,t2,k,xe⟩:=h;rw [A4e] at na;obtain ⟨bb,p,xs,rfl,hb,hp,nds⟩:=na;rw [okN] at wb;obtain ⟨_,s1,s60,n0,nb,wbd,lbd⟩:=wb;have one:([V.int 0]:List V).length<=sizeLine:=A0h (by show 1<=1000000;decide)
  refine ⟨_,(A0e (A7f (pv 1) (A4y (n:=6) rfl (A0n (A0k (i:=3) A3v.nd rfl (Or.inl rfl) (Or.inl rfl)) (A0n (A0k (i:=4) A3v.nd rfl (Or.inl rfl) (Or.inl rfl)) (A0n (A0k (i:=5) A3v.nd rfl (Or.inl rfl) (Or.inl rfl)) (A0n (A0k (i:=6) A3v.nd rfl (Or.inl rfl) (Or.inl rfl)) (A0n (A0k (i:=7) A3v.nd rfl (Or.inl rfl) (Or.inl rfl)) (A0n (A0k (i:=8) A3v.nd rfl (Or.inl rfl) (Or.inl rfl)) A3e))))))))
   (A0e (A1m (PW.pt (B0k (A0w B1u (pv 7) (B6h T.eF rfl) (A1c _)) (A7p (A0w D5p (pv 0) A0f (A1c _)))))
    (A0g (A4x A8w T.aI G_NoMove_init (hr.mono (by lia)) rfl T.aE T.aq .nil A1a rfl rfl (A0a A0f A0c)))
    A0u)
   (A0e (A0x (i:=9) A3v.nd rfl (Or.inl rfl) (A0v C1l (A0v A9s (A0v A2a (pv 5) (pv 0)) A0f) (pv 0)))
   (A0e (A0x (i:=10) A3v.nd rfl (Or.inl rfl) (A1i (A0a (pv 3) (A0a (pv 2) (A0a (pv 5) (A0a (pv 0) (A0a (pv 4) (A0a (A0j G_renumbered (hr.mono (by lia)) rfl T.bK T.aZ.kp T.bU .nil A1a (A0a (pv 8) (A0a (pv 4) (A0a (pv 2) A0c)))) A0c))))))))
   (A0g (A0r (A1i (A0a (pv 3) (A0a (pv 4) (A0a (pv 9) (A0a (pv 6) (A0a (pv 7) (A0a (A1i (A0a (pv 10) A0c)) A0c))))))))))))),?_⟩
  refine ⟨_,rfl,bb,_,rfl,SqT.of hb,rfl,_,_,rfl,_,_,rfl,_,_,rfl,_,_,rfl,_,_,rfl,_,_,rfl,rfl,?_⟩;refine ⟨_,rfl,rfl,_,rfl,?_⟩;by_cases ho:out= -1
  rotate_left
  ·exact A2c (by simp [ho]) ⟨one,A4m (xe (by show (if out= -1/\1<=tl then some _ else none)=none;rw [Z0t (λz=>ho z.1)]))⟩
  subst ho;refine C5w rfl ⟨_,rfl,_,_,rfl,rfl,_,rfl,A9h (λh=>⟨one,A4m (xe (by show (if (-1:Int)= -1/\1<=tl then some _ else none)=none;rw [Z0t (λz=>by have h:tl<1:=h;lia)]))⟩) (λh1=> ?_)⟩;have t1:1<=tl:=by have:¬tl<1:=h1;lia
  refine ⟨_,rfl,_,rfl,_,_,rfl,rfl,_,_,rfl,rfl,_,rfl,_,_,rfl,rfl,⟨by lia,t2⟩,?_⟩;refine ⟨_,rfl,_,rfl,_,rfl,_,rfl,_,rfl,_,rfl,_,rfl,_,rfl,p,xs,bd,n,fr,_,rfl,hp,nds,wbd,lbd,dp,λq xs' H1 u1 hq nd'=>⟨A0h (by simp),λwq hwq=> ?_⟩⟩;have u2:A0o H1 (upd H1 wq (.tup [.str "loop",.int fr,.int sz,.int tl,.int n,.ref q])):=A0d hwq;have hw2:upd H1 wq (.tup [.str "loop",.int fr,.int sz,.int tl,.int n,.ref q]) wq=some (.tup [.str "loop",.int fr,.int sz,.int tl,.int n,.ref q]):=A0b;generalize upd H1 wq (.tup [.str "loop",.int fr,.int sz,.int tl,.int n,.ref q])=H2 at u2 hw2⊢;refine ⟨_,rfl,_,rfl,_,rfl,_,rfl,_,rfl,_,rfl,A0h (by simp),λz hz=>⟨A0h (by simp),λr hr0=> ?_⟩⟩;have u3:A0o H2 (upd H2 z (.tup [.ref wq])):=A0d hz;have hz3:upd H2 z (.tup [.ref wq]) z=some (.tup [.ref wq]):=A0b;generalize upd H2 z (.tup [.ref wq])=H3 at u3 hz3 hr0⊢;have u4:=A0d (o:= .tup [.str "loop",.int n,.int ((sz+tl-1)/tl),.int wd,.int (-1),.ref z]) hr0;refine k _ _ _ (by show (if (-1:Int)= -1/\1<=tl then some (C3s tl fr (.loop n sz wd (-1) bd)) else none)=_;rw [Z12 ⟨rfl,t1⟩]) (u1.trans (u2.trans (u3.trans u4))) ?_;rw [C3s,A4e];refine ⟨r,z,[.ref wq],rfl,A0b,u4 _ _ hz3,?_⟩;rw [A1l];refine ⟨_,[],rfl,?_,by rw [A1l]⟩;rw [A4e];exact ⟨wq,q,xs',rfl,(u3.trans u4) _ _ hw2,(u2.trans (u3.trans u4)) _ _ hq,nd'.kt (KT.same (u2.trans (u3.trans u4)))⟩
theorem B3x (T:Txt K mg t):A1y P w K mg base (CXD P w) 85 t.bq t.bw ["behind","loop"] (D6i t):=by
 have G_NoMove_init:=A3k (P:=P) (w:=w) (base:=base) T;have G_is_loop:=A8e (P:=P) (w:=w) (base:=base) T;have G_body_of:=A7z (P:=P) (w:=w) (base:=base) T;have G_with_body:=A7c (P:=P) (w:=w) (base:=base) T;have G_renumbered:=C6c (P:=P) (w:=w) (base:=base) T 40;refine T.cY.okD A2m (λvs H Q E h=> ?_) (λcdv A outer s H vs Q E hr h=> ?_)
 ·obtain ⟨bh,v,xs,r,n,sz,wd,out,bd,b,rfl,_⟩:=h;rfl
 ·obtain ⟨bh,v,xs,r,n,sz,wd,out,bd,b,rfl,hbh,nds,na,wb,lb,dp,k,xe⟩:=h;rw [A4e] at na;obtain ⟨bb,p,xp,rfl,hb,hp,ndp⟩:=na;have one:([V.int 0]:List V).length<=sizeLine:=A0h (by show 1<=1000000;decide);have lx:=nds.len
  refine ⟨_,(A0e (A1m (PW.pt (B0k (A0w A3t (A0q A0p (by rfl) T.ai Z0r (A0a (pv 0) A0c)) A0f (A1c _)) (A7p (A5x (A2q (A0j G_is_loop (hr.mono (by lia)) rfl T.cS T.bE.kp T.cT .nil A1a (A0a (A1b A1e (pv 0) A0f (λ_ _=>rfl)) A0c)))))))
    (A0g (A4x A8w T.aI G_NoMove_init (hr.mono (by lia)) rfl T.aE T.aq .nil A1a rfl rfl (A0a A0f A0c)))
    A0u)
   (A0e (A7f (A1b A1e (pv 0) A0f (λ_ _=>rfl)) (A4y (n:=6) rfl (A0n (A0k (i:=2) A2m.nd rfl (Or.inl rfl) (Or.inl rfl)) (A0n (A0k (i:=3) A2m.nd rfl (Or.inl rfl) (Or.inl rfl)) (A0n (A0k (i:=4) A2m.nd rfl (Or.inl rfl) (Or.inl rfl)) (A0n (A0k (i:=5) A2m.nd rfl (Or.inl rfl) (Or.inl rfl)) (A0n (A0k (i:=6) A2m.nd rfl (Or.inl rfl) (Or.inl rfl)) (A0n (A0k (i:=7) A2m.nd rfl (Or.inl rfl) (Or.inl rfl)) A3e))))))))
   (A0e (A1m (A0w (A9x hr.units) (A1h A3h (pv 1) (A1g A0f) (A1g A0f)) (A1i (A0a (pv 4) (A0a (pv 5) (A0a (pv 6) A0c)))) (A1c _))
    (A0g (A4x A8w T.aI G_NoMove_init (hr.mono (by lia)) rfl T.aE T.aq .nil A1a rfl rfl (A0a A0f A0c)))
    A0u)
   (A0g (A0r (A0j G_with_body (hr.mono (by lia)) rfl T.bi T.aT.kp T.bn .nil A1a (A0a (pv 1) (A0a (A0v A2i (A0j G_body_of (hr.mono (by lia)) rfl T.cO T.bD.kp T.cV .nil A1a (A0a (pv 1) A0c)) (A0j G_renumbered (hr.mono (by lia)) rfl T.bK T.aZ.kp T.bU .nil A1a (A0a (pv 7) (A0a (pv 3) (A0a (A1b A1e (pv 1) A0f (λ_ _=>rfl)) A0c))))) A0c)))))))),?_⟩
  refine ⟨_,rfl,bh,_,rfl,.inr (SqT.of hbh),rfl,_,rfl,?_⟩
  match r,nds,lx,wb,dp,k,xe with
  | [],nds,lx,wb,dp,k,xe=>exact A2c (by rw [show xs.length=0 from lx];decide) ⟨one,A4m (xe rfl)⟩
  | x1::r',nds,lx,wb,dp,k,xe =>
   refine A3l (by rw [lx,Z0y];simp;lia) ?_;rw [A1l] at nds;obtain ⟨v1,vr,rfl,n1,nr⟩:=nds
   cases x1 with
   | deed n' k' w' cs us =>
    rw [A4e] at n1;obtain ⟨b1,c1,u1,rfl,hb1,_,_⟩:=n1;exact ⟨_,rfl,bh,_,_,_,rfl,rfl,SqT.of hbh,A0i (j:=0) rfl,b1,_,_,rfl,hb1,_,rfl,A2c (by decide +kernel) ⟨one,A4m (xe rfl)⟩⟩
   | loop m szm wdm outm bdm =>
    rw [A4e] at n1;obtain ⟨b1,p1,xs1,rfl,hb1,hp1,nds1⟩:=n1;rw [okL,okN] at wb;obtain ⟨⟨_,_,_,_,_,wbm,lbm⟩,_⟩:=wb;rw [dpL,dpN] at dp;refine ⟨_,rfl,bh,_,_,_,rfl,rfl,SqT.of hbh,A0i (j:=0) rfl,b1,_,_,rfl,hb1,_,rfl,A3l (by decide +kernel) ?_⟩;refine ⟨_,rfl,bh,_,_,_,rfl,rfl,SqT.of hbh,A0i (j:=0) rfl,b1,_,rfl,SqT.of hb1,rfl,_,_,rfl,_,_,rfl,_,_,rfl,_,_,rfl,_,_,rfl,_,_,rfl,rfl,?_⟩;refine ⟨_,rfl,_,rfl,_,rfl,bb,_,rfl,SqT.of hb,(λz=>absurd z.1 (by show¬HT.sIx 6 0 (some 2)=0;decide)),λsq hsq=> ?_⟩;have ec:A2u [V.str "loop",.int n,.int sz,.int wd,.int out,.ref p] (some 2) (some 5)=[.int sz,.int wd,.int out]:=rfl;rw [ec];have u1:A0o H (upd H sq (.tup [.int sz,.int wd,.int out])):=A0d hsq;have hs1:upd H sq (.tup [.int sz,.int wd,.int out]) sq=some (.tup [.int sz,.int wd,.int out]):=A0b;generalize upd H sq (.tup [.int sz,.int wd,.int out])=H1 at u1 hs1⊢;refine ⟨_,rfl,_,rfl,_,rfl,A0h (by simp),λtq htq=> ?_⟩;have u2:A0o H1 (upd H1 tq (.tup [.int szm,.int wdm,.int outm])):=A0d htq;have ht2:upd H1 tq (.tup [.int szm,.int wdm,.int outm]) tq=some (.tup [.int szm,.int wdm,.int outm]):=A0b;generalize upd H1 tq (.tup [.int szm,.int wdm,.int outm])=H2 at u2 ht2⊢;have u12:=u1.trans u2;refine ⟨.tuple [.int sz,.int wd,.int out],.tuple [.int szm,.int wdm,.int outm],.tup (u2 _ _ hs1) (.cons (.int _) (.cons (.int _) (.cons (.int _) .nil))),.tup ht2 (.cons (.int _) (.cons (.int _) (.cons (.int _) .nil))),C4h _ _ _,C4h _ _ _,_,rfl,?_⟩
    refine D7z (λhc=>⟨one,A4m (XE.go (xe (by
     show (if sz=szm/\wd=wdm/\out=outm then some _ else none)=none;refine Z0t λz=> ?_;obtain ⟨rfl,rfl,rfl⟩:=z
     simp [PyData.eqv,PyData.eqvAll] at hc)) u12)⟩) (λhc=> ?_)
    have he:sz=szm/\wd=wdm/\out=outm:=by
     have:PyData.eqv (.tuple [.int sz,.int wd,.int out]) (.tuple [.int szm,.int wdm,.int outm])=true:=by simpa using hc
     simpa [PyData.eqv,PyData.eqvAll] using this
    refine ⟨_,rfl,_,rfl,bb,p,_,_,_,_,_,rfl,u12 _ _ hb,?_⟩;refine ⟨_,rfl,_,rfl,_,rfl,bb,_,_,_,rfl,rfl,SqT.of (u12 _ _ hb),A0i (j:=1) rfl,p1,xs1,bdm,m,n,_,rfl,u12 _ _ hp1,nds1.kt (KT.same u12),wbm,lbm,by lia,λq xs' H3 u3 hq nd'=> ?_⟩;have u13:=u12.trans u3;have ly:=nd'.len;rw [A9v,Z08] at ly;have lp:=ndp.len;refine ⟨p,q,_,_,rfl,rfl,u13 _ _ hp,hq,A0h (by lia),λr1 H4 u4 hr4=> ?_⟩;have u14:=u13.trans u4;refine ⟨bb,_,_,_,_,_,_,_,rfl,u14 _ _ hb,λr2 hr2=> ?_⟩;have u5:=A0d (H:=H4) (o:= .tup [.str "loop",.int n,.int sz,.int wd,.int out,.ref r1]) hr2;refine k (.loop n sz wd out (bd++A8q m n bdm)) _ _ (by show (if sz=szm/\wd=wdm/\out=outm then some (Nd.loop n sz wd out (bd++A8q m n bdm)) else none)=_;rw [Z12 he]) (u14.trans u5) ?_;rw [A4e];refine ⟨r2,r1,_,rfl,A0b,u5 _ _ hr4,A1j.mpr (B1g (A1j.mp (ndp.kt (KT.same (u14.trans u5)))) (A1j.mp (nd'.kt (KT.same (u4.trans u5)))))⟩
end
theorem B3m {H:Hp}:∀path:List Nat,A3u H (B9z path) (path.map λ(p:Nat)=>PyData.int (p:Int))
 | []=> .nil
 | p::r=> .cons (.int _) (B3m r)
theorem C1x:∀path:List Nat,PyData.canLayAll0 (path.map λ(p:Nat)=>PyData.int (p:Int))=true/\PyData.depthAll (path.map λ(p:Nat)=>PyData.int (p:Int))=0
 | []=>⟨rfl,rfl⟩
 | p::r=>by
  obtain ⟨h1,h2⟩:=C1x r;exact ⟨by simp [PyData.canLayAll0,PyData.canLay0,h1],by simp [PyData.depthAll,PyData.depth,h2]⟩
theorem B2f (path:List Nat):SeqAt.shaped (.list (path.map λ(p:Nat)=>PyData.int (p:Int)))=true:=by
 obtain ⟨h1,h2⟩:=C1x path;refine A7h ?_ ?_
 ·simp only [PyData.canLay0];exact h1
 ·simp only [PyData.depth,h2];lia
theorem B6l (path:List Nat):PyData.eqv (.list (path.map λ(p:Nat)=>PyData.int (p:Int))) (.list [])=decide (path=[]):=by
 cases path <;> rfl
theorem D5f {m:Mv} {H:Hp} {a:Addr} (h:C8j H a m):∃(w:Str) (r:List V),H a=some (.tup (.str w:: .int m.num::r))/\(m.took=if w="cut" then 1 else 0):=by
 cases m with
 | swap N=>exact ⟨_,[],h,by show (0:Int)=if ("swap":Str)="cut" then 1 else 0;decide +kernel⟩
 | cut N T=>exact ⟨_,[.int T],h.1,by show (1:Int)=if ("cut":Str)="cut" then 1 else 0;decide +kernel⟩
 | join N=>exact ⟨_,[],h,by show (0:Int)=if ("join":Str)="cut" then 1 else 0;decide +kernel⟩
theorem C1p {H:Hp} {l:List Nd} {xs:List V} (h:A1l H l xs) (p:Nat):A1l H (l.take p) (xs.take p):=A1j.mpr (D2u p (A1j.mp h))
theorem B1n {H:Hp} {l:List Nd} {xs:List V} (h:A1l H l xs) (p:Nat):A1l H (l.drop p) (xs.drop p):=A1j.mpr (D3i p (A1j.mp h))
theorem C0a {H:Hp} {l m:List Nd} {xs ys:List V} (h:A1l H l xs) (g:A1l H m ys):A1l H (l++m) (xs++ys):=A1j.mpr (B1g (A1j.mp h) (A1j.mp g))
section
variable {P:Program} {w:World} {K:PySem.W.Frag} {mg:Str->Option Value} {base:Heap} {t:Adr}
theorem B9k (T:Txt K mg t):A1y P w K mg base (CXD P w) 86 t.dz t.dj ["place","body","move","fresh"] (D2n t):=by
 have G_NoMove_init:=A3k (P:=P) (w:=w) (base:=base) T;have G_swapped:=C3g (P:=P) (w:=w) (base:=base) T;have G_cut_by:=C4a (P:=P) (w:=w) (base:=base) T;have G_joined_with:=B3x (P:=P) (w:=w) (base:=base) T;refine T.fe.okD A6m (λvs H Q E h=> ?_) (λcdv A outer s H vs Q E hr h=> ?_)
 ·obtain ⟨p,bp,mv,fr,m,n,sz,wd,out,bd,xs,l,b,rfl,_⟩:=h;rfl
 ·obtain ⟨p,bp,mv,fr,m,n,sz,wd,out,bd,xs,l,b,rfl,hbp,nds,ll,hx,wb,dp,hmv,k,xe⟩:=h;have lx:=nds.len;have hp:p<l.length:=(Z03.mp hx).1;have prs:=A1j.mp nds;have hxi:xs[p]? =some (xs[p]'(by lia)):=Z0b _;obtain ⟨x',hx',na⟩:=B1k prs hxi;rw [hx] at hx';cases hx';generalize xs[p]'(by lia)=v at hxi na;have ec:=A3r hx;have wb0:=wb;rw [ec,B9x,okL] at wb0;have dp0:=dp;rw [ec,A3g] at dp0;have wx:=wb0.2.1;have wr:=wb0.2.2;have wx':=wx;rw [okN] at wx';have lbd:bd.length<=100:=wx'.2.2.2.2.2.2;have dpr:dpL (l.drop (p+1))<=40:=Z1n (Z1n (Nat.le_max_right _ _) (Nat.le_max_right _ _)) dp0;have dpx:dpL bd<=40:=by rw [dpN] at dp0;lia
  clear dp0
  refine ⟨_,(A0e (A0x (i:=4) A6m.nd rfl (Or.inl rfl) (A1b A1e (pv 1) (pv 0) (λ_ _=>rfl)))
   (A0e (A0x (i:=5) A6m.nd rfl (Or.inl rfl) (A1h A3h (pv 1) (A1g (A0v A2a (pv 0) A0f)) A2d))
   (A0e (A0x (i:=6) A6m.nd rfl (Or.inl rfl) (A1i (A0a (A1b A1e (pv 2) A0f (λ_ _=>rfl)) (A0a (A0q A0p (by rfl) T.ai Z0r (A0a (pv 2) A0c)) A0c))))
   (A0e (A1m (A0w (C0y hr.units) (pv 6) (A1i (A0a A1r (A0a A0f A0c))) (A1c _))
    (A0g (A0r (A0v A2i (A0v A2i (A1h A3h (pv 1) A2d (A1g (pv 0))) (A1i (A0a (A0j G_swapped (hr.mono (by lia)) rfl T.gz T.fx.kp T.gC .nil C3n (A0a (pv 4) A0c)) A0c))) (pv 5))))
    A0u)
   (A0e (A1m (A0w (C0y hr.units) (pv 6) (A1i (A0a A1r (A0a A0f A0c))) (A1c _))
    (A0g (A0r (A0v A2i (A0v A2i (A1h A3h (pv 1) A2d (A1g (pv 0))) (A1i (A0a (A0j G_cut_by (hr.mono (by lia)) rfl T.gH T.fU.kp T.gG .nil C3n (A0a (A1b A1e (pv 2) A0f (λ_ _=>rfl)) (A0a (pv 4) (A0a (pv 3) A0c)))) A0c))) (pv 5))))
    A0u)
   (A0e (A1m (A0w (C0y hr.units) (pv 6) (A1i (A0a A1r (A0a A0f A0c))) (A1c _))
    (A0g (A0r (A0v A2i (A0v A2i (A1h A3h (pv 1) A2d (A1g (pv 0))) (A1i (A0a (A0j G_joined_with (hr.mono (by lia)) rfl T.fh T.cY.kp T.fk .nil C3n (A0a (pv 5) (A0a (pv 4) A0c))) A0c))) (A1h A3h (pv 5) (A1g A0f) A2d))))
    A0u)
   (A0g (A4x A8w T.aI G_NoMove_init (hr.mono (by lia)) rfl T.aE T.aq .nil A1a rfl rfl (A0a A0f A0c))))))))),?_⟩
  refine ⟨_,rfl,_,rfl,bp,_,_,_,rfl,rfl,SqT.of hbp,A0i hxi,?_⟩;refine ⟨_,rfl,_,rfl,_,_,rfl,rfl,_,rfl,bp,xs,rfl,SqT.of hbp,?_,λbh hbh=> ?_⟩
  ·rintro ⟨h1,_⟩;have e:((p:Int)+1)=((p+1:Nat):Int):=by lia
   have h1:HT.sIx xs.length 0 (some ((p:Int)+1))=0:=h1;rw [e,HT.sIx_nat] at h1
   lia
  have ed:A2u xs (some ((p:Int)+1)) none=xs.drop (p+1):=by
   rw [show ((p:Int)+1)=((p+1:Nat):Int) by lia];exact A4q (by lia)
  have u1:A0o H (upd H bh (.tup (xs.drop (p+1)))):=A0d hbh;have hb1:upd H bh (.tup (xs.drop (p+1))) bh=some (.tup (xs.drop (p+1))):=A0b;rw [show A2u xs (some ((p:Int)+1)) none=xs.drop (p+1) from ed];generalize upd H bh (.tup (xs.drop (p+1)))=H1 at u1 hb1⊢;have ndr:A1l H1 (l.drop (p+1)) (xs.drop (p+1)):=(B1n nds (p+1)).kt (KT.same u1);have ndt:∀{G:Hp},A0o H G->A1l G (l.take p) (xs.take p):=λsG=>(C1p nds p).kt (KT.same sG);have one:([V.int 0]:List V).length<=sizeLine:=A0h (by show 1<=1000000;decide)
  have tk:¬(HT.sIx xs.length 0 none=0/\HT.sIx xs.length xs.length (some (p:Int))=xs.length):=by
   rintro ⟨_,h2⟩;rw [HT.sIx_nat] at h2
   lia
  have fin:∀{G:Hp} {y:Nd} {v':V} {hd z:Addr} {r1:List V} {rl:List Nd} {bh':Addr},A0o H G->G hd=some (.tup (xs.take p))->G z=some (.tup [v'])->A4e G y v'->G bh'=some (.tup r1)->A1l G rl r1->r1.length<=100->mvO m fr (.loop n sz wd out bd) (l.drop (p+1))=some (y::rl)->
    D1m (.ref hd) (.ref z) G λa G1=>(∃a',a=V.ref a'/\(∃b' ys zs,G1 a'=some (.tup ys)/\G1 bh'=some (.tup zs)/\b'=bh'/\ys.length+zs.length<=sizeLine/\∀q H',A0o G1 H'->H' q=some (.tup (ys++zs))->Q (.ref q) H')):=λ{G y v' hd z r1 rl bh'} sG hhd hz ny hbh' nrl l1 e=>by
   refine ⟨hd,z,_,_,rfl,rfl,hhd,hz,A0h (by rw [Z0x];simp;lia),λq G1 sg hq=>⟨q,rfl,bh',_,_,hq,sg _ _ hbh',rfl,A0h (by rw [Z06,Z0x];simp;lia),λq2 H' s' hq2=> ?_⟩⟩;refine k (y::rl) q2 _ H' e (sG.trans (sg.trans s')) hq2 ?_;rw [Z0z];exact C0a (ndt (sG.trans (sg.trans s'))) (A1j.mpr (.cons (A4e.kt (KT.same (sg.trans s')) ny) (A1j.mp (nrl.kt (KT.same (sg.trans s'))))))
  cases m with
  | swap N =>
   have hmv':H mv=some (.tup [.str "swap",.int N]):=hmv;refine ⟨_,rfl,mv,_,_,_,rfl,rfl,SqT.of (u1 _ _ hmv'),A0i (j:=0) rfl,_,rfl,mv,_,rfl,.inr (SqT.of (u1 _ _ hmv')),A0h (by simp),λf hf=> ?_⟩;generalize hG2:upd H1 f _=H2;have u2:A0o H1 H2:=by rw [<-hG2];exact A0d hf
   have hf2:H2 f=some (.tup [.str "swap",.int 2]):=by rw [<-hG2];exact A0b
   clear hG2;have rep:∀{G:Hp},A0o H2 G->Rep G (.ref f) (.tuple [.str "swap",.int 2]):=λsG=> .tup (sG _ _ hf2) (.cons (.str _) (.cons (.int _) .nil));refine ⟨_,rfl,A0h (by simp),λz hz=> ?_⟩;have u3:A0o H2 (upd H2 z (.tup [.str "swap",.int 2])):=A0d hz;have hz3:upd H2 z (.tup [.str "swap",.int 2]) z=some (.tup [.str "swap",.int 2]):=A0b;generalize upd H2 z (.tup [.str "swap",.int 2])=H3 at u3 hz3⊢;refine ⟨_,.tuple [.str "swap",.int 2],rep u3,.tup hz3 (.cons (.str _) (.cons (.int _) .nil)),by decide +kernel,by decide +kernel,_,rfl,?_⟩;refine A2c (by decide +kernel) ?_;have s3:=u1.trans (u2.trans u3);refine ⟨_,rfl,_,rfl,_,rfl,bp,xs,rfl,SqT.of (s3 _ _ hbp),tk,λhd hhd=> ?_⟩;rw [A5e (by lia)];have u5:A0o H3 (upd H3 hd (.tup (xs.take p))):=A0d hhd;have hd5:upd H3 hd (.tup (xs.take p)) hd=some (.tup (xs.take p)):=A0b;generalize upd H3 hd (.tup (xs.take p))=H5 at u5 hd5⊢;have s5:=s3.trans u5;refine ⟨_,rfl,v,n,sz,wd,out,bd,rfl,A4e.kt (KT.same s5) na,λy v' H6 ey u6 ny=>⟨A0h (by simp),λz3 hz3'=> ?_⟩,λz=>XE.go (xe (by show (swp _).map _=none;rw [z];rfl)) s5⟩;have u7:A0o H6 (upd H6 z3 (.tup [v'])):=A0d hz3';have hz7:upd H6 z3 (.tup [v']) z3=some (.tup [v']):=A0b;generalize upd H6 z3 (.tup [v'])=H7 at u7 hz7⊢;have s7:=s5.trans (u6.trans u7);obtain ⟨a1,a2,a3,a4,e1,e2,h1,h2,h3,h4⟩:=fin (y:=y) (rl:=l.drop (p+1)) s7 ((u6.trans u7) _ _ hd5) hz7 (A4e.kt (KT.same u7) ny) ((u2.trans (u3.trans (u5.trans (u6.trans u7)))) _ _ hb1) (ndr.kt (KT.same (u2.trans (u3.trans (u5.trans (u6.trans u7)))))) (by rw [Z19];lia) (by show (swp _).map _=_;rw [ey];rfl);refine ⟨a1,a2,a3,a4,e1,e2,h1,h2,h3,λq8 H8 u8 hq8=> ?_⟩;obtain ⟨a',ea,b',ys,zs,g1,g2,g3,g4,g5⟩:=h4 q8 H8 u8 hq8;cases ea;exact ⟨_,rfl,q8,bh,ys,zs,rfl,rfl,g1,g2,g4,g5⟩
  | cut N tl =>
   have hmv':H mv=some (.tup [.str "cut",.int N,.int tl]):=hmv.1;refine ⟨_,rfl,mv,_,_,_,rfl,rfl,SqT.of (u1 _ _ hmv'),A0i (j:=0) rfl,_,rfl,mv,_,rfl,.inr (SqT.of (u1 _ _ hmv')),A0h (by simp),λf hf=> ?_⟩;generalize hG2:upd H1 f _=H2;have u2:A0o H1 H2:=by rw [<-hG2];exact A0d hf
   have hf2:H2 f=some (.tup [.str "cut",.int 3]):=by rw [<-hG2];exact A0b
   clear hG2;have rep:∀{G:Hp},A0o H2 G->Rep G (.ref f) (.tuple [.str "cut",.int 3]):=λsG=> .tup (sG _ _ hf2) (.cons (.str _) (.cons (.int _) .nil));refine ⟨_,rfl,A0h (by simp),λz hz=> ?_⟩;have u3:A0o H2 (upd H2 z (.tup [.str "swap",.int 2])):=A0d hz;have hz3:upd H2 z (.tup [.str "swap",.int 2]) z=some (.tup [.str "swap",.int 2]):=A0b;generalize upd H2 z (.tup [.str "swap",.int 2])=H3 at u3 hz3⊢;refine ⟨_,.tuple [.str "swap",.int 2],rep u3,.tup hz3 (.cons (.str _) (.cons (.int _) .nil)),by decide +kernel,by decide +kernel,_,rfl,?_⟩;refine A3l (by decide +kernel) ?_;refine ⟨_,rfl,A0h (by simp),λz2 hz2=> ?_⟩;have u4:A0o H3 (upd H3 z2 (.tup [.str "cut",.int 3])):=A0d hz2;have hz4:upd H3 z2 (.tup [.str "cut",.int 3]) z2=some (.tup [.str "cut",.int 3]):=A0b;generalize upd H3 z2 (.tup [.str "cut",.int 3])=H4 at u4 hz4⊢;refine ⟨_,.tuple [.str "cut",.int 3],rep (u3.trans u4),.tup hz4 (.cons (.str _) (.cons (.int _) .nil)),by decide +kernel,by decide +kernel,_,rfl,?_⟩;refine A2c (by decide +kernel) ?_;have s4:=u1.trans (u2.trans (u3.trans u4));refine ⟨_,rfl,_,rfl,_,rfl,bp,xs,rfl,SqT.of (s4 _ _ hbp),tk,λhd hhd=> ?_⟩;rw [A5e (by lia)];have u5:A0o H4 (upd H4 hd (.tup (xs.take p))):=A0d hhd;have hd5:upd H4 hd (.tup (xs.take p)) hd=some (.tup (xs.take p)):=A0b;generalize upd H4 hd (.tup (xs.take p))=H5 at u5 hd5⊢;have s5:=s4.trans u5;refine ⟨_,rfl,mv,_,_,_,rfl,rfl,SqT.of (s5 _ _ hmv'),A0i (j:=2) rfl,_,rfl,_,rfl,tl,fr,n,sz,wd,out,bd,v,b,rfl,A4e.kt (KT.same s5) na,wx,dpx,hmv.2,λy v' H6 ey u6 ny=>⟨A0h (by simp),λz3 hz3'=> ?_⟩,λz=>XE.go (xe (by show (C3p tl fr _).map _=none;rw [z];rfl)) s5⟩;have u7:A0o H6 (upd H6 z3 (.tup [v'])):=A0d hz3';have hz7:upd H6 z3 (.tup [v']) z3=some (.tup [v']):=A0b;generalize upd H6 z3 (.tup [v'])=H7 at u7 hz7⊢;have s7:=s5.trans (u6.trans u7);have v7:=u2.trans (u3.trans (u4.trans (u5.trans (u6.trans u7))));obtain ⟨a1,a2,a3,a4,e1,e2,h1,h2,h3,h4⟩:=fin (y:=y) (rl:=l.drop (p+1)) s7 ((u6.trans u7) _ _ hd5) hz7 (A4e.kt (KT.same u7) ny) (v7 _ _ hb1) (ndr.kt (KT.same v7)) (by rw [Z19];lia) (by show (C3p tl fr _).map _=_;rw [ey];rfl);refine ⟨a1,a2,a3,a4,e1,e2,h1,h2,h3,λq8 H8 u8 hq8=> ?_⟩;obtain ⟨a',ea,b',ys,zs,g1,g2,g3,g4,g5⟩:=h4 q8 H8 u8 hq8;cases ea;exact ⟨_,rfl,q8,bh,ys,zs,rfl,rfl,g1,g2,g4,g5⟩
  | join N =>
   have hmv':H mv=some (.tup [.str "join",.int N]):=hmv;refine ⟨_,rfl,mv,_,_,_,rfl,rfl,SqT.of (u1 _ _ hmv'),A0i (j:=0) rfl,_,rfl,mv,_,rfl,.inr (SqT.of (u1 _ _ hmv')),A0h (by simp),λf hf=> ?_⟩;generalize hG2:upd H1 f _=H2;have u2:A0o H1 H2:=by rw [<-hG2];exact A0d hf
   have hf2:H2 f=some (.tup [.str "join",.int 2]):=by rw [<-hG2];exact A0b
   clear hG2;have rep:∀{G:Hp},A0o H2 G->Rep G (.ref f) (.tuple [.str "join",.int 2]):=λsG=> .tup (sG _ _ hf2) (.cons (.str _) (.cons (.int _) .nil));refine ⟨_,rfl,A0h (by simp),λz hz=> ?_⟩;have u3:A0o H2 (upd H2 z (.tup [.str "swap",.int 2])):=A0d hz;have hz3:upd H2 z (.tup [.str "swap",.int 2]) z=some (.tup [.str "swap",.int 2]):=A0b;generalize upd H2 z (.tup [.str "swap",.int 2])=H3 at u3 hz3⊢;refine ⟨_,.tuple [.str "swap",.int 2],rep u3,.tup hz3 (.cons (.str _) (.cons (.int _) .nil)),by decide +kernel,by decide +kernel,_,rfl,?_⟩;refine A3l (by decide +kernel) ?_;refine ⟨_,rfl,A0h (by simp),λz2 hz2=> ?_⟩;have u4:A0o H3 (upd H3 z2 (.tup [.str "cut",.int 3])):=A0d hz2;have hz4:upd H3 z2 (.tup [.str "cut",.int 3]) z2=some (.tup [.str "cut",.int 3]):=A0b;generalize upd H3 z2 (.tup [.str "cut",.int 3])=H4 at u4 hz4⊢;refine ⟨_,.tuple [.str "cut",.int 3],rep (u3.trans u4),.tup hz4 (.cons (.str _) (.cons (.int _) .nil)),by decide +kernel,by decide +kernel,_,rfl,?_⟩;refine A3l (by decide +kernel) ?_;refine ⟨_,rfl,A0h (by simp),λz5 hz5=> ?_⟩;have u4':A0o H4 (upd H4 z5 (.tup [.str "join",.int 2])):=A0d hz5;have hz5':upd H4 z5 (.tup [.str "join",.int 2]) z5=some (.tup [.str "join",.int 2]):=A0b;generalize upd H4 z5 (.tup [.str "join",.int 2])=H4' at u4' hz5'⊢;refine ⟨_,.tuple [.str "join",.int 2],rep (u3.trans (u4.trans u4')),.tup hz5' (.cons (.str _) (.cons (.int _) .nil)),by decide +kernel,by decide +kernel,_,rfl,?_⟩;refine A2c (by decide +kernel) ?_;have s4:=u1.trans (u2.trans (u3.trans (u4.trans u4')));refine ⟨_,rfl,_,rfl,_,rfl,bp,xs,rfl,SqT.of (s4 _ _ hbp),tk,λhd hhd=> ?_⟩;rw [A5e (by lia)];have u5:A0o H4' (upd H4' hd (.tup (xs.take p))):=A0d hhd;have hd5:upd H4' hd (.tup (xs.take p)) hd=some (.tup (xs.take p)):=A0b;generalize upd H4' hd (.tup (xs.take p))=H5 at u5 hd5⊢;have s5:=s4.trans u5;have v5:=u2.trans (u3.trans (u4.trans (u4'.trans u5)));refine ⟨_,rfl,_,rfl,bh,v,_,l.drop (p+1),n,sz,wd,out,bd,b,rfl,v5 _ _ hb1,ndr.kt (KT.same v5),A4e.kt (KT.same s5) na,wr,lbd,dpr,λy v' H6 ey u6 ny=>⟨A0h (by simp),λz3 hz3'=> ?_⟩,λz=>XE.go (xe (by show (jnd _ _).map _=none;rw [z];rfl)) s5⟩;have u7:A0o H6 (upd H6 z3 (.tup [v'])):=A0d hz3';have hz7:upd H6 z3 (.tup [v']) z3=some (.tup [v']):=A0b;generalize upd H6 z3 (.tup [v'])=H7 at u7 hz7⊢;have s7:=s5.trans (u6.trans u7);have v7:=v5.trans (u6.trans u7);refine ⟨hd,z3,_,_,rfl,rfl,(u6.trans u7) _ _ hd5,hz7,A0h (by rw [Z0x];simp;lia),λq8 H8 u8 hq8=> ?_⟩;have v8:=v7.trans u8
   have rne:(xs.drop (p+1)).length≠0:=by
    intro z0;have:l.drop (p+1)=[]:=List.length_eq_zero_iff.mp (by rw [<-(B1n nds (p+1)).len];exact z0);rw [this] at ey;cases ey
   refine ⟨_,rfl,_,rfl,bh,_,rfl,SqT.of (v8 _ _ hb1),(λzz=>by
    have h1:HT.sIx (xs.drop (p+1)).length 0 (some ((1:Nat):Int))=0:=zz.1;rw [HT.sIx_nat] at h1
    lia),λbt hbt=> ?_⟩
   rw [show A2u (xs.drop (p+1)) (some 1) none=(xs.drop (p+1)).drop 1 from A4q (p:=1) (by lia)];have u9:A0o H8 (upd H8 bt (.tup ((xs.drop (p+1)).drop 1))):=A0d hbt;have hb9:upd H8 bt (.tup ((xs.drop (p+1)).drop 1)) bt=some (.tup ((xs.drop (p+1)).drop 1)):=A0b;generalize upd H8 bt (.tup ((xs.drop (p+1)).drop 1))=H9 at u9 hb9⊢;refine ⟨q8,bt,_,_,rfl,rfl,u9 _ _ hq8,hb9,A0h (by rw [Z06,Z0x,Z19,Z19];simp;lia),λq10 H10 u10 hq10=> ?_⟩;have s10:=s7.trans (u8.trans (u9.trans u10));refine k (y::(l.drop (p+1)).drop 1) q10 _ H10 (by show (jnd _ _).map _=_;rw [ey];rfl) s10 hq10 ?_;rw [Z0z];have v10:=v8.trans (u9.trans u10);exact C0a (ndt s10) (A1j.mpr (.cons (A4e.kt (KT.same (u7.trans (u8.trans (u9.trans u10)))) ny) (A1j.mp (B1n (ndr.kt (KT.same v10)) 1))))
theorem B8t (T:Txt K mg t) {m d:Nat} (hd:d<=1000) {sp':Sp} (G_path_to:A1y P w K mg base CX0 (m+1) t.bF t.bC ["number","body"] sp')
  (hs:∀(N n sz wd out:Int) (bp:Addr) (xs:List V) (bd:List Nd) (b:Rd) (H:Hp) (Q:VK),H bp=some (.tup xs)->A1l H bd xs->bd.length<=100->okL b bd->dpN (.loop n sz wd out bd)<=d->(∀(q:Addr) (path:List Nat) (H':Hp),A0o H H'->H' q=some (.lst (B9z path))->(path=[]/\N∉nmL bd\/path≠[]/\∃sz wd out bd',A3i path bd (.loop N sz wd out bd'))->path.length+1<=d->Q (.ref q) H')->sp' [.int N,.ref bp] H Q E0) :
  A1y P w K mg base CX0 (m+2) t.bF t.bC ["number","body"] (C7h d):=by
 have G_is_loop:=A8e (P:=P) (w:=w) (base:=base) T;have G_body_of:=A7z (P:=P) (w:=w) (base:=base) T;refine T.eg.ok A7w (λvs H Q E h=> ?_) (λcdv A outer s H vs Q E hr h=> ?_)
 ·obtain ⟨N,bp,xs,l,b,rfl,_⟩:=h;rfl
 ·obtain ⟨N,bp,xs,l,b,rfl,hbp,nds,ll,wb,dp,k⟩:=h;have lx:=nds.len;have prs:=A1j.mp nds
  refine ⟨_,(A0e (A3m PassesOwn.never rfl (D0r rfl T.cf (A0a (pv 1) A0c)) (A4y (n:=2) rfl (A0n (A0k (i:=2) A7w.nd rfl (Or.inl rfl) (Or.inl rfl)) (A0n (A0k (i:=3) A7w.nd rfl (Or.inl rfl) (Or.inl rfl)) A3e)))
    (A0g (A1m (A2q (A0j G_is_loop (hr.mono (by lia)) rfl T.cS T.bE.kp T.cT .nil A1a (A0a (pv 3) A0c)))
     (A0e (A1m (A0w A3t (A1b A1e (pv 3) A0f (λ_ _=>rfl)) (pv 0) (A1c _))
      (A0g (A0r (A2b (A0a (pv 2) A0c))))
      A0u)
     (A0e (A0x (i:=4) A7w.nd rfl (Or.inl rfl) (A0j G_path_to (hr.mono (by lia)) rfl T.fz T.eg.kp T.fu .nil A1a (A0a (pv 0) (A0a (A0j G_body_of (hr.mono (by lia)) rfl T.cO T.bD.kp T.cV .nil A1a (A0a (pv 3) A0c)) A0c))))
     (A0g (A1m (A0w (A9x hr.units) (pv 4) (A2b A0c) (A1c _))
      (A0g (A0r (A0v B2b (A2b (A0a (pv 2) A0c)) (pv 4))))
      A0u))))
     A0u)))
   (A0g (A0r (A2b A0c)))),?_⟩
  refine ⟨_,rfl,bp,xs,rfl,SqT.of hbp,?_⟩
  refine C5s (K:=K) (a:=bp) (xs:=xs) (λi σ H2=>∃(o2 o3 o4:Option V),σ=[some (.int N),some (.ref bp),o2,o3,o4]/\A0o H H2/\N∉nmL (l.take i))
   ⟨none,none,none,rfl,A0o.refl _,by rw [List.take_zero,nmL];simp⟩ (λi σ H2 ⟨_,_,_,_,s2,_⟩=>SqT.of (s2 _ _ hbp)) ?_ ?_
  ·rintro i x σ H2 z hx ⟨o2,o3,o4,rfl,s2,nin⟩ hz;obtain ⟨nd,he,na⟩:=B1k prs hx;have e1:=A3r he;have dpl:dpL l=max (dpL (l.take i)) (max (dpN nd) (dpL (l.drop (i+1)))):=by rw [<-A3g,<-e1]
   have dpx:dpN nd<=d:=by
    rw [dpl] at dp;exact Z1n (Z1n (Nat.le_max_left _ _) (Nat.le_max_right _ _)) dp
   have tk:nmL (l.take (i+1))=nmL (l.take i)++nmN nd:=by rw [Z14,he,Option.toList_some,A6n,nmL,nmL,Z0u]
   have sz3:A0o H2 (upd H2 z (.tup [.int (i:Nat),x])):=A0d hz;have hz3:upd H2 z (.tup [.int (i:Nat),x]) z=some (.tup [.int (i:Nat),x]):=A0b;generalize upd H2 z (.tup [.int (i:Nat),x])=H3 at sz3 hz3⊢;have s3:=s2.trans sz3;have na3:A4e H3 nd x:=A4e.kt (KT.same s3) na;refine ⟨z,_,rfl,SqT.of hz3,rfl,_,_,rfl,_,_,rfl,rfl,?_⟩
   cases nd with
   | deed n kk wd cs us =>
    rw [A4e] at na3;obtain ⟨bb,c,u,rfl,hb,hc,hu'⟩:=na3;refine ⟨_,rfl,bb,_,_,rfl,hb,_,rfl,D5q (by decide +kernel) ⟨_,_,_,rfl,s3,?_⟩⟩;rw [tk,nmN,Z0u];exact nin
   | loop n sz wd out bd =>
    rw [A4e] at na3;obtain ⟨bb,pp,xs',rfl,hb,hpp,nd'⟩:=na3;have wbx:=C0c wb _ (Z13 he);rw [okN] at wbx;obtain ⟨_,_,_,_,_,wbd,lbd⟩:=wbx;refine ⟨_,rfl,bb,_,_,rfl,hb,_,rfl,D1v rfl ?_⟩;refine ⟨_,rfl,bb,_,_,_,rfl,rfl,SqT.of hb,A0i (j:=1) rfl,_,rfl,rfl,_,rfl,A9h (λe=> ?_) (λne=> ?_)⟩
    ·have e:n=N:=by injection e
     subst e;refine ⟨_,rfl,A0h (by simp),λq hq=>k q [i] _ (s3.trans (A0d hq)) A0b (.inr ⟨by simp,sz,wd,out,bd,he⟩) ?_⟩;show 1<=d;rw [dpN] at dpx
     lia
    ·have ne:N≠n:=λz=>ne (by rw [z]);refine ⟨_,rfl,_,rfl,bb,pp,_,_,_,_,_,rfl,hb,hs N n sz wd out pp xs' bd _ H3 _ hpp nd' lbd wbd dpx λq path H4 s4 hq hp lp=> ?_⟩;refine ⟨_,rfl,A0h (by simp),λz0 hz0=> ?_⟩;have s5:A0o H4 (upd H4 z0 (.lst [])):=A0d hz0;have h05:upd H4 z0 (.lst []) z0=some (.lst []):=A0b;generalize upd H4 z0 (.lst [])=H5 at s5 h05⊢;have s05:=s3.trans (s4.trans s5);refine ⟨.list (path.map λ(p:Nat)=>PyData.int (p:Int)),.list [],.lst (s5 _ _ hq) (B3m path),.lst h05 .nil,B2f path,rfl,_,rfl,?_⟩;rw [B6l];refine D0m (λhne=> ?_) (λhnil=> ?_)
     ·obtain ⟨_,sz',wd',out',bd',hpa⟩:=hp.resolve_left λz=>hne z.1;refine ⟨_,rfl,A0h (by simp),λz1 hz1=> ?_⟩;have s6:A0o H5 (upd H5 z1 (.lst [.int (i:Int)])):=A0d hz1;have h16:upd H5 z1 (.lst [.int (i:Int)]) z1=some (.lst [.int (i:Int)]):=A0b;generalize upd H5 z1 (.lst [.int (i:Int)])=H6 at s6 h16⊢;refine ⟨_,rfl,z1,q,_,_,rfl,rfl,h16,(s5.trans s6) _ _ hq,A0h (by unfold B9z;rw [Z08];simp;lia),λr hr0=> ?_⟩;refine k r (i::path) _ (s05.trans (s6.trans (A0d hr0))) A0b (.inr ⟨by simp,sz',wd',out',bd',?_⟩) (by rw [Z0y];lia);rcases path with _ | ⟨p0,r0⟩
      ·exact absurd rfl hne
      ·exact ⟨n,sz,wd,out,bd,he,hpa⟩
     ·have hn:N∉nmL bd:=by
       rcases hp with hp | hp
       ·exact hp.2
       ·exact absurd hnil hp.1
      refine ⟨_,_,_,rfl,s05,?_⟩;rw [tk,nmN];intro hm;rcases Z07.mp hm with hm | hm
      ·exact nin hm
      ·rcases Z0e.mp hm with hm | hm
       ·exact ne hm
       ·exact hn hm
  ·rintro σ H2 ⟨o2,o3,o4,rfl,s2,nin⟩;rw [lx,Z18] at nin;exact ⟨A0h (by simp),λq hq=>k q [] _ (s2.trans (A0d hq)) A0b (.inl ⟨rfl,nin⟩) (Z1e _)⟩
theorem C6e (T:Txt K mg t):∀d:Nat,d<=1000->A1y P w K mg base CX0 (d+3) t.bF t.bC ["number","body"] (C7h d)
 | 0,h=>B8t T (m:=1) h (sp':=λ_ _ _ _=>False) (A1y.none λ_ _ _ _ h=>h) λN n sz wd out bp xs bd b H Q hbp nds lb wb dp=>by
   rw [dpN] at dp
   lia
 | d+1,h=>B8t T (m:=d+2) h (C6e T d (by lia)) λN n sz wd out bp xs bd b H Q hbp nds lb wb dp k=>by
   rw [dpN] at dp;exact ⟨N,bp,xs,bd,b,rfl,hbp,nds,lb,wb,by lia,λq path H' s hq hp lp=>k q path H' s hq hp (by lia)⟩
noncomputable def B2n (A:Adr) (c:Nat):Sp:=λvs H Q E=>∃(pl bp mv:Addr) (path:List Nat) (fr:Int) (m:Mv) (n sz wd out:Int) (bd:List Nd) (xs:List V) (l:List Nd) (b:Rd),vs=[.ref pl,.ref bp,.ref mv,.int fr]/\H pl=some (.lst (B9z path))/\path.length<=c/\H bp=some (.tup xs)/\A1l H l xs/\l.length<=100/\A3i path l (.loop n sz wd out bd)/\okL b l/\dpL l<=40/\C8j H mv m/\
 (∀(t:List Nd) (q:Addr) (xs':List V) (H':Hp),mvP m fr path l=some t->A0o H H'->H' q=some (.tup xs')->A1l H' t xs'->Q (.ref q) H')/\(mvP m fr path l=none->XE A H E)
theorem C3c (T:Txt K mg t) {c:Nat} (G_moved_along:A1y P w K mg base (CXD P w) (90+c) t.aF t.aG ["path","body","move","fresh"] (B2n t c)):A1y P w K mg base (CXD P w) (90+c+1) t.aF t.aG ["path","body","move","fresh"] (B2n t (c+1)):=by
 have G_moved_at:=B9k (P:=P) (w:=w) (base:=base) T;have G_body_of:=A7z (P:=P) (w:=w) (base:=base) T;have G_with_body:=A7c (P:=P) (w:=w) (base:=base) T;refine T.bv.okD A4k (λvs H Q E h=> ?_) (λcdv A outer s H vs Q E hr h=> ?_)
 ·obtain ⟨pl,bp,mv,path,fr,m,n,sz,wd,out,bd,xs,l,b,rfl,_⟩:=h;rfl
 ·obtain ⟨pl,bp,mv,path,fr,m,n,sz,wd,out,bd,xs,l,b,rfl,hpl,lp,hbp,nds,ll,hx,wb,dp,hmv,k,xe⟩:=h;have lx:=nds.len
  refine ⟨_,(A0e (A0x (i:=4) A4k.nd rfl (Or.inl rfl) (A1b A1f (pv 0) A0f (λ_ _=>rfl)))
   (A0e (A1m (A0w A3t (A0q A0p (by rfl) T.ai Z0r (A0a (pv 0) A0c)) A0f (A1c _))
    (A0g (A0r (A0j G_moved_at (hr.mono (by lia)) rfl T.gr T.fe.kp T.gm .nil C3n (A0a (pv 4) (A0a (pv 1) (A0a (pv 2) (A0a (pv 3) A0c)))))))
    A0u)
   (A0e (A0x (i:=5) A4k.nd rfl (Or.inl rfl) (A1b A1e (pv 1) (pv 4) (λ_ _=>rfl)))
   (A0e (A0x (i:=6) A4k.nd rfl (Or.inl rfl) (A0j G_moved_along (hr.mono (by lia)) rfl T.cW T.bv.kp T.cZ .nil C3n (A0a (A1h A6d (pv 0) (A1g A0f) A2d) (A0a (A0j G_body_of (hr.mono (by lia)) rfl T.cO T.bD.kp T.cV .nil A1a (A0a (pv 5) A0c)) (A0a (pv 2) (A0a (pv 3) A0c))))))
   (A0g (A0r (A0v A2i (A0v A2i (A1h A3h (pv 1) A2d (A1g (pv 4))) (A1i (A0a (A0j G_with_body (hr.mono (by lia)) rfl T.bi T.aT.kp T.bn .nil A1a (A0a (pv 5) (A0a (pv 6) A0c))) A0c))) (A1h A3h (pv 1) (A1g (A0v A2a (pv 4) A0f)) A2d)))))))),?_⟩
  match path,hpl,lp,hx,k,xe with
  | [p],hpl,lp,hx,k,xe =>
   have hx':l[p]? =some (.loop n sz wd out bd):=hx;refine ⟨_,rfl,pl,_,_,_,rfl,rfl,SqL.of hpl,(show atI (B9z [p]) 0=some (.int (p:Int)) from A0i (j:=0) rfl),?_⟩;refine ⟨_,rfl,pl,_,rfl,.inl (SqL.of hpl),rfl,_,rfl,A2c (by show decide (V.int ((1:Nat):Int)=V.int 1)=true;decide) ?_⟩;refine ⟨_,rfl,_,rfl,_,rfl,_,rfl,p,bp,mv,fr,m,n,sz,wd,out,bd,xs,l,b,rfl,hbp,nds,ll,hx',wb,dp,hmv,λt' q xs' H' et sH hq nt=>k _ q xs' H' ?_ sH hq nt,λz=>xe ?_⟩;show (match l[p]? with | some x=>(mvO m fr x (l.drop (p+1))).map λt=>l.take p++t | none=>none)=_
   rw [hx'];show (mvO m fr _ (l.drop (p+1))).map _=_;rw [et];rfl;rw [mvP,hx'];show (mvO m fr _ (l.drop (p+1))).map _=_;rw [z];rfl
  | p::q::r,hpl,lp,hx,k,xe =>
   obtain ⟨n1,sz1,wd1,out1,bd1,e1,hq⟩:=hx;have hp:p<l.length:=(Z03.mp e1).1;have prs:=A1j.mp nds;have hxi:xs[p]? =some (xs[p]'(by lia)):=Z0b _;obtain ⟨x',hx',na⟩:=B1k prs hxi;rw [e1] at hx';cases hx';generalize xs[p]'(by lia)=v at hxi na;rw [A4e] at na;obtain ⟨bb,pp,xs1,rfl,hbb,hpp,nds1⟩:=na;have ec:=A3r e1;have wb0:=wb;rw [ec,B9x,okL,okN] at wb0;obtain ⟨_,⟨_,_,_,_,_,wbd,lbd⟩,_⟩:=wb0;have dp0:=dp;rw [ec,A3g,dpN] at dp0;have dp1:dpL bd1<=40:=by lia
   clear dp0;refine ⟨_,rfl,pl,_,_,_,rfl,rfl,SqL.of hpl,(show atI (B9z (p::q::r)) 0=some (.int (p:Int)) from A0i (j:=0) rfl),?_⟩
   refine ⟨_,rfl,pl,_,rfl,.inl (SqL.of hpl),rfl,_,rfl,A3l (by
    apply Z1j;intro z;injection z with z;simp [B9z] at z
    lia) ?_⟩
   refine ⟨_,rfl,_,rfl,bp,_,_,_,rfl,rfl,SqT.of hbp,A0i hxi,?_⟩;refine ⟨_,rfl,_,rfl,pl,_,rfl,SqL.of hpl,λsl hsl=> ?_⟩;have ed:A2u (B9z (p::q::r)) (some 1) none=B9z (q::r):=(A4q (p:=1) (by simp [B9z])).trans rfl;rw [ed];have u1:A0o H (upd H sl (.lst (B9z (q::r)))):=A0d hsl;have hs1:upd H sl (.lst (B9z (q::r))) sl=some (.lst (B9z (q::r))):=A0b;generalize upd H sl (.lst (B9z (q::r)))=H1 at u1 hs1⊢;refine ⟨_,rfl,bb,pp,_,_,_,_,_,rfl,u1 _ _ hbb,_,rfl,_,rfl,sl,pp,mv,q::r,fr,m,n,sz,wd,out,bd,xs1,bd1,_,rfl,hs1,by simp at lp⊢;lia,u1 _ _ hpp,nds1.kt (KT.same u1),lbd,hq,wbd,dp1,hmv.same u1,λt1 q1 xs' H2 et u2 hq1 nt=> ?_,λz=>XE.go (xe (by rw [mvP,e1];show (mvP m fr (q::r) bd1).map _=_;rw [z];rfl)) u1⟩;have u12:=u1.trans u2;refine ⟨_,rfl,_,rfl,_,rfl,bp,xs,rfl,SqT.of (u12 _ _ hbp),?_,λhd hhd=> ?_⟩
   ·rintro ⟨_,h2⟩;have h2:HT.sIx xs.length xs.length (some (p:Int))=xs.length:=h2;rw [HT.sIx_nat] at h2
    lia
   rw [A5e (by lia)];have u3:A0o H2 (upd H2 hd (.tup (xs.take p))):=A0d hhd;have hd3:upd H2 hd (.tup (xs.take p)) hd=some (.tup (xs.take p)):=A0b;generalize upd H2 hd (.tup (xs.take p))=H3 at u3 hd3⊢;have u13:=u12.trans u3;refine ⟨_,rfl,_,rfl,bb,_,_,_,_,_,_,_,rfl,u13 _ _ hbb,λnb hnb=>⟨A0h (by simp),λz hz=> ?_⟩⟩;have u4:A0o H3 (upd H3 nb (.tup [.str "loop",.int n1,.int sz1,.int wd1,.int out1,.ref q1])):=A0d hnb;have hn4:upd H3 nb (.tup [.str "loop",.int n1,.int sz1,.int wd1,.int out1,.ref q1]) nb=some (.tup [.str "loop",.int n1,.int sz1,.int wd1,.int out1,.ref q1]):=A0b;generalize upd H3 nb (.tup [.str "loop",.int n1,.int sz1,.int wd1,.int out1,.ref q1])=H4 at u4 hn4 hz⊢;have u5:A0o H4 (upd H4 z (.tup [.ref nb])):=A0d hz;have hz5:upd H4 z (.tup [.ref nb]) z=some (.tup [.ref nb]):=A0b;generalize upd H4 z (.tup [.ref nb])=H5 at u5 hz5⊢;refine ⟨hd,z,_,_,rfl,rfl,(u4.trans u5) _ _ hd3,hz5,A0h (by rw [Z0x];simp;lia),λq6 H6 u6 hq6=> ?_⟩;have u16:=u13.trans (u4.trans (u5.trans u6));refine ⟨_,rfl,_,rfl,_,_,rfl,rfl,_,rfl,bp,xs,rfl,SqT.of (u16 _ _ hbp),?_,λbt hbt=> ?_⟩
   ·rintro ⟨h1,_⟩;have e:((p:Int)+1)=((p+1:Nat):Int):=by lia
    have h1:HT.sIx xs.length 0 (some ((p:Int)+1))=0:=h1;rw [e,HT.sIx_nat] at h1
    lia
   have ed2:A2u xs (some ((p:Int)+1)) none=xs.drop (p+1):=by
    rw [show ((p:Int)+1)=((p+1:Nat):Int) by lia];exact A4q (by lia)
   rw [show A2u xs (some ((p:Int)+1)) none=xs.drop (p+1) from ed2];have u7:A0o H6 (upd H6 bt (.tup (xs.drop (p+1)))):=A0d hbt;have hb7:upd H6 bt (.tup (xs.drop (p+1))) bt=some (.tup (xs.drop (p+1))):=A0b;generalize upd H6 bt (.tup (xs.drop (p+1)))=H7 at u7 hb7⊢;refine ⟨q6,bt,_,_,rfl,rfl,u7 _ _ hq6,hb7,A0h (by rw [Z06,Z0x,Z19];simp;lia),λq8 H8 u8 hq8=> ?_⟩;have u18:=u16.trans (u7.trans u8);refine k (l.take p++ .loop n1 sz1 wd1 out1 t1::l.drop (p+1)) q8 _ H8 ?_ u18 hq8 ?_
   ·show (match l[p]? with | some (Nd.loop n sz wd out bd)=>(mvP m fr (q::r) bd).map λbd'=>l.take p++Nd.loop n sz wd out bd'::l.drop (p+1) | _=>none)=_
    rw [e1];show (mvP m fr (q::r) bd1).map _=_;rw [et];rfl
   ·rw [Z0z];have w8:=u5.trans (u6.trans (u7.trans u8))
    have nn:A4e H8 (.loop n1 sz1 wd1 out1 t1) (.ref nb):=by
     rw [A4e];exact ⟨nb,q1,xs',rfl,w8 _ _ hn4,(u3.trans (u4.trans w8)) _ _ hq1,nt.kt (KT.same (u3.trans (u4.trans w8)))⟩
    exact C0a ((C1p nds p).kt (KT.same u18)) (A1j.mpr (.cons nn (A1j.mp ((B1n nds (p+1)).kt (KT.same u18)))))
theorem C2a (T:Txt K mg t):∀c:Nat,A1y P w K mg base (CXD P w) (90+c) t.aF t.aG ["path","body","move","fresh"] (B2n t c)
 | 0=>A1y.none λvs H Q E h=>by
  obtain ⟨pl,bp,mv,path,fr,m,n,sz,wd,out,bd,xs,l,b,rfl,_,lp,_,_,_,hx,_⟩:=h
  cases path with
  | nil=>exact hx
  | cons a r=>simp at lp
 | c+1=>C3c T (C2a T c)
noncomputable def C8c (A:Adr):Sp:=λvs H Q E=>∃(q tp mv:Addr) (fr:Int) (m:Mv) (xs:List V) (l:List Nd),vs=[.ref q,.ref mv]/\H q=some (.tup [.int fr,.ref tp])/\H tp=some (.tup xs)/\A1l H l xs/\l.length<=100/\okL [] l/\dpL l<=39/\C8j H mv m/\
 (∀(path:List Nat) (t:List Nd) (sz wd out:Int) (bd:List Nd) (r tp':Addr) (xs':List V) (H':Hp),A3i path l (.loop m.num sz wd out bd)->mvP m fr path l=some t->A0o H H'->H' r=some (.tup [.int (fr+m.took),.ref tp'])->H' tp'=some (.tup xs')->A1l H' t xs'->Q (.ref r) H')/\((m.num∉nmL l\/∃(path:List Nat) (sz wd out:Int) (bd:List Nd),A3i path l (.loop m.num sz wd out bd)/\mvP m fr path l=none)->XE A H E)
theorem C9o (T:Txt K mg t):A1y P w K mg base (CXD P w) 131 t.fS t.fL ["nest","move"] (C8c t):=by
 have G_NoMove_init:=A3k (P:=P) (w:=w) (base:=base) T;have G_path_to:=C6e (P:=P) (w:=w) (base:=base) T 40 (by decide);have G_moved_along:=C2a (P:=P) (w:=w) (base:=base) T 40;refine T.gw.okD A9q (λvs H Q E h=> ?_) (λcdv A outer s H vs Q E hr h=> ?_)
 ·obtain ⟨q,tp,mv,fr,m,xs,l,rfl,_⟩:=h;rfl
 ·obtain ⟨q,tp,mv,fr,m,xs,l,rfl,hq,htp,nds,ll,wb,dp,hmv,k,xe⟩:=h;obtain ⟨wd0,rr,hw,htk⟩:=D5f hmv;have one:([V.int 0]:List V).length<=sizeLine:=A0h (by show 1<=1000000;decide)
  refine ⟨_,(A0e (A7f (pv 0) (A4y (n:=2) rfl (A0n (A0k (i:=2) A9q.nd rfl (Or.inl rfl) (Or.inl rfl)) (A0n (A0k (i:=3) A9q.nd rfl (Or.inl rfl) (Or.inl rfl)) A3e))))
   (A0e (A0x (i:=4) A9q.nd rfl (Or.inl rfl) (A0j G_path_to (hr.mono (by lia)) rfl T.fz T.eg.kp T.fu .nil A1a (A0a (A1b A1e (pv 1) A0f (λ_ _=>rfl)) (A0a (pv 3) A0c))))
   (A0e (A1m (A0w (C0y hr.units) (pv 4) (A2b A0c) (A1c _))
    (A0g (A4x A8w T.aI G_NoMove_init (hr.mono (by lia)) rfl T.aE T.aq .nil A1a rfl rfl (A0a A0f A0c)))
    A0u)
   (A0e (A0x (i:=5) A9q.nd rfl (Or.inl rfl) (C9t (A0w A3t (A1b A1e (pv 1) A0f (λ_ _=>rfl)) A1r (A1c _)) A0f A0f))
   (A0g (A0r (A1i (A0a (A0v A2a (pv 2) (pv 5)) (A0a (A0j G_moved_along (hr.mono (by lia)) rfl T.cW T.bv.kp T.cZ .nil C3n (A0a (pv 4) (A0a (pv 3) (A0a (pv 1) (A0a (pv 2) A0c))))) A0c))))))))),?_⟩
  refine ⟨_,rfl,q,_,rfl,SqT.of hq,rfl,_,_,rfl,_,_,rfl,rfl,?_⟩;refine ⟨_,rfl,mv,_,_,_,rfl,rfl,SqT.of hw,A0i (j:=1) rfl,_,rfl,m.num,tp,xs,l,[],rfl,htp,nds,ll,wb,by lia,λpl path H1 u1 hpl cs lp=> ?_⟩;refine ⟨_,rfl,A0h (by simp),λel hel=> ?_⟩;have u2:A0o H1 (upd H1 el (.lst [])):=A0d hel;have he2:upd H1 el (.lst []) el=some (.lst []):=A0b;generalize upd H1 el (.lst [])=H2 at u2 he2⊢;have u12:=u1.trans u2;refine ⟨.list (path.map λ(p:Nat)=>PyData.int (p:Int)),.list [],.lst (u2 _ _ hpl) (B3m path),.lst he2 .nil,B2f path,by decide +kernel,_,rfl,?_⟩;rcases cs with ⟨rfl,nin⟩ | ⟨ne,sz,wd,out,bd,hp⟩
  ·exact A2c (by rw [Z0t (by decide)];exact B6l []) ⟨one,A4m (XE.go (xe (.inl nin)) u12)⟩
  ·refine A3l (by rw [Z0t (by decide),B6l,Z1j ne]) ?_;refine ⟨_,rfl,mv,_,_,_,rfl,rfl,SqT.of (u12 _ _ hw),A0i (j:=0) rfl,rfl,_,rfl,?_⟩;by_cases hc:wd0="cut"
   ·rw [hc] at htk;refine A2c (by rw [hc];exact Z20 rfl) ?_;refine ⟨_,rfl,_,rfl,_,_,rfl,rfl,_,rfl,_,rfl,_,rfl,_,rfl,pl,tp,mv,path,fr,m,m.num,sz,wd,out,bd,xs,l,[],rfl,u2 _ _ hpl,lp,u12 _ _ htp,nds.kt (KT.same u12),ll,hp,wb,by lia,hmv.same u12,λt' q' xs' H3 et u3 hq' nt=>⟨A0h (by simp),λr hr0=> ?_⟩,λz=>XE.go (xe (.inr ⟨path,sz,wd,out,bd,hp,z⟩)) u12⟩;have u4:=A0d (H:=H3) (o:= .tup [.int (fr+1),.ref q']) hr0;refine k path t' sz wd out bd r q' xs' _ hp et (u12.trans (u3.trans u4)) ?_ (u4 _ _ hq') (nt.kt (KT.same u4));rw [htk,Z12 rfl];exact A0b
   ·rw [Z0t hc] at htk;refine A3l (by apply Z1j;intro z;injection z with z;exact hc z) ?_;refine ⟨_,rfl,_,rfl,_,_,rfl,rfl,_,rfl,_,rfl,_,rfl,_,rfl,pl,tp,mv,path,fr,m,m.num,sz,wd,out,bd,xs,l,[],rfl,u2 _ _ hpl,lp,u12 _ _ htp,nds.kt (KT.same u12),ll,hp,wb,by lia,hmv.same u12,λt' q' xs' H3 et u3 hq' nt=>⟨A0h (by simp),λr hr0=> ?_⟩,λz=>XE.go (xe (.inr ⟨path,sz,wd,out,bd,hp,z⟩)) u12⟩
    have u4:=A0d (H:=H3) (o:= .tup [.int (fr+0),.ref q']) hr0;refine k path t' sz wd out bd r q' xs' _ hp et (u12.trans (u3.trans u4)) ?_ (u4 _ _ hq') (nt.kt (KT.same u4));rw [htk];exact A0b
end
noncomputable def TH (H:Hp):Hp:=λa=>match H a with | some (.tup xs)=>some (.tup xs) | _=>none
theorem B2w {H:Hp} {p:Addr} {xs:List V} (e:H p=some (.tup xs)):TH H p=some (.tup xs):=by unfold TH;rw [e]
theorem C3v {H:Hp} {p:Addr} {o:HO} (e:TH H p=some o):∃xs,o= .tup xs/\H p=some (.tup xs):=by
 unfold TH at e;split at e
 ·rename_i xs h;exact ⟨xs,(Z1a e).symm,h⟩
 ·cases e
theorem B4y {H H':Hp} (k:KT H H'):A0o (TH H) (TH H'):=λb o e=>by
 obtain ⟨xs,rfl,h⟩:=C3v e;exact B2w (k _ _ h)
theorem A7e (H:Hp):A0o (TH H) H:=λb o e=>by
 obtain ⟨xs,rfl,h⟩:=C3v e;exact h
theorem B5o {H H':Hp} (s:A0o H H'):A0o (TH H) (TH H'):=B4y (KT.same s)
noncomputable def C7w (c:List Int):PyData:= .tuple (c.map PyData.int)
noncomputable def B3v (n z wd out:Int) (ds:List PyData):PyData:= .tuple [.str "loop",.int n,.int z,.int wd,.int out,.tuple ds]
noncomputable def B9g (n k:Int) (w:Str) (c u:List Int):PyData:= .tuple [.str "deed",.int n,.int k,.str w,C7w c,C7w u]
noncomputable def D1a (a n z wd out:Int):PyData:= .tuple [.int a,.str "loop",.int n,.int z,.int wd,.int out]
noncomputable def D4x (a n k:Int) (w:Str) (c u:List Int):PyData:= .tuple [.int a,.str "deed",.int n,.int k,.str w,C7w c,C7w u]
mutual
inductive Wr:Int->PyData->List PyData->Prop
 | deed (a n k:Int) (w:Str) (c u:List Int):Wr a (B9g n k w c u) [D4x a n k w c u]
 | loop (a n z wd out:Int) (ds rs:List PyData):WrL n ds rs->Wr a (B3v n z wd out ds) (D1a a n z wd out::rs)
inductive WrL:Int->List PyData->List PyData->Prop
 | nil (n:Int):WrL n [] []
 | cons (n:Int) (d:PyData) (ds r rs:List PyData):Wr n d r->WrL n ds rs->WrL n (d::ds) (r++rs)
end
theorem C5v {n:Int}:∀{ds rs:List PyData},WrL n ds rs->∃RS,Paired (Wr n) ds RS/\RS.flatten=rs
 | [],_,h=>by cases h;exact ⟨[],.nil,rfl⟩
 | d::ds,_,h=>by
  cases h with
  | cons _ _ _ r rs h1 h2 =>
   obtain ⟨RS,p,e⟩:=C5v h2;exact ⟨r::RS,.cons h1 p,by rw [List.flatten_cons,e]⟩
noncomputable def A4d (m:Nat) (ds:List PyData):Prop:=PyData.canLayAll0 ds=true/\PyData.depthAll ds<=m
theorem A9j:∀xs:List Int,PyData.canLayAll0 (xs.map PyData.int)=true/\PyData.depthAll (xs.map PyData.int)=0
 | []=>⟨rfl,rfl⟩
 | x::r=>by
  obtain ⟨h1,h2⟩:=A9j r;refine ⟨?_,?_⟩
  ·simp [PyData.canLayAll0,PyData.canLay0,h1]
  ·simp [PyData.depthAll,PyData.depth,h2]
theorem A4d.nil (m:Nat):A4d m []:=⟨rfl,by simp [PyData.depthAll]⟩
theorem A4d.le {m m':Nat} {ds:List PyData} (h:A4d m ds) (l:m<=m'):A4d m' ds:=⟨h.1,by have:=h.2;lia⟩
theorem A4d.app {m:Nat}:∀{ds es:List PyData},A4d m ds->A4d m es->A4d m (ds++es)
 | [],es,_,g=>g
 | d::ds,es,h,g=>by
  obtain ⟨h1,h2⟩:=h;simp only [PyData.canLayAll0,Z1x] at h1;simp only [PyData.depthAll] at h2;have ih:=A4d.app (m:=m) (ds:=ds) (es:=es) ⟨h1.2,by lia⟩ g;refine ⟨?_,?_⟩
  ·show PyData.canLayAll0 (d::(ds++es))=true;simp only [PyData.canLayAll0,h1.1,ih.1,Bool.and_self]
  ·show PyData.depthAll (d::(ds++es))<=m;have:=ih.2;simp only [PyData.depthAll]
   lia
theorem A4d.cons {m:Nat} {d:PyData} {ds:List PyData} (h:A4d m [d]) (g:A4d m ds):A4d m (d::ds):=A4d.app h g
theorem A4d.hd {m:Nat} {d:PyData} {ds:List PyData} (h:A4d m (d::ds)):A4d m [d]:=by
 obtain ⟨h1,h2⟩:=h;simp only [PyData.canLayAll0,Z1x] at h1;simp only [PyData.depthAll] at h2;refine ⟨?_,?_⟩
 ·simp [PyData.canLayAll0,h1.1]
 ·simp only [PyData.depthAll];lia
theorem A4d.tl {m:Nat} {d:PyData} {ds:List PyData} (h:A4d m (d::ds)):A4d m ds:=by
 obtain ⟨h1,h2⟩:=h;simp only [PyData.canLayAll0,Z1x] at h1;simp only [PyData.depthAll] at h2;exact ⟨h1.2,by lia⟩
theorem C6a {m:Nat} {n z wd out:Int} {ds:List PyData} (h:A4d m ds):A4d (m+2) [B3v n z wd out ds]:=by
 obtain ⟨h1,h2⟩:=h;refine ⟨?_,?_⟩
 ·simp only [B3v,PyData.canLayAll0,PyData.canLay0,h1,Bool.and_self,Bool.and_true];decide +kernel
 ·simp only [B3v,PyData.depthAll,PyData.depth];lia
theorem D2g {m:Nat} {n z wd out:Int} {ds:List PyData} (h:A4d m [B3v n z wd out ds]):A4d m ds:=by
 obtain ⟨h1,h2⟩:=h;simp only [B3v,PyData.canLayAll0,PyData.canLay0,Z1x] at h1;simp only [B3v,PyData.depthAll,PyData.depth] at h2;exact ⟨h1.1.2.2.2.2.2.1,by lia⟩
theorem C6v {n k:Int} {w:Str} {c u:List Int} (hw:PyData.strOk w=true):A4d 2 [B9g n k w c u]:=by
 obtain ⟨a1,a2⟩:=A9j c;obtain ⟨b1,b2⟩:=A9j u;refine ⟨?_,?_⟩
 ·simp only [B9g,C7w,PyData.canLayAll0,PyData.canLay0,hw,a1,b1,Bool.and_self,Bool.and_true];decide +kernel
 ·simp only [B9g,C7w,PyData.depthAll,PyData.depth,a2,b2];lia
theorem C8f (a n z wd out:Int):A4d 2 [D1a a n z wd out]:=by
 refine ⟨?_,?_⟩
 ·simp only [D1a,PyData.canLayAll0,PyData.canLay0,Bool.and_self,Bool.and_true];decide +kernel
 ·simp only [D1a,PyData.depthAll,PyData.depth];lia
theorem C5r {a n k:Int} {w:Str} {c u:List Int} (hw:PyData.strOk w=true):A4d 2 [D4x a n k w c u]:=by
 obtain ⟨a1,a2⟩:=A9j c;obtain ⟨b1,b2⟩:=A9j u;refine ⟨?_,?_⟩
 ·simp only [D4x,C7w,PyData.canLayAll0,PyData.canLay0,hw,a1,b1,Bool.and_self,Bool.and_true];decide +kernel
 ·simp only [D4x,C7w,PyData.depthAll,PyData.depth,a2,b2];lia
theorem A3u.ints {H:Hp}:∀xs:List Int,A3u H (xs.map V.int) (xs.map PyData.int)
 | []=> .nil
 | x::r=> .cons (.int x) (A3u.ints r)
theorem B0q {H:Hp} {p:Addr} {c:List Int} (e:H p=some (.tup (c.map V.int))):Rep (TH H) (.ref p) (C7w c):= .tup (B2w e) (A3u.ints c)
noncomputable def B8h (K:PySem.W.Frag):Sp:=λvs H Q _=>∃(a:Addr) (ns:List Int) (k:Int),vs=[.ref a,.int k]/\SqL K H a (ns.map V.int)/\0<=k/\∀z:Int,Q (.int z) H
noncomputable def B4i:Sp:=λvs H Q _=>∃z:Int,vs=[.int z]/\Q (.bl true) H
noncomputable def C0s:Sp:=λvs H Q _=>∃(p:Addr) (c:List Int),vs=[.ref p]/\H p=some (.tup (c.map V.int))/\Q (.bl true) H
noncomputable def B7d:Sp:=λvs H Q _=>∃(v:V) (d:PyData) (a:Int) (rs:List PyData),vs=[v]/\Rep (TH H) v d/\Wr a d rs/\∀H',A0o H H'->Q (.bl true) H'
theorem C6y {H:Hp} {v:V} {n z wd out:Int} {ds:List PyData} (h:Rep (TH H) v (B3v n z wd out ds)):∃b p xs,v= .ref b/\H b=some (.tup [.str "loop",.int n,.int z,.int wd,.int out,.ref p])/\H p=some (.tup xs)/\A3u (TH H) xs ds:=by
 unfold B3v at h
 cases h with
 | @tup b xs _ eb r =>
  cases r with
  | cons a1 r =>
   cases r with
   | cons a2 r =>
    cases r with
    | cons a3 r =>
     cases r with
     | cons a4 r =>
      cases r with
      | cons a5 r =>
       cases r with
       | cons a6 r =>
        cases r
        cases a1
        cases a2
        cases a3
        cases a4
        cases a5
        cases a6 with
        | @tup p ys _ ep rs=>exact ⟨b,p,ys,rfl,A7e _ _ _ eb,A7e _ _ _ ep,rs⟩
theorem B7u {H:Hp}:∀{c:List Int} {xs:List V},A3u H xs (c.map PyData.int)->xs=c.map V.int
 | [],_,r=>by cases r;rfl
 | y::ys,_,r=>by
  rw [Z0p] at r
  cases r with
  | cons a r =>
   cases a
   rw [Z0p,B7u r]
theorem E0a {H:Hp} {v:V} {c:List Int} (h:Rep (TH H) v (C7w c)):∃p,v= .ref p/\H p=some (.tup (c.map V.int)):=by
 unfold C7w at h
 cases h with
 | @tup p xs _ e r =>
  rw [B7u r] at e;exact ⟨p,rfl,A7e _ _ _ e⟩
theorem C1a {H:Hp} {v:V} {n k:Int} {w:Str} {c u:List Int} (h:Rep (TH H) v (B9g n k w c u)):∃b p r,v= .ref b/\H b=some (.tup [.str "deed",.int n,.int k,.str w,.ref p,.ref r])/\H p=some (.tup (c.map V.int))/\H r=some (.tup (u.map V.int)):=by
 unfold B9g at h
 cases h with
 | @tup b xs _ eb r =>
  cases r with
  | cons a1 r =>
   cases r with
   | cons a2 r =>
    cases r with
    | cons a3 r =>
     cases r with
     | cons a4 r =>
      cases r with
      | cons a5 r =>
       cases r with
       | cons a6 r =>
        cases r
        cases a1
        cases a2
        cases a3
        cases a4
        obtain ⟨p,rfl,ep⟩:=E0a a5;obtain ⟨q,rfl,eq⟩:=E0a a6;exact ⟨b,p,q,rfl,A7e _ _ _ eb,ep,eq⟩
section
variable {P:Program} {w:World} {K:PySem.W.Frag} {mg:Str->Option Value} {base:Heap} {t:Adr}
theorem B1d (T:Txt K mg t):A1y P w K mg base CX0 1 t.cI t.cJ ["_law_script","_law_k"] (B8h K):=by
 refine T.aJ.ok B8f (λvs H Q E h=> ?_) (λcdv A outer s H vs Q E hr h=> ?_)
 ·obtain ⟨a,ns,k,rfl,_⟩:=h;rfl
 ·obtain ⟨a,ns,k,rfl,hS,k0,q⟩:=h
  refine ⟨_,(A0e (A1m (A0w D5p (pv 1) (A0q A0p (by rfl) T.ai Z0r (A0a (pv 0) A0c)) (A1c _))
    (A0g (A0r (A1b A1f (pv 0) (pv 1) (λ_ _=>rfl))))
    A0u)
   (A0g (A0r A0f))),?_⟩
  refine ⟨_,rfl,_,rfl,a,_,rfl,.inl hS,_,_,rfl,rfl,_,rfl,?_⟩;refine A9h (λhk=> ?_) (λ_=>q 0);obtain ⟨z,_,e⟩:=C0q (f:=V.int) (xs:=ns) k0 (by simpa using hk);exact ⟨_,rfl,_,rfl,a,_,_,_,rfl,rfl,hS,e,q _⟩
theorem B2q (T:Txt K mg t):B5r P w K mg base CX0 1 t.cR t.cL ["_law_found"] B4i:=by
 refine T.cU.okH C2q (λvs H Q E h=> ?_) (λcdv A outer s H vs Q E hr h=> ?_)
 ·obtain ⟨z,rfl,_⟩:=h;rfl
 ·obtain ⟨z,rfl,q⟩:=h;refine ⟨_,(A0g (A0r (C0x (A0q A1d (by rfl) T.aa Z0d (A0a (pv 0) (A0a (A2l (v:=V.ty "int") rfl T.gR PyProof.Rows.boot_int rfl) A0c))) (C1k (D6l (A0q A1d (by rfl) T.aa Z0d (A0a (pv 0) (A0a (A2l (v:=V.ty "bool") rfl T.gT PyProof.Rows.boot_bool rfl) A0c)))))))),?_⟩;refine ⟨_,rfl,_,_,_,_,rfl,B8z.int z,A2w "int",true,rfl,C7b ?_⟩;exact ⟨_,rfl,_,_,_,_,rfl,B8z.int z,B4c (by decide +kernel) (by decide +kernel) (by decide +kernel),false,rfl,q⟩
theorem B4e (T:Txt K mg t):A1y P w K mg base CX0 1 t.cR t.cL ["_law_found"] B4i:=(B2q T).ok
theorem B9y (T:Txt K mg t):A1y P w K mg base CX0 2 t.du t.df ["_law_found"] C0s:=by
 have G_l_whole:=B4e (P:=P) (w:=w) (base:=base) T;refine T.bc.ok B2a (λvs H Q E h=> ?_) (λcdv A outer s H vs Q E hr h=> ?_)
 ·obtain ⟨p,c,rfl,_⟩:=h;rfl
 ·obtain ⟨p,c,rfl,hp,q⟩:=h
  refine ⟨_,(A0e (A1m (A5x (A2q (A0q A1d (by rfl) T.aa Z0d (A0a (pv 0) (A0a (A2l (v:=V.ty "tuple") rfl T.ah Z0m rfl) A0c)))))
    (A0g (A0r B3s))
    A0u)
   (A0e (A3m PassesOwn.never rfl (B7n (pv 0)) (A0k (i:=1) B2a.nd rfl (Or.inl rfl) (Or.inl rfl))
    (A0g (A1m (A5x (A2q (A0j G_l_whole (hr.mono (by lia)) rfl T.dL T.cU.kp T.dS .nil A1a (A0a (pv 1) A0c))))
     (A0g (A0r B3s))
     A0u)))
   (A0g (A0r B3s)))),?_⟩
  refine ⟨_,rfl,_,_,_,_,rfl,.tup hp,A2w "tuple",true,rfl,A6q ?_⟩;refine ⟨_,rfl,p,rfl,⟨_,SqT.of hp⟩,?_⟩;refine C6o (K:=K) (a:=p) (xs:=c.map V.int) (λi σ H2=>∃o1:Option V,σ=[some (.ref p),o1]/\H2=H) ⟨none,rfl,rfl⟩ (λi σ H2 _ ⟨_,_,e⟩=>by subst e;exact SqT.of hp) ?_ ?_
  ·rintro i x σ H2 hx ⟨o1,rfl,rfl⟩;obtain ⟨z,_,rfl⟩:=A4f hx;exact ⟨_,rfl,z,rfl,true,rfl,A6q ⟨_,rfl,rfl⟩⟩
  ·rintro σ H2 ⟨o1,rfl,rfl⟩;exact q
theorem B7r (T:Txt K mg t):A1y P w K mg base CX0 3 t.cC t.cA ["_law_node"] B7d:=by
 have G_l_wholes:=B9y (P:=P) (w:=w) (base:=base) T;refine T.eJ.ok B7x (λvs H Q E h=> ?_) (λcdv A outer s H vs Q E hr h=> ?_)
 ·obtain ⟨v,d,a,rs,rfl,_⟩:=h;rfl
 ·obtain ⟨v,d,a,rs,rfl,rp,wr,k⟩:=h
  refine ⟨_,(A0e (A1m (PW.pt (B0k (A5x (A2q (A0q A1d (by rfl) T.aa Z0d (A0a (pv 0) (A0a (A2l (v:=V.ty "tuple") rfl T.ah Z0m rfl) A0c))))) (B0k (A0w B1u (A0q A0p (by rfl) T.ai Z0r (A0a (pv 0) A0c)) A0f (A1c _)) (A7p (A5x (A2q (A0q A1d (by rfl) T.aa Z0d (A0a (A1b A1e (pv 0) A0f (λ_ _=>rfl)) (A0a (A2l (v:=V.ty "str") rfl T.gx PyProof.Rows.boot_str rfl) A0c)))))))))
    (A0g (A0r B3s))
    A0u)
   (A0e (A1m (A0w A3t (A1b A1e (pv 0) A0f (λ_ _=>rfl)) A1r (A1c _))
    (A0g (A0r (C0x (A0j G_l_wholes (hr.mono (by lia)) rfl T.bO T.bc.kp T.bZ .nil A1a (A0a (A1h A3h (pv 0) (A1g A0f) (A1g A0f)) A0c)) (C1k (A0q A1d (by rfl) T.aa Z0d (A0a (A1b A1e (pv 0) A0f (λ_ _=>rfl)) (A0a (A2l (v:=V.ty "tuple") rfl T.ah Z0m rfl) A0c)))))))
    A0u)
   (A0e (A1m (PW.pt (B0k (A5x (A2q (A0j G_l_wholes (hr.mono (by lia)) rfl T.bO T.bc.kp T.bZ .nil A1a (A0a (A1h A3h (pv 0) (A1g A0f) (A1g A0f)) A0c)))) (A7p (A5x (A2q (A0q A1d (by rfl) T.aa Z0d (A0a (A1b A1e (pv 0) A0f (λ_ _=>rfl)) (A0a (A2l (v:=V.ty "str") rfl T.gx PyProof.Rows.boot_str rfl) A0c))))))))
    (A0g (A0r B3s))
    A0u)
   (A0g (A0r (C0x (A0j G_l_wholes (hr.mono (by lia)) rfl T.bO T.bc.kp T.bZ .nil A1a (A0a (A1b A1e (pv 0) A0f (λ_ _=>rfl)) A0c)) (C1k (A0j G_l_wholes (hr.mono (by lia)) rfl T.bO T.bc.kp T.bZ .nil A1a (A0a (A1b A1e (pv 0) A0f (λ_ _=>rfl)) A0c))))))))),?_⟩
  cases wr with
  | deed a n kk w' c u =>
   obtain ⟨b,p,r,rfl,hb,hp,hr'⟩:=C1a rp;refine ⟨_,rfl,_,_,_,_,rfl,.tup hb,A2w "tuple",true,rfl,A6q ?_⟩;refine ⟨_,rfl,b,_,rfl,.inr (SqT.of hb),rfl,_,rfl,C5w rfl ?_⟩;refine ⟨_,rfl,b,_,_,_,rfl,rfl,SqT.of hb,A0i (j:=0) rfl,_,_,_,_,rfl,.str _,A2w "str",true,rfl,A6q ?_⟩;refine ⟨_,rfl,b,_,_,_,rfl,rfl,SqT.of hb,A0i (j:=0) rfl,rfl,_,rfl,?_⟩;refine A9h (λz=>absurd z (by decide +kernel)) λ_=> ?_;refine ⟨_,rfl,_,rfl,_,rfl,b,_,rfl,SqT.of hb,(by show¬(HT.sIx 6 0 (some 1)=0/\HT.sIx 6 6 (some 3)=6);decide),λq hq=> ?_⟩;have s1:A0o H (upd H q (.tup (A2u [.str "deed",.int n,.int kk,.str w',.ref p,.ref r] (some 1) (some 3)))):=A0d hq;have hq1:upd H q (.tup (A2u [.str "deed",.int n,.int kk,.str w',.ref p,.ref r] (some 1) (some 3))) q=some (.tup (([n,kk]:List Int).map V.int)):=A0b;generalize upd H q (.tup (A2u [.str "deed",.int n,.int kk,.str w',.ref p,.ref r] (some 1) (some 3)))=H1 at s1 hq1⊢;refine ⟨q,_,rfl,hq1,true,rfl,A6q ?_⟩;refine ⟨_,rfl,b,_,_,_,rfl,rfl,SqT.of (s1 _ _ hb),A0i (j:=3) rfl,_,_,_,_,rfl,.str _,A2w "str",true,rfl,A6q ?_⟩;refine ⟨_,rfl,b,_,_,_,rfl,rfl,SqT.of (s1 _ _ hb),A0i (j:=4) rfl,p,_,rfl,s1 _ _ hp,true,rfl,C7b ?_⟩;exact ⟨_,rfl,b,_,_,_,rfl,rfl,SqT.of (s1 _ _ hb),A0i (j:=5) rfl,r,_,rfl,s1 _ _ hr',k _ s1⟩
  | loop a n z wd out ds rs' wl =>
   obtain ⟨b,p,xs,rfl,hb,hp,_⟩:=C6y rp;refine ⟨_,rfl,_,_,_,_,rfl,.tup hb,A2w "tuple",true,rfl,A6q ?_⟩;refine ⟨_,rfl,b,_,rfl,.inr (SqT.of hb),rfl,_,rfl,C5w rfl ?_⟩;refine ⟨_,rfl,b,_,_,_,rfl,rfl,SqT.of hb,A0i (j:=0) rfl,_,_,_,_,rfl,.str _,A2w "str",true,rfl,A6q ?_⟩;refine ⟨_,rfl,b,_,_,_,rfl,rfl,SqT.of hb,A0i (j:=0) rfl,rfl,_,rfl,?_⟩;refine A9h (λ_=> ?_) λz=>absurd rfl z;refine ⟨_,rfl,_,rfl,_,rfl,b,_,rfl,SqT.of hb,(by show¬(HT.sIx 6 0 (some 1)=0/\HT.sIx 6 6 (some 5)=6);decide),λq hq=> ?_⟩;have s1:A0o H (upd H q (.tup (A2u [.str "loop",.int n,.int z,.int wd,.int out,.ref p] (some 1) (some 5)))):=A0d hq;have hq1:upd H q (.tup (A2u [.str "loop",.int n,.int z,.int wd,.int out,.ref p] (some 1) (some 5))) q=some (.tup (([n,z,wd,out]:List Int).map V.int)):=A0b;generalize upd H q (.tup (A2u [.str "loop",.int n,.int z,.int wd,.int out,.ref p] (some 1) (some 5)))=H1 at s1 hq1⊢;refine ⟨q,_,rfl,hq1,true,rfl,C7b ?_⟩;exact ⟨_,rfl,b,_,_,_,rfl,rfl,SqT.of (s1 _ _ hb),A0i (j:=5) rfl,_,_,_,_,rfl,.tup (s1 _ _ hp),A2w "tuple",k _ s1⟩
end
theorem C8a {α β:Type} {F:α->β->Prop}:∀{l:List α} {x:α} {m:List β},Paired F (l++[x]) m->∃m0 y,m=m0++[y]/\Paired F l m0/\F x y
 | [],x,_,.cons r .nil=>⟨[],_,rfl,.nil,r⟩
 | a::l,x,_,.cons r t=>by
  obtain ⟨m0,y,e,p,f⟩:=C8a t;exact ⟨_::m0,y,by rw [e];rfl,.cons r p,f⟩
theorem C7f {α β:Type} {F:α->β->Prop}:∀{l:List α} {m:List β},Paired F l m->Paired F l.reverse m.reverse
 | _,_,.nil=> .nil
 | _,_,.cons r t=>by
  rw [List.reverse_cons,List.reverse_cons];exact B1g (C7f t) (.cons r .nil)
theorem C6k {α β γ:Type} {F:α->β->Prop} {G:γ->β->Prop} {f:α->γ} (h:∀x y,F x y->G (f x) y):∀{l:List α} {m:List β},Paired F l m->Paired G (l.map f) m
 | _,_,.nil=> .nil
 | _,_,.cons r t=> .cons (h _ _ r) (C6k h t)
theorem B7q {H:Hp}:∀{ds:List PyData} {d:PyData} {vs:List V},A3u H vs (ds++[d])->∃vs0 v,vs=vs0++[v]/\A3u H vs0 ds/\Rep H v d
 | [],d,_,.cons r .nil=>⟨[],_,rfl,.nil,r⟩
 | a::l,d,_,.cons r t=>by
  obtain ⟨m0,y,e,p,f⟩:=B7q t;exact ⟨_::m0,y,by rw [e];rfl,.cons r p,f⟩
theorem A4d.inv {m:Nat}:∀{ds es:List PyData},A4d m (ds++es)->A4d m ds/\A4d m es
 | [],es,h=>⟨A4d.nil m,h⟩
 | d::ds,es,h=>by
  have h:A4d m (d::(ds++es)):=h;obtain ⟨a,b⟩:=A4d.inv h.tl;exact ⟨h.hd.cons a,b⟩
theorem A4d.rev {m:Nat}:∀{ds:List PyData},A4d m ds->A4d m ds.reverse
 | [],h=>h
 | d::ds,h=>by
  rw [List.reverse_cons];exact (A4d.rev h.tl).app h.hd
noncomputable def B9r (p:Int×PyData):PyData:= .tuple [.int p.1,p.2]
theorem D1e {m:Nat}:∀{ws:List (Int×PyData)},A4d m (ws.map (·.2))->A4d (m+1) (ws.map B9r)
 | [],_=>A4d.nil _
 | p::r,h=>by
  have h:A4d m (p.2::r.map (·.2)):=h;have h1:=h.hd;refine A4d.cons ⟨?_,?_⟩ (D1e h.tl)
  ·have:=h1.1;simp only [PyData.canLayAll0,Bool.and_true] at this;simp only [B9r,PyData.canLayAll0,PyData.canLay0,this,Bool.and_self,Bool.and_true]
  ·have:=h1.2;simp only [PyData.depthAll] at this;simp only [B9r,PyData.depthAll,PyData.depth]
   lia
theorem A9w {m:Nat} {ds:List PyData} (h:A4d m ds) (l:m<=59):SeqAt.shaped (.list ds)=true :=
 A7h (by simp only [PyData.canLay0];exact h.1) (by have:=h.2;simp only [PyData.depth];lia)
theorem D4l (l:List PyData) (x:PyData):PyData.eqv (.list (l++[x])) (.list [])=false:=by
 cases l with
 | nil=>rfl
 | cons y r=>rfl
theorem D4q {a:Int} {d:PyData} {r:List PyData} (h:Wr a d r):1<=r.length:=by
 cases h with
 | deed=>simp
 | loop=>simp
theorem B5e {α:Type} {F:α->List PyData->Prop} (hF:∀x r,F x r->1<=r.length):∀{l:List α} {RS:List (List PyData)},Paired F l RS->l.length<=RS.flatten.length
 | _,_,.nil=>by simp
 | _,_,.cons r t=>by
  have:=B5e hF t;have:=hF _ _ r;rw [List.flatten_cons,Z06,Z0y]
  lia
noncomputable def B6y:Sp:=λvs H Q _=>∃(q tp:Addr) (n:Int) (ns:List V) (ds rs:List PyData),vs=[.ref q,.int (rs.length:Nat)]/\H q=some (.tup [.int n,.ref tp])/\H tp=some (.tup ns)/\A3u (TH H) ns ds/\WrL (-1) ds rs/\A4d 58 ds/\ns.length<=1000/\rs.length<=1000/\
 ∀(D:Addr) (ys:List V) (H':Hp),H D=none->A0o H H'->H' D=some (.lst ys)->A3u (TH H') ys rs->Q (.ref D) H'
structure WI (H G:Hp) (D W:Addr) (rs:List PyData) (ys wv:List V) (ws:List (Int×PyData)) (RS:List (List PyData)) (dn:List PyData):Prop where
 sm:A0o H G
 hD:G D=some (.lst ys)
 rD:A3u (TH G) ys dn
 hW:G W=some (.lst wv)
 rW:A3u (TH G) wv (ws.map B9r)
 wr:Paired (λ(p:Int×PyData) r=>Wr p.1 p.2 r) ws RS
 ok:A4d 58 (ws.map (·.2))
 eq:dn++RS.reverse.flatten=rs
section
variable {P:Program} {w:World} {K:PySem.W.Frag} {mg:Str->Option Value} {base:Heap} {t:Adr}
theorem B7v (T:Txt K mg t):A1y P w K mg base CX0 4 t.c9 t.cy ["_law_found","_law_most"] B6y:=by
 have G_l_whole:=B4e (P:=P) (w:=w) (base:=base) T;have G_l_is_node:=B7r (P:=P) (w:=w) (base:=base) T;refine T.eG.ok A3o (λvs H Q E h=> ?_) (λcdv A outer s H vs Q E hr h=> ?_)
 ·obtain ⟨q,tp,n,ns,ds,rs,rfl,_⟩:=h;rfl
 ·obtain ⟨q,tp,n,ns,ds,rs,rfl,hq,htp,rn,wl,nok,lns,lrs,k⟩:=h;obtain ⟨RS0,pr0,er0⟩:=C5v wl;have lds:=rn.len
  refine ⟨_,(A0e (A1m (PW.pt (B0k (A5x (A2q (A0q A1d (by rfl) T.aa Z0d (A0a (pv 0) (A0a (A2l (v:=V.ty "tuple") rfl T.ah Z0m rfl) A0c))))) (A7p (A0w B1u (A0q A0p (by rfl) T.ai Z0r (A0a (pv 0) A0c)) A0f (A1c _)))))
    (A0g (A0r A6u))
    A0u)
   (A0e (A1m (PW.pt (B0k (A5x (A2q (A0j G_l_whole (hr.mono (by lia)) rfl T.dL T.cU.kp T.dS .nil A1a (A0a (A1b A1e (pv 0) A0f (λ_ _=>rfl)) A0c)))) (A7p (A5x (A2q (A0q A1d (by rfl) T.aa Z0d (A0a (A1b A1e (pv 0) A0f (λ_ _=>rfl)) (A0a (A2l (v:=V.ty "tuple") rfl T.ah Z0m rfl) A0c))))))))
    (A0g (A0r A6u))
    A0u)
   (A0e (A0x (i:=2) A3o.nd rfl (Or.inl rfl) (A2b A0c))
   (A0e (D2k (i₀:=4) (N':=["_law_node"]) (ix:=(List.replicate 1 none)) A3o.nd rfl (Or.inl rfl) rfl (A4a rfl (by decide +kernel) (by decide +kernel)) (A3x rfl) (D1k rfl T.dh (A0a (A1b A1e (pv 0) A0f (λ_ _=>rfl)) A0c)) (λ_ _ _ _=>(A0k (i:=0) C4l rfl (Or.inl rfl) (Or.inr rfl))) (λ_ _ _ _=>(A1i (A0a (B8c B1e A0f) (A0a (pv 0) A0c)))))
   (A0e (C9q PassesOwn.never (A0w (A9x hr.units) (pv 4) (A2b A0c) (A1c _))
    (A0e (A7f (D1l Z0k PySem.F.slot_list_pop PySem.F.type_list_pop D5k (pv 4)) (A4y (n:=2) rfl (A0n (A0k (i:=5) A3o.nd rfl (Or.inl rfl) (Or.inl rfl)) (A0n (A0k (i:=3) A3o.nd rfl (Or.inl rfl) (Or.inl rfl)) A3e))))
    (A0e (A1m (PW.pt (B0k (A5x (A2q (A0j G_l_is_node (hr.mono (by lia)) rfl T.gi T.eJ.kp T.fX .nil A1a (A0a (pv 3) A0c)))) (A7p (A0w D9g (A0q A0p (by rfl) T.ai Z0r (A0a (pv 2) A0c)) (pv 1) (A1c _)))))
     (A0g (A0r A6u))
     A0u)
    (A0g (A1m (A0w A3t (A1b A1e (pv 3) A0f (λ_ _=>rfl)) A1r (A1c _))
     (A0e (A2r (A5t Z0k Z0n Z0o A1n (pv 2) (A0a (A0v B6g (A1i (A0a (pv 5) A0c)) (A1h A3h (pv 3) A2d (A1g A0f))) A0c)))
     (A0g (A3m PassesOwn.never rfl (D1k rfl T.dh (A0a (A1b A1e (pv 3) A0f (λ_ _=>rfl)) A0c)) (A0k (i:=6) A3o.nd rfl (Or.inl rfl) (Or.inl rfl))
      (A0g (A2r (A5t Z0k Z0n Z0o A1n (pv 4) (A0a (A1i (A0a (A1b A1e (pv 3) A0f (λ_ _=>rfl)) (A0a (pv 6) A0c))) A0c)))))))
     (A0g (A2r (A5t Z0k Z0n Z0o A1n (pv 2) (A0a (A0v B6g (A1i (A0a (pv 5) A0c)) (pv 3)) A0c)))))))))
   (A0g (A0r (pv 2)))))))),?_⟩
  refine ⟨_,rfl,_,_,_,_,rfl,.tup hq,A2w "tuple",true,rfl,A6q ?_⟩;refine ⟨_,rfl,q,_,rfl,.inr (SqT.of hq),rfl,_,rfl,C5w rfl ?_⟩;refine ⟨_,rfl,q,_,_,_,rfl,rfl,SqT.of hq,A0i (j:=0) rfl,_,rfl,true,rfl,A6q ?_⟩;refine ⟨_,rfl,q,_,_,_,rfl,rfl,SqT.of hq,A0i (j:=1) rfl,_,_,_,_,rfl,.tup htp,A2w "tuple",true,rfl,A6q ?_⟩;refine ⟨A0h (by simp),λD hD=> ?_⟩;have s0:A0o H (upd H D (.lst [])):=A0d hD;have hD0:upd H D (.lst []) D=some (.lst []):=A0b;generalize upd H D (.lst [])=H0 at s0 hD0⊢;refine ⟨_,rfl,q,_,_,_,rfl,rfl,SqT.of (s0 _ _ hq),A0i (j:=1) rfl,tp,ns,rfl,SqT.of (s0 _ _ htp),λW hW=> ?_⟩;have W0:H W=none:=s0.free hW;have DW:D≠W:=A0t hD0 hW
  refine C6i (J:=Itw K tp ns.length) (D:=W) ns.length (λi ys Hx=>A0o H0 Hx/\Hx W=some (.lst ys)/\A3u (TH Hx) ys ((ds.reverse.take i).map λd=>B9r (-1,d)))
   ⟨A0d hW,A0b,.nil⟩ (λi ys Hx hi ⟨s1,_⟩=>⟨ns,ns[ns.length-1-i]'(by lia),SqT.of (s1 _ _ (s0 _ _ htp)),rfl,hi,Z0b _⟩) (λys Hx _=>rfl) ?_ ?_
  ·rintro i ys Hx hi ⟨s1,h1,r1⟩ x Hy ⟨rfl,hx⟩;have hx:=hx ns (SqT.of (s1 _ _ (s0 _ _ htp)));obtain ⟨d,hd,rx⟩:=rn.get2 hx;have hd':ds.reverse[i]? =some d:=by rw [List.getElem?_reverse (by lia),<-lds];exact hd
   have ly:=r1.len;rw [Z08,Z0x,List.length_reverse] at ly;refine ⟨True.intro,_,rfl,_,rfl,A0h (by simp),λp hp=> ?_⟩;have t1:A0o Hy (upd Hy p (.tup [.int (-1),x])):=A0d hp;have hp1:upd Hy p (.tup [.int (-1),x]) p=some (.tup [.int (-1),x]):=A0b;refine ⟨t1 _ _ h1,A1o (by lia),A0s (s1.trans t1) hW,A0b,?_⟩;have kt:KT (upd Hy p (.tup [.int (-1),x])) (upd (upd Hy p (.tup [.int (-1),x])) W (.lst (ys++[.ref p]))):=KT.at (t1 _ _ h1) (by intro xs z;cases z);rw [Z14,hd',Option.toList_some,Z0s];refine (r1.same ((B5o t1).trans (B4y kt))).snoc ?_;exact .tup (B2w (kt _ _ hp1)) (.cons (.int _) (.cons (rx.same ((B5o (s0.trans s1)).trans ((B5o t1).trans (B4y kt)))) .nil))
  rintro wv0 H1 ⟨s1,h1,r1⟩;rw [lds,<-List.length_reverse,Z18] at r1;have e0:(ds.reverse.map λd=>B9r (-1,d))=(ds.reverse.map λd=>((-1:Int),d)).map B9r:=by rw [List.map_map];rfl
  rw [e0] at r1
  refine ⟨λm σ G=>∃(o3 o5 o6:Option V) (ys wv:List V) (ws:List (Int×PyData)) (RS:List (List PyData)) (dn:List PyData),σ=[some (.ref q),some (.int (rs.length:Nat)),some (.ref D),o3,some (.ref W),o5,o6]/\WI H G D W rs ys wv ws RS dn/\m=RS.flatten.length,
   ⟨_,none,none,none,[],wv0,ds.reverse.map λd=>((-1:Int),d),RS0.reverse,[],rfl,⟨s0.trans s1,s1 _ _ hD0,.nil,h1,r1,C6k (G:=λ(p:Int×PyData) r=>Wr p.1 p.2 r) (f:=λd=>((-1:Int),d)) (λ_ _ z=>z) (C7f pr0),?_,?_⟩,rfl⟩,?_⟩
  ·rw [List.map_map];have:((λ(p:Int×PyData)=>p.2)∘λd=>((-1:Int),d))=id:=rfl;rw [this,List.map_id];exact nok.rev
  ·rw [List.reverse_reverse,List.nil_append];exact er0
  rintro m σ G ⟨o3,o5,o6,ys,wv,ws,RS,dn,rfl,I,rfl⟩;refine ⟨_,rfl,A0h (by simp),λz hz=> ?_⟩;have t1:A0o G (upd G z (.lst [])):=A0d hz;have hz1:upd G z (.lst []) z=some (.lst []):=A0b;generalize upd G z (.lst [])=G1 at t1 hz1⊢;have shp:=A9w (D1e I.ok) (by lia);refine ⟨.list (ws.map B9r),.list [],.lst (t1 _ _ I.hW) ((I.rW.same (B5o t1)).same (A7e _)),.lst hz1 .nil,shp,rfl,_,rfl,?_⟩;have lys:=I.rD.len;have lwv:=I.rW.len;rw [Z08] at lwv;have lfl:=B5e (λ_ _ h=>D4q h) I.wr;have leq:=congrArg List.length I.eq;rw [Z06] at leq
  have lrv:RS.reverse.flatten.length=RS.flatten.length:=by
   rw [List.length_flatten,List.length_flatten,List.map_reverse,List.sum_reverse]
  rcases List.eq_nil_or_concat ws with e | ⟨ws0,p,e⟩
  ·subst e;have:=I.wr;cases this;have ed:dn=rs:=by have:=I.eq;simpa using this
   refine A6q ⟨_,rfl,k D ys G1 hD (I.sm.trans t1) (t1 _ _ I.hD) ?_⟩;rw [<-ed];exact I.rD.same (B5o t1)
  rw [List.concat_eq_append] at e;subst e;obtain ⟨a,d⟩:=p;obtain ⟨RSa,r,rfl,pw,wr⟩:=C8a I.wr;have rW:=I.rW;rw [Z0s] at rW;obtain ⟨wv0',v,rfl,rW0,rv⟩:=B7q (d:=B9r (a,d)) rW;have okw:=I.ok;rw [Z0s] at okw;obtain ⟨ok0,ok1⟩:=A4d.inv okw;have ok1:A4d 58 [d]:=ok1;have ev:PyData.eqv (.list ((ws0++[(a,d)]).map B9r)) (.list [])=false:=by rw [Z0s];exact D4l _ _
  rw [ev];refine C7b ⟨λσ' G'=>∃m',m'<(RSa++[r]).flatten.length/\∃(o3 o5 o6:Option V) (ys wv:List V) (ws:List (Int×PyData)) (RS:List (List PyData)) (dn:List PyData),σ'=[some (.ref q),some (.int (rs.length:Nat)),some (.ref D),o3,some (.ref W),o5,o6]/\WI H G' D W rs ys wv ws RS dn/\m'=RS.flatten.length,λσ' G' h=>h,?_⟩;have lr:=D4q wr;have fl:(RSa++[r]).flatten.length=RSa.flatten.length+r.length:=by rw [List.flatten_append,Z06];simp
  obtain ⟨b,eb,x,hb,rd⟩:∃b,v= .ref b/\∃x,G b=some (.tup [.int a,x])/\Rep (TH G) x d:=by
   unfold B9r at rv
   cases rv with
   | @tup b xs _ eb r =>
    cases r with
    | cons a1 r =>
     cases r with
     | cons a2 r =>
      cases r
      cases a1
      exact ⟨b,rfl,_,A7e _ _ _ eb,a2⟩
  subst eb;refine ⟨_,rfl,.inl ⟨rfl,_,SqL.of (t1 _ _ I.hW)⟩,W,_,.ref b,rfl,rfl,t1 _ _ I.hW,(by rw [Z06,Z0j,Nat.add_sub_cancel,Z1l (Z09 _),Nat.sub_self];rfl),?_⟩;rw [List.dropLast_concat];have k1:KB W G1 (upd G1 W (.lst wv0')):=KB.refl.upd;have kt1:KT G1 (upd G1 W (.lst wv0')):=KT.at (t1 _ _ I.hW) (by intro xs z;cases z);have hW2:upd G1 W (.lst wv0') W=some (.lst wv0'):=A0b;have sm2:A0o H (upd G1 W (.lst wv0')):=A0s (I.sm.trans t1) W0;generalize upd G1 W (.lst wv0')=G2 at k1 kt1 hW2 sm2⊢;have th2:A0o (TH G) (TH G2):=(B5o t1).trans (B4y kt1);have hD2:=k1 _ _ DW (t1 _ _ I.hD);have hb2:=kt1 _ _ (t1 _ _ hb);have rd2:=rd.same th2;refine ⟨b,_,rfl,SqT.of hb2,rfl,_,_,rfl,_,_,rfl,rfl,?_⟩;refine ⟨_,rfl,x,d,a,r,rfl,rd2,wr,λG3 s3=>⟨true,rfl,A6q ?_⟩⟩;have th3:A0o (TH G) (TH G3):=th2.trans (B5o s3);have hD3:=s3 _ _ hD2;have hW3:=s3 _ _ hW2;have sm3:=sm2.trans s3;have rd3:=rd.same th3;refine ⟨_,rfl,D,_,rfl,.inl (SqL.of hD3),_,rfl,_,_,rfl,rfl,_,rfl,A9h (λh=> ?_) (λ_=> ?_)⟩
  ·have h:(rs.length:Int)<=(ys.length:Int):=h
   lia
  have eq0:dn++r++RSa.reverse.flatten=rs:=by
   have:=I.eq;rw [List.reverse_append,List.reverse_singleton,List.flatten_append] at this;rw [Z0z]
   simpa using this
  have ly:ys.length<1000:=by lia
  have lw0:wv0'.length=ws0.length:=by simpa using lwv
  have lfl':ws0.length+1<=RSa.flatten.length+r.length:=by rw [Z06,Z0j,fl] at lfl;exact lfl
  have leq':dn.length+(RSa.flatten.length+r.length)=rs.length:=by rw [lrv,fl] at leq;exact leq
  cases wr with
  | deed _ n' kk w' c u =>
   obtain ⟨b',p',r',rfl,hb',hp',hr'⟩:=C1a rd3;refine ⟨_,rfl,b',_,_,_,rfl,rfl,SqT.of hb',A0i (j:=0) rfl,rfl,_,rfl,?_⟩;refine A9h (λz=>absurd z (by decide +kernel)) λ_=> ?_;refine ⟨_,rfl,.inl ⟨rfl,_,SqL.of hD3⟩,_,rfl,A0h (by simp),λu1 hu1=> ?_⟩;have t4:A0o G3 (upd G3 u1 (.tup [.int a])):=A0d hu1;have hu4:upd G3 u1 (.tup [.int a]) u1=some (.tup [.int a]):=A0b;generalize upd G3 u1 (.tup [.int a])=G4 at t4 hu4⊢;refine ⟨_,rfl,u1,b',_,_,rfl,rfl,SqT.of hu4,SqT.of (t4 _ _ hb'),by simp,A0h (by simp),(λz=>by cases z),λ_ p1 hp1=> ?_⟩;have t5:A0o G4 (upd G4 p1 (.tup ([.int a]++[.str "deed",.int n',.int kk,.str w',.ref p',.ref r']))):=A0d hp1;have hp5:upd G4 p1 (.tup ([.int a]++[.str "deed",.int n',.int kk,.str w',.ref p',.ref r'])) p1=some (.tup [.int a,.str "deed",.int n',.int kk,.str w',.ref p',.ref r']):=A0b;generalize upd G4 p1 (.tup ([.int a]++[.str "deed",.int n',.int kk,.str w',.ref p',.ref r']))=G5 at t5 hp5⊢;have t35:=t4.trans t5;have hD5:=t35 _ _ hD3;refine ⟨D,_,_,rfl,rfl,hD5,A1o (by lia),?_⟩;have k6:KB D G5 (upd G5 D (.lst (ys++[.ref p1]))):=KB.refl.upd;have kt6:KT G5 (upd G5 D (.lst (ys++[.ref p1]))):=KT.at hD5 (by intro xs z;cases z);have hD6:upd G5 D (.lst (ys++[.ref p1])) D=some (.lst (ys++[.ref p1])):=A0b;have sm6:A0o H (upd G5 D (.lst (ys++[.ref p1]))):=A0s (sm3.trans t35) hD;generalize upd G5 D (.lst (ys++[.ref p1]))=G6 at k6 kt6 hD6 sm6⊢;have th6:A0o (TH G3) (TH G6):=(B5o t35).trans (B4y kt6);refine ⟨_,?_,_,_,_,ys++[.ref p1],wv0',ws0,RSa,dn++[D4x a n' kk w' c u],rfl,⟨sm6,hD6,?_,k6 _ _ DW.symm (t35 _ _ hW3),rW0.same (th3.trans th6),pw,ok0,eq0⟩,rfl⟩
   ·rw [fl];lia
   ·refine ((I.rD.same (th3.trans th6))).snoc ?_;exact .tup (B2w (kt6 _ _ hp5)) (.cons (.int _) (.cons (.str _) (.cons (.int _) (.cons (.int _) (.cons (.str _) (.cons ((B0q hp').same th6) (.cons ((B0q hr').same th6) .nil)))))))
  | loop _ n' z' wd5 out5 ds5 rs5 wl5 =>
   obtain ⟨b',p',xs5,rfl,hb',hp',rx5⟩:=C6y rd3;obtain ⟨RS5,pr5,er5⟩:=C5v wl5;have l5:=rx5.len;have lf5:=B5e (λ_ _ h=>D4q h) pr5;rw [er5] at lf5;have lr5:(D1a a n' z' wd5 out5::rs5).length=rs5.length+1:=rfl;simp only [Z0y] at lfl' leq';refine ⟨_,rfl,b',_,_,_,rfl,rfl,SqT.of hb',A0i (j:=0) rfl,rfl,_,rfl,?_⟩;refine A9h (λ_=> ?_) λz=>absurd rfl z;refine ⟨_,rfl,.inl ⟨rfl,_,SqL.of hD3⟩,_,rfl,A0h (by simp),λu1 hu1=> ?_⟩;have t4:A0o G3 (upd G3 u1 (.tup [.int a])):=A0d hu1;have hu4:upd G3 u1 (.tup [.int a]) u1=some (.tup [.int a]):=A0b;generalize upd G3 u1 (.tup [.int a])=G4 at t4 hu4⊢;refine ⟨_,rfl,_,rfl,b',_,rfl,SqT.of (t4 _ _ hb'),(by show¬(HT.sIx 6 0 none=0/\HT.sIx 6 6 (some 5)=6);decide),λq5 hq5=> ?_⟩;have t45:A0o G4 (upd G4 q5 (.tup (A2u [.str "loop",.int n',.int z',.int wd5,.int out5,.ref p'] none (some 5)))):=A0d hq5;have hq5':upd G4 q5 (.tup (A2u [.str "loop",.int n',.int z',.int wd5,.int out5,.ref p'] none (some 5))) q5=some (.tup [.str "loop",.int n',.int z',.int wd5,.int out5]):=A0b;generalize upd G4 q5 (.tup (A2u [.str "loop",.int n',.int z',.int wd5,.int out5,.ref p'] none (some 5)))=G4' at t45 hq5'⊢;refine ⟨u1,q5,_,_,rfl,rfl,SqT.of (t45 _ _ hu4),SqT.of hq5',by simp,A0h (by simp),(λz=>by cases z),λ_ p1 hp1=> ?_⟩;have t5:A0o G4' (upd G4' p1 (.tup ([.int a]++[.str "loop",.int n',.int z',.int wd5,.int out5]))):=A0d hp1;have hp5:upd G4' p1 (.tup ([.int a]++[.str "loop",.int n',.int z',.int wd5,.int out5])) p1=some (.tup [.int a,.str "loop",.int n',.int z',.int wd5,.int out5]):=A0b;generalize upd G4' p1 (.tup ([.int a]++[.str "loop",.int n',.int z',.int wd5,.int out5]))=G5 at t5 hp5⊢;have t35:=t4.trans (t45.trans t5);have hD5:=t35 _ _ hD3;refine ⟨D,_,_,rfl,rfl,hD5,A1o (by lia),?_⟩;have k6:KB D G5 (upd G5 D (.lst (ys++[.ref p1]))):=KB.refl.upd;have kt6:KT G5 (upd G5 D (.lst (ys++[.ref p1]))):=KT.at hD5 (by intro xs z;cases z);have hD6:upd G5 D (.lst (ys++[.ref p1])) D=some (.lst (ys++[.ref p1])):=A0b;have sm6:A0o H (upd G5 D (.lst (ys++[.ref p1]))):=A0s (sm3.trans t35) hD;generalize upd G5 D (.lst (ys++[.ref p1]))=G6 at k6 kt6 hD6 sm6⊢;have kt36:KT G3 G6:=(KT.same t35).trans kt6;have th6:A0o (TH G3) (TH G6):=B4y kt36;have hW6:=k6 _ _ DW.symm (t35 _ _ hW3);have hb6:=kt36 _ _ hb';have hx6:=kt36 _ _ hp';have rD6:A3u (TH G6) (ys++[.ref p1]) (dn++[D1a a n' z' wd5 out5]):=((I.rD.same (th3.trans th6))).snoc (.tup (B2w (kt6 _ _ hp5)) (.cons (.int _) (.cons (.str _) (.cons (.int _) (.cons (.int _) (.cons (.int _) (.cons (.int _) .nil)))))));refine ⟨_,rfl,b',_,_,_,rfl,rfl,SqT.of hb6,A0i (j:=5) rfl,p',xs5,rfl,SqT.of hx6,?_⟩
   refine D4m (K:=K) (a:=p') (xs:=xs5) (λi σ X=>∃(o6:Option V) (wv:List V),σ=[some (.ref q),some (.int (rs.length:Nat)),some (.ref D),some (.ref b'),some (.ref W),some (.int a),o6]/\A0o H X/\KT G6 X/\X D=some (.lst (ys++[.ref p1]))/\X W=some (.lst wv)/\wv.length=wv0'.length+i/\A3u (TH X) wv ((ws0++(ds5.reverse.take i).map λd=>(n',d)).map B9r))
    ⟨_,wv0',rfl,sm6,λ_ _ e=>e,hD6,hW6,rfl,(by rw [List.take_zero,List.map_nil,Z0u];exact rW0.same (th3.trans th6))⟩ (λi σ X ⟨_,_,_,_,kx,_⟩=>SqT.of (kx _ _ hx6)) ?_ ?_
   ·rintro i y σ X hi hy ⟨o6',wv,rfl,sx,kx,hDx,hWx,lw,rx⟩;obtain ⟨d5,hd5,ry⟩:=rx5.get2 hy;have hd5':ds5.reverse[i]? =some d5:=by rw [List.getElem?_reverse (by lia),<-l5];exact hd5
    refine ⟨_,rfl,.inl ⟨rfl,_,SqL.of hWx⟩,_,rfl,b',_,_,_,rfl,rfl,SqT.of (kx _ _ hb6),A0i (j:=1) rfl,_,rfl,A0h (by simp),λu2 hu2=> ?_⟩;have v1:A0o X (upd X u2 (.tup [.int n',y])):=A0d hu2;have hu3:upd X u2 (.tup [.int n',y]) u2=some (.tup [.int n',y]):=A0b;generalize upd X u2 (.tup [.int n',y])=X1 at v1 hu3⊢;refine ⟨W,_,_,rfl,rfl,v1 _ _ hWx,A1o (by lia),?_⟩;have kt7:KT X1 (upd X1 W (.lst (wv++[.ref u2]))):=KT.at (v1 _ _ hWx) (by intro xs z;cases z);have thx:A0o (TH X) (TH (upd X1 W (.lst (wv++[.ref u2])))):=(B5o v1).trans (B4y kt7);refine ⟨_,wv++[.ref u2],rfl,A0s (sx.trans v1) W0,(kx.trans (KT.same v1)).trans kt7,by rw [A0l DW];exact v1 _ _ hDx,A0b,by rw [Z06,Z0j];lia,?_⟩
    have e6:(ws0++(ds5.reverse.take (i+1)).map λd=>(n',d)).map B9r=((ws0++(ds5.reverse.take i).map λd=>(n',d)).map B9r)++[B9r (n',d5)]:=by
     rw [Z14,hd5'];simp
    rw [e6];refine (rx.same thx).snoc ?_;exact .tup (B2w (kt7 _ _ hu3)) (.cons (.int _) (.cons (ry.same ((th6.trans (B4y kx)).trans thx)) .nil))
   ·rintro σ X ⟨o6',wv,rfl,sx,kx,hDx,hWx,lw,rx⟩;rw [l5,<-List.length_reverse,Z18] at rx;refine ⟨_,?_,_,_,_,ys++[.ref p1],wv,ws0++ds5.reverse.map λd=>(n',d),RSa++RS5.reverse,dn++[D1a a n' z' wd5 out5],rfl,⟨sx,hDx,rD6.same (B4y kx),hWx,rx,B1g pw (C6k (G:=λ(p:Int×PyData) r=>Wr p.1 p.2 r) (f:=λd=>(n',d)) (λ_ _ z=>z) (C7f pr5)),?_,?_⟩,rfl⟩
    ·have e5:RS5.reverse.flatten.length=RS5.flatten.length:=by
      rw [List.length_flatten,List.length_flatten,List.map_reverse,List.sum_reverse]
     rw [fl,List.flatten_append,Z06,e5,er5,lr5]
     lia
    ·rw [Z0s,List.map_map];have:((λ(p:Int×PyData)=>p.2)∘λd=>(n',d))=id:=rfl;rw [this,List.map_id];exact ok0.app (D2g ok1).rev
    ·rw [List.reverse_append,List.reverse_reverse,List.flatten_append,er5,<-eq0];simp
end
theorem D7d:∀(x:Nd) (a:Int),1<=(rwN a x).length
 | .deed ..,a=>by simp [rwN]
 | .loop ..,a=>by simp [rwN]
theorem C1f:∀(l:List Nd) (a:Int),l.length<=(rwL a l).length
 | [],a=>Z1e _
 | x::r,a=>by
  rw [rwL,Z06,Z0y];have:=C1f r a;have:=D7d x a
  lia
mutual
theorem D6s:∀(x:Nd) (a:Int) (b:Rd),(∀r∈rwN a x,RoG r)->(rwN a x).length<=100->okN b x
 | .deed n k w cs us,a,b,h,_=>by
  have:=h (a,.deed n k w cs us) (by rw [rwN];exact .head _);rw [okN];exact ⟨True.intro,True.intro,this.2.1,this.2.2⟩
 | .loop n sz wd out bd,a,b,h,hl=>by
  have h1:=h (a,.loop n sz wd out) (by rw [rwN];exact .head _);rw [rwN,Z0y] at hl;rw [okN];exact ⟨True.intro,h1.1,h1.2.1,True.intro,True.intro,C5e bd n b (λr hr=>h r (by rw [rwN];exact .tail _ hr)) (by lia),by have:=C1f bd n;lia⟩
theorem C5e:∀(l:List Nd) (a:Int) (b:Rd),(∀r∈rwL a l,RoG r)->(rwL a l).length<=100->okL b l
 | [],a,b,_,_=>by rw [okL];exact True.intro
 | x::r,a,b,h,hl=>by
  rw [rwL,Z06] at hl;rw [okL];exact ⟨D6s x a b (λz hz=>h z (by rw [rwL];exact Z05 _ hz)) (by lia),C5e r a b (λz hz=>h z (by rw [rwL];exact Z02 _ hz)) (by lia)⟩
end
theorem B0c.has {l:List Nd} {fr:Int} {c:Nat} (h:B0c l fr c) (hc:c<=30):okL [] l/\l.length<=100/\dpL l<=39:=by
 have:=h.rl;have:=h.dp;have:=C1f l (-1);exact ⟨C5e l (-1) [] h.ro (by lia),by lia,by lia⟩
noncomputable def MvV (H:Hp) (v:V) (m:Mv):Prop:=∃b,v= .ref b/\C8j H b m
theorem MvV.same {H H':Hp} {v:V} {m:Mv} (s:A0o H H') (h:MvV H v m):MvV H' v m:=by
 obtain ⟨b,e,q⟩:=h;exact ⟨b,e,q.same s⟩
abbrev B0g (H:Hp) (xs:List V) (ms:List Mv):Prop:=Paired (MvV H) xs ms
theorem B0g.same {H H':Hp} {xs:List V} {ms:List Mv} (s:A0o H H') (h:B0g H xs ms):B0g H' xs ms:=Paired.mapP h λ_ _ z=>z.same s
noncomputable def B9n (A:Adr):Sp:=λvs H Q E=>∃(p ml dx l a tb ln o:Addr) (wh:Int) (lk:List (Key×V)) (xs vm:List V) (M:List Addr) (rows:List Rw) (ms:List Mv),vs=[.ref p,.ref ml]/\H p=some (clo A dx wh l a tb ln o)/\H l=some (.dK lk)/\H ln=some (.lst xs)/\B2e A M H xs rows/\Tot lk rows/\rows.length<=4/\(∀e∈rows,e.so.length+e.ss.length<=3)/\H ml=some (.lst vm)/\B0g H vm ms/\ms.length<=26/\
 (∀(r tp:Addr) (ns:List V) (l':List Nd) (fr':Int) (H':Hp),B9c (A2h rows rows.length) (frM rows rows.length) ms l' fr'->A0o H H'->H' r=some (.tup [.int fr',.ref tp])->H' tp=some (.tup ns)->A1l H' l' ns->Q (.ref r) H')/\
 (∀(j:Nat) (m:Mv) (l':List Nd) (fr':Int) (dx:Addr) (H':Hp),ms[j]? =some m->B9c (A2h rows rows.length) (frM rows rows.length) (ms.take j) l' fr'->C3t m l' fr'->A0o H H'->H' dx=some (.xd [("place",.int (j:Int))])->E (.ref A.ae) (some dx) H')
section
variable {P:Program} {w:World} {K:PySem.W.Frag} {mg:Str->Option Value} {base:Heap} {t:Adr}
theorem B3i (T:Txt K mg t):B5r P w K mg base CX0 1 t.aP t.aO ["self","place"] (C7s t):=by
 refine T.de.okH A8n (λvs H Q E h=> ?_) (λcdv A outer s H vs Q E hr h=> ?_)
 ·obtain ⟨ea,ta,z,rfl,_⟩:=h;rfl
 ·obtain ⟨ea,ta,z,rfl,he,k⟩:=h;exact ⟨_,(A0g (C5k (pv 0) (pv 1) rfl)),_,rfl,_,rfl,ea,_,ta,rfl,he,T.c8,k⟩
theorem B4f (T:Txt K mg t):A1y P w K mg base (CXV P w) 132 t.dW t.dZ ["cloth","moves"] (B9n t):=by
 have G_first_nest:=B5p (P:=P) (w:=w) (base:=base) T;have G_moved:=C9o (P:=P) (w:=w) (base:=base) T;have GH_NoMove_init:=B3i (P:=P) (w:=w) (base:=base) T;refine T.d_.okV A4w (λvs H Q E h=> ?_) (λcdv A outer s H vs Q E hr h=> ?_)
 ·obtain ⟨p,ml,dx,l,a,tb,ln,o,wh,lk,xs,vm,M,rows,ms,rfl,_⟩:=h;rfl
 ·obtain ⟨p,ml,dx,l,a,tb,ln,o,wh,lk,xs,vm,M,rows,ms,rfl,hp,hl,hln,lis,tot,few,few3,hml,mvs,lms,kQ,kE⟩:=h;have lm:=Paired.length mvs
  obtain ⟨ok0,_⟩:=B5m (rows:=rows) (λe he=>by
   obtain ⟨ok,_⟩:=tot e he
   exact ⟨ok.go.pos,ok.gs.pos,few3 e he⟩) few rows.length (Z09 _)
  refine ⟨_,(A0e (A0x (i:=2) A4w.nd rfl (Or.inl rfl) (A0j G_first_nest (hr.mono (by lia)) rfl T.fK T.dE.kp T.fN .nil A1a (A0a (pv 0) A0c)))
   (A0e (A3m PassesOwn.leaving rfl (C3u rfl T.cf (A0a (pv 1) A0c)) (A4y (n:=2) rfl (A0n (A0k (i:=3) A4w.nd rfl (Or.inl rfl) (Or.inl rfl)) (A0n (A0k (i:=4) A4w.nd rfl (Or.inl rfl) (Or.inl rfl)) A3e)))
    (A0g (C9l (i:=2) ⟨rfl,rfl⟩ (C9m G_moved (hr.mono (by lia)) rfl T.gO T.gw.kp T.gL (A0a (pv 2) (A0a (pv 4) A0c))) A4w.nd rfl (Or.inl rfl))))
   (A0g (A0r (pv 2))))),?_⟩
  refine ⟨_,rfl,p,dx,l,a,tb,ln,o,wh,lk,xs,M,rows,rfl,hp,hl,hln,lis,tot,by lia,λq tp ns H1 s1 hq htp nds=> ?_⟩;refine ⟨_,rfl,ml,vm,rfl,SqL.of (s1 _ _ hml),?_⟩
  refine C1n (K:=K) (a:=ml) (xs:=vm) (λi σ H2=>∃(o3 o4:Option V) (q tp:Addr) (ns:List V) (nl:List Nd) (fr:Int),σ=[some (.ref p),some (.ref ml),some (.ref q),o3,o4,none]/\A0o H H2/\H2 q=some (.tup [.int fr,.ref tp])/\H2 tp=some (.tup ns)/\A1l H2 nl ns/\B9c (A2h rows rows.length) (frM rows rows.length) (ms.take i) nl fr)
   ⟨none,none,q,tp,ns,A2h rows rows.length,frM rows rows.length,rfl,s1,hq,htp,nds,B9c.nil _ _⟩ (λi σ H2 ⟨_,_,_,_,_,_,_,_,s2,_⟩=>SqL.of (s2 _ _ hml)) ?_ ?_
  ·rintro i x σ H2 z hx ⟨o3,o4,q,tp,ns,nl,fr,rfl,s2,hq2,htp2,nds2,to2⟩ hz;obtain ⟨m,hm,b,rfl,mb⟩:=B1k mvs hx;have hi:i<ms.length:=(Z03.mp hm).1;have sz3:A0o H2 (upd H2 z (.tup [.int (i:Nat),.ref b])):=A0d hz;have hz3:upd H2 z (.tup [.int (i:Nat),.ref b]) z=some (.tup [.int (i:Nat),.ref b]):=A0b;generalize upd H2 z (.tup [.int (i:Nat),.ref b])=H3 at sz3 hz3⊢;refine ⟨z,_,rfl,SqT.of hz3,rfl,_,_,rfl,_,_,rfl,rfl,?_⟩;obtain ⟨ok2,_⟩:=to2.ok ok0;obtain ⟨okl,len,dp⟩:=ok2.has (by rw [Z0x];lia);have et:ms.take (i+1)=ms.take i++[m]:=by rw [Z14,hm,Option.toList_some]
   refine ⟨_,rfl,_,rfl,q,tp,b,fr,m,ns,nl,rfl,sz3 _ _ hq2,sz3 _ _ htp2,nds2.kt (KT.same sz3),len,okl,dp,(mb.same s2).same sz3,λpath t' sz wd out bd r tp' xs' H4 hp' et' s4 hr4 htp4 nd4=> ?_,λhx' dx' H4 s4 hdx=> ?_⟩
   ·exact ⟨_,_,r,tp',xs',t',_,rfl,s2.trans (sz3.trans s4),hr4,htp4,nd4,by rw [et];exact .snoc to2 hp' et'⟩
   ·refine ⟨t.ae,_,rfl,(C7l (i:=5) rfl T.aE T.bB A4w.nd rfl rfl T.aI GH_NoMove_init (hr.mono (by lia)) rfl T.aE T.aq (λ_=>A1a) (λ_=>(A0a (pv 3) A0c)) (λ_=>(pv 5))),λea hea=> ?_⟩;have u5:A0o H4 (upd H4 ea (.ext (xcG ea t.ae (some dx')))):=A0d hea;refine ⟨_,rfl,A0h (by simp),rfl,A0b,λe2 ta he2=>⟨e2,ta,(i:Int),rfl,A0b,λdx2 hdx2=>⟨rfl,some dx2,?_,?_,?_⟩⟩⟩
    ·have ne:e2≠dx2:=λz=>by rw [<-z,A0b] at hdx2;cases hdx2
     rw [A0l ne,A0b];rfl
    ·have n1:ea≠e2:=λz=>by rw [<-z,A0b] at he2;cases he2
     have n2:ea≠dx2:=λz=>by rw [<-z,A0l n1,A0b] at hdx2;cases hdx2
     rw [A0l n2,A0l n1,A0l n1,A0b]
    ·refine kE i m nl fr dx2 _ hm to2 hx' (s2.trans (sz3.trans (s4.trans (u5.trans λb' o' e'=> ?_)))) ?_
     ·have n1:b'≠e2:=A0t e' he2
      have n2:b'≠dx2:=λz=>by
       rw [<-z,A0l n1,e'] at hdx2;cases hdx2
      rw [A4l n1,A0l n2,A0l n1,A0l n1];exact e'
     ·have ne:dx2≠e2:=λz=>by rw [z,A0b] at hdx2;cases hdx2
      rw [A4l ne,A0b]
  ·rintro σ H2 ⟨o3,o4,q,tp,ns,nl,fr,rfl,s2,hq2,htp2,nds2,to2⟩;rw [lm,Z18] at to2;exact ⟨_,rfl,kQ q tp ns nl fr H2 to2 s2 hq2 htp2 nds2⟩
end
noncomputable def Hd.kd:Hd->Str
 | .loop .. =>"loop" | .deed .. =>"deed"
noncomputable def B8l (H:Hp) (v:V):Ro->Prop
 | (a,.loop n sz wd out)=>∃b,v= .ref b/\H b=some (.tup [.int a,.str "loop",.int n,.int sz,.int wd,.int out])
 | (a,.deed n k w cs us)=>∃b c u,v= .ref b/\H b=some (.tup [.int a,.str "deed",.int n,.int k,.str w,.ref c,.ref u])/\H c=some (.tup (cs.map V.int))/\H u=some (.tup (us.map V.int))
theorem B8l.kt {H H':Hp} {v:V} (k:KT H H'):∀{r:Ro},B8l H v r->B8l H' v r
 | (a,.loop n sz wd out),⟨b,e,h⟩=>⟨b,e,k _ _ h⟩
 | (a,.deed n kk w cs us),⟨b,c,u,e,h1,h2,h3⟩=>⟨b,c,u,e,k _ _ h1,k _ _ h2,k _ _ h3⟩
theorem B8l.top {H:Hp} {v:V}:∀{r:Ro},B8l H v r->∃b tl,v= .ref b/\H b=some (.tup (.int r.1:: .str r.2.kd:: .int r.2.num::tl))
 | (a,.loop n sz wd out),⟨b,e,h⟩=>⟨b,_,e,h⟩
 | (a,.deed n kk w cs us),⟨b,c,u,e,h1,h2,h3⟩=>⟨b,_,e,h1⟩
abbrev A3n (H:Hp) (xs:List V) (rs:List Ro):Prop:=Paired (B8l H) xs rs
theorem A3n.kt {H H':Hp} {xs:List V} {rs:List Ro} (h:A3n H xs rs) (k:KT H H'):A3n H' xs rs:=Paired.mapP h λ_ _ z=>B8l.kt k z
noncomputable def C2w:Ro->PyData
 | (a,.loop n sz wd out)=>D1a a n sz wd out
 | (a,.deed n k w cs us)=>D4x a n k w cs us
theorem D6u {H:Hp} {v:V}:∀{r:Ro},B8l H v r->Rep (TH H) v (C2w r)
 | (a,.loop n sz wd out),⟨b,e,h⟩=>by
  subst e;exact .tup (B2w h) (.cons (.int _) (.cons (.str _) (.cons (.int _) (.cons (.int _) (.cons (.int _) (.cons (.int _) .nil))))))
 | (a,.deed n k w cs us),⟨b,c,u,e,h1,h2,h3⟩=>by
  subst e;exact .tup (B2w h1) (.cons (.int _) (.cons (.str _) (.cons (.int _) (.cons (.int _) (.cons (.str _) (.cons (B0q h2) (.cons (B0q h3) .nil)))))))
theorem C6n {H:Hp}:∀{xs:List V} {rs:List Ro},A3n H xs rs->A3u (TH H) xs (rs.map C2w)
 | _,_,.nil=> .nil
 | _,_,.cons r t=> .cons (D6u r) (C6n t)
theorem B9v {rs:List Ro} {i:Nat} {N a sz wd out:Int} (h:rs[i]? =some (a,.loop N sz wd out)) (hn:N∉lps (rs.take i)):A3j N rs=some i:=by
 obtain ⟨hl,e⟩:=Z03.mp h;have ec:rs=rs.take i++(a,.loop N sz wd out)::rs.drop (i+1):=by rw [<-e,<-Z1u hl,Z2e]
 rw [ec];have:=A4g (a:=a) (sz:=sz) (wd:=wd) (out:=out) (b:=rs.drop (i+1)) hn;rw [Z0x,Nat.min_eq_left (Nat.le_of_lt hl)] at this;exact this
theorem eqvN (l:List PyData):PyData.eqv (.list l) (.list [])=l.isEmpty:=by cases l <;> rfl
noncomputable def D4d:Ro->Prop
 | (_,.loop ..)=>True
 | (_,.deed _ _ w _ _)=>PyData.strOk w=true
theorem B1m:∀{rs:List Ro},(∀r∈rs,D4d r)->A4d 2 (rs.map C2w)
 | [],_=>A4d.nil _
 | (a,.loop n sz wd out)::rs,h=>(C8f a n sz wd out).cons (B1m λr hr=>h r (.tail _ hr))
 | (a,.deed n k w cs us)::rs,h=>(C5r (h _ (.head _))).cons (B1m λr hr=>h r (.tail _ hr))
theorem B0n {rs:List Ro} (h:∀r∈rs,D4d r):SeqAt.shaped (.list (rs.map C2w))=true:=A9w (B1m h) (by decide)
theorem C5t {H:Hp} {a:Addr} {xs:List V} {rs:List Ro} (ha:H a=some (.lst xs)) (h:A3n H xs rs):Rep H (.ref a) (.list (rs.map C2w)):= .lst ha ((C6n h).same (A7e _))
theorem A9c {α β:Type} {F:α->β->Prop} {a:List α} {b:List β} {x:α} {y:β} (h:Paired F a b) (g:F x y):Paired F (a++[x]) (b++[y]):=B1g h (.cons g .nil)
theorem B5w {H:Hp} {xs:List V} {rs:List Ro} (h:A3n H xs rs) (n:Nat):A3n H (xs.take n) (rs.take n):=D2u n h
theorem B5z {H:Hp} {xs:List V} {rs:List Ro} (h:A3n H xs rs) (n:Nat):A3n H (xs.drop n) (rs.drop n):=D3i n h
theorem B8l.reab {H:Hp} {m q:Addr}:∀{ab:Int} {h:Hd} {tl:List V} (N:Int),B8l H (.ref m) (ab,h)->H m=some (.tup (.int ab::tl))->H q=some (.tup (.int N::tl))->B8l H (.ref q) (N,h)
 | ab,.loop n sz wd out,tl,N,⟨b,e,h1⟩,h2,h3=>by
  cases e
  rw [h2] at h1;injection h1 with h1;injection h1 with h1;injection h1 with _ h1;subst h1;exact ⟨q,rfl,h3⟩
 | ab,.deed n k w cs us,tl,N,⟨b,c,u,e,h1,hc,hu⟩,h2,h3=>by
  cases e
  rw [h2] at h1;injection h1 with h1;injection h1 with h1;injection h1 with _ h1;subst h1;exact ⟨q,c,u,rfl,h3,hc,hu⟩
theorem RoG.ok:∀{r:Ro},RoG r->D4d r
 | (_,.loop ..),_=>True.intro
 | (_,.deed ..),h=>h.1
theorem D6y (a b c:Int):SeqAt.shaped (.tuple [.int a,.int b,.int c])=true:=A7h (by simp [PyData.canLay0,PyData.canLayAll0]) (by simp [PyData.depth,PyData.depthAll])
theorem eqv3 (a b c a' b' c':Int):PyData.eqv (.tuple [.int a,.int b,.int c]) (.tuple [.int a',.int b',.int c'])=decide (a'=a/\b'=b/\c'=c):=by
 simp [PyData.eqv,PyData.eqvAll,Bool.decide_and,eq_comm];rfl
theorem B6e {c:Int}:∀{rs:List Ro},B3t c rs=none->∀z∈rs,z.1≠c
 | [],_,z,hz=>by cases hz
 | r::rs,h,z,hz=>by
  rw [B3t] at h;split at h
  ·cases h
  ·rename_i hr;rcases Z0e.mp hz with e | hz
   ·subst e;exact hr
   ·exact B6e (by cases q:B3t c rs with | none=>rfl | some _=>rw [q] at h;cases h) z hz
theorem C8y {c:Int} {L:List Ro} {k:Nat} {z:Ro} (h:B3t c (L.take k)=none) (g:L[k]? =some z) (e:z.1=c):B3t c L=some k:=by
 obtain ⟨hk,ez⟩:=Z03.mp g
 have ec:L=L.take k++z::L.drop (k+1):=by
  have:=(Z2e k L).symm;rw [Z1u hk,ez] at this;exact this
 rw [ec,B6m (B6e h),B3t,Z12 e];simp;lia
theorem C6l {c:Int} {L:List Ro} {k:Nat} {z:Ro} (h:B3t c (L.take k)=none) (g:L[k]? =some z) (e:z.1≠c):B3t c (L.take (k+1))=none:=B2y λy hy=>by
 rw [Z14,g,Option.toList_some] at hy;rcases Z07.mp hy with hy | hy
 ·exact B6e h y hy
 ·rw [Z0w.mp hy];exact e
noncomputable def C3l:Sp:=λvs H Q _=>∃(p:Addr) (cs:List Int) (o w:Int),vs=[.ref p,.int o,.int w]/\H p=some (.tup (cs.map V.int))/\cs.length<=1000/\∀(q:Addr) (H':Hp),A0o H H'->H' q=some (.tup ((cs.map (ins o w)).map V.int))->Q (.ref q) H'
noncomputable def C6r:Sp:=λvs H Q _=>∃(a:Addr) (xs:List V) (rs:List Ro) (o w:Int),vs=[.ref a,.int o,.int w]/\H a=some (.lst xs)/\A3n H xs rs/\rs.length<=100/\(∀r∈rs,RoG r)/\∀(D:Addr) (ys:List V) (H':Hp),H D=none->A0o H H'->H' D=some (.lst ys)->A3n H' ys (rs.map (rnR o w))->Q (.ref D) H'
noncomputable def C4q (f:List Ro->Int->Option (List Ro)):Sp:=λvs H Q _=>∃(a:Addr) (xs:List V) (rs:List Ro) (i:Nat) (ab N sz wd out:Int),vs=[.ref a,.int (i:Int)]/\H a=some (.lst xs)/\A3n H xs rs/\rs.length<=100/\(∀r∈rs,RoG r)/\rs[i]? =some (ab,.loop N sz wd out)/\A3j N rs=some i/\
 (f rs N=none->∀H',A0o H H'->Q .non H')/\∀(ds:List Ro) (D:Addr) (ys:List V) (H':Hp),f rs N=some ds->A0o H H'->H D=none->H' D=some (.lst ys)->A3n H' ys ds->Q (.ref D) H'
noncomputable def C8h:Sp:=λvs H Q _=>∃(a:Addr) (xs:List V) (rs:List Ro) (i:Nat) (ab N sz wd out T bh:Int),vs=[.ref a,.int (i:Int),.int T,.int bh]/\H a=some (.lst xs)/\A3n H xs rs/\rs.length<=100/\(∀r∈rs,RoG r)/\rs[i]? =some (ab,.loop N sz wd out)/\A3j N rs=some i/\1<=T/\T.natAbs<2^4000/\
 (C9h rs N T bh=none->∀H',A0o H H'->Q .non H')/\∀(ds:List Ro) (D:Addr) (ys:List V) (H':Hp),C9h rs N T bh=some ds->A0o H H'->H D=none->H' D=some (.lst ys)->A3n H' ys ds->Q (.ref D) H'
theorem D0c {rs:List Ro} {N T w ab sz wd out:Int} {i:Nat} (hl:A3j N rs=some i) (hg:rs[i]? =some (ab,.loop N sz wd out)) :
  C9h rs N T w=if out= -1/\1<=T then some (rs.take i++((ab,.loop N ((sz+T-1)/T) 0 (-1))::(N,.loop w sz T N)::(rs.drop (i+1)).map (rnR N w))) else none:=by
 rw [C9h,hl]
 show (match rs[i]? with
  | some (ab,Hd.loop _ sz _ out)=>if out= -1/\1<=T then some (rs.take i++((ab,Hd.loop N ((sz+T-1)/T) 0 (-1))::(N,Hd.loop w sz T N)::(rs.drop (i+1)).map (rnR N w))) else none
  | _=>none)=_
 rw [hg]
section
variable {P:Program} {w:World} {K:PySem.W.Frag} {mg:Str->Option Value} {base:Heap} {t:Adr}
theorem C2j (T:Txt K mg t):A1y P w K mg base CX0 1 t.dY t.dO ["_law_some","_law_old","_law_new"] C3l:=by
 refine T.bH.ok A8b (λvs H Q E h=> ?_) (λcdv A outer s H vs Q E hr h=> ?_)
 ·obtain ⟨p,cs,o,w,rfl,_⟩:=h;rfl
 ·obtain ⟨p,cs,o,w,rfl,hp,lc,k⟩:=h
  refine ⟨_,(A0e (A0x (i:=3) A8b.nd rfl (Or.inl rfl) (A2b A0c))
   (A0e (A3m PassesOwn.never rfl (B7n (pv 0)) (A0k (i:=4) A8b.nd rfl (Or.inl rfl) (Or.inl rfl))
    (A6j (A1m (A0w A3t (pv 4) (pv 1) (A1c _))
     (A0g (A0x (i:=4) A8b.nd rfl (Or.inl rfl) (pv 2)))
     A0u)
    (A0g (A2r (A5t Z0k Z0n Z0o A1n (pv 3) (A0a (pv 4) A0c))))))
   (A0g (A0r (A1u A1s (by rfl) T.ah Z0m (A0a (pv 3) A0c)))))),?_⟩
  refine ⟨A0h (by simp),λD hD=> ?_⟩;refine ⟨_,rfl,p,rfl,⟨_,SqT.of (A0d hD _ _ hp)⟩,?_⟩;refine C6o (K:=K) (a:=p) (xs:=cs.map V.int) (λi σ G=>∃o4:Option V,σ=[some (.ref p),some (.int o),some (.int w),some (.ref D),o4]/\A0o H G/\G D=some (.lst (((cs.take i).map (ins o w)).map V.int))) ⟨none,rfl,A0d hD,A0b⟩ (λi σ G _ ⟨_,_,sG,_⟩=>SqT.of (sG _ _ hp)) ?_ ?_
  ·rintro i x σ G hx ⟨o4,rfl,sG,hDG⟩;obtain ⟨z,hz,rfl⟩:=A4f hx;have hi:i<cs.length:=(Z03.mp hz).1;refine ⟨λσ' G'=>σ'=[some (.ref p),some (.int o),some (.int w),some (.ref D),some (.int (ins o w z))]/\G'=G,?_,?_⟩
   ·refine ⟨_,rfl,_,rfl,rfl,_,rfl,A9h (λe=> ?_) (λe=> ?_)⟩
    ·have e:z=o:=by injection e
     exact ⟨_,rfl,by rw [ins,Z12 e];rfl,rfl⟩
    ·have e:z≠o:=λq=>e (by rw [q]);exact ⟨by rw [A7d e];rfl,rfl⟩
   ·rintro σ' G' ⟨rfl,rfl⟩;refine ⟨_,rfl,.inl ⟨rfl,_,SqL.of hDG⟩,_,rfl,D,_,_,rfl,rfl,hDG,A1o (by simp;lia),_,rfl,A0s sG hD,?_⟩;rw [A0b,Z14,hz,Option.toList_some,Z0s,Z0s];rfl
  ·rintro σ G ⟨o4,rfl,sG,hDG⟩;rw [Z08,Z18] at hDG;exact ⟨_,rfl,D,_,rfl,.inl ⟨SqL.of hDG,λq hq=>k q _ (sG.trans (A0d hq)) A0b⟩⟩
theorem A8o (T:Txt K mg t):A1y P w K mg base CX0 2 t.bx t.bz ["_law_rows","_law_old","_law_new"] C6r:=by
 have G_l_named:=C2j (P:=P) (w:=w) (base:=base) T;refine T.bu.ok A4n (λvs H Q E h=> ?_) (λcdv A outer s H vs Q E hr h=> ?_)
 ·obtain ⟨a,xs,rs,o,w',rfl,_⟩:=h;rfl
 ·obtain ⟨a,xs,rs,o,w',rfl,ha,ros,l100,rg,k1⟩:=h;have lx:=Paired.length ros
  refine ⟨_,(A0e (A0x (i:=3) A4n.nd rfl (Or.inl rfl) (A2b A0c))
   (A0e (A3m PassesOwn.never rfl (A6a (pv 0)) (A0k (i:=4) A4n.nd rfl (Or.inl rfl) (Or.inl rfl))
    (A0e (A0x (i:=5) A4n.nd rfl (Or.inl rfl) (A0j G_l_named (hr.mono (by lia)) rfl T.cP T.bH.kp T.cQ .nil A1a (A0a (A1h A3h (pv 4) A2d (A1g A0f)) (A0a (pv 1) (A0a (pv 2) A0c)))))
    (A0g (A1m (A0w A3t (A1b A1e (pv 4) A0f (λ_ _=>rfl)) A1r (A1c _))
     (A0g (A2r (A5t Z0k Z0n Z0o A1n (pv 3) (A0a (A0v A2i (A0v A2i (pv 5) (A1h A3h (pv 4) (A1g A0f) (A1g A0f))) (A0j G_l_named (hr.mono (by lia)) rfl T.cP T.bH.kp T.cQ .nil A1a (A0a (A1h A3h (pv 4) (A1g A0f) A2d) (A0a (pv 1) (A0a (pv 2) A0c))))) A0c))))
     (A0g (A2r (A5t Z0k Z0n Z0o A1n (pv 3) (A0a (A0v A2i (A0v A2i (pv 5) (A1h A3h (pv 4) (A1g A0f) (A1g A0f))) (A1i (A0a (A0j G_l_named (hr.mono (by lia)) rfl T.cP T.bH.kp T.cQ .nil A1a (A0a (A1b A1e (pv 4) A0f (λ_ _=>rfl)) (A0a (pv 1) (A0a (pv 2) A0c)))) (A0a (A0j G_l_named (hr.mono (by lia)) rfl T.cP T.bH.kp T.cQ .nil A1a (A0a (A1b A1e (pv 4) A0f (λ_ _=>rfl)) (A0a (pv 1) (A0a (pv 2) A0c)))) A0c)))) A0c))))))))
   (A0g (A0r (pv 3))))),?_⟩
  refine ⟨A0h (by simp),λDu D0=> ?_⟩;have u12:A0o H (upd H Du (.lst [])):=A0d D0;have hD12:upd H Du (.lst []) Du=some (.lst []):=A0b;generalize upd H Du (.lst [])=H12 at u12 hD12⊢;have aD:a≠Du:=A0t ha D0;refine ⟨_,rfl,a,rfl,⟨_,SqL.of (u12 _ _ ha)⟩,?_⟩
  refine A8c (K:=K) (a:=a) (xs:=xs) (λi σ G=>∃(o4 o5:Option V) (zs:List V),σ=[some (.ref a),some (.int o),some (.int w'),some (.ref Du),o4,o5]/\KT H12 G/\(∀b oo,b≠Du->H12 b=some oo->G b=some oo)/\G Du=some (.lst zs)/\A3n G zs ((rs.take i).map (rnR o w')))
   ⟨none,none,[],rfl,λ_ _ e=>e,λ_ _ _ e=>e,hD12,.nil⟩ (λi σ G _ ⟨_,_,_,_,_,kb,_⟩=>SqL.of (kb _ _ aD (u12 _ _ ha))) ?_ ?_
  ·rintro i x σ G hx ⟨o4,o5,zs,rfl,kt,kb,hDG,rz⟩;obtain ⟨r,hr',ra⟩:=B1k ros hx;have hi:i<rs.length:=(Z03.mp hr').1;have raG:=(ra.kt (KT.same u12)).kt kt;have lz:=Paired.length rz;rw [Z08,Z0x] at lz;have e:(rs.take (i+1)).map (rnR o w')=(rs.take i).map (rnR o w')++[rnR o w' r]:=by rw [Z14,hr',Option.toList_some,Z0s];rfl
   have rgr:=rg r (Z13 hr')
   have fin:∀(G':Hp) (v:V) (o4' o5':Option V),A0o G G'->B8l G' v (rnR o w' r)->(∃(o4 o5:Option V) (zs':List V),[some (.ref a),some (.int o),some (.int w'),some (.ref Du),o4',o5']=[some (.ref a),some (.int o),some (.int w'),some (.ref Du),o4,o5]/\KT H12 (upd G' Du (.lst (zs++[v])))/\(∀b oo,b≠Du->H12 b=some oo->upd G' Du (.lst (zs++[v])) b=some oo)/\upd G' Du (.lst (zs++[v])) Du=some (.lst zs')/\A3n (upd G' Du (.lst (zs++[v]))) zs' ((rs.take (i+1)).map (rnR o w'))):=by
    intro G' v o4' o5' wG rv;have kt':KT G' (upd G' Du (.lst (zs++[v]))):=KT.at (wG _ _ hDG) (by intro xs z;cases z);refine ⟨o4',o5',zs++[v],rfl,(kt.trans (KT.same wG)).trans kt',λb' oo hb' eo=>by rw [A0l hb'];exact wG _ _ (kb _ _ hb' eo),A0b,?_⟩;rw [e];exact A9c ((rz.kt (KT.same wG)).kt kt') (B8l.kt kt' rv)
   match r,raG,rgr,fin with
   | (ab',.loop n' sz' wd' out'),⟨b,e',hb⟩,rgr,fin =>
    subst e';refine ⟨_,rfl,_,rfl,b,_,rfl,SqT.of hb,(by show¬(HT.sIx 6 0 none=0/\HT.sIx 6 6 (some 1)=6);decide),λp9 hp9=> ?_⟩;have w1:A0o G (upd G p9 (.tup (A2u [.int ab',.str "loop",.int n',.int sz',.int wd',.int out'] none (some 1)))):=A0d hp9;have hw1:upd G p9 (.tup (A2u [.int ab',.str "loop",.int n',.int sz',.int wd',.int out'] none (some 1))) p9=some (.tup [.int ab']):=A0b;generalize upd G p9 (.tup (A2u [.int ab',.str "loop",.int n',.int sz',.int wd',.int out'] none (some 1)))=G1 at w1 hw1⊢;refine ⟨_,rfl,_,rfl,p9,[ab'],o,w',rfl,hw1,by simp,λq9 G2 w2 hq9=> ?_⟩;have w12:=w1.trans w2;refine ⟨_,rfl,b,_,_,_,rfl,rfl,SqT.of (w12 _ _ hb),A0i (j:=1) rfl,rfl,_,rfl,A2c (by decide +kernel) ?_⟩;refine ⟨_,rfl,.inl ⟨rfl,_,SqL.of (w12 _ _ hDG)⟩,_,rfl,_,rfl,_,rfl,_,rfl,b,_,rfl,SqT.of (w12 _ _ hb),(by show¬(HT.sIx 6 0 (some 1)=0/\HT.sIx 6 6 (some 5)=6);decide),λp3 hp3'=> ?_⟩;have w3:A0o G2 (upd G2 p3 (.tup (A2u [.int ab',.str "loop",.int n',.int sz',.int wd',.int out'] (some 1) (some 5)))):=A0d hp3';have hw3:upd G2 p3 (.tup (A2u [.int ab',.str "loop",.int n',.int sz',.int wd',.int out'] (some 1) (some 5))) p3=some (.tup [.str "loop",.int n',.int sz',.int wd']):=A0b;generalize upd G2 p3 (.tup (A2u [.int ab',.str "loop",.int n',.int sz',.int wd',.int out'] (some 1) (some 5)))=G3 at w3 hw3⊢;refine ⟨q9,p3,_,_,rfl,rfl,w3 _ _ hq9,hw3,A0h (by simp),λq4 G4 w4 hq4=> ?_⟩;have w14:=w12.trans (w3.trans w4);refine ⟨_,rfl,_,rfl,b,_,rfl,SqT.of (w14 _ _ hb),(by show¬(HT.sIx 6 0 (some 5)=0/\HT.sIx 6 6 none=6);decide),λp5 hp5=> ?_⟩;have w5:A0o G4 (upd G4 p5 (.tup (A2u [.int ab',.str "loop",.int n',.int sz',.int wd',.int out'] (some 5) none))):=A0d hp5;have hw5:upd G4 p5 (.tup (A2u [.int ab',.str "loop",.int n',.int sz',.int wd',.int out'] (some 5) none)) p5=some (.tup [.int out']):=A0b;generalize upd G4 p5 (.tup (A2u [.int ab',.str "loop",.int n',.int sz',.int wd',.int out'] (some 5) none))=G5 at w5 hw5⊢;refine ⟨_,rfl,_,rfl,p5,[out'],o,w',rfl,hw5,by simp,λq6 G6 w6 hq6=> ?_⟩;refine ⟨q4,q6,_,_,rfl,rfl,w6 _ _ (w5 _ _ hq4),hq6,A0h (by simp),λq7 G7 w7 hq7=> ?_⟩;have w17:=w14.trans (w5.trans (w6.trans w7));exact ⟨Du,_,_,rfl,rfl,w17 _ _ hDG,A1o (by lia),fin _ _ _ _ w17 ⟨q7,rfl,hq7⟩⟩
   | (ab',.deed n' k' wo' cs' us'),⟨b,c,u,e',hb,hc,hu⟩,rgr,fin =>
    subst e';refine ⟨_,rfl,_,rfl,b,_,rfl,SqT.of hb,(by show¬(HT.sIx 7 0 none=0/\HT.sIx 7 7 (some 1)=7);decide),λp9 hp9=> ?_⟩;have w1:A0o G (upd G p9 (.tup (A2u [.int ab',.str "deed",.int n',.int k',.str wo',.ref c,.ref u] none (some 1)))):=A0d hp9;have hw1:upd G p9 (.tup (A2u [.int ab',.str "deed",.int n',.int k',.str wo',.ref c,.ref u] none (some 1))) p9=some (.tup [.int ab']):=A0b;generalize upd G p9 (.tup (A2u [.int ab',.str "deed",.int n',.int k',.str wo',.ref c,.ref u] none (some 1)))=G1 at w1 hw1⊢;refine ⟨_,rfl,_,rfl,p9,[ab'],o,w',rfl,hw1,by simp,λq9 G2 w2 hq9=> ?_⟩;have w12:=w1.trans w2;refine ⟨_,rfl,b,_,_,_,rfl,rfl,SqT.of (w12 _ _ hb),A0i (j:=1) rfl,rfl,_,rfl,A3l (by decide +kernel) ?_⟩;refine ⟨_,rfl,.inl ⟨rfl,_,SqL.of (w12 _ _ hDG)⟩,_,rfl,_,rfl,_,rfl,_,rfl,b,_,rfl,SqT.of (w12 _ _ hb),(by show¬(HT.sIx 7 0 (some 1)=0/\HT.sIx 7 7 (some 5)=7);decide),λp4 hp4=> ?_⟩;have w4:A0o G2 (upd G2 p4 (.tup (A2u [.int ab',.str "deed",.int n',.int k',.str wo',.ref c,.ref u] (some 1) (some 5)))):=A0d hp4;have hw4:upd G2 p4 (.tup (A2u [.int ab',.str "deed",.int n',.int k',.str wo',.ref c,.ref u] (some 1) (some 5))) p4=some (.tup [.str "deed",.int n',.int k',.str wo']):=A0b;generalize upd G2 p4 (.tup (A2u [.int ab',.str "deed",.int n',.int k',.str wo',.ref c,.ref u] (some 1) (some 5)))=G4 at w4 hw4⊢;refine ⟨q9,p4,_,_,rfl,rfl,w4 _ _ hq9,hw4,A0h (by simp),λq5 G5 w5 hq5=> ?_⟩;have w15:=w12.trans (w4.trans w5);refine ⟨_,rfl,b,_,_,_,rfl,rfl,SqT.of (w15 _ _ hb),A0i (j:=5) rfl,_,rfl,_,rfl,c,cs',o,w',rfl,w15 _ _ hc,by have:=rgr.2.1;lia,λq3 G3 w3 hq3=> ?_⟩;have w16:=w15.trans w3;refine ⟨_,rfl,b,_,_,_,rfl,rfl,SqT.of (w16 _ _ hb),A0i (j:=6) rfl,_,rfl,_,rfl,u,us',o,w',rfl,w16 _ _ hu,by have:=rgr.2.2;lia,λq6 G6 w6 hq6=>⟨A0h (by simp),λz7 hz7=> ?_⟩⟩;have w7:A0o G6 (upd G6 z7 (.tup [.ref q3,.ref q6])):=A0d hz7;have hw7:upd G6 z7 (.tup [.ref q3,.ref q6]) z7=some (.tup [.ref q3,.ref q6]):=A0b;generalize upd G6 z7 (.tup [.ref q3,.ref q6])=G7 at w7 hw7⊢;refine ⟨q5,z7,_,_,rfl,rfl,w7 _ _ (w6 _ _ (w3 _ _ hq5)),hw7,A0h (by simp),λq8 G8 w8 hq8=> ?_⟩;have w38:=w6.trans (w7.trans w8);have w18:=w16.trans w38;exact ⟨Du,_,_,rfl,rfl,w18 _ _ hDG,A1o (by lia),fin _ _ _ _ w18 ⟨q8,q3,q6,rfl,hq8,w38 _ _ hq3,w8 _ _ (w7 _ _ hq6)⟩⟩
  ·rintro σ G ⟨o4,o5,zs,rfl,kt,kb,hDG,rz⟩;rw [lx,Z18] at rz;exact ⟨_,rfl,k1 Du zs G D0 (λb oo e=>kb _ _ (A0t e D0) (u12 _ _ e)) hDG rz⟩
theorem C9k (T:Txt K mg t):A1y P w K mg base CX0 3 t.fQ t.fB ["_law_rows","_law_at","_law_width","_law_behind"] C8h:=by
 have G_l_all_named:=A8o (P:=P) (w:=w) (base:=base) T;refine T.gy.ok B6c (λvs H Q E h=> ?_) (λcdv A outer s H vs Q E hr h=> ?_)
 ·obtain ⟨a,xs,rs,at',ab,N,sz,wd,out,T',bh,rfl,_⟩:=h;rfl
 ·obtain ⟨a,xs,rs,at',ab,N,sz,wd,out,T',bh,rfl,ha,ros,l100,rg,hat,hl,ht,hT,k0,k1⟩:=h;have lx:=Paired.length ros
  refine ⟨_,(A0e (A1m (A0w B1u (A1b A1e (A1b A1f (pv 0) (pv 1) (λ_ _=>rfl)) A0f (λ_ _=>rfl)) (B8c B1e A0f) (A1c _))
    (A0g (A0r A6u))
    A0u)
   (A0e (A0x (i:=4) B6c.nd rfl (Or.inl rfl) (A1b A1e (A1b A1f (pv 0) (pv 1) (λ_ _=>rfl)) A0f (λ_ _=>rfl)))
   (A0e (A0x (i:=5) B6c.nd rfl (Or.inl rfl) (A0v B2b (A1h A6d (pv 0) A2d (A1g (pv 1))) (A2b (A0a (A0v A2i (A1h A3h (A1b A1f (pv 0) (pv 1) (λ_ _=>rfl)) A2d (A1g A0f)) (A1i (A0a (A0v C1l (A0v A9s (A0v A2a (pv 4) (pv 2)) A0f) (pv 2)) (A0a A0f (A0a (B8c B1e A0f) A0c))))) A0c))))
   (A0e (A2r (A5t Z0k Z0n Z0o A1n (pv 5) (A0a (A1i (A0a (A1b A1e (A1b A1f (pv 0) (pv 1) (λ_ _=>rfl)) A0f (λ_ _=>rfl)) (A0a A1r (A0a (pv 3) (A0a (pv 4) (A0a (pv 2) (A0a (A1b A1e (A1b A1f (pv 0) (pv 1) (λ_ _=>rfl)) A0f (λ_ _=>rfl)) A0c))))))) A0c)))
   (A0g (A0r (A0v B2b (pv 5) (A0j G_l_all_named (hr.mono (by lia)) rfl T.c_ T.bu.kp T.cX .nil A1a (A0a (A1h A6d (pv 0) (A1g (A0v A2a (pv 1) A0f)) A2d) (A0a (A1b A1e (A1b A1f (pv 0) (pv 1) (λ_ _=>rfl)) A0f (λ_ _=>rfl)) (A0a (pv 3) A0c))))))))))),?_⟩
  have cg:=D0c (T:=T') (w:=bh) hl hat;have hati:at'<rs.length:=(Z03.mp hat).1;have hxi:xs[at']? =some (xs[at']'(by lia)):=Z0b _;obtain ⟨r0,hr0,ra0⟩:=B1k ros hxi;rw [hat] at hr0;cases hr0;generalize xs[at']'(by lia)=v0 at hxi ra0;obtain ⟨b0,rfl,hb0⟩:=ra0;have s1:1<=sz:=(rg _ (Z13 hat)).1;refine ⟨_,rfl,_,rfl,a,_,_,_,rfl,rfl,SqL.of ha,A0i hxi,b0,_,_,_,rfl,rfl,SqT.of hb0,A0i (j:=5) rfl,_,rfl,rfl,_,rfl,?_⟩;by_cases ho:out≠-1
  ·exact A2c (by
    have:V.int out≠V.int (-1):=λz=>ho (by injection z);show (!decide (V.int out=V.int (-1)))=true
    rw [Z1j this];rfl) (k0 (by rw [cg,Z0t (λz=>ho z.1)]) _ (A0o.refl _))
  have ho:out= -1:=by lia
  refine A3l (by
    show (!decide (V.int out=V.int (-1)))=false
    rw [Z20 (by rw [ho])];rfl) ?_
  rw [Z12 ⟨ho,ht⟩] at cg;refine ⟨_,rfl,_,rfl,a,_,_,_,rfl,rfl,SqL.of ha,A0i hxi,b0,_,_,_,rfl,rfl,SqT.of hb0,A0i (j:=3) rfl,?_⟩;refine ⟨_,rfl,_,rfl,_,rfl,a,xs,rfl,SqL.of ha,λp hp=> ?_⟩;rw [show A2u xs none (some (at':Int))=xs.take at' from A5e (show at'<=xs.length by lia)];have u3:A0o H (upd H p (.lst (xs.take at'))):=A0d hp;have hp3:upd H p (.lst (xs.take at')) p=some (.lst (xs.take at')):=A0b;generalize upd H p (.lst (xs.take at'))=H3 at u3 hp3⊢;refine ⟨_,rfl,_,rfl,a,_,_,_,rfl,rfl,SqL.of (u3 _ _ ha),A0i hxi,_,rfl,b0,_,rfl,SqT.of (u3 _ _ hb0),(by show¬(HT.sIx 6 0 none=0/\HT.sIx 6 6 (some 3)=6);decide),λp2 hp2=> ?_⟩;have u4:A0o H3 (upd H3 p2 (.tup (A2u [.int ab,.str "loop",.int N,.int sz,.int wd,.int out] none (some 3)))):=A0d hp2;have h4:upd H3 p2 (.tup (A2u [.int ab,.str "loop",.int N,.int sz,.int wd,.int out] none (some 3))) p2=some (.tup [.int ab,.str "loop",.int N]):=A0b;generalize upd H3 p2 (.tup (A2u [.int ab,.str "loop",.int N,.int sz,.int wd,.int out] none (some 3)))=H4 at u4 h4⊢;refine ⟨_,rfl,_,rfl,_,_,rfl,rfl,_,_,rfl,rfl,_,rfl,_,_,rfl,rfl,⟨by lia,hT⟩,_,rfl,A0h (by simp),λz hz=> ?_⟩;have u5:A0o H4 (upd H4 z (.tup [.int ((sz+T'-1)/T'),.int 0,.int (-1)])):=A0d hz;have h5:upd H4 z (.tup [.int ((sz+T'-1)/T'),.int 0,.int (-1)]) z=some (.tup [.int ((sz+T'-1)/T'),.int 0,.int (-1)]):=A0b;refine ⟨p2,z,_,_,rfl,rfl,u5 _ _ h4,h5,A0h (by simp),λq1 H6 u6 hq1=>⟨A0h (by simp),λL hL=> ?_⟩⟩;have u7:A0o H6 (upd H6 L (.lst [.ref q1])):=A0d hL;have hL7:upd H6 L (.lst [.ref q1]) L=some (.lst [.ref q1]):=A0b;generalize upd H6 L (.lst [.ref q1])=H7 at u7 hL7⊢;have u37:=u4.trans (u5.trans (u6.trans u7));have s7:=u3.trans u37;refine ⟨p,L,_,_,rfl,rfl,u37 _ _ hp3,hL7,A0h (by rw [Z0x];simp;lia),λDu hDu=> ?_⟩;have D0:H Du=none:=s7.free hDu;have u8:A0o H7 (upd H7 Du (.lst (xs.take at'++[.ref q1]))):=A0d hDu;have hD8:upd H7 Du (.lst (xs.take at'++[.ref q1])) Du=some (.lst (xs.take at'++[.ref q1])):=A0b;generalize upd H7 Du (.lst (xs.take at'++[.ref q1]))=H8 at u8 hD8⊢;have s8:=s7.trans u8;refine ⟨_,rfl,.inl ⟨rfl,_,SqL.of hD8⟩,_,rfl,_,rfl,a,_,_,_,rfl,rfl,SqL.of (s8 _ _ ha),A0i hxi,b0,_,_,_,rfl,rfl,SqT.of (s8 _ _ hb0),A0i (j:=2) rfl,_,rfl,_,rfl,_,rfl,_,rfl,_,rfl,a,_,_,_,rfl,rfl,SqL.of (s8 _ _ ha),A0i hxi,b0,_,_,_,rfl,rfl,SqT.of (s8 _ _ hb0),A0i (j:=2) rfl,A0h (by simp),λq2 hq2=> ?_⟩;have u9:A0o H8 (upd H8 q2 (.tup [.int N,.str "loop",.int bh,.int sz,.int T',.int N])):=A0d hq2;have h9:upd H8 q2 (.tup [.int N,.str "loop",.int bh,.int sz,.int T',.int N]) q2=some (.tup [.int N,.str "loop",.int bh,.int sz,.int T',.int N]):=A0b;generalize upd H8 q2 (.tup [.int N,.str "loop",.int bh,.int sz,.int T',.int N])=H9 at u9 h9⊢;have hD9:=u9 _ _ hD8;have s9:=s8.trans u9;refine ⟨Du,_,_,rfl,rfl,hD9,A1o (by simp;lia),?_⟩;have kt10:KT H9 (upd H9 Du (.lst (xs.take at'++[.ref q1]++[.ref q2]))):=KT.at hD9 (by intro xs z;cases z);have s10:A0o H (upd H9 Du (.lst (xs.take at'++[.ref q1]++[.ref q2]))):=A0s s9 D0;have hD10:upd H9 Du (.lst (xs.take at'++[.ref q1]++[.ref q2])) Du=some (.lst (xs.take at'++[.ref q1]++[.ref q2])):=A0b;generalize upd H9 Du (.lst (xs.take at'++[.ref q1]++[.ref q2]))=H10 at kt10 s10 hD10⊢;have hq1':H10 q1=some (.tup [.int ab,.str "loop",.int N,.int ((sz+T'-1)/T'),.int 0,.int (-1)]):=kt10 _ _ (u9 _ _ (u8 _ _ (u7 _ _ hq1)));have hq2':=kt10 _ _ h9;refine ⟨_,rfl,_,rfl,_,rfl,_,_,rfl,rfl,_,rfl,a,xs,rfl,SqL.of (s10 _ _ ha),λsl hsl=> ?_⟩
  have ec:A2u xs (some ((at':Int)+1)) none=xs.drop (at'+1):=by
   rw [show ((at':Int)+1)=((at'+1:Nat):Int) by lia];exact A4q (by lia)
  rw [show A2u xs (some ((at':Int)+1)) none=xs.drop (at'+1) from ec];have u12:A0o H10 (upd H10 sl (.lst (xs.drop (at'+1)))):=A0d hsl;have hs12:upd H10 sl (.lst (xs.drop (at'+1))) sl=some (.lst (xs.drop (at'+1))):=A0b;generalize upd H10 sl (.lst (xs.drop (at'+1)))=H12 at u12 hs12⊢;have s12:=s10.trans u12;refine ⟨_,rfl,_,rfl,a,_,_,_,rfl,rfl,SqL.of (s12 _ _ ha),A0i hxi,b0,_,_,_,rfl,rfl,SqT.of (s12 _ _ hb0),A0i (j:=2) rfl,_,rfl,sl,_,rs.drop (at'+1),N,bh,rfl,hs12,(B5z ros (at'+1)).kt (KT.same s12),by rw [Z19];lia,λr hr=>rg r (List.mem_of_mem_drop hr),λD2 ys2 H13 hD20 u13 hD2 ro2=> ?_⟩;have ly2:=Paired.length ro2;rw [Z08,Z19] at ly2;refine ⟨Du,D2,_,_,rfl,rfl,u13 _ _ (u12 _ _ hD10),hD2,A0h (by simp;lia),λD3 hD3=> ?_⟩;have s13:=s12.trans u13;refine k1 _ D3 _ _ cg (s13.trans (A0d hD3)) (s13.free hD3) A0b ?_;have k14:KT H13 (upd H13 D3 (.lst (xs.take at'++[.ref q1]++[.ref q2]++ys2))):=KT.same (A0d hD3);generalize upd H13 D3 (.lst (xs.take at'++[.ref q1]++[.ref q2]++ys2))=H14 at k14⊢;rw [Z0z,Z0z];refine B1g (((B5w ros at').kt (KT.same s13)).kt k14) ?_;refine B1g (.cons ?_ .nil) (B1g (.cons ?_ .nil) (ro2.kt k14))
  ·exact ⟨q1,rfl,k14 _ _ (u13 _ _ (u12 _ _ hq1'))⟩
  ·exact ⟨q2,rfl,k14 _ _ (u13 _ _ (u12 _ _ hq2'))⟩
theorem B9l (T:Txt K mg t):A1y P w K mg base CX0 3 t.di t.dq ["_law_rows","_law_at"] (C4q B5l):=by
 have G_l_all_named:=A8o (P:=P) (w:=w) (base:=base) T;refine T.eP.ok B3l (λvs H Q E h=> ?_) (λcdv A outer s H vs Q E hr h=> ?_)
 ·obtain ⟨a,xs,rs,at',ab,N,sz,wd,out,rfl,_⟩:=h;rfl
 ·obtain ⟨a,xs,rs,at',ab,N,sz,wd,out,rfl,ha,ros,l100,rg,hat,hl,k0,k1⟩:=h;have lx:=Paired.length ros;have jg:=B8k hl hat;have hati:at'<rs.length:=(Z03.mp hat).1;have hxi:xs[at']? =some (xs[at']'(by lia)):=Z0b _;obtain ⟨r0,hr0,ra0⟩:=B1k ros hxi;rw [hat] at hr0;cases hr0;generalize xs[at']'(by lia)=v0 at hxi ra0;obtain ⟨b0,rfl,hb0⟩:=ra0
  refine ⟨_,(A0e (A3m PassesOwn.never rfl (C5i rfl T.bo (A0a (A0v A2a (pv 1) A0f) (A0a (A0q A0p (by rfl) T.ai Z0r (A0a (pv 0) A0c)) A0c))) (A0k (i:=2) B3l.nd rfl (Or.inl rfl) (Or.inl rfl))
    (A0g (A1m (A0w A3t (A1b A1e (A1b A1f (pv 0) (pv 2) (λ_ _=>rfl)) A0f (λ_ _=>rfl)) (A1b A1e (A1b A1f (pv 0) (pv 1) (λ_ _=>rfl)) A0f (λ_ _=>rfl)) (A1c _))
     (A0e (A1m (PW.pt (B0k (A0w B1u (A1b A1e (A1b A1f (pv 0) (pv 2) (λ_ _=>rfl)) A0f (λ_ _=>rfl)) A1r (A1c _)) (A7p (A0w (A9x hr.units) (A1h A3h (A1b A1f (pv 0) (pv 2) (λ_ _=>rfl)) (A1g A0f) (A1g A0f)) (A1h A3h (A1b A1f (pv 0) (pv 1) (λ_ _=>rfl)) (A1g A0f) (A1g A0f)) (A1c _)))))
      (A0g (A0r A6u))
      A0u)
     (A0g (A0r (A0v B2b (A1h A6d (pv 0) A2d (A1g (pv 2))) (A0j G_l_all_named (hr.mono (by lia)) rfl T.c_ T.bu.kp T.cX .nil A1a (A0a (A1h A6d (pv 0) (A1g (A0v A2a (pv 2) A0f)) A2d) (A0a (A1b A1e (A1b A1f (pv 0) (pv 2) (λ_ _=>rfl)) A0f (λ_ _=>rfl)) (A0a (A1b A1e (A1b A1f (pv 0) (pv 1) (λ_ _=>rfl)) A0f (λ_ _=>rfl)) A0c))))))))
     A0u)))
   (A0g (A0r A6u))),?_⟩
  refine ⟨_,rfl,_,_,rfl,rfl,_,rfl,a,_,rfl,.inl (SqL.of ha),_,_,rfl,⟨by lia,by lia,by lia,by lia⟩,?_⟩;refine A4p (lo:=(at':Int)+1) (n:=(((xs.length:Nat):Int)-((at':Int)+1)).toNat) (λk σ H2=>∃o2:Option V,σ=[some (.ref a),some (.int (at':Int)),o2]/\H2=H/\B3t ab ((rs.drop (at'+1)).take k)=none) ⟨none,rfl,rfl,by simp [B3t]⟩ ?_ ?_
  ·rintro k σ H2 hk ⟨o2,rfl,rfl,nb⟩;have hk:at'+1+k<rs.length:=by lia
   rw [show (at':Int)+1+(k:Int)=((at'+1+k:Nat):Int) by lia];have hxk:xs[at'+1+k]? =some (xs[at'+1+k]'(by lia)):=Z0b _;obtain ⟨r2,hr2,ra2⟩:=B1k ros hxk;generalize xs[at'+1+k]'(by lia)=v2 at hxk ra2;obtain ⟨b1,tl1,rfl,hb1⟩:=ra2.top;have hd:(rs.drop (at'+1))[k]? =some r2:=by rw [List.getElem?_drop];exact hr2
   refine ⟨_,rfl,_,rfl,a,_,_,_,rfl,rfl,SqL.of ha,A0i hxk,b1,_,_,_,rfl,rfl,SqT.of hb1,A0i (j:=0) rfl,_,rfl,_,rfl,a,_,_,_,rfl,rfl,SqL.of ha,A0i hxi,b0,_,_,_,rfl,rfl,SqT.of hb0,A0i (j:=0) rfl,rfl,_,rfl,A9h (λhn=> ?_) (λhn=> ?_)⟩
   ·have hn:r2.1=ab:=by injection hn
    rw [C8y nb hd hn] at jg
    replace jg:B5l rs N=match rs[at'+1+k]? with
     | some (_,.loop m szm wdm outm)=>if sz=szm/\wd=wdm/\out=outm then some (rs.take (at'+1+k)++(rs.drop (at'+1+k+1)).map (rnR m N)) else none
     | _=>none:=jg
    generalize at'+1+k=o at jg hk hxk hr2⊢;rw [hr2] at jg
    match r2,ra2,jg with
    | (ab2,.deed n2 k2 w2 cs2 us2),⟨b2,c2,u2,e2,hb2,_,_⟩,jg =>
     cases e2
     exact ⟨_,rfl,_,rfl,a,_,_,_,rfl,rfl,SqL.of ha,A0i hxk,b1,_,_,_,rfl,rfl,SqT.of hb2,A0i (j:=1) rfl,rfl,_,rfl,A2c (by decide +kernel) (k0 jg _ (A0o.refl _))⟩
    | (ab2,.loop m szm wdm outm),⟨b2,e2,hb2⟩,jg =>
     cases e2
     replace jg:B5l rs N=if sz=szm/\wd=wdm/\out=outm then some (rs.take o++(rs.drop (o+1)).map (rnR m N)) else none:=jg
     refine ⟨_,rfl,_,rfl,a,_,_,_,rfl,rfl,SqL.of ha,A0i hxk,b1,_,_,_,rfl,rfl,SqT.of hb2,A0i (j:=1) rfl,rfl,_,rfl,A3l (by decide +kernel) ?_⟩;refine ⟨_,rfl,_,rfl,a,_,_,_,rfl,rfl,SqL.of ha,A0i hxk,_,rfl,_,rfl,b1,_,rfl,SqT.of hb2,(by show¬(HT.sIx 6 0 (some 3)=0/\HT.sIx 6 6 (some 6)=6);decide),λp1 hp1=> ?_⟩;have u1:A0o H2 (upd H2 p1 (.tup (A2u [.int ab2,.str "loop",.int m,.int szm,.int wdm,.int outm] (some 3) (some 6)))):=A0d hp1;have h1:upd H2 p1 (.tup (A2u [.int ab2,.str "loop",.int m,.int szm,.int wdm,.int outm] (some 3) (some 6))) p1=some (.tup [.int szm,.int wdm,.int outm]):=A0b;generalize upd H2 p1 (.tup (A2u [.int ab2,.str "loop",.int m,.int szm,.int wdm,.int outm] (some 3) (some 6)))=H3 at u1 h1⊢;refine ⟨_,rfl,_,rfl,a,_,_,_,rfl,rfl,SqL.of (u1 _ _ ha),A0i hxi,_,rfl,_,rfl,b0,_,rfl,SqT.of (u1 _ _ hb0),(by show¬(HT.sIx 6 0 (some 3)=0/\HT.sIx 6 6 (some 6)=6);decide),λp2 hp2=> ?_⟩;have u2:A0o H3 (upd H3 p2 (.tup (A2u [.int ab,.str "loop",.int N,.int sz,.int wd,.int out] (some 3) (some 6)))):=A0d hp2;have h2:upd H3 p2 (.tup (A2u [.int ab,.str "loop",.int N,.int sz,.int wd,.int out] (some 3) (some 6))) p2=some (.tup [.int sz,.int wd,.int out]):=A0b;generalize upd H3 p2 (.tup (A2u [.int ab,.str "loop",.int N,.int sz,.int wd,.int out] (some 3) (some 6)))=H4 at u2 h2⊢;have s2:=u1.trans u2;refine ⟨.tuple [.int szm,.int wdm,.int outm],.tuple [.int sz,.int wd,.int out],.tup (u2 _ _ h1) (.cons (.int _) (.cons (.int _) (.cons (.int _) .nil))),.tup h2 (.cons (.int _) (.cons (.int _) (.cons (.int _) .nil))),D6y _ _ _,D6y _ _ _,_,rfl,?_⟩;rw [eqv3];by_cases hc:¬(sz=szm/\wd=wdm/\out=outm)
     ·exact A2c (by rw [Z1j hc];rfl) (k0 (by rw [jg,Z0t hc]) _ s2)
     have hc:sz=szm/\wd=wdm/\out=outm:=Decidable.not_not.mp hc;rw [Z12 hc] at jg;refine A3l (by rw [Z20 hc];rfl) ?_;refine ⟨_,rfl,_,rfl,_,rfl,a,xs,rfl,SqL.of (s2 _ _ ha),λp3 hp3=> ?_⟩;rw [show A2u xs none (some (o:Int))=xs.take o from A5e (show o<=xs.length by lia)];have u3:A0o H4 (upd H4 p3 (.lst (xs.take o))):=A0d hp3;have h3:upd H4 p3 (.lst (xs.take o)) p3=some (.lst (xs.take o)):=A0b;generalize upd H4 p3 (.lst (xs.take o))=H5 at u3 h3⊢;have s3:=s2.trans u3;refine ⟨_,rfl,_,rfl,_,_,rfl,rfl,_,rfl,a,xs,rfl,SqL.of (s3 _ _ ha),λsl hsl=> ?_⟩
     have ec:A2u xs (some ((o:Int)+1)) none=xs.drop (o+1):=by
      rw [show ((o:Int)+1)=((o+1:Nat):Int) by lia];exact A4q (by lia)
     rw [show A2u xs (some ((o:Int)+1)) none=xs.drop (o+1) from ec];have u12:A0o H5 (upd H5 sl (.lst (xs.drop (o+1)))):=A0d hsl;have hs12:upd H5 sl (.lst (xs.drop (o+1))) sl=some (.lst (xs.drop (o+1))):=A0b;generalize upd H5 sl (.lst (xs.drop (o+1)))=H12 at u12 hs12⊢;have s12:=s3.trans u12;refine ⟨_,rfl,_,rfl,a,_,_,_,rfl,rfl,SqL.of (s12 _ _ ha),A0i hxk,b1,_,_,_,rfl,rfl,SqT.of (s12 _ _ hb2),A0i (j:=2) rfl,_,rfl,_,rfl,a,_,_,_,rfl,rfl,SqL.of (s12 _ _ ha),A0i hxi,b0,_,_,_,rfl,rfl,SqT.of (s12 _ _ hb0),A0i (j:=2) rfl,sl,_,rs.drop (o+1),m,N,rfl,hs12,(B5z ros (o+1)).kt (KT.same s12),by rw [Z19];lia,λr hr=>rg r (List.mem_of_mem_drop hr),λD2 ys2 H13 hD20 u13 hD2 ro2=> ?_⟩;have ly2:=Paired.length ro2;rw [Z08,Z19] at ly2;refine ⟨p3,D2,_,_,rfl,rfl,u13 _ _ (u12 _ _ h3),hD2,A0h (by rw [Z0x];lia),λD3 hD3=> ?_⟩;have s13:=s12.trans u13;refine k1 _ D3 _ _ jg (s13.trans (A0d hD3)) (s13.free hD3) A0b ?_;have k14:KT H13 (upd H13 D3 (.lst (xs.take o++ys2))):=KT.same (A0d hD3);exact B1g (((B5w ros o).kt (KT.same s13)).kt k14) (ro2.kt k14)
   ·have hn:r2.1≠ab:=λz=>hn (by rw [z]);exact ⟨_,rfl,rfl,C6l nb hd hn⟩
  ·rintro σ H2 ⟨o2,rfl,rfl,nb⟩;rw [List.take_of_length_le (by rw [Z19];lia)] at nb;rw [nb] at jg;exact k0 jg _ (A0o.refl _)
theorem B8o (T:Txt K mg t):A1y P w K mg base CX0 1 t.cG t.cq ["_law_rows","_law_at"] (C4q B5i):=by
 refine T.eE.ok A3s (λvs H Q E h=> ?_) (λcdv A outer s H vs Q E hr h=> ?_)
 ·obtain ⟨a,xs,rs,at',ab,N,sz0,wd0,out0,rfl,_⟩:=h;rfl
 ·obtain ⟨a,xs,rs,at',ab,N,sz0,wd0,out0,rfl,ha,ros,l100,rg,hat,hl,k0,k1⟩:=h;have lx:=Paired.length ros;have hati:at'<rs.length:=(Z03.mp hat).1;have hxi:xs[at']? =some (xs[at']'(by lia)):=Z0b _;obtain ⟨r0,hr0,ra0⟩:=B1k ros hxi;rw [hat] at hr0;cases hr0;generalize xs[at']'(by lia)=v0 at hxi ra0;obtain ⟨b0,rfl,hb0⟩:=ra0
  refine ⟨_,(A0e (C4t (i₀:=3) (N':=["_law_row","_law_at","_law_rows"]) (ix:=(List.replicate 1 none++[some 1,some 0])) A3s.nd rfl (Or.inl rfl) rfl (B3b (cl:=[("_law_rows",_),("_law_at",_)]) (xs:=["_law_rows","_law_at"]) rfl ⟨rfl,rfl,trivial⟩ rfl rfl (by decide +kernel) (by decide +kernel)) (B3d (N0:=["_law_row"]) (xs:=["_law_at","_law_rows"]) (js:=[1,0]) ⟨⟨rfl,Or.inl rfl,(by first | exact Or.inl rfl | exact Or.inr rfl | (simp [relabel];rfl) | (with_unfolding_all exact Or.inl rfl) | (with_unfolding_all exact Or.inr rfl) | (with_unfolding_all decide))⟩,⟨rfl,Or.inl rfl,(by first | exact Or.inl rfl | exact Or.inr rfl | (simp [relabel];rfl) | (with_unfolding_all exact Or.inl rfl) | (with_unfolding_all exact Or.inr rfl) | (with_unfolding_all decide))⟩,trivial⟩) (A6a (pv 0)) (λ_ _ _ _=>(A0k (i:=0) C7g rfl (Or.inl rfl) (Or.inr rfl))) (λ_ _ _ _=>(A0w A3t (A1b (C4x (K:=K) rfl) (pv 0) A0f (λ_ _=>rfl)) (A1b (C4x (K:=K) rfl) (A1b (C9d (K:=K) rfl) (pv 2) (pv 1) (λ_ _=>rfl)) A0f (λ_ _=>rfl)) (A1c _))) (λ_ _ _ _=>(pv 0)))
   (A0e (A1m (PW.pt (B0k (A0w B1u (A0q A0p (by rfl) T.ai Z0r (A0a (pv 3) A0c)) A0f (A1c _)) (B0k (A0w B1u (A1b A1e (A1b A1f (pv 3) A0f (λ_ _=>rfl)) A0f (λ_ _=>rfl)) A1r (A1c _)) (A7p (A0w A3t (A1b A1e (A1b A1f (pv 3) A0f (λ_ _=>rfl)) A0f (λ_ _=>rfl)) (A1b A1e (A1b A1f (pv 0) (pv 1) (λ_ _=>rfl)) A0f (λ_ _=>rfl)) (A1c _))))))
    (A0g (A0r A6u))
    A0u)
   (A0e (A0x (i:=4) A3s.nd rfl (Or.inl rfl) (A1b A1f (pv 3) A0f (λ_ _=>rfl)))
   (A0e (A0x (i:=5) A3s.nd rfl (Or.inl rfl) (A0v B2b (A1h A6d (pv 0) A2d (A1g (pv 1))) (A2b (A0a (A0v A2i (A1i (A0a (A1b A1e (A1b A1f (pv 0) (pv 1) (λ_ _=>rfl)) A0f (λ_ _=>rfl)) A0c)) (A1h A3h (pv 4) (A1g A0f) A2d)) (A0a (A0v A2i (A1i (A0a (A1b A1e (pv 4) A0f (λ_ _=>rfl)) A0c)) (A1h A3h (A1b A1f (pv 0) (pv 1) (λ_ _=>rfl)) (A1g A0f) A2d)) A0c)))))
   (A0e (A3m PassesOwn.never rfl (A6a (A1h A6d (pv 0) (A1g (A0v A2a (pv 1) A0f)) A2d)) (A0k (i:=2) A3s.nd rfl (Or.inl rfl) (Or.inl rfl))
    (A6j (A1m (A0w A3t (A1b A1e (pv 2) A0f (λ_ _=>rfl)) (A1b A1e (pv 4) A0f (λ_ _=>rfl)) (A1c _))
     (A0g (A0x (i:=2) A3s.nd rfl (Or.inl rfl) (A0v A2i (A1i (A0a (A1b A1e (A1b A1f (pv 0) (pv 1) (λ_ _=>rfl)) A0f (λ_ _=>rfl)) A0c)) (A1h A3h (pv 2) (A1g A0f) A2d))))
     A0u)
    (A0g (A2r (A5t Z0k Z0n Z0o A1n (pv 5) (A0a (pv 2) A0c))))))
   (A0g (A0r (pv 5)))))))),?_⟩
  refine ⟨_,rfl,a,rfl,⟨_,SqL.of ha⟩,λD hD=> ?_⟩;refine C0e (K:=K) (a:=a) (D:=D) (xs:=xs) (λi ys H2=>A0o H H2/\H2 D=some (.lst ys)/\A3n H2 ys ((rs.take i).filter λr=>decide (r.1=N))) ⟨A0d hD,A0b,.nil⟩ (λi ys H2 ⟨s2,_⟩=>SqL.of (s2 _ _ ha)) ?_ ?_
  ·rintro i x ys H2 hx ⟨s2,hD2,ry⟩;obtain ⟨r,hr',ra⟩:=B1k ros hx;have hi:i<rs.length:=(Z03.mp hr').1;have ra2:=ra.kt (KT.same s2);obtain ⟨b,tl,rfl,hb⟩:=ra2.top;have ly:=Paired.length ry;have lf:=List.length_filter_le (λr:Ro=>decide (r.1=N)) (rs.take i);rw [Z0x] at lf;have e:(rs.take (i+1)).filter (λr=>decide (r.1=N))=(rs.take i).filter (λr=>decide (r.1=N))++[r].filter (λr=>decide (r.1=N)):=by rw [Z14,hr',Option.toList_some,List.filter_append]
   refine ⟨⟨rfl,rfl,True.intro⟩,_,rfl,b,_,_,_,rfl,rfl,SqT.of hb,A0i (j:=0) rfl,_,rfl,_,rfl,a,_,_,_,rfl,rfl,SqL.of (s2 _ _ ha),A0i hxi,b0,_,_,_,rfl,rfl,SqT.of (s2 _ _ hb0),A0i (j:=2) rfl,rfl,_,rfl,A9h (λhn=> ?_) (λhn=> ?_)⟩
   ·have hn:r.1=N:=by injection hn
    have kt:KT H2 (upd H2 D (.lst (ys++[.ref b]))):=KT.at hD2 (by intro xs z;cases z);refine ⟨_,rfl,hD2,A1o (by lia),A0s s2 hD,A0b,?_⟩;rw [e,List.filter_cons_of_pos (by simpa using hn)];exact A9c (ry.kt kt) (B8l.kt kt ra2)
   ·have hn:r.1≠N:=λz=>hn (by rw [z]);refine ⟨s2,hD2,?_⟩;rw [e,List.filter_cons_of_neg (by simpa using hn),List.filter_nil,Z0u];exact ry
  rintro ys H2 ⟨s2,hD2,ry⟩;rw [lx,Z18] at ry;refine ⟨_,rfl,D,_,rfl,.inl (SqL.of hD2),rfl,_,rfl,?_⟩
  have sw:B5i rs N=(match some (ab,Hd.loop N sz0 wd0 out0),rs.filter (λr=>decide (r.1=N)) with
   | some h,[(_,.loop m sz wd out)]=>if out=N then none else some (rs.take at'++((h.1,.loop m sz wd out)::(m,h.2)::(rs.drop (at'+2)).map (reab m N)))
   | _,_=>none):=by
   rw [B5i,hl,<-hat];rfl
  generalize rs.filter (λr=>decide (r.1=N))=F at ry sw
  match F,ys,ry,sw,hD2 with
  | [],[],.nil,sw,hD2=>exact A2c (by decide) (k0 sw _ s2)
  | r1::r2::F',v1::v2::ys',.cons ra1 (.cons ra2 rt),sw,hD2 =>
   refine A2c (by simp;lia) (k0 ?_ _ s2);rw [sw];obtain ⟨a1,h1⟩:=r1;cases h1 <;> rfl
  | [(a1,.deed n1 k1' w1 cs1 us1)],[v1],.cons ra1 .nil,sw,hD2 =>
   obtain ⟨b1,c1,u1,rfl,hb1,_,_⟩:=ra1;exact A3l (by show (!decide (V.int ((1:Nat):Int)=V.int 1))=false;decide) ⟨_,rfl,D,_,_,_,rfl,rfl,SqL.of hD2,A0i (j:=0) rfl,b1,_,_,_,rfl,rfl,SqT.of hb1,A0i (j:=1) rfl,rfl,_,rfl,A2c (by decide +kernel) (k0 sw _ s2)⟩
  | [(a1,.loop m sz wd out)],[v1],.cons ra1 .nil,sw,hD2 =>
   obtain ⟨b1,rfl,hb1⟩:=ra1;refine A3l (by show (!decide (V.int ((1:Nat):Int)=V.int 1))=false;decide) ⟨_,rfl,D,_,_,_,rfl,rfl,SqL.of hD2,A0i (j:=0) rfl,b1,_,_,_,rfl,rfl,SqT.of hb1,A0i (j:=1) rfl,rfl,_,rfl,A3l (by decide +kernel) ?_⟩;refine ⟨_,rfl,D,_,_,_,rfl,rfl,SqL.of hD2,A0i (j:=0) rfl,b1,_,_,_,rfl,rfl,SqT.of hb1,A0i (j:=5) rfl,_,rfl,_,rfl,a,_,_,_,rfl,rfl,SqL.of (s2 _ _ ha),A0i hxi,b0,_,_,_,rfl,rfl,SqT.of (s2 _ _ hb0),A0i (j:=2) rfl,rfl,_,rfl,A9h (λho=>k0 ?_ _ s2) (λho=> ?_)⟩
   ·rw [sw];have ho:out=N:=by injection ho
    show (if out=N then none else some _)=none;rw [Z12 ho]
   have ho:out≠N:=λz=>ho (by rw [z])
   have sw:B5i rs N=some (rs.take at'++((ab,.loop m sz wd out)::(m,Hd.loop N sz0 wd0 out0)::(rs.drop (at'+2)).map (reab m N))):=by
    rw [sw];show (if out=N then none else some _)=_;rw [Z0t ho]
   refine ⟨_,rfl,D,_,_,_,rfl,rfl,SqL.of hD2,A0i (j:=0) rfl,?_⟩;refine ⟨_,rfl,_,rfl,_,rfl,a,xs,rfl,SqL.of (s2 _ _ ha),λp hp=> ?_⟩;rw [show A2u xs none (some ((at':Int)))=xs.take at' from A5e (show at'<=xs.length by lia)];have u3:A0o H2 (upd H2 p (.lst (xs.take at'))):=A0d hp;have hp3:upd H2 p (.lst (xs.take at')) p=some (.lst (xs.take at')):=A0b;generalize upd H2 p (.lst (xs.take at'))=H3 at u3 hp3⊢;have s3:=s2.trans u3;refine ⟨_,rfl,_,rfl,a,_,_,_,rfl,rfl,SqL.of (s3 _ _ ha),A0i hxi,b0,_,_,_,rfl,rfl,SqT.of (s3 _ _ hb0),A0i (j:=0) rfl,A0h (by simp),λz hz=> ?_⟩;have u4:A0o H3 (upd H3 z (.tup [.int ab])):=A0d hz;have hz4:upd H3 z (.tup [.int ab]) z=some (.tup [.int ab]):=A0b;generalize upd H3 z (.tup [.int ab])=H4 at u4 hz4⊢;have u34:=u3.trans u4;refine ⟨_,rfl,_,rfl,b1,_,rfl,SqT.of (u34 _ _ hb1),(by show¬(HT.sIx 6 0 (some 1)=0/\HT.sIx 6 6 none=6);decide),λp2 hp2=> ?_⟩;have u5:A0o H4 (upd H4 p2 (.tup (A2u [.int a1,.str "loop",.int m,.int sz,.int wd,.int out] (some 1) none))):=A0d hp2;have h5:upd H4 p2 (.tup (A2u [.int a1,.str "loop",.int m,.int sz,.int wd,.int out] (some 1) none)) p2=some (.tup [.str "loop",.int m,.int sz,.int wd,.int out]):=A0b;generalize upd H4 p2 (.tup (A2u [.int a1,.str "loop",.int m,.int sz,.int wd,.int out] (some 1) none))=H5 at u5 h5⊢;refine ⟨z,p2,_,_,rfl,rfl,u5 _ _ hz4,h5,A0h (by simp),λq1 H6 u6 hq1=> ?_⟩;have u36:=u34.trans (u5.trans u6);have s6:=s2.trans u36;refine ⟨_,rfl,b1,_,_,_,rfl,rfl,SqT.of (u36 _ _ hb1),A0i (j:=2) rfl,A0h (by simp),λz2 hz2=> ?_⟩;have u7:A0o H6 (upd H6 z2 (.tup [.int m])):=A0d hz2;have hz7:upd H6 z2 (.tup [.int m]) z2=some (.tup [.int m]):=A0b;generalize upd H6 z2 (.tup [.int m])=H7 at u7 hz7⊢;have s7:=s6.trans u7;refine ⟨_,rfl,_,rfl,a,_,_,_,rfl,rfl,SqL.of (s7 _ _ ha),A0i hxi,_,rfl,b0,_,rfl,SqT.of (s7 _ _ hb0),(by show¬(HT.sIx 6 0 (some 1)=0/\HT.sIx 6 6 none=6);decide),λp3 hp3'=> ?_⟩;have u8:A0o H7 (upd H7 p3 (.tup (A2u [.int ab,.str "loop",.int N,.int sz0,.int wd0,.int out0] (some 1) none))):=A0d hp3';have h8:upd H7 p3 (.tup (A2u [.int ab,.str "loop",.int N,.int sz0,.int wd0,.int out0] (some 1) none)) p3=some (.tup [.str "loop",.int N,.int sz0,.int wd0,.int out0]):=A0b;generalize upd H7 p3 (.tup (A2u [.int ab,.str "loop",.int N,.int sz0,.int wd0,.int out0] (some 1) none))=H8 at u8 h8⊢;refine ⟨z2,p3,_,_,rfl,rfl,u8 _ _ hz7,h8,A0h (by simp),λq2 H9 u9 hq2=>⟨A0h (by simp),λL hL=> ?_⟩⟩;have u10:A0o H9 (upd H9 L (.lst [.ref q1,.ref q2])):=A0d hL;have hL10:upd H9 L (.lst [.ref q1,.ref q2]) L=some (.lst [.ref q1,.ref q2]):=A0b;generalize upd H9 L (.lst [.ref q1,.ref q2])=H10 at u10 hL10⊢;have v610:=u7.trans (u8.trans (u9.trans u10));have s10:=s6.trans v610;refine ⟨p,L,_,_,rfl,rfl,(u4.trans (u5.trans (u6.trans v610))) _ _ hp3,hL10,A0h (by rw [Z0x];simp;lia),λDu hDu=> ?_⟩;have u11:A0o H10 (upd H10 Du (.lst (xs.take at'++[.ref q1,.ref q2]))):=A0d hDu;have hD11:upd H10 Du (.lst (xs.take at'++[.ref q1,.ref q2])) Du=some (.lst (xs.take at'++[.ref q1,.ref q2])):=A0b;have D0:H Du=none:=s10.free hDu;generalize upd H10 Du (.lst (xs.take at'++[.ref q1,.ref q2]))=H11 at u11 hD11⊢;have s11:=s10.trans u11;refine ⟨_,rfl,_,rfl,_,_,rfl,rfl,_,rfl,a,xs,rfl,SqL.of (s11 _ _ ha),λsl hsl=> ?_⟩
   have ec:A2u xs (some ((at':Int)+2)) none=xs.drop (at'+2):=by
    show A2u xs (some ((at':Int)+2)) none=_;rw [show ((at':Int)+2)=((at'+2:Nat):Int) by lia];by_cases hle:at'+2<=xs.length
    ·exact A4q hle
    ·unfold A2u;rw [HT.sIx_none,HT.sIx_nat,Nat.min_eq_right (by lia),List.drop_length,Z24 (by lia)];exact List.take_nil
   rw [show A2u xs (some ((at':Int)+2)) none=xs.drop (at'+2) from ec];have u12:A0o H11 (upd H11 sl (.lst (xs.drop (at'+2)))):=A0d hsl;have hs12:upd H11 sl (.lst (xs.drop (at'+2))) sl=some (.lst (xs.drop (at'+2))):=A0b;have slD:sl≠Du:=λz=>by rw [z,hD11] at hsl;cases hsl
   generalize upd H11 sl (.lst (xs.drop (at'+2)))=H12 at u12 hs12⊢;have hD12:=u12 _ _ hD11;have u1112:=u11.trans u12;have aD:a≠Du:=A0t ha D0;have kt6:KT H6 H12:=KT.same (v610.trans u1112);have kt9:KT H9 H12:=KT.same (u10.trans u1112);have s12:=s11.trans u12;refine ⟨sl,rfl,⟨_,SqL.of hs12⟩,?_⟩
   refine A8c (K:=K) (a:=sl) (xs:=xs.drop (at'+2)) (λi σ G=>∃(o3:Option V) (zs:List V),σ=[some (.ref a),some (.int (at':Int)),o3,some (.ref D),some (.ref b1),some (.ref Du)]/\KT H12 G/\(∀b o,b≠Du->H12 b=some o->G b=some o)/\G Du=some (.lst (xs.take at'++[.ref q1,.ref q2]++zs))/\A3n G zs (((rs.drop (at'+2)).take i).map (reab m N)))
    ⟨none,[],rfl,λ_ _ e=>e,λ_ _ _ e=>e,by rw [Z0u];exact hD12,.nil⟩ (λi σ G _ h=>by obtain ⟨_,_,_,_,kb,_⟩:=h;exact SqL.of (kb _ _ slD hs12)) ?_ ?_
   ·rintro i x σ G hx ⟨o3,zs,rfl,kt,kb,hDG,rz⟩;obtain ⟨r,hr',ra⟩:=B1k (B5z ros (at'+2)) hx;have hi:i<(rs.drop (at'+2)).length:=(Z03.mp hr').1;rw [Z19] at hi;have raG:=(ra.kt (KT.same s12)).kt kt;obtain ⟨b,tl,rfl,hb⟩:=raG.top;have lz:=Paired.length rz;rw [Z08,Z0x,Z19] at lz;have e:((rs.drop (at'+2)).take (i+1)).map (reab m N)=((rs.drop (at'+2)).take i).map (reab m N)++[reab m N r]:=by rw [Z14,hr',Option.toList_some,Z0s];rfl
    have hb1G:=kt _ _ ((v610.trans u1112) _ _ (u36 _ _ hb1));refine ⟨λσ' G'=>∃(v:V),σ'=[some (.ref a),some (.int (at':Int)),some v,some (.ref D),some (.ref b1),some (.ref Du)]/\A0o G G'/\B8l G' v (reab m N r),?_,?_⟩
    ·refine ⟨_,rfl,b,_,_,_,rfl,rfl,SqT.of hb,A0i (j:=0) rfl,_,rfl,b1,_,_,_,rfl,rfl,SqT.of hb1G,A0i (j:=2) rfl,rfl,_,rfl,A9h (λhm=> ?_) (λhm=> ?_)⟩
     ·have hm:r.1=m:=by injection hm
      refine ⟨_,rfl,_,rfl,a,_,_,_,rfl,rfl,SqL.of (kb _ _ aD (s12 _ _ ha)),A0i hxi,b0,_,_,_,rfl,rfl,SqT.of (kt _ _ (s12 _ _ hb0)),A0i (j:=2) rfl,A0h (by simp),λz9 hz9=> ?_⟩;have w1:A0o G (upd G z9 (.tup [.int N])):=A0d hz9;have hw1:upd G z9 (.tup [.int N]) z9=some (.tup [.int N]):=A0b;generalize upd G z9 (.tup [.int N])=G1 at w1 hw1⊢;refine ⟨_,rfl,_,rfl,b,_,rfl,SqT.of (w1 _ _ hb),?_,λp9 hp9=> ?_⟩
      ·rintro ⟨z,_⟩;have z:HT.sIx _ 0 (some ((1:Nat):Int))=0:=z;rw [HT.sIx_nat] at z;simp at z
      rw [show A2u (V.int r.1:: .str r.2.kd:: .int r.2.num::tl) (some 1) none= .str r.2.kd:: .int r.2.num::tl from (A4q (p:=1) (by simp)).trans rfl];have w2:A0o G1 (upd G1 p9 (.tup (.str r.2.kd:: .int r.2.num::tl))):=A0d hp9;have hw2:upd G1 p9 (.tup (.str r.2.kd:: .int r.2.num::tl)) p9=some (.tup (.str r.2.kd:: .int r.2.num::tl)):=A0b;generalize upd G1 p9 (.tup (.str r.2.kd:: .int r.2.num::tl))=G2 at w2 hw2⊢
      have ltl:tl.length<=4:=by
       obtain ⟨ab',hh⟩:=r
       cases hh with
       | loop n s1 s2 s3 =>
        obtain ⟨_,e',h'⟩:=raG;cases e';rw [hb] at h';injection h' with h';injection h' with h';injection h' with _ h';injection h' with _ h';injection h' with _ h';rw [h'];simp
       | deed n s1 s2 s3 s4 =>
        obtain ⟨_,_,_,e',h',_⟩:=raG;cases e';rw [hb] at h';injection h' with h';injection h' with h';injection h' with _ h';injection h' with _ h';injection h' with _ h';rw [h'];simp
      refine ⟨z9,p9,_,_,rfl,rfl,w2 _ _ hw1,hw2,A0h (by simp;lia),λq9 G3 w3 hq9=>⟨_,rfl,w1.trans (w2.trans w3),?_⟩⟩;rw [reab,Z12 hm];exact B8l.reab N (raG.kt (KT.same (w1.trans (w2.trans w3)))) ((w1.trans (w2.trans w3)) _ _ hb) hq9
     ·have hm:r.1≠m:=λz=>hm (by rw [z]);refine ⟨_,rfl,A0o.refl _,?_⟩;rw [reab,Z0t hm];exact raG
    ·rintro σ' G' ⟨v,rfl,wG,rv⟩;have hDG':=wG _ _ hDG;refine ⟨_,rfl,.inl ⟨rfl,_,SqL.of hDG'⟩,_,rfl,Du,_,_,rfl,rfl,hDG',A1o (by simp;lia),?_⟩;have kt':KT G' (upd G' Du (.lst (xs.take at'++[.ref q1,.ref q2]++zs++[v]))):=KT.at hDG' (by intro xs z;cases z);refine ⟨_,zs++[v],rfl,(kt.trans (KT.same wG)).trans kt',λb' o hb' eo=>by rw [A0l hb'];exact wG _ _ (kb _ _ hb' eo),by rw [<-Z0z];exact A0b,?_⟩;rw [e];exact A9c ((rz.kt (KT.same wG)).kt kt') (B8l.kt kt' rv)
   ·rintro σ G ⟨o3,zs,rfl,kt,kb,hDG,rz⟩;have ld:(xs.drop (at'+2)).length=(rs.drop (at'+2)).length:=by rw [Z19,Z19,lx]
    rw [ld,Z18] at rz;refine ⟨_,rfl,k1 _ Du _ G sw (λb o e=>kb _ _ (A0t e D0) (s12 _ _ e)) D0 hDG ?_⟩;rw [Z0z];refine B1g (((B5w ros at').kt (KT.same s12)).kt kt) ?_;refine B1g (.cons ?_ (.cons ?_ .nil)) rz
    ·exact ⟨q1,rfl,kt _ _ (kt6 _ _ hq1)⟩
    ·exact ⟨q2,rfl,kt _ _ (kt9 _ _ hq2)⟩
end
noncomputable def A5h (c:Int):Int:=if c%5=2/\c/5%2=1 then 1+(c/10+7)*3^(55:Int).toNat%(10^(30:Int).toNat-1) else if c%5=2 then 1+c/10%60 else 1+c/5%7
theorem C1j {T B:Int} (h0: -B<=T) (h1:T<=B) (hB:B<2^200):T.natAbs<2^4000:=by
 have hB':B.toNat<2^200:=by lia
 have hp:(2:Nat)^200<=2^4000:=Nat.pow_le_pow_right (by decide) (by decide);have:T.natAbs<=B.toNat:=by lia
 exact Z0q (Nat.lt_of_le_of_lt this hB') hp
theorem B0r (c:Int):1<=A5h c/\(A5h c).natAbs<2^4000:=by
 have hb:1<=A5h c/\A5h c<=10^30:=by
  unfold A5h;split
  ·generalize (c/10+7)*3^(55:Int).toNat=y;have e30:(10:Int)^(30:Int).toNat-1=10^30-1:=rfl;have:=Z1v y (show (10:Int)^30-1≠0 by decide);have:=Z1p y (show (0:Int)<10^30-1 by decide);rw [e30]
   lia
  ·split
   ·have:=Z1v (c/10) (show (60:Int)≠0 by decide);have:=Z1p (c/10) (show (0:Int)<60 by decide)
    lia
   ·have:=Z1v (c/5) (show (7:Int)≠0 by decide);have:=Z1p (c/5) (show (0:Int)<7 by decide)
    lia
 exact ⟨hb.1,C1j (B:=10^30) (by lia) hb.2 (by decide)⟩
noncomputable def B7k (N c:Int):Mv:=if c%3=0 then .swap N else if c%3=1 then .cut N (A5h (c/3)) else .join N
theorem D0j (N c:Int):(B7k N c).num=N:=by
 unfold B7k;split
 ·rfl
 ·split <;> rfl
noncomputable def Bt (c:Int):Prop:=(c/10+7).natAbs.log2<2^25
noncomputable def C3d:Sp:=λvs H Q _=>∃c:Int,vs=[.int c]/\Bt c/\Q (.int (A5h c)) H
noncomputable def B7w:Sp:=λvs H Q _=>∃N c:Int,vs=[.int N,.int c]/\Bt (c/3)/\∀(b:Addr) (H':Hp),A0o H H'->C8j H' b (B7k N c)->Q (.ref b) H'
theorem C6s {rs:List Ro} {i:Nat} {ab N sz wd out:Int} (nd:(lps rs).Nodup) (h:rs[i]? =some (ab,.loop N sz wd out)):A3j N rs=some i:=by
 refine B9v h λhm=> ?_;obtain ⟨hl,e⟩:=Z03.mp h;have ec:rs=rs.take i++(ab,.loop N sz wd out)::rs.drop (i+1):=by rw [<-e,<-Z1u hl,Z2e]
 rw [ec,A4s,A8a] at nd;exact (Z0l.mp nd).2.2 N hm N (Z05 _ (.head _)) rfl
noncomputable def C7v:Sp:=λvs H Q _=>∃(a:Addr) (xs:List V) (rs:List Ro) (i:Nat) (r:Ro) (c bh:Int),vs=[.ref a,.int (i:Int),.int c,.int bh]/\H a=some (.lst xs)/\A3n H xs rs/\rs.length<=100/\(∀r∈rs,RoG r)/\(lps rs).Nodup/\rs[i]? =some r/\Bt (c/3)/\
 (r.2.lp=[]\/mvR (B7k r.2.num c) rs bh=none->∀H',A0o H H'->Q .non H')/\∀(ds:List Ro) (D:Addr) (ys:List V) (H':Hp),r.2.lp≠[]->mvR (B7k r.2.num c) rs bh=some ds->A0o H H'->H D=none->H' D=some (.lst ys)->A3n H' ys ds->Q (.ref D) H'
noncomputable def C8w:Sp:=λvs H Q _=>∃(a:Addr) (xs:List V) (l:List Nd) (c bh:Int) (cc:Nat),vs=[.ref a,.int c,.int bh]/\H a=some (.lst xs)/\A3n H xs (rwL (-1) l)/\B0c l bh cc/\l≠[]/\Bt (c/3)/\∀(m:Mv) (b:Addr) (H':Hp),A0o H H'->C8j H' b m->C3t m l bh->Q (.ref b) H'
mutual
theorem C5c:∀{x:Nd} {N:Int},N∈nmN x->(∃sz wd out bd,x= .loop N sz wd out bd)\/∃n sz wd out bd,x= .loop n sz wd out bd/\∃path sz' wd' out' bd',A3i path bd (.loop N sz' wd' out' bd')
 | .deed ..,N,h=>by rw [nmN] at h;cases h
 | .loop n sz wd out bd,N,h=>by
  rw [nmN] at h;rcases Z0e.mp h with e | h
  ·subst e;exact .inl ⟨sz,wd,out,bd,rfl⟩
  ·exact .inr ⟨n,sz,wd,out,bd,rfl,B1o h⟩
theorem B1o:∀{l:List Nd} {N:Int},N∈nmL l->∃path sz wd out bd,A3i path l (.loop N sz wd out bd)
 | [],N,h=>by rw [nmL] at h;cases h
 | x::r,N,h=>by
  rw [nmL] at h;rcases Z07.mp h with h | h
  ·rcases C5c h with ⟨sz,wd,out,bd,rfl⟩ | ⟨n,sz,wd,out,bd,rfl,path,sz',wd',out',bd',hp⟩
   ·exact ⟨[0],sz,wd,out,bd,rfl⟩
   ·cases path with
    | nil=>exact hp.elim
    | cons p q=>exact ⟨0::p::q,sz',wd',out',bd',n,sz,wd,out,bd,rfl,hp⟩
  ·obtain ⟨path,sz,wd,out,bd,hp⟩:=B1o h
   match path,hp with
   | [p],hp=>exact ⟨[p+1],sz,wd,out,bd,by show (x::r)[p+1]? =_;rw [List.getElem?_cons_succ];exact hp⟩
   | p::q::t,⟨n',sz',wd',out',bd',e,hp⟩=>exact ⟨(p+1)::q::t,sz,wd,out,bd,n',sz',wd',out',bd',by rw [List.getElem?_cons_succ];exact e,hp⟩
end
theorem D3w {l:List Nd} {fr N T:Int} {c:Nat} (ok:B0c l fr c) (hT:T<1):C3t (.cut N T) l fr:=by
 by_cases h:N∈nmL l
 ·obtain ⟨path,sz,wd,out,bd,hp⟩:=B1o h;have m1:=ok.m1;refine .inr ⟨path,sz,wd,out,bd,hp,?_⟩;obtain ⟨pre,post,a,r,e',e1,ha,hsub,hws,hee,hpost,hcc,hno,hso⟩:=A7y (mv:= .cut N T) (w:=fr) hp ok.nd m1 ok.ws (λy hy=>by cases hy) (λy hy e=>m1 (by rw [<-e];exact hy));refine hno ?_;rw [mvO];show Option.map _ (C3p T fr _)=none;rw [C3p,Z0t (λz=>by lia)];rfl
 ·exact .inl h
theorem C9v {l:List Nd} {fr:Int} {c:Nat} (ok:B0c l fr c) {r:Ro} (hr:(rwL (-1) l)[(rwL (-1) l).length-1]? =some r) (hl:l≠[]):r.2.num∉nmL l:=by
 obtain ⟨rs',a,n,k,w,cs,us,e⟩:=ok.la hl;rw [e] at hr;simp at hr;subst hr;refine (ok.dn n ?_).2.2;rw [e,A1x];exact Z02 _ (.head _)
section
variable {P:Program} {w:World} {K:PySem.W.Frag} {mg:Str->Option Value} {base:Heap} {t:Adr}
theorem A9l (T:Txt K mg t):A1y P w K mg base CX0 1 t.bS t.bQ ["_law_cell"] C3d:=by
 refine T.bY.ok B4v (λvs H Q E h=> ?_) (λcdv A outer s H vs Q E hr h=> ?_)
 ·obtain ⟨c,rfl,_⟩:=h;rfl
 ·obtain ⟨c,rfl,hb,k⟩:=h
  refine ⟨_,(A0e (A1m (PW.pt (D1z (A0w A3t (A0v A2s (pv 0) A0f) A0f (A1c _)) (C6d (A0w A3t (A0v A2s (A0v A3d (pv 0) A0f) A0f) A0f (A1c _)))))
    (A0g (A0r (A0v A2a A0f (A0v A2s (A0v D2s (A0v A2a (A0v A3d (pv 0) A0f) A0f) (A0v C8d A0f A0f)) (A0v A9s (A0v C8d A0f A0f) A0f)))))
    A0u)
   (A0e (A1m (A0w A3t (A0v A2s (pv 0) A0f) A0f (A1c _))
    (A0g (A0r (A0v A2a A0f (A0v A2s (A0v A3d (pv 0) A0f) A0f))))
    A0u)
   (A0g (A0r (A0v A2a A0f (A0v A2s (A0v A3d (pv 0) A0f) A0f)))))),?_⟩
  refine ⟨_,rfl,_,_,rfl,rfl,(show (0:Int)<5 by decide),rfl,_,rfl,A9h (λh1=> ?_) (λh1=> ?_)⟩
  ·have h1:c%5=2:=by injection h1
   refine ⟨_,rfl,_,_,rfl,rfl,⟨by decide,by decide⟩,_,_,rfl,rfl,(show (0:Int)<2 by decide),rfl,_,rfl,A9h (λh2=> ?_) (λh2=> ?_)⟩
   ·have h2:c/5%2=1:=by injection h2
    refine ⟨_,rfl,_,_,rfl,rfl,⟨by decide,by decide⟩,_,_,rfl,rfl,_,_,rfl,rfl,⟨by decide,by decide,by decide⟩,_,_,rfl,rfl,⟨hb,by show ((3:Int)^(55:Int).toNat).natAbs<2^4000;decide +kernel⟩,_,_,rfl,rfl,⟨by decide,by decide,by decide⟩,_,_,rfl,rfl,_,_,rfl,rfl,(by show (0:Int)<10^(30:Int).toNat-1;decide +kernel),_,_,rfl,rfl,?_⟩;rw [A5h,Z12 ⟨h1,h2⟩] at k;exact k
   ·have h2:c/5%2≠1:=λz=>h2 (congrArg V.int z);refine ⟨_,rfl,_,_,rfl,rfl,(show (0:Int)<5 by decide),rfl,_,rfl,A9h (λ_=> ?_) (λh3=>absurd (congrArg V.int h1) h3)⟩;refine ⟨_,rfl,_,_,rfl,rfl,⟨by decide,by decide⟩,_,_,rfl,rfl,(show (0:Int)<60 by decide),_,_,rfl,rfl,?_⟩;rw [A5h,Z0t (λz=>h2 z.2),Z12 h1] at k;exact k
  ·have h1':c%5≠2:=λz=>h1 (congrArg V.int z);refine ⟨_,rfl,_,_,rfl,rfl,(show (0:Int)<5 by decide),rfl,_,rfl,A9h (λh3=>absurd h3 h1) (λ_=> ?_)⟩;refine ⟨_,rfl,_,_,rfl,rfl,⟨by decide,by decide⟩,_,_,rfl,rfl,(show (0:Int)<7 by decide),_,_,rfl,rfl,?_⟩;rw [A5h,Z0t (λz=>h1' z.1),Z0t h1'] at k;exact k
theorem B0x (T:Txt K mg t):A1y P w K mg base CX0 2 t.cE t.cn ["_law_number","_law_cell"] B7w:=by
 have G_l_width_by:=A9l (P:=P) (w:=w) (base:=base) T;refine T.cF.ok B7b (λvs H Q E h=> ?_) (λcdv A outer s H vs Q E hr h=> ?_)
 ·obtain ⟨N,c,rfl,_⟩:=h;rfl
 ·obtain ⟨N,c,rfl,hb,k⟩:=h
  refine ⟨_,(A0e (A1m (A0w A3t (A0v A2s (pv 1) A0f) A0f (A1c _))
    (A0g (A0r (A1i (A0a A1r (A0a (pv 0) A0c)))))
    A0u)
   (A0e (A1m (A0w A3t (A0v A2s (pv 1) A0f) A0f (A1c _))
    (A0g (A0r (A1i (A0a A1r (A0a (pv 0) (A0a (A0j G_l_width_by (hr.mono (by lia)) rfl T.dA T.bY.kp T.dB .nil A1a (A0a (A0v A3d (pv 1) A0f) A0c)) A0c))))))
    A0u)
   (A0g (A0r (A1i (A0a A1r (A0a (pv 0) A0c))))))),?_⟩
  refine ⟨_,rfl,_,_,rfl,rfl,(show (0:Int)<3 by decide),rfl,_,rfl,A9h (λh1=> ?_) (λh1=> ?_)⟩
  ·have h1:c%3=0:=by injection h1
   refine ⟨_,rfl,A0h (by simp),λb hb'=>k b _ (A0d hb') ?_⟩;rw [B7k,Z12 h1];exact A0b
  ·have h1:c%3≠0:=λz=>h1 (congrArg V.int z);refine ⟨_,rfl,_,_,rfl,rfl,(show (0:Int)<3 by decide),rfl,_,rfl,A9h (λh2=> ?_) (λh2=> ?_)⟩
   ·have h2:c%3=1:=by injection h2
    refine ⟨_,rfl,_,rfl,_,_,rfl,rfl,⟨by decide,by decide⟩,c/3,rfl,hb,A0h (by simp),λb hb'=>k b _ (A0d hb') ?_⟩;rw [B7k,Z0t h1,Z12 h2];exact ⟨A0b,(B0r _).2⟩
   ·have h2:c%3≠1:=λz=>h2 (congrArg V.int z);refine ⟨_,rfl,A0h (by simp),λb hb'=>k b _ (A0d hb') ?_⟩;rw [B7k,Z0t h1,Z0t h2];exact A0b
theorem C6f (T:Txt K mg t):A1y P w K mg base CX0 4 t.fg t.eY ["_law_rows","_law_at","_law_cell","_law_behind"] C7v:=by
 have G_l_width_by:=A9l (P:=P) (w:=w) (base:=base) T;have G_l_swapped:=B8o (P:=P) (w:=w) (base:=base) T;have G_l_cut:=C9k (P:=P) (w:=w) (base:=base) T;have G_l_joined:=B9l (P:=P) (w:=w) (base:=base) T;refine T.gf.ok C6g (λvs H Q E h=> ?_) (λcdv A outer s H vs Q E hr h=> ?_)
 ·obtain ⟨a,xs,rs,i,r,c,bh,rfl,_⟩:=h;rfl
 ·obtain ⟨a,xs,rs,i,r,c,bh,rfl,ha,ros,l100,rg,nd,hri,hb,k0,k1⟩:=h;have lx:=Paired.length ros;have hi:i<rs.length:=(Z03.mp hri).1;have hxi:xs[i]? =some (xs[i]'(by lia)):=Z0b _;obtain ⟨r0,hr0,ra0⟩:=B1k ros hxi;rw [hri] at hr0;cases hr0;generalize xs[i]'(by lia)=v0 at hxi ra0
  refine ⟨_,(A0e (A1m (A0w B1u (A1b A1e (A1b A1f (pv 0) (pv 1) (λ_ _=>rfl)) A0f (λ_ _=>rfl)) A1r (A1c _))
    (A0g (A0r A6u))
    A0u)
   (A0e (A1m (A0w A3t (A0v A2s (pv 2) A0f) A0f (A1c _))
    (A0g (A0r (A0j G_l_swapped (hr.mono (by lia)) rfl T.fZ T.eE.kp T.g9 .nil A1a (A0a (pv 0) (A0a (pv 1) A0c)))))
    A0u)
   (A0e (A1m (A0w A3t (A0v A2s (pv 2) A0f) A0f (A1c _))
    (A0g (A0r (A0j G_l_cut (hr.mono (by lia)) rfl T.gN T.gy.kp T.gP .nil A1a (A0a (pv 0) (A0a (pv 1) (A0a (A0j G_l_width_by (hr.mono (by lia)) rfl T.dA T.bY.kp T.dB .nil A1a (A0a (A0v A3d (pv 2) A0f) A0c)) (A0a (pv 3) A0c)))))))
    A0u)
   (A0g (A0r (A0j G_l_joined (hr.mono (by lia)) rfl T.gq T.eP.kp T.gu .nil A1a (A0a (pv 0) (A0a (pv 1) A0c)))))))),?_⟩
  match r,ra0,hri,k0,k1 with
  | (ab,.deed n kk wo cs us),⟨b0,c0,u0,e0,hb0,_,_⟩,hri,k0,k1 =>
   subst e0;exact ⟨_,rfl,_,rfl,a,_,_,_,rfl,rfl,SqL.of ha,A0i hxi,b0,_,_,_,rfl,rfl,SqT.of hb0,A0i (j:=1) rfl,rfl,_,rfl,A2c (by decide +kernel) (k0 (.inl rfl) _ (A0o.refl _))⟩
  | (ab,.loop N sz wd out),⟨b0,e0,hb0⟩,hri,k0,k1 =>
   subst e0;have hl:=C6s nd hri;have k0':mvR (B7k N c) rs bh=none->∀H',A0o H H'->Q .non H':=λz=>k0 (.inr z);have k1':∀(ds:List Ro) (D:Addr) (ys:List V) (H':Hp),mvR (B7k N c) rs bh=some ds->A0o H H'->H D=none->H' D=some (.lst ys)->A3n H' ys ds->Q (.ref D) H':=λds D ys H' z=>k1 ds D ys H' (by simp [Hd.lp]) z;refine ⟨_,rfl,_,rfl,a,_,_,_,rfl,rfl,SqL.of ha,A0i hxi,b0,_,_,_,rfl,rfl,SqT.of hb0,A0i (j:=1) rfl,rfl,_,rfl,A3l (by decide +kernel) ?_⟩;refine ⟨_,rfl,_,_,rfl,rfl,(show (0:Int)<3 by decide),rfl,_,rfl,A9h (λh1=> ?_) (λh1=> ?_)⟩
   ·have h1:c%3=0:=by injection h1
    rw [B7k,Z12 h1] at k0' k1';exact ⟨_,rfl,_,rfl,a,xs,rs,i,ab,N,sz,wd,out,rfl,ha,ros,l100,rg,hri,hl,k0',k1'⟩
   ·have h1:c%3≠0:=λz=>h1 (congrArg V.int z);refine ⟨_,rfl,_,_,rfl,rfl,(show (0:Int)<3 by decide),rfl,_,rfl,A9h (λh2=> ?_) (λh2=> ?_)⟩
    ·have h2:c%3=1:=by injection h2
     rw [B7k,Z0t h1,Z12 h2] at k0' k1';exact ⟨_,rfl,_,rfl,_,rfl,_,_,rfl,rfl,⟨by decide,by decide⟩,c/3,rfl,hb,_,rfl,a,xs,rs,i,ab,N,sz,wd,out,A5h (c/3),bh,rfl,ha,ros,l100,rg,hri,hl,(B0r _).1,(B0r _).2,k0',k1'⟩
    ·have h2:c%3≠1:=λz=>h2 (congrArg V.int z);rw [B7k,Z0t h1,Z0t h2] at k0' k1';exact ⟨_,rfl,_,rfl,a,xs,rs,i,ab,N,sz,wd,out,rfl,ha,ros,l100,rg,hri,hl,k0',k1'⟩
end
theorem D5a {zs:List Int} (c:Int) (h:0<zs.length):∃x∈zs,atI (zs.map V.int) (c%(zs.length:Int))=some (.int x):=by
 have j0:=Z1v c (show (zs.length:Int)≠0 by lia);have j1:=Z1p c (show 0<(zs.length:Int) by lia);obtain ⟨x,hx,e⟩:=C0q (f:=V.int) (xs:=zs) j0 (by lia);exact ⟨x,Z13 hx,e⟩
noncomputable def B7i (A:Adr):Sp:=λvs H Q _=>∃(p ml dx l a tb ln o:Addr) (wh pl:Int) (lk:List (Key×V)) (xs vm:List V) (M:List Addr) (rows:List Rw) (ms:List Mv),vs=[.ref p,.ref ml,.int pl]/\H p=some (clo A dx wh l a tb ln o)/\H l=some (.dK lk)/\H ln=some (.lst xs)/\B2e A M H xs rows/\Tot lk rows/\rows.length<=4/\(∀e∈rows,e.so.length+e.ss.length<=3)/\H ml=some (.lst vm)/\B0g H vm ms/\ms.length<=26/\
 (∀l' fr',¬B9c (A2h rows rows.length) (frM rows rows.length) ms l' fr')/\(∀(j:Nat) (m:Mv) (l':List Nd) (fr':Int),ms[j]? =some m->B9c (A2h rows rows.length) (frM rows rows.length) (ms.take j) l' fr'->C3t m l' fr'->(j:Int)=pl)/\∀H',A0o H H'->Q (.bl true) H'
section
variable {P:Program} {w:World} {K:PySem.W.Frag} {mg:Str->Option Value} {base:Heap} {t:Adr}
theorem B2z (T:Txt K mg t):A1y P w K mg base CX0 133 t.be t.ba ["_law_cloth","_law_moves","_law_place"] (B7i t):=by
 have G_planned:=B4f (P:=P) (w:=w) (base:=base) T;have GH_l_whole:=B2q (P:=P) (w:=w) (base:=base) T;refine T.cB.ok A7n (λvs H Q E h=> ?_) (λcdv A outer s H vs Q E hr h=> ?_)
 ·obtain ⟨p,ml,dx,l,a,tb,ln,o,wh,pl,lk,xs,vm,M,rows,ms,rfl,_⟩:=h;rfl
 ·obtain ⟨p,ml,dx,l,a,tb,ln,o,wh,pl,lk,xs,vm,M,rows,ms,rfl,hp,hl,hln,lis,tot,few,few3,hml,mvs,lms,no,at',k⟩:=h
  refine ⟨_,(A0e (C8n ⟨rfl,rfl⟩ (D0y G_planned (hr.mono (by lia)) rfl T.fw T.d_.kp T.ft (A0a (pv 0) (A0a (pv 1) A0c))))
   (A0g (A0r B3s))),?_⟩
  refine ⟨_,rfl,_,rfl,p,ml,dx,l,a,tb,ln,o,wh,lk,xs,vm,M,rows,ms,rfl,hp,hl,hln,lis,tot,few,few3,hml,mvs,lms,λr tp ns l' fr' H' to=>absurd to (no l' fr'),λj m l' fr' dx' H1 hm to rf u1 hdx=>⟨t.ae,_,rfl,(D3d (i:=3) rfl T.aE T.bB A7n.nd rfl rfl (λ_=>(A0g (A0r (C0x (D0l GH_l_whole ((hr.mono (by lia)).held _) rfl T.dL T.cU.kp T.dS .nil A1a (A0a (C4e (K:=K) rfl (pv 3) rfl) A0c)) (C1k (B9f A3t (C4e (K:=K) rfl (pv 3) rfl) (pv 2) (A1c _)))))))),λea hea=> ?_⟩⟩;have ej:=at' j m l' fr' hm to rf;have u2:A0o H1 (upd H1 ea (.ext (xcV ea t.ae (some dx')))):=A0d hea;have he2:upd H1 ea (.ext (xcV ea t.ae (some dx'))) ea=some (.ext (xcV ea t.ae (some dx'))):=A0b;have hd2:=u2 _ _ hdx;refine ⟨_,rfl,ea,t.ae,dx',[("place",.int (j:Int))],.int (j:Int),rfl,he2,hd2,rfl,T.c7,(j:Int),rfl,true,rfl,C7b ?_⟩;refine ⟨_,rfl,ea,t.ae,dx',[("place",.int (j:Int))],.int (j:Int),rfl,he2,hd2,rfl,T.c7,_,rfl,rfl,?_⟩;have e:decide (V.int (j:Int)=V.int pl)=true:=Z20 (by rw [ej]);show Q (.bl (decide (V.int (j:Int)=V.int pl))) _;rw [e];exact k _ (u1.trans u2)
theorem B6r (T:Txt K mg t):A1y P w K mg base CX0 3 t.bP t.bJ ["_law_rows","_law_cell","_law_behind"] C8w:=by
 have G_l_move_of:=B0x (P:=P) (w:=w) (base:=base) T;refine T.dG.ok A9t (λvs H Q E h=> ?_) (λcdv A outer s H vs Q E hr h=> ?_)
 ·obtain ⟨a,xs,l,c,bh,cc,rfl,_⟩:=h;rfl
 ·obtain ⟨a,xs,l,c,bh,cc,rfl,ha,ros,ok,hl,hb,k⟩:=h;have lx:=Paired.length ros;have lp:0<(rwL (-1) l).length:=List.length_pos_iff.mpr (ok.la hl).ne;have f0:=ok.f0;obtain ⟨v1,hv1,av1⟩:=D0u (xs:=xs) (by lia);obtain ⟨r1,hr1,ra1⟩:=B1k ros hv1;obtain ⟨b1,tl1,rfl,hb1⟩:=ra1.top;rw [lx] at hr1;have n1:=C9v ok hr1 hl;have hx0:xs[0]? =some (xs[0]'(by lia)):=Z0b _;obtain ⟨r0,hr0,ra0⟩:=B1k ros hx0;generalize xs[0]'(by lia)=v0 at hx0 ra0;obtain ⟨b0,tl0,rfl,hb0⟩:=ra0.top
  refine ⟨_,(A0e (A0x (i:=3) A9t.nd rfl (Or.inl rfl) (A1b A1f (A2b (A0a (B8c B1e A0f) (A0a (pv 2) (A0a (A0v A2a (pv 2) (A0v A2s (A0v A3d (pv 1) A0f) (A0v C8d A0f A0f))) (A0a (A1b A1e (A1b A1f (pv 0) (B8c B1e A0f) (λ_ _=>rfl)) A0f (λ_ _=>rfl)) A0c))))) (A0v A2s (A0v A3d (pv 1) A0f) A0f) (λ_ _=>rfl)))
   (A0e (A1m (A0w A3t (A0v A2s (A0v A3d (pv 1) A0f) A0f) A0f (A1c _))
    (A0g (A0r (A1i (A0a A1r (A0a (A1b A1e (A1b A1f (pv 0) A0f (λ_ _=>rfl)) A0f (λ_ _=>rfl)) (A0a (A0v A9s A0f (A0v A2s (A0v A3d (pv 1) A0f) A0f)) A0c))))))
    A0u)
   (A0g (A0r (A0j G_l_move_of (hr.mono (by lia)) rfl T.eD T.cF.kp T.eA .nil A1a (A0a (pv 3) (A0a (pv 1) A0c))))))),?_⟩
  refine ⟨_,rfl,_,rfl,_,rfl,_,rfl,_,_,rfl,rfl,⟨by decide,by decide⟩,_,_,rfl,rfl,⟨by decide,by decide,by decide⟩,_,_,rfl,rfl,(by show (0:Int)<10^(20:Int).toNat;decide +kernel),_,_,rfl,rfl,_,rfl,_,rfl,a,_,_,_,rfl,rfl,SqL.of ha,av1,b1,_,_,_,rfl,rfl,SqT.of hb1,A0i (j:=2) rfl,A0h (by simp),λq hq=> ?_⟩;have m0:=Z1v (c/9) (show (10:Int)^(20:Int).toNat≠0 by decide +kernel);obtain ⟨x,hx,ax⟩:=D5a (zs:=[-1,bh,bh+c/9%10^(20:Int).toNat,r1.2.num]) (c/3) (by simp)
  have nx:x∉nmL l:=by
   intro z;have hz:=ok.nm x z;simp only [Z0e,List.mem_nil_iff,or_false] at hx;rcases hx with hx | hx | hx | hx
   ·lia
   ·lia
   ·lia
   ·rw [hx] at z;exact n1 z
  have u1:A0o H (upd H q (.lst [.int (-1),.int bh,.int (bh+c/9%10^(20:Int).toNat),.int r1.2.num])):=A0d hq;refine ⟨_,rfl,_,_,rfl,rfl,⟨by decide,by decide⟩,_,_,rfl,rfl,(show (0:Int)<4 by decide),q,_,_,_,rfl,rfl,SqL.of A0b,ax,?_⟩;refine ⟨_,rfl,_,_,rfl,rfl,⟨by decide,by decide⟩,_,_,rfl,rfl,(show (0:Int)<3 by decide),rfl,_,rfl,A9h (λ_=> ?_) (λ_=> ?_)⟩
  ·refine ⟨_,rfl,a,_,_,_,rfl,rfl,SqL.of (u1 _ _ ha),A0i (j:=0) hx0,b0,_,_,_,rfl,rfl,SqT.of (u1 _ _ hb0),A0i (j:=2) rfl,_,rfl,_,_,rfl,rfl,⟨by decide,by decide⟩,_,_,rfl,rfl,(show (0:Int)<3 by decide),_,_,rfl,rfl,A0h (by simp),λb hb'=> ?_⟩;have c0:=Z1v (c/36) (show (3:Int)≠0 by decide);have c1:=Z1p (c/36) (show (0:Int)<3 by decide);exact k (.cut r0.2.num (0-c/36%3)) b _ (u1.trans (A0d hb')) ⟨A0b,C1j (B:=5) (by lia) (by lia) (by decide)⟩ (D3w ok (by lia))
  ·exact ⟨_,rfl,_,rfl,x,c,rfl,hb,λb H' u mv=>k _ b _ (u1.trans u) mv (.inl (by rw [D0j];exact nx))⟩
end
theorem MvV.kt {H H':Hp} {v:V} {m:Mv} (k:KT H H') (h:MvV H v m):MvV H' v m:=by
 obtain ⟨b,e,q⟩:=h;refine ⟨b,e,?_⟩
 cases m with
 | swap N=>exact k _ _ q
 | cut N T=>exact ⟨k _ _ q.1,q.2⟩
 | join N=>exact k _ _ q
theorem B0g.kt {H H':Hp} {xs:List V} {ms:List Mv} (k:KT H H') (h:B0g H xs ms):B0g H' xs ms:=Paired.mapP h λ_ _ z=>z.kt k
theorem C5b (N c:Int):(B7k N c).took=if c%3=1 then 1 else 0:=by
 unfold B7k;split
 ·rename_i h;rw [Z0t (by lia)];rfl
 ·split <;> rfl
theorem D4i {l:List Nd} {fr:Int} {c:Nat} {m:Mv} {ds:List Ro} (ok:B0c l fr c) (h:mvR m (rwL (-1) l) fr=some ds):∃l',ds=rwL (-1) l'/\B0c l' (fr+m.took) (c+1):=by
 by_cases hn:m.num∈nmL l
 ·obtain ⟨path,sz,wd,out,bd,hp⟩:=B1o hn;rw [C2c ok hp] at h;obtain ⟨t,ht,rfl⟩:=Z0i.mp h;exact ⟨t,rfl,ok.step hp ht⟩
 ·rw [B6k hn] at h;cases h
theorem C8e {rs rs1 rs2:List Ro} {fr fr1:Int} {ms:List Mv} {m:Mv} (h:B0y rs fr ms=some (rs1,fr1)) (g:mvR m rs1 fr1=some rs2):B0y rs fr (ms++[m])=some (rs2,fr1+m.took):=by
 rw [B0a,h];show B0y rs1 fr1 [m]=_;rw [B0y,g];rfl
structure Pl (H G:Hp) (q ml:Addr) (l0:List Nd) (fr0:Int) (i:Nat) (xs vm:List V) (l:List Nd) (fr:Int) (ms:List Mv):Prop where
 sm:A0o H G
 m0:H ml=none
 ne:q≠ml
 hq:G q=some (.lst xs)
 ro:A3n G xs (rwL (-1) l)
 ok:B0c l fr ms.length
 run:B0y (rwL (-1) l0) fr0 ms=some (rwL (-1) l,fr)
 hm:G ml=some (.lst vm)
 mv:B0g G vm ms
 le:ms.length<=i
theorem Pl.same {H G G':Hp} {q ml:Addr} {l0:List Nd} {fr0:Int} {i:Nat} {xs vm:List V} {l:List Nd} {fr:Int} {ms:List Mv} (h:Pl H G q ml l0 fr0 i xs vm l fr ms) (s:A0o G G'):Pl H G' q ml l0 fr0 i xs vm l fr ms :=
 ⟨h.sm.trans s,h.m0,h.ne,s _ _ h.hq,h.ro.kt (KT.same s),h.ok,h.run,s _ _ h.hm,h.mv.same s,h.le⟩
theorem Pl.step {H G:Hp} {q ml:Addr} {l0:List Nd} {fr0:Int} {i:Nat} {xs vm:List V} {l:List Nd} {fr:Int} {ms:List Mv} (h:Pl H G q ml l0 fr0 i xs vm l fr ms):Pl H G q ml l0 fr0 (i+1) xs vm l fr ms:={ h with le:=Nat.le_succ_of_le h.le }
noncomputable def C7j (K:PySem.W.Frag):Sp:=λvs H Q _=>∃(a q0:Addr) (ns:List Int) (xs0:List V) (l0:List Nd) (fr0:Int),vs=[.ref a,.ref q0]/\SqL K H a (ns.map V.int)/\ns.length<=63/\(∀m∈ns,m.natAbs.log2<2^20)/\H q0=some (.lst xs0)/\A3n H xs0 (rwL (-1) l0)/\B0c l0 fr0 0/\fr0=(rwL (-1) l0).length/\
 (∀(r ml q:Addr) (H':Hp) (xs vm:List V) (l:List Nd) (fr:Int) (ms:List Mv),A0o H H'->H' r=some (.tup [.ref ml,.ref q,.int fr])->H' ml=some (.lst vm)->B0g H' vm ms->ms.length<=24->H' q=some (.lst xs)->A3n H' xs (rwL (-1) l)->B0c l fr ms.length->B0y (rwL (-1) l0) fr0 ms=some (rwL (-1) l,fr)->Q (.ref r) H')/\
 (∀(r ml:Addr) (H':Hp) (vm:List V) (l:List Nd) (fr:Int) (ms:List Mv) (m:Mv),A0o H H'->H' r=some (.tup [.ref ml,.non,.int (ms.length:Int)])->H' ml=some (.lst vm)->B0g H' vm (ms++[m]++[.cut 0 2])->ms.length<=24->B0c l fr ms.length->B0y (rwL (-1) l0) fr0 ms=some (rwL (-1) l,fr)->C3t m l fr->Q (.ref r) H')
theorem bt3 {c:Int} (h:c.natAbs.log2<2^20):Bt (c/3):=by
 have hc:=C7c h
 have lt:(c/3/10+7).natAbs<2^(2^20+1):=by
  have hp:2^4<=2^(2^20):=Nat.pow_le_pow_right (by decide) (by decide);have h2:2^(2^20+1)=2*2^(2^20):=by rw [Nat.pow_succ,Nat.mul_comm]
  rw [h2];generalize 2^(2^20)=B at hc hp
  lia
 unfold Bt;by_cases h0:(c/3/10+7).natAbs=0
 ·rw [h0];decide
 ·exact Z0q ((Nat.log2_lt h0).mpr lt) (by decide)
section
variable {P:Program} {w:World} {K:PySem.W.Frag} {mg:Str->Option Value} {base:Heap} {t:Adr}
theorem B8n (T:Txt K mg t):A1y P w K mg base CX0 5 t.cK t.cD ["_law_script","_law_rows"] (C7j K):=by
 have G_l_cell_at:=B1d (P:=P) (w:=w) (base:=base) T;have G_l_bad_move:=B6r (P:=P) (w:=w) (base:=base) T;have G_l_made:=C6f (P:=P) (w:=w) (base:=base) T;have G_l_move_of:=B0x (P:=P) (w:=w) (base:=base) T;refine T.eC.ok A1q (λvs H Q E h=> ?_) (λcdv A outer s H vs Q E hr h=> ?_)
 ·obtain ⟨a,q0,ns,xs0,l0,fr0,rfl,_⟩:=h;rfl
 ·obtain ⟨a,q0,ns,xs0,l0,fr0,rfl,hS,l63,zb,hq0,ros0,ok0,ef,kG,kB⟩:=h;have lx0:=Paired.length ros0;obtain rfl:fr0=(xs0.length:Int):=by rw [ef,lx0]
  refine ⟨_,(A0e (A0x (i:=2) A1q.nd rfl (Or.inl rfl) (A2b A0c))
   (A0e (A0x (i:=3) A1q.nd rfl (Or.inl rfl) (A0q A0p (by rfl) T.ai Z0r (A0a (pv 1) A0c)))
   (A0e (A0x (i:=4) A1q.nd rfl (Or.inl rfl) (A0q (C4y rfl) (by rfl) T.hG PyProof.Rows.boot_min (A0a (A0q (C7r rfl) (by rfl) T.g_ PyProof.Rows.boot_max (A0a A0f (A0a (A0v A9s (A0q A0p (by rfl) T.ai Z0r (A0a (pv 0) A0c)) A0f) A0c))) (A0a A0f A0c))))
   (A0e (A0x (i:=5) A1q.nd rfl (Or.inl rfl) (pv 4))
   (A6j (A1m (A0w A3t (A0v A2s (A0j G_l_cell_at (hr.mono (by lia)) rfl T.aV T.aJ.kp T.aS .nil A1a (A0a (pv 0) (A0a A0f A0c))) A0f) A0f (A1c _))
    (A0g (A0x (i:=5) A1q.nd rfl (Or.inl rfl) (A0v A2s (A0v A3d (A0j G_l_cell_at (hr.mono (by lia)) rfl T.aV T.aJ.kp T.aS .nil A1a (A0a (pv 0) (A0a A0f A0c))) A0f) (A0v A2a (pv 4) A0f))))
    A0u)
   (A0e (A3m PassesOwn.never rfl (A5s rfl T.bo (A0a (pv 4) A0c)) (A0k (i:=6) A1q.nd rfl (Or.inl rfl) (Or.inl rfl))
    (A0e (A0x (i:=7) A1q.nd rfl (Or.inl rfl) (A1b A1f (pv 0) (A0v A2a A0f (pv 6)) (λ_ _=>rfl)))
    (A6j (A1m (PW.pt (D1z (A0w A3t (pv 6) (pv 5) (A1c _)) (C6d (A0w (A9x hr.units) (pv 1) (A2b A0c) (A1c _)))))
     (A0e (A2r (A5t Z0k Z0n Z0o A1n (pv 2) (A0a (A0j G_l_bad_move (hr.mono (by lia)) rfl T.fF T.dG.kp T.fP .nil A1a (A0a (pv 1) (A0a (pv 7) (A0a (pv 3) A0c)))) A0c)))
     (A0g (A0r (A1i (A0a (A0v B2b (pv 2) (A2b (A0a (A1i (A0a A1r (A0a A0f (A0a A0f A0c)))) A0c))) (A0a A6u (A0a (A0v A9s (A0q A0p (by rfl) T.ai Z0r (A0a (pv 2) A0c)) A0f) A0c)))))))
     A0u)
    (A0g (A3m PassesOwn.never rfl (A5s rfl T.bo (A0a (A0q A0p (by rfl) T.ai Z0r (A0a (pv 1) A0c)) A0c)) (A0k (i:=8) A1q.nd rfl (Or.inl rfl) (Or.inl rfl))
     (A0e (A0x (i:=9) A1q.nd rfl (Or.inl rfl) (A0v A2s (A0v A2a (A0v A3d (pv 7) A0f) (pv 8)) (A0q A0p (by rfl) T.ai Z0r (A0a (pv 1) A0c))))
     (A0e (A0x (i:=10) A1q.nd rfl (Or.inl rfl) (A0j G_l_made (hr.mono (by lia)) rfl T.gF T.gf.kp T.gD .nil A1a (A0a (pv 1) (A0a (pv 9) (A0a (pv 7) (A0a (pv 3) A0c))))))
     (A0g (A1m (A0w D2l (pv 10) A6u (A1c _))
      (A0e (A2r (A5t Z0k Z0n Z0o A1n (pv 2) (A0a (A0j G_l_move_of (hr.mono (by lia)) rfl T.eD T.cF.kp T.eA .nil A1a (A0a (A1b A1e (A1b A1f (pv 1) (pv 9) (λ_ _=>rfl)) A0f (λ_ _=>rfl)) (A0a (pv 7) A0c))) A0c)))
      (A0e (A0x (i:=1) A1q.nd rfl (Or.inl rfl) (pv 10))
      (A0e (A0x (i:=3) A1q.nd rfl (Or.inl rfl) (A0v A2a (pv 3) (A1u C5g (by rfl) T.gR PyProof.Rows.boot_int (A0a (B9f A3t (A0v A2s (pv 7) A0f) A0f (A1c _)) A0c))))
      (A0g C8x))))
      A0u)))))))))
   (A0g (A0r (A1i (A0a (pv 2) (A0a (pv 1) (A0a (pv 3) A0c)))))))))))),?_⟩
  refine ⟨A0h (by simp),λml hml=> ?_⟩;have u1:A0o H (upd H ml (.lst [])):=A0d hml;have hm1:upd H ml (.lst []) ml=some (.lst []):=A0b;generalize upd H ml (.lst [])=H1 at u1 hm1⊢;refine ⟨_,rfl,q0,_,rfl,.inl (SqL.of (u1 _ _ hq0)),?_⟩;refine ⟨_,rfl,a,_,rfl,.inl (u1.seq hS),_,_,rfl,rfl,_,_,rfl,_,_,rfl,?_⟩;have ll:(ns.map V.int).length=ns.length:=Z08 _;have hM:∃M:Int,M=(if (24:Int)<(if ((ns.map V.int).length:Int)-8>0 then ((ns.map V.int).length:Int)-8 else 0) then 24 else (if ((ns.map V.int).length:Int)-8>0 then ((ns.map V.int).length:Int)-8 else 0))/\0<=M/\M<=24/\(0<M->8+M<=ns.length):=⟨_,rfl,by split <;> split <;> lia,by split <;> split <;> lia,by split <;> split <;> lia⟩;obtain ⟨M,eM,M0,M24,MS⟩:=hM;refine ⟨_,rfl,?_⟩;have pl0:Pl H H1 q0 ml l0 (xs0.length:Int) 0 xs0 [] l0 (xs0.length:Int) []:=⟨u1,hml,A0t hq0 hml,u1 _ _ hq0,ros0.kt (KT.same u1),ok0,rfl,hm1,.nil,Z09 _⟩;refine ⟨λσ' G'=>∃bad:Int,σ'=[some (.ref a),some (.ref q0),some (.ref ml),some (.int (xs0.length:Int)),some (.int M),some (.int bad),none,none,none,none,none]/\G'=H1,?_,?_⟩
  ·refine ⟨_,rfl,a,ns,1,rfl,u1.seq hS,by decide,λc1=>⟨_,_,rfl,rfl,(show (0:Int)<3 by decide),rfl,_,rfl,A9h (λ_=> ?_) (λ_=>⟨_,by rw [eM];rfl,rfl⟩)⟩⟩;refine ⟨_,rfl,a,ns,1,rfl,u1.seq hS,by decide,λc1'=>⟨_,_,rfl,rfl,⟨by decide,by decide⟩,_,rfl,_,_,rfl,rfl,_,_,rfl,rfl,(show (0:Int)<_ from ?_),⟨_,by rw [eM];rfl,rfl⟩⟩⟩;rw [<-eM];lia
  rintro σ' G' ⟨bad,rfl,rfl⟩;refine ⟨_,rfl,_,rfl,by lia,by lia,?_⟩;refine A4p (n:=M.toNat) (λi σ G=>∃(o6 o7 o8 o9 o10:Option V) (q:Addr) (xs vm:List V) (l:List Nd) (fr:Int) (ms:List Mv),σ=[some (.ref a),some (.ref q),some (.ref ml),some (.int fr),some (.int M),some (.int bad),o6,o7,o8,o9,o10]/\Pl H G q ml l0 (xs0.length:Int) i xs vm l fr ms) ⟨_,_,_,_,_,q0,xs0,[],l0,_,[],rfl,pl0⟩ ?_ ?_
  ·rintro i σ G hi ⟨o6,o7,o8,o9,o10,q,xs,vm,l,fr,ms,rfl,pl⟩;have e0:(0:Int)+(i:Int)=(i:Int):=by lia
   rw [e0];obtain ⟨c,hc,ac⟩:=C0q (f:=V.int) (xs:=ns) (i:=8+(i:Int)) (by lia) (by lia);have hbt:=bt3 (zb c (Z13 hc));have lx:=Paired.length pl.ro;have rl:=pl.ok.rl;have ple:=pl.le;refine ⟨_,rfl,_,rfl,_,_,rfl,rfl,a,_,_,_,rfl,rfl,pl.sm.seq hS,ac,?_⟩;refine ⟨λσ' G'=>σ'=[some (.ref a),some (.ref q),some (.ref ml),some (.int fr),some (.int M),some (.int bad),some (.int (i:Int)),some (.int c),o8,o9,o10]/\Pl H G' q ml l0 (xs0.length:Int) i xs vm l fr ms,?_,?_⟩
   ·refine ⟨_,rfl,_,rfl,rfl,_,rfl,A9h (λ_=> ?_) (λ_=>⟨rfl,pl⟩)⟩;refine ⟨_,rfl,A0h (by simp),λz hz=> ?_⟩;have w1:A0o G (upd G z (.lst [])):=A0d hz;have hw1:upd G z (.lst []) z=some (.lst []):=A0b;generalize upd G z (.lst [])=G1 at w1 hw1⊢;have pl:=pl.same w1;have rok:∀r∈rwL (-1) l,D4d r:=λr hr=>(pl.ok.ro r hr).ok;refine ⟨_,.list [],C5t pl.hq pl.ro,.lst hw1 .nil,B0n rok,by decide +kernel,_,rfl,?_⟩;rw [eqvN];by_cases he:rwL (-1) l=[]
    ·exact A3l (by rw [he];rfl) ⟨rfl,pl⟩
    ·refine A2c (by cases h:rwL (-1) l with | nil=>exact absurd h he | cons _ _=>rfl) ?_
     have lne:l≠[]:=λe=>he (by rw [e,rwL]);refine ⟨_,rfl,.inl ⟨rfl,_,SqL.of pl.hm⟩,_,rfl,_,rfl,_,rfl,q,xs,l,c,fr,ms.length,rfl,pl.hq,pl.ro,pl.ok,lne,hbt,λm b G2 u2 mv rf=>⟨ml,_,_,rfl,rfl,u2 _ _ pl.hm,A1o (by have:=Paired.length pl.mv;lia),?_⟩⟩;have p2:=pl.same u2;have k3:KT G2 (upd G2 ml (.lst (vm++[.ref b]))):=KT.at p2.hm (by intro xs z;cases z);have s3:A0o H (upd G2 ml (.lst (vm++[.ref b]))):=A0s p2.sm p2.m0;have h3:upd G2 ml (.lst (vm++[.ref b])) ml=some (.lst (vm++[.ref b])):=A0b;have mv3:B0g (upd G2 ml (.lst (vm++[.ref b]))) (vm++[.ref b]) (ms++[m]):=B1g (p2.mv.kt k3) (.cons (MvV.kt k3 ⟨b,rfl,mv⟩) .nil);generalize upd G2 ml (.lst (vm++[.ref b]))=G3 at s3 h3 mv3⊢;have lvm:=Paired.length mv3;rw [Z06,Z06,Z0j,Z0j] at lvm;refine ⟨_,rfl,A0h (by simp),λt1 ht1=> ?_⟩;have u4:A0o G3 (upd G3 t1 (.tup [.str "cut",.int 0,.int 2])):=A0d ht1;have h4:upd G3 t1 (.tup [.str "cut",.int 0,.int 2]) t1=some (.tup [.str "cut",.int 0,.int 2]):=A0b;generalize upd G3 t1 (.tup [.str "cut",.int 0,.int 2])=G4 at u4 h4⊢;refine ⟨A0h (by simp),λt2 ht2=> ?_⟩;have u5:A0o G4 (upd G4 t2 (.lst [.ref t1])):=A0d ht2;have h5:upd G4 t2 (.lst [.ref t1]) t2=some (.lst [.ref t1]):=A0b;generalize upd G4 t2 (.lst [.ref t1])=G5 at u5 h5⊢;refine ⟨ml,t2,_,_,rfl,rfl,u5 _ _ (u4 _ _ h3),h5,A0h (by simp;lia),λt3 ht3=> ?_⟩;have u6:A0o G5 (upd G5 t3 (.lst (vm++[.ref b]++[.ref t1]))):=A0d ht3;have h6:upd G5 t3 (.lst (vm++[.ref b]++[.ref t1])) t3=some (.lst (vm++[.ref b]++[.ref t1])):=A0b;generalize upd G5 t3 (.lst (vm++[.ref b]++[.ref t1]))=G6 at u6 h6⊢;have u36:=u4.trans (u5.trans u6);refine ⟨_,rfl,ml,_,rfl,.inl (SqL.of (u36 _ _ h3)),_,_,rfl,rfl,A0h (by simp),λr hr'=> ?_⟩;have u7:=A0d (H:=G6) (o:= .tup [.ref t3,.non,.int (((vm++[V.ref b]).length:Int)-1)]) hr';have el:(((vm++[V.ref b]).length:Int)-1)=(ms.length:Int):=by rw [Z06,Z0j];lia
     refine kB r t3 _ (vm++[.ref b]++[.ref t1]) l fr ms m (s3.trans (u36.trans u7)) (by rw [<-el];exact A0b) (u7 _ _ h6) (B1g (mv3.same (u36.trans u7)) (.cons ⟨t1,rfl,u7 _ _ (u6 _ _ (u5 _ _ h4)),by decide⟩ .nil)) (by lia) pl.ok pl.run rf
   ·clear pl lx rl ple;rintro σ' G ⟨rfl,pl⟩;have lx:=Paired.length pl.ro;have rl:=pl.ok.rl;have ple:=pl.le;refine ⟨_,rfl,q,_,rfl,.inl (SqL.of pl.hq),_,rfl,by lia,by lia,?_⟩;refine A4p (n:=((xs.length:Nat):Int).toNat) (λj σ G'=>∃(o8 o9 o10:Option V),σ=[some (.ref a),some (.ref q),some (.ref ml),some (.int fr),some (.int M),some (.int bad),some (.int (i:Int)),some (.int c),o8,o9,o10]/\Pl H G' q ml l0 (xs0.length:Int) (i+1) xs vm l fr ms) ⟨_,_,_,rfl,pl.step⟩ ?_ ?_
    ·rintro j σ G' hj ⟨o8,o9,o10,rfl,pl'⟩;have hj:j<xs.length:=by lia
     have e0:(0:Int)+(j:Int)=(j:Int):=by lia
     rw [e0];have lx':=Paired.length pl'.ro;have m0:=Z1v (c/15+j) (show (xs.length:Int)≠0 by lia);have m1:=Z1p (c/15+j) (show 0<(xs.length:Int) by lia);refine ⟨_,rfl,_,_,rfl,rfl,⟨by decide,by decide⟩,_,rfl,_,_,rfl,rfl,_,rfl,q,_,rfl,.inl (SqL.of pl'.hq),_,_,rfl,rfl,(show 0<(xs.length:Int) by lia),?_⟩;obtain ⟨at',eat⟩:=Int.eq_ofNat_of_zero_le m0;have hat:at'<(rwL (-1) l).length:=by lia
     have hri:(rwL (-1) l)[at']? =some ((rwL (-1) l)[at']'hat):=Z0b _;generalize (rwL (-1) l)[at']'hat=r at hri;refine ⟨_,rfl,_,rfl,_,rfl,_,rfl,q,xs,rwL (-1) l,at',r,c,fr,(by show [V.ref q,V.int ((c/15+(j:Int))%(xs.length:Int)),V.int c,V.int fr]=_;rw [eat]),pl'.hq,pl'.ro,by have:=pl'.ok.rl;have:=pl'.le;lia,pl'.ok.ro,by rw [A8l];exact pl'.ok.nd,hri,hbt,λ_ G2 u2=> ?_,λds D ys G2 hlp hds u2 hD0 hD rd=> ?_⟩
     ·exact ⟨_,rfl,rfl,_,rfl,A3l rfl ⟨_,_,_,rfl,pl'.same u2⟩⟩
     ·refine ⟨_,rfl,rfl,_,rfl,A2c rfl ?_⟩;have p2:=pl'.same u2;have hxa:xs[at']? =some (xs[at']'(by lia)):=Z0b _;obtain ⟨r',hr',ra⟩:=B1k p2.ro hxa;rw [hri] at hr';cases hr';generalize xs[at']'(by lia)=va at hxa ra;obtain ⟨b1,tl1,rfl,hb1⟩:=ra.top;obtain ⟨l',e',ok'⟩:=D4i pl'.ok hds;subst e';refine ⟨_,rfl,.inl ⟨rfl,_,SqL.of p2.hm⟩,_,rfl,_,rfl,q,_,_,_,rfl,rfl,SqL.of p2.hq,(show atI xs ((c/15+(j:Int))%(xs.length:Int))=some (.ref b1) by rw [eat];exact A0i hxa),b1,_,_,_,rfl,rfl,SqT.of hb1,A0i (j:=2) rfl,_,rfl,r.2.num,c,rfl,hbt,λb G3 u3 mv=>⟨ml,_,_,rfl,rfl,u3 _ _ p2.hm,A1o (by have:=Paired.length p2.mv;have:=p2.le;lia),?_⟩⟩;have p3:=p2.same u3;have k4:KT G3 (upd G3 ml (.lst (vm++[.ref b]))):=KT.at p3.hm (by intro xs z;cases z);have Dne:D≠ml:=λz=>by rw [z,pl'.hm] at hD0;cases hD0
      refine ⟨_,rfl,_,rfl,_,rfl,_,_,rfl,rfl,(show (0:Int)<3 by decide),rfl,_,rfl,_,_,rfl,rfl,?_⟩
      have et:(fr+(if decide (V.int (c%3)=V.int 1)=true then (1:Int) else 0))=fr+(B7k r.2.num c).took:=by
       rw [C5b];by_cases h:c%3=1 <;> simp [h]
      refine ⟨_,_,_,_,_,D,ys,vm++[.ref b],l',_,ms++[B7k r.2.num c],rfl,?_⟩;show Pl _ _ _ _ _ _ _ _ _ _ (fr+(if decide (V.int (c%3)=V.int 1)=true then (1:Int) else 0)) _;rw [et];refine ⟨A0s p3.sm p3.m0,p3.m0,Dne,by rw [A0l Dne];exact u3 _ _ hD,(rd.kt (KT.same u3)).kt k4,?_,C8e pl'.run hds,A0b,B1g (p3.mv.kt k4) (.cons (MvV.kt k4 ⟨b,rfl,mv⟩) .nil),?_⟩
      ·rw [Z06,Z0j];exact ok'
      ·rw [Z06,Z0j];have:=pl.le;lia
    ·rintro σ G' ⟨o8,o9,o10,rfl,pl'⟩;exact ⟨_,_,_,_,_,_,_,_,_,_,_,rfl,pl'⟩
  ·rintro σ G ⟨o6,o7,o8,o9,o10,q,xs,vm,l,fr,ms,rfl,pl⟩;have ple:=pl.le;refine ⟨_,rfl,_,rfl,_,rfl,A0h (by simp),λr hr'=> ?_⟩;have u9:=A0d (H:=G) (o:= .tup [.ref ml,.ref q,.int fr]) hr';have p9:=pl.same u9;exact kG r ml q _ xs vm l fr ms p9.sm A0b p9.hm p9.mv (by lia) p9.hq p9.ro p9.ok p9.run
end
theorem C8b (xs:List Str):PyData.eqv (B3p xs) (B3p [])=decide (xs=[]):=by
 cases xs with
 | nil=>rfl
 | cons x r=>rfl
noncomputable def psP (fr:Int) (ls:List Int) (j:Nat):List (Int×Int):=(A2f fr j).zip (ls.take j)
theorem B7j (fr:Int) (j:Nat):A2f fr (j+1)=A2f fr j++[fr+(j:Int)]:=by
 unfold A2f;rw [List.range_succ,Z0s];rfl
theorem C1m {fr n:Int} {ls:List Int} {j:Nat} (h:ls[j]? =some n):psP fr ls (j+1)=psP fr ls j++[(fr+(j:Int),n)]:=by
 have hl:j<ls.length:=(Z03.mp h).1;unfold psP;rw [B7j,Z14,h,Option.toList_some,List.zip_append (by rw [A2p,Z0x];lia)];rfl
theorem B5a {fr:Int} {ls:List Int} {j:Nat} (h:j<=ls.length):(psP fr ls j).length=j:=by
 unfold psP;rw [List.length_zip,A2p,Z0x];lia
theorem B5y (fr:Int) (ls:List Int):psP fr ls ls.length=(A2f fr ls.length).zip ls:=by
 unfold psP;rw [Z18]
theorem B6w (p:Int×Int):∀(ps:List (Int×Int)) (a:Int),B2i a (ps++[p])=B2i a ps++[(inP a ps,.loop p.1 p.2 0 (-1))]
 | [],a=>rfl
 | q::r,a=>by rw [Z17,B2i,B6w p r q.1,B2i,inP];rfl
theorem C1e (p:Int×Int):∀(ps:List (Int×Int)) (a:Int),inP a (ps++[p])=p.1
 | [],a=>rfl
 | q::r,a=>by rw [Z17,inP,C1e p r q.1]
theorem B4n {k fr:Int} {e:Rw} (h:e.ss=[]):rwL (-1) (A6k k e fr)=B2i (-1) (psP fr e.so e.so.length)++[(inP (-1) (psP fr e.so e.so.length),.deed (fr+e.so.length) k "set" (A2f fr e.so.length) [])]:=by
 unfold A6k A3c;rw [A4u,B5y,Z12 h,rwL,rwN,rwL];rfl
theorem B4k {k fr:Int} {e:Rw} (h:e.ss≠[]):rwL (-1) (A6k k e fr)=B2i (-1) (psP fr e.so e.so.length)++([(inP (-1) (psP fr e.so e.so.length),.deed (fr+e.so.length) k "start" (A2f fr e.so.length) [])]++(B2i (inP (-1) (psP fr e.so e.so.length)) (psP (fr+e.so.length+1) e.ss e.ss.length)++[(inP (inP (-1) (psP fr e.so e.so.length)) (psP (fr+e.so.length+1) e.ss e.ss.length),.deed (fr+e.so.length+1+e.ss.length) k "add" (A2f fr e.so.length) (A2f (fr+e.so.length+1) e.ss.length))])):=by
 unfold A6k A3c;rw [A4u,B5y,B5y,Z0t h,rwL,rwN,A4u,rwL,rwN,rwL];rfl
theorem C0h (k fr:Int) (e:Rw):((rwL (-1) (A6k k e fr)).length:Int)=B9a e:=by
 unfold B9a;by_cases h:e.ss=[]
 ·rw [B4n h,Z12 h,Z06,A6b,B5a (Z09 _),Z0j]
  lia
 ·rw [B4k h,Z0t h];simp only [Z06,A6b,B5a (Z09 _),Z0j]
  lia
theorem B4s (rows:List Rw):∀i,((rwL (-1) (A2h rows i)).length:Int)=frM rows i
 | 0=>by simp [A2h,rwL,frM]
 | i+1=>by
  have ih:=B4s rows i;rw [A2h,frM,A2j,Z06]
  cases rows[i]? with
  | none=>simp [rwL];lia
  | some e =>
   have:=C0h i (frM rows i) e;show (((rwL (-1) (A2h rows i)).length+(rwL (-1) (A6k i e (frM rows i))).length:Nat):Int)=frM rows i+B9a e
   lia
noncomputable def D5m (H:Hp) (v:V) (e:Rw):Prop:=∃b O S,v= .ref b/\H b=some (.lst [.ref O,.ref S])/\H O=some (.lst (e.own.map V.str))/\H S=some (.lst (e.sums.map V.str))
theorem D5m.same {H H':Hp} {v:V} {e:Rw} (h:D5m H v e) (s:A0o H H'):D5m H' v e:=by
 obtain ⟨b,O,S,rfl,h1,h2,h3⟩:=h;exact ⟨b,O,S,rfl,s _ _ h1,s _ _ h2,s _ _ h3⟩
abbrev D5j (H:Hp) (xs:List V) (rows:List Rw):Prop:=Paired (D5m H) xs rows
structure Rv (H G:Hp) (D C:Addr) (ys:List V) (R:List Ro) (a ab fr:Int) (ls:List Int) (j:Nat):Prop where
 sm:A0o H G
 hD:G D=some (.lst ys)
 ro:A3n G ys (R++B2i a (psP fr ls j))
 hC:G C=some (.lst ((A2f fr j).map V.int))
 eb:ab=inP a (psP fr ls j)
theorem Rv.len {H G:Hp} {D C:Addr} {ys:List V} {R:List Ro} {a ab fr:Int} {ls:List Int} {j:Nat} (r:Rv H G D C ys R a ab fr ls j) (hj:j<=ls.length):ys.length=R.length+j:=by
 rw [Paired.length r.ro,Z06,A6b,B5a hj]
theorem Rv.step {H G G1:Hp} {D C b:Addr} {ys:List V} {R:List Ro} {a ab fr n m m':Int} {ls:List Int} {j:Nat} (r:Rv H G D C ys R a ab fr ls j) (h0:H D=none) (h1:H C=none) (ne:C≠D) (hn:ls[j]? =some n) (hf:fr=(R.length:Int)) (u:A0o G G1)
  (hb:G1 b=some (.tup [.int ab,.str "loop",.int m,.int n,.int 0,.int (-1)])) (hm:m=(ys.length:Int)) (hm':m'=((ys++[V.ref b]).length:Int)-1) :
  Rv H (upd (upd G1 D (.lst (ys++[.ref b]))) C (.lst ((A2f fr j).map V.int++[.int m']))) D C (ys++[.ref b]) R a m' fr ls (j+1):=by
 have hl:j<ls.length:=(Z03.mp hn).1;have ly:=r.len (Nat.le_of_lt hl);have em:m=fr+(j:Int):=by lia
 have em':m'=fr+(j:Int):=by rw [hm',Z06,Z0j];lia
 subst em em';have hD1:=u _ _ r.hD;have hC1:=u _ _ r.hC;have hC2:upd G1 D (.lst (ys++[.ref b])) C=some (.lst ((A2f fr j).map V.int)):=by rw [A0l ne];exact hC1
 have k1:KT G1 (upd G1 D (.lst (ys++[.ref b]))):=KT.at hD1 (by intro xs z;cases z);have k2:KT (upd G1 D (.lst (ys++[.ref b]))) (upd (upd G1 D (.lst (ys++[.ref b]))) C (.lst ((A2f fr j).map V.int++[.int (fr+(j:Int))]))):=KT.at hC2 (by intro xs z;cases z);have k3:=k1.trans k2;refine ⟨A0s (A0s (r.sm.trans u) h0) h1,by rw [A0l ne.symm];exact A0b,?_,by rw [A0b,B7j,Z0s];rfl,?_⟩
 ·rw [C1m hn,B6w,<-Z0z];refine B1g ((r.ro.kt (KT.same u)).kt k3) (.cons ⟨b,rfl,?_⟩ .nil);show _=some (HO.tup [.int (inP a (psP fr ls j)),.str "loop",.int (fr+(j:Int)),.int n,.int 0,.int (-1)]);rw [<-r.eb];exact k3 _ _ hb
 ·rw [C1m hn,C1e]
noncomputable def B7c:Sp:=λvs H Q _=>∃(q d:Addr) (xs:List V) (rows:List Rw) (lk:List (Key×V)),vs=[.ref q,.ref d]/\H q=some (.lst xs)/\D5j H xs rows/\H d=some (.dK lk)/\Tot lk rows/\rows.length<=4/\(∀e∈rows,e.so.length+e.ss.length<=3)/\
 ∀(D:Addr) (ys:List V) (H':Hp),H D=none->A0o H H'->H' D=some (.lst ys)->A3n H' ys (rwL (-1) (A2h rows rows.length))->Q (.ref D) H'
section
variable {P:Program} {w:World} {K:PySem.W.Frag} {mg:Str->Option Value} {base:Heap} {t:Adr}
theorem B7g (T:Txt K mg t):A1y P w K mg base CX0 1 t.cH t.cz ["_law_lines","_law_lengths"] B7c:=by
 refine T.eI.ok A1k (λvs H Q E h=> ?_) (λcdv A outer s H vs Q E hr h=> ?_)
 ·obtain ⟨q,d,xs,rows,lk,rfl,_⟩:=h;rfl
 ·obtain ⟨q,d,xs,rows,lk,rfl,hq,sds,hd,tot,l4,l3,k⟩:=h;have hu:=C6u hr;have lxs:=Paired.length sds
  refine ⟨_,(A0e (A0x (i:=2) A1k.nd rfl (Or.inl rfl) (A2b A0c))
   (A0e (A3m PassesOwn.never rfl (A5s rfl T.bo (A0a (A0q A0p (by rfl) T.ai Z0r (A0a (pv 0) A0c)) A0c)) (A0k (i:=3) A1k.nd rfl (Or.inl rfl) (Or.inl rfl))
    (A0e (A7f (A1b A1f (pv 0) (pv 3) (λ_ _=>rfl)) (D6z (n:=2) rfl (A0n (A0k (i:=4) A1k.nd rfl (Or.inl rfl) (Or.inl rfl)) (A0n (A0k (i:=5) A1k.nd rfl (Or.inl rfl) (Or.inl rfl)) A3e))))
    (A0e (A0x (i:=6) A1k.nd rfl (Or.inl rfl) (B8c B1e A0f))
    (A0e (A0x (i:=7) A1k.nd rfl (Or.inl rfl) (A2b A0c))
    (A0e (A3m PassesOwn.never rfl (A6a (pv 4)) (A0k (i:=8) A1k.nd rfl (Or.inl rfl) (Or.inl rfl))
     (A0e (A2r (A5t Z0k Z0n Z0o A1n (pv 2) (A0a (A1i (A0a (pv 6) (A0a A1r (A0a (A0q A0p (by rfl) T.ai Z0r (A0a (pv 2) A0c)) (A0a (B6o hu (pv 1) (pv 8) (λ_ _=>rfl)) (A0a A0f (A0a (B8c B1e A0f) A0c))))))) A0c)))
     (A0e (A0x (i:=6) A1k.nd rfl (Or.inl rfl) (A0v A9s (A0q A0p (by rfl) T.ai Z0r (A0a (pv 2) A0c)) A0f))
     (A0g (A2r (A5t Z0k Z0n Z0o A1n (pv 7) (A0a (pv 6) A0c)))))))
    (A0e (A0x (i:=9) A1k.nd rfl (Or.inl rfl) A1r)
    (A6j (A1m (A0w (A9x hr.units) (pv 5) (A2b A0c) (A1c _))
     (A0g (A0x (i:=9) A1k.nd rfl (Or.inl rfl) A1r))
     A0u)
    (A0e (A2r (A5t Z0k Z0n Z0o A1n (pv 2) (A0a (A1i (A0a (pv 6) (A0a A1r (A0a (A0q A0p (by rfl) T.ai Z0r (A0a (pv 2) A0c)) (A0a (pv 3) (A0a (pv 9) (A0a (A1u A1s (by rfl) T.ah Z0m (A0a (pv 7) A0c)) (A0a (A1i A0c) A0c)))))))) A0c)))
    (A0e (A0x (i:=10) A1k.nd rfl (Or.inl rfl) (A2b A0c))
    (A0e (A3m PassesOwn.never rfl (A6a (pv 5)) (A0k (i:=8) A1k.nd rfl (Or.inl rfl) (Or.inl rfl))
     (A0e (A2r (A5t Z0k Z0n Z0o A1n (pv 2) (A0a (A1i (A0a (pv 6) (A0a A1r (A0a (A0q A0p (by rfl) T.ai Z0r (A0a (pv 2) A0c)) (A0a (B6o hu (pv 1) (pv 8) (λ_ _=>rfl)) (A0a A0f (A0a (B8c B1e A0f) A0c))))))) A0c)))
     (A0e (A0x (i:=6) A1k.nd rfl (Or.inl rfl) (A0v A9s (A0q A0p (by rfl) T.ai Z0r (A0a (pv 2) A0c)) A0f))
     (A0g (A2r (A5t Z0k Z0n Z0o A1n (pv 10) (A0a (pv 6) A0c)))))))
    (A0g (A1m (A0w (A9x hr.units) (pv 5) (A2b A0c) (A1c _))
     (A0g (A2r (A5t Z0k Z0n Z0o A1n (pv 2) (A0a (A1i (A0a (pv 6) (A0a A1r (A0a (A0q A0p (by rfl) T.ai Z0r (A0a (pv 2) A0c)) (A0a (pv 3) (A0a A1r (A0a (A1u A1s (by rfl) T.ah Z0m (A0a (pv 7) A0c)) (A0a (A1u A1s (by rfl) T.ah Z0m (A0a (pv 10) A0c)) A0c)))))))) A0c))))
     A0u))))))))))))
   (A0g (A0r (pv 2))))),?_⟩
  refine ⟨A0h (by simp),λD hD=> ?_⟩;have u1:A0o H (upd H D (.lst [])):=A0d hD;have hD1:upd H D (.lst []) D=some (.lst []):=A0b;generalize upd H D (.lst [])=H1 at u1 hD1⊢;refine ⟨_,rfl,q,_,rfl,.inl (SqL.of (u1 _ _ hq)),_,rfl,by lia,by lia,?_⟩
  refine A4p (n:=xs.length) (λi σ G=>∃(o3 o4 o5 o6 o7 o8 o9 o10:Option V) (ys:List V),σ=[some (.ref q),some (.ref d),some (.ref D),o3,o4,o5,o6,o7,o8,o9,o10]/\A0o H G/\G D=some (.lst ys)/\A3n G ys (rwL (-1) (A2h rows i)))
   ⟨none,none,none,none,none,none,none,none,[],rfl,u1,hD1,by simp only [A2h,rwL];exact .nil⟩ ?_ ?_
  ·rintro i σ G hi ⟨o3,o4,o5,o6,o7,o8,o9,o10,ys,rfl,sg,hDg,ros⟩;rw [Int.zero_add];have hxi:xs[i]? =some xs[i]:=Z0b hi;obtain ⟨e,he,b,O,S,ex,hb,hO,hS⟩:=B1k sds hxi;rw [ex] at hxi;have hem:=Z13 he;obtain ⟨okr,zo,zs,oko,oks⟩:=tot e hem;have e3:=l3 e hem;have lo:=okr.lo;have ls:=okr.ls;have lro:=Paired.length ros;have nl:=B4s rows i;have fr20:(rwL (-1) (A2h rows i)).length<=5*i:=(B5m (rows:=rows) (λe he=>⟨(tot e he).1.go.pos,(tot e he).1.gs.pos,l3 e he⟩) l4 i (by lia)).2;refine ⟨_,rfl,_,rfl,q,_,_,_,rfl,rfl,SqL.of (sg _ _ hq),A0i hxi,b,_,rfl,SqL.of (sg _ _ hb),rfl,_,_,rfl,_,_,rfl,rfl,?_⟩;refine ⟨_,rfl,A0h (by simp),λC hC=> ?_⟩;have u2:A0o G (upd G C (.lst [])):=A0d hC;have hC2:upd G C (.lst []) C=some (.lst []):=A0b;have ne:C≠D:=λz=>by rw [z,hDg] at hC;cases hC
   have hC0:H C=none:=sg.free hC;generalize upd G C (.lst [])=G2 at u2 hC2⊢;have rv0:Rv H G2 D C ys (rwL (-1) (A2h rows i)) (-1) (-1) (frM rows i) e.so 0:=⟨sg.trans u2,u2 _ _ hDg,by simpa [psP,B2i,A2f] using ros.kt (KT.same u2),by rw [hC2];rfl,rfl⟩;refine ⟨_,rfl,O,rfl,⟨_,SqL.of ((sg.trans u2) _ _ hO)⟩,?_⟩
   refine A8c (K:=K) (a:=O) (xs:=e.own.map V.str) (λj σ X=>∃(o8:Option V) (ys:List V) (ab:Int),σ=[some (.ref q),some (.ref d),some (.ref D),some (.int (i:Int)),some (.ref O),some (.ref S),some (.int ab),some (.ref C),o8,o9,o10]/\Rv H X D C ys (rwL (-1) (A2h rows i)) (-1) ab (frM rows i) e.so j)
    ⟨_,ys,-1,rfl,rv0⟩ (λj σ X _ ⟨_,_,_,_,rv⟩=>SqL.of (rv.sm _ _ hO)) ?_ ?_
   ·rintro j x σ X hx ⟨o8,ys,ab,rfl,rv⟩;obtain ⟨y,hy,rfl⟩:=A4f hx;obtain ⟨n,hn,vn⟩:=B1k zo hy;have hj:j<e.so.length:=(Z03.mp hn).1;have ly:=rv.len (Nat.le_of_lt hj);have g:=C8m.k (H:=X) (a:=d) (k:=Sum.inr y) (rv.sm _ _ hd);rw [vn] at g;refine ⟨_,rfl,.inl ⟨rfl,_,SqL.of rv.hD⟩,_,rfl,_,rfl,D,_,rfl,.inl (SqL.of rv.hD),_,rfl,_,rfl,d,_,rfl,g,_,rfl,A0h (by simp),λb1 hb1=> ?_⟩;have u3:A0o X (upd X b1 (.tup [.int ab,.str "loop",.int (ys.length:Int),.int n,.int 0,.int (-1)])):=A0d hb1;have hb3:upd X b1 (.tup [.int ab,.str "loop",.int (ys.length:Int),.int n,.int 0,.int (-1)]) b1=some (.tup [.int ab,.str "loop",.int (ys.length:Int),.int n,.int 0,.int (-1)]):=A0b;refine ⟨D,_,_,rfl,rfl,u3 _ _ rv.hD,A1o (by lia),?_⟩;generalize eX:upd X b1 (.tup [.int ab,.str "loop",.int (ys.length:Int),.int n,.int 0,.int (-1)])=X1 at u3 hb3;refine ⟨_,rfl,D,_,rfl,.inl (SqL.of (A0b (o:= .lst (ys++[.ref b1])))),_,_,rfl,rfl,?_⟩;have hCX:upd X1 D (.lst (ys++[.ref b1])) C=some (.lst ((A2f (frM rows i) j).map V.int)):=by rw [A0l ne];exact u3 _ _ rv.hC
    subst eX;refine ⟨_,rfl,.inl ⟨rfl,_,SqL.of hCX⟩,_,rfl,C,_,_,rfl,rfl,hCX,A1o (by rw [Z08,A2p];lia),?_⟩;exact ⟨_,_,_,rfl,rv.step hD hC0 ne hn nl.symm u3 hb3 rfl rfl⟩
   rintro σ X ⟨o8',ys1,ab,rfl,rv⟩;rw [Z08,lo] at rv;have ly1:=rv.len (Z09 _);have eb:=rv.eb;have sX:=rv.sm;refine ⟨λσ Y=>∃wd:Str,σ=[some (.ref q),some (.ref d),some (.ref D),some (.int (i:Int)),some (.ref O),some (.ref S),some (.int ab),some (.ref C),o8',some (.str wd),o10]/\A0o X Y/\wd=if e.ss=[] then "set" else "start",?_,?_⟩
   ·refine ⟨_,rfl,A0h (by simp),λn0 hn0=> ?_⟩;have t0:A0o X (upd X n0 (.lst [])):=A0d hn0;have hn1:upd X n0 (.lst []) n0=some (.lst (([]:List Str).map V.str)):=A0b;generalize upd X n0 (.lst [])=X1 at t0 hn1⊢;refine ⟨B3p e.sums,B3p [],B6u ((sX.trans t0) _ _ hS),B6u hn1,A7h (C0z oks) (by have:=(A9a e.sums).1;lia),rfl,_,rfl,?_⟩;rw [C8b]
    have hss:e.ss=[]↔e.sums=[]:=by
     rw [<-List.length_eq_zero_iff,<-List.length_eq_zero_iff]
     lia
    refine D0m (λhne=>⟨"start",rfl,t0,by rw [Z0t (λz=>hne (hss.mp z))]⟩) (λhe=>⟨"set",rfl,t0,by rw [Z12 (hss.mpr he)]⟩)
   rintro σ Y ⟨wd,rfl,sY,ewd⟩;have sHY:=sX.trans sY;have hDY:=sY _ _ rv.hD;have hCY:=sY _ _ rv.hC;refine ⟨_,rfl,.inl ⟨rfl,_,SqL.of hDY⟩,_,rfl,_,rfl,D,_,rfl,.inl (SqL.of hDY),_,rfl,_,rfl,_,rfl,C,_,rfl,.inl ⟨SqL.of hCY,λct hct=> ?_⟩⟩;have v1:A0o Y (upd Y ct (.tup ((A2f (frM rows i) e.so.length).map V.int))):=A0d hct;have hct1:upd Y ct (.tup ((A2f (frM rows i) e.so.length).map V.int)) ct=some (.tup ((A2f (frM rows i) e.so.length).map V.int)):=A0b;generalize upd Y ct (.tup ((A2f (frM rows i) e.so.length).map V.int))=Y1 at v1 hct1⊢;refine ⟨A0h (by simp),λut hut=> ?_⟩;have v2:A0o Y1 (upd Y1 ut (.tup [])):=A0d hut;have hut2:upd Y1 ut (.tup []) ut=some (.tup (([]:List Int).map V.int)):=A0b;generalize upd Y1 ut (.tup [])=Y2 at v2 hut2⊢;refine ⟨A0h (by simp),λdt hdt=> ?_⟩;have v3:A0o Y2 (upd Y2 dt (.tup [.int ab,.str "deed",.int (ys1.length:Int),.int (i:Int),.str wd,.ref ct,.ref ut])):=A0d hdt;have hdt3:upd Y2 dt (.tup [.int ab,.str "deed",.int (ys1.length:Int),.int (i:Int),.str wd,.ref ct,.ref ut]) dt=some (.tup [.int ab,.str "deed",.int (ys1.length:Int),.int (i:Int),.str wd,.ref ct,.ref ut]):=A0b;generalize upd Y2 dt (.tup [.int ab,.str "deed",.int (ys1.length:Int),.int (i:Int),.str wd,.ref ct,.ref ut])=Y3 at v3 hdt3⊢;have v13:=v1.trans (v2.trans v3);have hD3:=v13 _ _ hDY;refine ⟨D,_,_,rfl,rfl,hD3,A1o (by lia),?_⟩;have k4:KT Y3 (upd Y3 D (.lst (ys1++[.ref dt]))):=KT.at hD3 (by intro xs z;cases z);have s4:A0o H (upd Y3 D (.lst (ys1++[.ref dt]))):=A0s (sHY.trans v13) hD;have hD4:upd Y3 D (.lst (ys1++[.ref dt])) D=some (.lst (ys1++[.ref dt])):=A0b;have hC4:upd Y3 D (.lst (ys1++[.ref dt])) C=some (.lst ((A2f (frM rows i) e.so.length).map V.int)):=by rw [A0l ne];exact v13 _ _ hCY
   have ro4:A3n (upd Y3 D (.lst (ys1++[.ref dt]))) (ys1++[.ref dt]) (rwL (-1) (A2h rows i)++B2i (-1) (psP (frM rows i) e.so e.so.length)++[(ab,.deed (frM rows i+e.so.length) i wd (A2f (frM rows i) e.so.length) [])]):=by
    refine B1g ((rv.ro.kt (KT.same (sY.trans v13))).kt k4) (.cons ⟨dt,ct,ut,rfl,?_,k4 _ _ ((v2.trans v3) _ _ hct1),k4 _ _ (v3 _ _ hut2)⟩ .nil);have:=k4 _ _ hdt3;rw [show (ys1.length:Int)=frM rows i+e.so.length by lia] at this;exact this
   generalize upd Y3 D (.lst (ys1++[.ref dt]))=Y4 at k4 s4 hD4 hC4 ro4⊢;have ly4:(ys1++[V.ref dt]).length=ys1.length+1:=by rw [Z06,Z0j]
   generalize ys1++[V.ref dt]=ys2 at hD4 ro4 ly4⊢;refine ⟨A0h (by simp),λU hU=> ?_⟩;have u5:A0o Y4 (upd Y4 U (.lst [])):=A0d hU;have hU5:upd Y4 U (.lst []) U=some (.lst []):=A0b;have neU:U≠D:=λz=>by rw [z,hD4] at hU;cases hU
   have neC:C≠U:=λz=>by rw [<-z,hC4] at hU;cases hU
   have hU0:H U=none:=s4.free hU;generalize upd Y4 U (.lst [])=Y5 at u5 hU5⊢
   have hR:((rwL (-1) (A2h rows i)++B2i (-1) (psP (frM rows i) e.so e.so.length)++[(ab,Hd.deed (frM rows i+e.so.length) i wd (A2f (frM rows i) e.so.length) [])]).length:Int)=frM rows i+e.so.length+1:=by
    rw [Z06,Z06,A6b,B5a (Z09 _),Z0j];lia
   generalize hRe:rwL (-1) (A2h rows i)++B2i (-1) (psP (frM rows i) e.so e.so.length)++[(ab,Hd.deed (frM rows i+e.so.length) i wd (A2f (frM rows i) e.so.length) [])]=R at hR ro4;have rw0:Rv H Y5 D U ys2 R ab ab (frM rows i+e.so.length+1) e.ss 0:=⟨s4.trans u5,u5 _ _ hD4,by simpa [psP,B2i,A2f] using ro4.kt (KT.same u5),by rw [hU5];rfl,rfl⟩;refine ⟨_,rfl,S,rfl,⟨_,SqL.of ((s4.trans u5) _ _ hS)⟩,?_⟩
   refine A8c (K:=K) (a:=S) (xs:=e.sums.map V.str) (λj σ X=>∃(o8:Option V) (ys:List V) (ab2:Int),σ=[some (.ref q),some (.ref d),some (.ref D),some (.int (i:Int)),some (.ref O),some (.ref S),some (.int ab2),some (.ref C),o8,some (.str wd),some (.ref U)]/\Rv H X D U ys R ab ab2 (frM rows i+e.so.length+1) e.ss j/\X C=some (.lst ((A2f (frM rows i) e.so.length).map V.int)))
    ⟨_,ys2,ab,rfl,rw0,u5 _ _ hC4⟩ (λj σ X _ ⟨_,_,_,_,rv,_⟩=>SqL.of (rv.sm _ _ hS)) ?_ ?_
   ·rintro j x σ X hx ⟨o8,ys,ab2,rfl,rv,hCX0⟩;obtain ⟨y,hy,rfl⟩:=A4f hx;obtain ⟨n,hn,vn⟩:=B1k zs hy;have hj:j<e.ss.length:=(Z03.mp hn).1;have ly:=rv.len (Nat.le_of_lt hj);have g:=C8m.k (H:=X) (a:=d) (k:=Sum.inr y) (rv.sm _ _ hd);rw [vn] at g;refine ⟨_,rfl,.inl ⟨rfl,_,SqL.of rv.hD⟩,_,rfl,_,rfl,D,_,rfl,.inl (SqL.of rv.hD),_,rfl,_,rfl,d,_,rfl,g,_,rfl,A0h (by simp),λb1 hb1=> ?_⟩;have u3:A0o X (upd X b1 (.tup [.int ab2,.str "loop",.int (ys.length:Int),.int n,.int 0,.int (-1)])):=A0d hb1;have hb3:upd X b1 (.tup [.int ab2,.str "loop",.int (ys.length:Int),.int n,.int 0,.int (-1)]) b1=some (.tup [.int ab2,.str "loop",.int (ys.length:Int),.int n,.int 0,.int (-1)]):=A0b;refine ⟨D,_,_,rfl,rfl,u3 _ _ rv.hD,A1o (by lia),?_⟩;refine ⟨_,rfl,D,_,rfl,.inl (SqL.of (A0b (o:= .lst (ys++[.ref b1])))),_,_,rfl,rfl,?_⟩;have hCX:upd (upd X b1 (.tup [.int ab2,.str "loop",.int (ys.length:Int),.int n,.int 0,.int (-1)])) D (.lst (ys++[.ref b1])) U=some (.lst ((A2f (frM rows i+e.so.length+1) j).map V.int)):=by rw [A0l neU];exact u3 _ _ rv.hC
    refine ⟨_,rfl,.inl ⟨rfl,_,SqL.of hCX⟩,_,rfl,U,_,_,rfl,rfl,hCX,A1o (by rw [Z08,A2p];lia),?_⟩;exact ⟨_,_,_,rfl,rv.step hD hU0 neU hn hR.symm u3 hb3 rfl rfl,by rw [A0l neC,A0l ne];exact u3 _ _ hCX0⟩
   rintro σ Z ⟨o8'',ys3,ab3,rfl,rz,hCZ⟩;rw [Z08,ls] at rz;have ly3:=rz.len (Z09 _);refine ⟨_,rfl,A0h (by simp),λn0 hn0=> ?_⟩;have t0:A0o Z (upd Z n0 (.lst [])):=A0d hn0;have hn1:upd Z n0 (.lst []) n0=some (.lst (([]:List Str).map V.str)):=A0b;generalize upd Z n0 (.lst [])=Z1 at t0 hn1⊢;refine ⟨B3p e.sums,B3p [],B6u ((rz.sm.trans t0) _ _ hS),B6u hn1,A7h (C0z oks) (by have:=(A9a e.sums).1;lia),rfl,_,rfl,?_⟩;rw [C8b]
   have hss:e.ss=[]↔e.sums=[]:=by
    rw [<-List.length_eq_zero_iff,<-List.length_eq_zero_iff]
    lia
   refine D0m (λhne=> ?_) (λhz=> ?_)
   ·have hne':e.ss≠[]:=λz=>hne (hss.mp z);have hDZ:=t0 _ _ rz.hD;have hCZ1:=t0 _ _ hCZ;have hUZ:=t0 _ _ rz.hC;refine ⟨_,rfl,.inl ⟨rfl,_,SqL.of hDZ⟩,_,rfl,_,rfl,D,_,rfl,.inl (SqL.of hDZ),_,rfl,_,rfl,C,_,rfl,.inl ⟨SqL.of hCZ1,λct hct=> ?_⟩⟩;have v1:A0o Z1 (upd Z1 ct (.tup ((A2f (frM rows i) e.so.length).map V.int))):=A0d hct;have hct1:upd Z1 ct (.tup ((A2f (frM rows i) e.so.length).map V.int)) ct=some (.tup ((A2f (frM rows i) e.so.length).map V.int)):=A0b;generalize upd Z1 ct (.tup ((A2f (frM rows i) e.so.length).map V.int))=Y1 at v1 hct1⊢;refine ⟨_,rfl,U,_,rfl,.inl ⟨SqL.of (v1 _ _ hUZ),λut hut=> ?_⟩⟩;have v2:A0o Y1 (upd Y1 ut (.tup ((A2f (frM rows i+e.so.length+1) e.ss.length).map V.int))):=A0d hut;have hut2:upd Y1 ut (.tup ((A2f (frM rows i+e.so.length+1) e.ss.length).map V.int)) ut=some (.tup ((A2f (frM rows i+e.so.length+1) e.ss.length).map V.int)):=A0b;generalize upd Y1 ut (.tup ((A2f (frM rows i+e.so.length+1) e.ss.length).map V.int))=Y2 at v2 hut2⊢;refine ⟨A0h (by simp),λdt hdt=> ?_⟩;have v3:A0o Y2 (upd Y2 dt (.tup [.int ab3,.str "deed",.int (ys3.length:Int),.int (i:Int),.str "add",.ref ct,.ref ut])):=A0d hdt;have hdt9:upd Y2 dt (.tup [.int ab3,.str "deed",.int (ys3.length:Int),.int (i:Int),.str "add",.ref ct,.ref ut]) dt=some (.tup [.int ab3,.str "deed",.int (ys3.length:Int),.int (i:Int),.str "add",.ref ct,.ref ut]):=A0b;generalize upd Y2 dt (.tup [.int ab3,.str "deed",.int (ys3.length:Int),.int (i:Int),.str "add",.ref ct,.ref ut])=Y3 at v3 hdt9⊢;have v13:=v1.trans (v2.trans v3);have hD3:=v13 _ _ hDZ;refine ⟨D,_,_,rfl,rfl,hD3,A1o (by lia),?_⟩;have k4:KT Y3 (upd Y3 D (.lst (ys3++[.ref dt]))):=KT.at hD3 (by intro xs z;cases z);refine ⟨_,_,_,_,_,_,_,_,ys3++[.ref dt],rfl,A0s (rz.sm.trans (t0.trans v13)) hD,A0b,?_⟩;rw [A8g he,A2j,B4k hne',<-Z0z,<-Z0z,<-Z0z];rw [Z0t hne'] at ewd;subst ewd;rw [<-eb,hRe];refine B1g ((rz.ro.kt (KT.same (t0.trans v13))).kt k4) (.cons ⟨dt,ct,ut,rfl,?_,k4 _ _ ((v2.trans v3) _ _ hct1),k4 _ _ (v3 _ _ hut2)⟩ .nil);rw [<-rz.eb];have:=k4 _ _ hdt9;rw [show (ys3.length:Int)=frM rows i+e.so.length+1+e.ss.length by lia] at this;exact this
   ·have hz':=hss.mpr hz;refine ⟨_,_,_,_,_,_,_,_,ys3,rfl,rz.sm.trans t0,t0 _ _ rz.hD,?_⟩;rw [A8g he,A2j,B4n hz',<-Z0z];rw [Z12 hz'] at ewd;subst ewd;rw [<-eb,hRe];have ro:=rz.ro.kt (KT.same t0);rw [hz'] at ro
    simpa [psP,B2i,A2f] using ro
  ·rintro σ G ⟨o3,o4,o5,o6,o7,o8,o9,o10,ys,rfl,sg,hDg,ros⟩;rw [lxs] at ros;exact ⟨_,rfl,k D ys G hD sg hDg ros⟩
end
noncomputable def D9u (lk:List (Key×V)) (nm:List Str):Prop:=∀y∈nm,∃n:Int,B0z lk (Sum.inr y)=some (.int n)/\1<=n/\n<=60
structure D5u (lk:List (Key×V)) (axs:List Str) (e:Rw) (wo:Int):Prop where
 sub:∀y∈e.own++e.sums,y∈axs
 l3:e.own.length+e.sums.length<=3
 zo:Sz lk e.own e.so
 zs:Sz lk e.sums e.ss
 po:∀n∈e.so,1<=n/\n<=60
 ps:∀n∈e.ss,1<=n/\n<=60
 hw:wo=A3f e.so*A3f e.ss
theorem D5u.row {lk:List (Key×V)} {axs:List Str} {e:Rw} {wo:Int} (h:D5u lk axs e wo) (hw:wo<=1200):D9d e:=by
 have p1:=(A5l e.so λn hn=>(h.po n hn).1).2;have p2:=(A5l e.ss λn hn=>(h.ps n hn).1).2;have m1:A3f e.so*1<=A3f e.so*A3f e.ss:=Z29 p2 (by lia);have m2:1*A3f e.ss<=A3f e.so*A3f e.ss:=Int.mul_le_mul_of_nonneg_right p1 (by lia);have l1:=Paired.length h.zo;have l2:=Paired.length h.zs;have l3:=h.l3;have hw':=h.hw;exact ⟨⟨h.po,by lia,by lia⟩,⟨h.ps,by lia,by lia⟩,by lia,by lia,by lia,l1,l2,by lia⟩
theorem D5u.pos {lk:List (Key×V)} {axs:List Str} {e:Rw} {wo:Int} (h:D5u lk axs e wo):1<=wo:=by
 have p1:=(A5l e.so λn hn=>(h.po n hn).1).2;have p2:=(A5l e.ss λn hn=>(h.ps n hn).1).2;have m1:A3f e.so*1<=A3f e.so*A3f e.ss:=Z29 p2 (by lia);have:=h.hw
 lia
noncomputable def SdM (D:Addr) (H:Hp) (v:V) (e:Rw):Prop:=∃b O S,v= .ref b/\b≠D/\O≠D/\S≠D/\H b=some (.lst [.ref O,.ref S])/\H O=some (.lst (e.own.map V.str))/\H S=some (.lst (e.sums.map V.str))
theorem SdM.same {D:Addr} {H H':Hp} {v:V} {e:Rw} (h:SdM D H v e) (s:A0o H H'):SdM D H' v e:=by
 obtain ⟨b,O,S,rfl,n1,n2,n3,h1,h2,h3⟩:=h;exact ⟨b,O,S,rfl,n1,n2,n3,s _ _ h1,s _ _ h2,s _ _ h3⟩
theorem SdM.upd {D:Addr} {H:Hp} {v:V} {e:Rw} {o:HO} (h:SdM D H v e):SdM D (upd H D o) v e:=by
 obtain ⟨b,O,S,rfl,n1,n2,n3,h1,h2,h3⟩:=h;exact ⟨b,O,S,rfl,n1,n2,n3,by rw [A0l n1];exact h1,by rw [A0l n2];exact h2,by rw [A0l n3];exact h3⟩
theorem SdM.at {D:Addr} {H:Hp} {v:V} {e:Rw} (h:SdM D H v e):D5m H v e:=by
 obtain ⟨b,O,S,rfl,n1,n2,n3,h1,h2,h3⟩:=h;exact ⟨b,O,S,rfl,h1,h2,h3⟩
noncomputable def B5k:Sp:=λvs H Q _=>∃(cl al ld:Addr) (cs:List Int) (axs:List Str) (lk:List (Key×V)),vs=[.ref cl,.ref al,.ref ld]/\H cl=some (.lst (cs.map V.int))/\cs.length<=4/\H al=some (.lst (axs.map V.str))/\axs.length<=3/\OkS axs/\H ld=some (.dK lk)/\D9u lk axs/\
 ∀(D:Addr) (xs:List V) (rows:List Rw) (H':Hp),H D=none->A0o H H'->H' D=some (.lst xs)->D5j H' xs rows->Tot lk rows->rows.length<=4->(∀e∈rows,e.so.length+e.ss.length<=3)->Q (.ref D) H'
section
variable {P:Program} {w:World} {K:PySem.W.Frag} {mg:Str->Option Value} {base:Heap} {t:Adr}
theorem B5f (T:Txt K mg t):A1y P w K mg base CX0 1 t.bM t.b_ ["_law_cells","_law_axes","_law_lengths"] B5k:=by
 refine T.dD.ok A1t (λvs H Q E h=> ?_) (λcdv A outer s H vs Q E hr h=> ?_)
 ·obtain ⟨cl,al,ld,cs,axs,lk,rfl,_⟩:=h;rfl
 ·obtain ⟨cl,al,ld,cs,axs,lk,rfl,hcl,lcs,hal,l3,oka,hld,dk,k⟩:=h;have hu:=C6u hr
  refine ⟨_,(A0e (A0x (i:=3) A1t.nd rfl (Or.inl rfl) (A2b A0c))
   (A0e (A0x (i:=4) A1t.nd rfl (Or.inl rfl) A0f)
   (A0e (A3m PassesOwn.never rfl (A6a (pv 0)) (A0k (i:=5) A1t.nd rfl (Or.inl rfl) (Or.inl rfl))
    (A0e (A0x (i:=6) A1t.nd rfl (Or.inl rfl) (A0v A2s (A0v D1b (A0v A2a (pv 5) A0f) A0f) A0f))
    (A0e (A0x (i:=7) A1t.nd rfl (Or.inl rfl) (A2b (A0a (A2b A0c) (A0a (A2b A0c) A0c))))
    (A0e (A0x (i:=8) A1t.nd rfl (Or.inl rfl) A0f)
    (A0e (A3m PassesOwn.never rfl (A6a (pv 1)) (A0k (i:=9) A1t.nd rfl (Or.inl rfl) (Or.inl rfl))
     (A6j (A1m (A0w B1u (A0v A2s (pv 6) A0f) A0f (A1c _))
      (A0e (A2r (A5t Z0k Z0n Z0o A1n (A1b A1f (pv 7) (A0v A2s (pv 6) A0f) (λ_ _=>rfl)) (A0a (pv 9) A0c)))
      (A0g (A0x (i:=8) A1t.nd rfl (Or.inl rfl) (A0v D1b (pv 8) (B6o hu (pv 2) (pv 9) (λ_ _=>rfl))))))
      A0u)
     (A0g (A0x (i:=6) A1t.nd rfl (Or.inl rfl) (A0v A3d (pv 6) A0f)))))
    (A0g (A1m (A0w D8u (pv 8) (pv 4) (A1c _))
     (A0e (A0x (i:=4) A1t.nd rfl (Or.inl rfl) (A0v A9s (pv 4) (pv 8)))
     (A0g (A2r (A5t Z0k Z0n Z0o A1n (pv 3) (A0a (pv 7) A0c)))))
     A0u)))))))
   (A0g (A0r (pv 3)))))),?_⟩
  refine ⟨A0h (by simp),λD hD=> ?_⟩;have u1:A0o H (upd H D (.lst [])):=A0d hD;have hD1:upd H D (.lst []) D=some (.lst []):=A0b;generalize upd H D (.lst [])=H1 at u1 hD1⊢;refine ⟨_,rfl,cl,rfl,⟨_,SqL.of (u1 _ _ hcl)⟩,?_⟩
  refine A8c (K:=K) (a:=cl) (xs:=cs.map V.int) (λi σ X=>∃(lf:Int) (o5 o6 o7 o8 o9:Option V) (xs:List V) (rows:List Rw),σ=[some (.ref cl),some (.ref al),some (.ref ld),some (.ref D),some (.int lf),o5,o6,o7,o8,o9]/\lf<=1200/\A0o H X/\X D=some (.lst xs)/\Paired (SdM D X) xs rows/\Tot lk rows/\rows.length<=i/\(∀e∈rows,e.so.length+e.ss.length<=3))
   ⟨1200,none,none,none,none,none,[],[],rfl,by decide,u1,hD1,.nil,(by intro e he;cases he),Z09 _,(by intro e he;cases he)⟩ (λi σ X _ ⟨_,_,_,_,_,_,_,_,_,_,sx,_⟩=>SqL.of (sx _ _ hcl)) ?_ ?_
  ·rintro i x σ Xa hx ⟨lf,o5,o6,o7,o8,o9,xs,rows,rfl,lf1,s0a,hDX,sds,tot,lrw,few⟩;obtain ⟨c,hc,rfl⟩:=A4f hx;have hi:i<cs.length:=(Z03.mp hc).1;have lxs:=Paired.length sds;refine ⟨_,rfl,_,_,rfl,rfl,_,_,rfl,rfl,.inr ⟨by decide,by decide⟩,_,_,rfl,rfl,(by show (0:Int)<27;decide),?_⟩;refine ⟨A0h (by simp),λA0 hA0=>⟨A0h (by simp),λA1 hA1=>⟨A0h (by simp),λsd hsd=> ?_⟩⟩⟩;obtain ⟨X0,eX0⟩:∃X0,X0=Xa:=⟨_,rfl⟩;rw [<-eX0] at s0a hDX sds hA0 hA1 hsd⊢;have s0:=s0a;have nA0:A0≠D:=λz=>by rw [z,hDX] at hA0;cases hA0
   have t0:A0o X0 (upd X0 A0 (.lst [])):=A0d hA0;have g0:upd X0 A0 (.lst []) A0=some (.lst []):=A0b;generalize upd X0 A0 (.lst [])=H0 at t0 g0 hA1 hsd⊢;have t1:A0o H0 (upd H0 A1 (.lst [])):=A0d hA1;have g1:upd H0 A1 (.lst []) A1=some (.lst []):=A0b;have n01:A0≠A1:=A0t g0 hA1;have A1X:X0 A1=none:=t0.free hA1;have nA1:A1≠D:=λz=>by rw [z,hDX] at A1X;cases A1X
   generalize upd H0 A1 (.lst [])=H1' at t1 g1 hsd⊢;have t2:A0o H1' (upd H1' sd (.lst [.ref A0,.ref A1])):=A0d hsd;have g2:upd H1' sd (.lst [.ref A0,.ref A1]) sd=some (.lst [.ref A0,.ref A1]):=A0b;have n0s:A0≠sd:=A0t (t1 _ _ g0) hsd;have n1s:A1≠sd:=A0t g1 hsd;have sdX:X0 sd=none:=(t0.trans t1).free hsd;have nsd:sd≠D:=λz=>by rw [z,hDX] at sdX;cases sdX
   have g02:=(t1.trans t2) _ _ g0;have g12:=t2 _ _ g1;have s2:=t0.trans (t1.trans t2);generalize upd H1' sd (.lst [.ref A0,.ref A1])=H2 at t2 g2 g02 g12 s2⊢;refine ⟨_,rfl,al,rfl,⟨_,SqL.of ((s0.trans s2) _ _ hal)⟩,?_⟩
   refine A8c (K:=K) (a:=al) (xs:=axs.map V.str) (λj σ X=>∃(wo r:Int) (o9:Option V) (e:Rw),σ=[some (.ref cl),some (.ref al),some (.ref ld),some (.ref D),some (.int lf),some (.int c),some (.int r),some (.ref sd),some (.int wo),o9]/\A0o X0 X/\X sd=some (.lst [.ref A0,.ref A1])/\X A0=some (.lst (e.own.map V.str))/\X A1=some (.lst (e.sums.map V.str))/\(∀y∈e.own++e.sums,y∈axs)/\e.own.length+e.sums.length<=j/\Sz lk e.own e.so/\Sz lk e.sums e.ss/\(∀n∈e.so,1<=n/\n<=60)/\(∀n∈e.ss,1<=n/\n<=60)/\wo=A3f e.so*A3f e.ss)
    ⟨1,_,_,⟨[],[],[],[]⟩,rfl,s2,g2,g02,g12,(by intro y hy;cases hy),Z09 _,.nil,.nil,(by intro n hn;cases hn),(by intro n hn;cases hn),rfl⟩ (λj σ X _ ⟨_,_,_,_,_,sx,_⟩=>SqL.of ((s0.trans sx) _ _ hal)) ?_ ?_
   ·rintro j x σ X hx ⟨wo,r,o9,e,rfl,sx,hsX,h0X,h1X,sub,ln,zo,zs,po,ps,hw⟩;obtain ⟨y,hy,rfl⟩:=A4f hx;have hym:=Z13 hy;have hj:j<axs.length:=(Z03.mp hy).1;obtain ⟨n,vn,n1,n60⟩:=dk y hym;refine ⟨λσ X=>∃(wo:Int) (e:Rw),σ=[some (.ref cl),some (.ref al),some (.ref ld),some (.ref D),some (.int lf),some (.int c),some (.int r),some (.ref sd),some (.int wo),some (.str y)]/\A0o X0 X/\X sd=some (.lst [.ref A0,.ref A1])/\X A0=some (.lst (e.own.map V.str))/\X A1=some (.lst (e.sums.map V.str))/\(∀y∈e.own++e.sums,y∈axs)/\e.own.length+e.sums.length<=j+1/\Sz lk e.own e.so/\Sz lk e.sums e.ss/\(∀n∈e.so,1<=n/\n<=60)/\(∀n∈e.ss,1<=n/\n<=60)/\wo=A3f e.so*A3f e.ss,?_,?_⟩
    ·refine ⟨_,rfl,_,_,rfl,rfl,(by show (0:Int)<3;decide),rfl,_,rfl,D0m (λhne=> ?_) (λ_=>⟨wo,e,rfl,sx,hsX,h0X,h1X,sub,by lia,zo,zs,po,ps,hw⟩)⟩;have b0:0<=r%3:=Z1v _ (by decide);have b1:r%3<3:=Z1p _ (by decide);have b2:r%3≠2:=λz=>hne (by show V.int (r%3)=V.int 2;rw [z]);refine (show r%3=0\/r%3=1 by lia).elim (λhz0=> ?_) (λhz1=> ?_)
     ·skip
      have es0:atI [V.ref A0,.ref A1] (r%3)=some (.ref A0):=by rw [hz0];rfl
      refine ⟨_,rfl,_,rfl,_,_,rfl,rfl,(by show (0:Int)<3;decide),sd,_,_,_,rfl,rfl,SqL.of hsX,es0,.inl ⟨rfl,_,SqL.of h0X⟩,_,rfl,A0,_,_,rfl,rfl,h0X,A1o (by rw [Z08];lia),?_⟩;have v2:A0o X0 (upd X A0 (.lst (e.own.map V.str++[.str y]))):=A0s sx hA0;have w0:upd X A0 (.lst (e.own.map V.str++[.str y])) A0=some (.lst ((e.own++[y]).map V.str)):=by rw [A0b,Z0s];rfl
      have w1:upd X A0 (.lst (e.own.map V.str++[.str y])) A1=some (.lst (e.sums.map V.str)):=by rw [A0l n01.symm];exact h1X
      have ws:upd X A0 (.lst (e.own.map V.str++[.str y])) sd=some (.lst [.ref A0,.ref A1]):=by rw [A0l n0s.symm];exact hsX
      generalize upd X A0 (.lst (e.own.map V.str++[.str y]))=X2 at v2 w0 w1 ws⊢;have g:=C8m.k (H:=X2) (a:=ld) (k:=Sum.inr y) ((s0.trans v2) _ _ hld);rw [vn] at g;refine ⟨_,rfl,_,rfl,_,rfl,ld,_,rfl,g,_,_,rfl,rfl,.inr ⟨by lia,by lia⟩,?_⟩;refine ⟨wo*n,⟨e.own++[y],e.sums,e.so++[n],e.ss⟩,rfl,v2,ws,w0,w1,λz hz=> ?_,by show (e.own++[y]).length+e.sums.length<=j+1;rw [Z06,Z0j];lia,B1g zo (.cons vn .nil),zs,λm hm=> ?_,ps,?_⟩
      ·rcases Z07.mp hz with hz | hz
       ·rcases Z07.mp hz with hz | hz
        ·exact sub z (Z05 _ hz)
        ·rw [Z0w.mp hz];exact hym
       ·exact sub z (Z02 _ hz)
      ·rcases Z07.mp hm with hm | hm
       ·exact po m hm
       ·rw [Z0w.mp hm];exact ⟨n1,n60⟩
      ·show wo*n=A3f (e.so++[n])*A3f e.ss;rw [B0h,hw,Int.mul_assoc,Int.mul_assoc,Int.mul_comm (A3f e.ss)]
     ·skip
      have es0:atI [V.ref A0,.ref A1] (r%3)=some (.ref A1):=by rw [hz1];rfl
      refine ⟨_,rfl,_,rfl,_,_,rfl,rfl,(by show (0:Int)<3;decide),sd,_,_,_,rfl,rfl,SqL.of hsX,es0,.inl ⟨rfl,_,SqL.of h1X⟩,_,rfl,A1,_,_,rfl,rfl,h1X,A1o (by rw [Z08];lia),?_⟩;have v2:A0o X0 (upd X A1 (.lst (e.sums.map V.str++[.str y]))):=A0s sx A1X;have w0:upd X A1 (.lst (e.sums.map V.str++[.str y])) A1=some (.lst ((e.sums++[y]).map V.str)):=by rw [A0b,Z0s];rfl
      have w1:upd X A1 (.lst (e.sums.map V.str++[.str y])) A0=some (.lst (e.own.map V.str)):=by rw [A0l n01];exact h0X
      have ws:upd X A1 (.lst (e.sums.map V.str++[.str y])) sd=some (.lst [.ref A0,.ref A1]):=by rw [A0l n1s.symm];exact hsX
      generalize upd X A1 (.lst (e.sums.map V.str++[.str y]))=X2 at v2 w0 w1 ws⊢;have g:=C8m.k (H:=X2) (a:=ld) (k:=Sum.inr y) ((s0.trans v2) _ _ hld);rw [vn] at g;refine ⟨_,rfl,_,rfl,_,rfl,ld,_,rfl,g,_,_,rfl,rfl,.inr ⟨by lia,by lia⟩,?_⟩;refine ⟨wo*n,⟨e.own,e.sums++[y],e.so,e.ss++[n]⟩,rfl,v2,ws,w1,w0,λz hz=> ?_,by show e.own.length+(e.sums++[y]).length<=j+1;rw [Z06,Z0j];lia,zo,B1g zs (.cons vn .nil),po,λm hm=> ?_,?_⟩
      ·have hz:z∈e.own++(e.sums++[y]):=hz;rw [<-Z0z] at hz;rcases Z07.mp hz with hz | hz
       ·exact sub z hz
       ·rw [Z0w.mp hz];exact hym
      ·rcases Z07.mp hm with hm | hm
       ·exact ps m hm
       ·rw [Z0w.mp hm];exact ⟨n1,n60⟩
      ·show wo*n=A3f e.so*A3f (e.ss++[n]);rw [B0h,hw,Int.mul_assoc]
    rintro σ X ⟨wo,e,rfl,sx,hsX,h0X,h1X,sub,ln,zo,zs,po,ps,hw⟩;exact ⟨_,rfl,_,_,rfl,rfl,⟨by decide,by decide⟩,wo,_,_,e,rfl,sx,hsX,h0X,h1X,sub,ln,zo,zs,po,ps,hw⟩
   ·rintro σ X ⟨wo,r,o9,e,rfl,sx,hsX,h0X,h1X,sub,ln,zo,zs,po,ps,hw⟩;rw [Z08] at ln;have so:D5u lk axs e wo:=⟨sub,by lia,zo,zs,po,ps,hw⟩;have sds':Paired (SdM D X) xs rows:=Paired.mapP sds λ_ _ z=>z.same sx;refine ⟨_,rfl,_,rfl,_,_,rfl,rfl,_,rfl,A9h (λhle=> ?_) (λ_=>⟨lf,_,_,_,_,_,xs,rows,rfl,lf1,s0.trans sx,sx _ _ hDX,sds',tot,by lia,few⟩)⟩;have hle:wo<=lf:=hle;have wo1:=so.pos;refine ⟨_,rfl,_,rfl,_,_,rfl,rfl,?_⟩;have hDX':=sx _ _ hDX;refine ⟨_,rfl,.inl ⟨rfl,_,SqL.of hDX'⟩,_,rfl,D,_,_,rfl,rfl,hDX',A1o (by lia),?_⟩;refine ⟨lf-wo,_,_,_,_,_,xs++[.ref sd],rows++[e],rfl,by lia,A0s (s0.trans sx) hD,A0b,B1g (Paired.mapP sds' λ_ _ z=>z.upd) (.cons (SdM.upd ⟨sd,A0,A1,rfl,nsd,nA0,nA1,hsX,h0X,h1X⟩) .nil),λe' he'=> ?_,by rw [Z06,Z0j];lia,λe' he'=> ?_⟩
    ·rcases Z07.mp he' with he' | he'
     ·exact tot e' he'
     ·rw [Z0w.mp he'];exact ⟨so.row (by lia),zo,zs,λy hy=>oka y (sub y (Z05 _ hy)),λy hy=>oka y (sub y (Z02 _ hy))⟩
    ·rcases Z07.mp he' with he' | he'
     ·exact few e' he'
     ·rw [Z0w.mp he'];have:=Paired.length zo;have:=Paired.length zs
      lia
  ·rintro σ X ⟨lf,o5,o6,o7,o8,o9,xs,rows,rfl,lf1,sx,hDX,sds,tot,lrw,few⟩;rw [Z08] at lrw;exact ⟨_,rfl,k D xs rows X hD sx hDX (Paired.mapP sds λ_ _ z=>z.at) tot (by lia) few⟩
end
noncomputable def C9a (K:PySem.W.Frag):Sp:=λvs H Q _=>∃(a:Addr) (ns:List Int),vs=[.ref a]/\SqL K H a (ns.map V.int)/\ns.length<=63/\(∀m∈ns,m.natAbs.log2<2^20)/\∀H',Q (.bl true) H'
theorem C4w {α:Type} (f:α->V) (nm:List α) (lo hi:Option Int):∃zs:List α,A2u (nm.map f) lo hi=zs.map f/\zs.length<=nm.length/\∀x∈zs,x∈nm:=by
 refine ⟨(nm.drop (HT.sIx nm.length 0 lo)).take (HT.sIx nm.length nm.length hi-HT.sIx nm.length 0 lo),?_,?_,λx hx=> ?_⟩
 ·unfold A2u;rw [Z08,<-List.map_drop,<-List.map_take]
 ·rw [Z0x,Z19];lia
 ·exact List.mem_of_mem_drop (List.mem_of_mem_take hx)
theorem D4b (xs:List V) (a b:Nat):(A2u xs (some (a:Int)) (some (b:Int))).length<=b-a:=by
 unfold A2u;rw [HT.sIx_nat,HT.sIx_nat,Z0x]
 lia
theorem D0e {kvs:List (Key×V)} {k:Key} {v:V} (h:B0z kvs k=some v):∃p∈kvs,p.1=k/\p.2=v:=by
 unfold B0z at h;obtain ⟨p,hp,e⟩:=Z0i.mp h;have:=List.find?_some hp;exact ⟨p,List.mem_of_find?_eq_some hp,of_decide_eq_true this,e⟩
theorem D3f {lk:List (Key×V)} (h:∀p∈lk,∃n:Int,p.2= .int n):∃is,C9n lk is:=by
 induction lk with
 | nil=>exact ⟨[],.nil⟩
 | cons p r ih =>
  obtain ⟨n,hn⟩:=h p (.head _);obtain ⟨is,hi⟩:=ih λq hq=>h q (.tail _ hq);exact ⟨n::is,.cons hn hi⟩
theorem D1y {S:Addr->Prop} {H:Hp} {x:Str} {l:Addr} {ys:List Str} (hs:S l) (hl:H l=some (.lst (ys.map V.str))):∀{kvs:List (Key×V)} {es:List (Str×List Str)},AR S H kvs es->
  ∃es',AR S H (kvs.map λkv=>if kv.1=Sum.inr x then (kv.1,V.ref l) else kv) es'/\(∀e∈es',e∈es\/e=(x,ys))/\es'.length=es.length
 | _,_,.nil=>⟨[],.nil,by simp,rfl⟩
 | _,_,@Paired.cons _ _ _ p e _ _ r t=>by
  obtain ⟨es',h1,h2,h3⟩:=D1y hs hl t;by_cases hk:p.1=Sum.inr x
  ·refine ⟨(x,ys)::es',?_,λf hf=> ?_,by simp [h3]⟩
   ·rw [Z0p,Z12 hk];exact .cons ⟨hk,l,rfl,hs,hl⟩ h1
   ·rcases Z0e.mp hf with rfl | hf
    ·exact .inr rfl
    ·exact (h2 f hf).imp (λh=> .tail _ h) id
  ·refine ⟨e::es',?_,λf hf=> ?_,by simp [h3]⟩
   ·rw [Z0p,Z0t hk];exact .cons r h1
   ·rcases Z0e.mp hf with rfl | hf
    ·exact .inl (.head _)
    ·exact (h2 f hf).imp (λh=> .tail _ h) id
theorem D5h {S:Addr->Prop} {H:Hp} {x:Str} {l:Addr} {ys:List Str} {kvs:List (Key×V)} {es:List (Str×List Str)} (hs:S l) (hl:H l=some (.lst (ys.map V.str))) (h:AR S H kvs es) :
  ∃es',AR S H (B0b kvs (Sum.inr x) (.ref l)) es'/\(∀e∈es',e∈es\/e=(x,ys))/\es'.length<=es.length+1:=by
 unfold B0b;split
 ·obtain ⟨es',h1,h2,h3⟩:=D1y (x:=x) hs hl h;exact ⟨es',h1,h2,by lia⟩
 ·refine ⟨es++[(x,ys)],Paired.snoc ⟨rfl,l,rfl,hs,hl⟩ h,λe he=> ?_,by simp⟩;rcases Z07.mp he with he | he
  ·exact .inl he
  ·exact .inr (Z0w.mp he)
mutual
noncomputable def C8k:Nd->PyData
 | .deed n k w cs us=>B9g n k w cs us
 | .loop n sz wd out bd=>B3v n sz wd out (C5y bd)
noncomputable def C5y:List Nd->List PyData
 | []=>[]
 | x::r=>C8k x::C5y r
end
mutual
theorem D5v {H:Hp}:∀{x:Nd} {v:V},A4e H x v->Rep (TH H) v (C8k x)
 | .deed n k w cs us,v,h=>by
  rw [A4e] at h;obtain ⟨b,c,u,rfl,h1,h2,h3⟩:=h;rw [C8k];exact .tup (B2w h1) (.cons (.str _) (.cons (.int _) (.cons (.int _) (.cons (.str _) (.cons (B0q h2) (.cons (B0q h3) .nil))))))
 | .loop n sz wd out bd,v,h=>by
  rw [A4e] at h;obtain ⟨b,p,xs,rfl,h1,h2,h3⟩:=h;rw [C8k];exact .tup (B2w h1) (.cons (.str _) (.cons (.int _) (.cons (.int _) (.cons (.int _) (.cons (.int _) (.cons (.tup (B2w h2) (B9u h3)) .nil))))))
theorem B9u {H:Hp}:∀{l:List Nd} {xs:List V},A1l H l xs->A3u (TH H) xs (C5y l)
 | [],xs,h=>by rw [A1l] at h;subst h;exact .nil
 | x::r,xs,h=>by
  rw [A1l] at h;obtain ⟨v,vr,rfl,h1,h2⟩:=h;rw [C5y];exact .cons (D5v h1) (B9u h2)
end
mutual
theorem wr_N:∀(x:Nd) (a:Int),Wr a (C8k x) ((rwN a x).map C2w)
 | .deed n k w cs us,a=>by rw [C8k,rwN];exact .deed a n k w cs us
 | .loop n sz wd out bd,a=>by rw [C8k,rwN,Z0p];exact .loop a n sz wd out _ _ (D8g bd n)
theorem D8g:∀(l:List Nd) (a:Int),WrL a (C5y l) ((rwL a l).map C2w)
 | [],a=>by rw [C5y,rwL];exact .nil a
 | x::r,a=>by rw [C5y,rwL,Z0s];exact .cons a _ _ _ _ (wr_N x a) (D8g r a)
end
mutual
theorem ns_N:∀(x:Nd) (a:Int),(∀r∈rwN a x,D4d r)->A4d (2*dpN x+2) [C8k x]
 | .deed n k w cs us,a,h=>by
  rw [C8k];exact (C6v (h (a,.deed n k w cs us) (by rw [rwN];exact .head _))).le (by lia)
 | .loop n sz wd out bd,a,h=>by
  rw [C8k,dpN];exact (C6a (D8r bd n λr hr=>h r (by rw [rwN];exact .tail _ hr))).le (by lia)
theorem D8r:∀(l:List Nd) (a:Int),(∀r∈rwL a l,D4d r)->A4d (2*dpL l+2) (C5y l)
 | [],a,_=>by rw [C5y];exact A4d.nil _
 | x::r,a,h=>by
  rw [C5y,dpL];exact ((ns_N x a λz hz=>h z (by rw [rwL];exact Z05 _ hz)).le (by lia)).cons ((D8r r a λz hz=>h z (by rw [rwL];exact Z02 _ hz)).le (by lia))
end
noncomputable def B2m (k:Nat):Str:="s"++(toString (k:Int):Str)
theorem C9b:∀k:Fin 20,PyData.strOk (B2m k.1)=true/\(B2m k.1).length<=20/\(((k.1:Nat):Int)).natAbs.log2<1920/\("s":Str).length+(toString ((k.1:Nat):Int):Str).length<=100:=by decide +kernel
noncomputable def B1i:Mv->PyData
 | .swap N=> .tuple [.str "swap",.int N]
 | .cut N T=> .tuple [.str "cut",.int N,.int T]
 | .join N=> .tuple [.str "join",.int N]
theorem D7j {H:Hp} {v:V} {m:Mv} (h:MvV H v m):Rep H v (B1i m):=by
 obtain ⟨b,rfl,q⟩:=h
 cases m with
 | swap N=>exact .tup q (.cons (.str _) (.cons (.int _) .nil))
 | cut N T=>exact .tup q.1 (.cons (.str _) (.cons (.int _) (.cons (.int _) .nil)))
 | join N=>exact .tup q (.cons (.str _) (.cons (.int _) .nil))
theorem B2u {H:Hp}:∀{xs:List V} {ms:List Mv},B0g H xs ms->A3u H xs (ms.map B1i)
 | _,_,.nil=> .nil
 | _,_,.cons r t=> .cons (D7j r) (B2u t)
theorem D9f (m:Mv):A4d 1 [B1i m]:=by
 cases m <;> exact ⟨by simp [B1i,PyData.canLayAll0,PyData.canLay0];decide +kernel,by simp [B1i,PyData.depthAll,PyData.depth]⟩
theorem B8a:∀ms:List Mv,A4d 1 (ms.map B1i)
 | []=>A4d.nil _
 | m::r=>(D9f m).cons (B8a r)
theorem C5l {l:List Nd} {fr:Int} {c:Nat} {m:Mv} (ok:B0c l fr c) (q:C3t m l fr):mvR m (rwL (-1) l) fr=none:=by
 rcases q with q | ⟨path,sz,wd,out,bd,hp,e⟩
 ·exact B6k q
 ·rw [C2c ok hp,e];rfl
theorem C1y {l0 l:List Nd} {fr0 fr:Int} {c:Nat} {ms ns:List Mv} {m:Mv} (ok:B0c l fr c) (run:B0y (rwL (-1) l0) fr0 ms=some (rwL (-1) l,fr)) (q:C3t m l fr):B0y (rwL (-1) l0) fr0 (ms++m::ns)=none:=by
 rw [B0a,run];show B0y _ _ (m::ns)=none;rw [B0y,C5l ok q]
theorem D8v {l0 l:List Nd} {fr0 fr:Int} {c:Nat} {ms:List Mv} {m m2:Mv} (ok0:B0c l0 fr0 0) (ok:B0c l fr c) (run:B0y (rwL (-1) l0) fr0 ms=some (rwL (-1) l,fr)) (q:C3t m l fr):∀l' fr',¬B9c l0 fr0 (ms++[m]++[m2]) l' fr':=λl' fr' to=>by
 have h:=(to.ok ok0).2;rw [Z0z] at h;have:=C1y (ns:=[m2]) ok run q;rw [show [m]++[m2]=m::[m2] from rfl,this] at h;cases h
theorem D1w {l0 l:List Nd} {fr0 fr:Int} {ms:List Mv} {R:List Ro×Int} (ok0:B0c l0 fr0 0) (run:B0y (rwL (-1) l0) fr0 ms=some R) {j:Nat} {m:Mv} {l':List Nd} {fr':Int} (hm:ms[j]? =some m) (to:B9c l0 fr0 (ms.take j) l' fr') (q:C3t m l' fr'):False:=by
 have hj:j<ms.length:=(Z03.mp hm).1
 have e:ms=ms.take j++m::ms.drop (j+1):=by
  have h1:=Z2e j ms;rw [Z1u hj,(Z03.mp hm).2] at h1;exact h1.symm
 have:=to.refused (ns:=ms.drop (j+1)) ok0 q;rw [<-e,run] at this;cases this
theorem D9n {l0 l:List Nd} {fr0 fr:Int} {c:Nat} {ms:List Mv} {m m2:Mv} (ok0:B0c l0 fr0 0) (ok:B0c l fr c) (run:B0y (rwL (-1) l0) fr0 ms=some (rwL (-1) l,fr)) (q:C3t m l fr):∀(j:Nat) (m':Mv) (l':List Nd) (fr':Int),(ms++[m]++[m2])[j]? =some m'->B9c l0 fr0 ((ms++[m]++[m2]).take j) l' fr'->C3t m' l' fr'->(j:Int)=(ms.length:Int):=λj m' l' fr' hm to rf=>by
 rcases Nat.lt_trichotomy j ms.length with h | h | h
 ·exfalso;rw [Z0z,Z26 h] at hm;rw [Z0z,List.take_append_of_le_length (Nat.le_of_lt h)] at to;exact D1w (l:=l) (fr:=fr) ok0 run hm to rf
 ·rw [h]
 ·exfalso;have hl:j<(ms++[m]++[m2]).length:=(Z03.mp hm).1;simp only [Z06,Z0j] at hl;have ej:j=(ms++[m]).length:=by rw [Z06,Z0j];lia
  rw [ej,List.take_left'] at to
  ·have h:=(to.ok ok0).2;have:=C1y (ns:=[]) ok run q;rw [this] at h;cases h
  ·rfl
structure LI (A:Adr) (H5 X:Hp) (ad lv:Addr) (ak:List (Key×V)) (es:List (Str×List Str)) (xs:List V) (rows:List Rw) (n:Nat):Prop where
 sm:A0o H5 X
 had:X ad=some (.dK ak)
 hlv:X lv=some (.lst xs)
 ar:AR (λb=>b≠lv) X ak es
 l4:∀e∈es,e.2.length<=4
 le:es.length<=1+n
 lis:B2e A [lv] X xs (rows.take n)
section
variable {P:Program} {w:World} {K:PySem.W.Frag} {mg:Str->Option Value} {base:Heap} {t:Adr}
theorem D6j (T:Txt K mg t):A1y P w K mg base CX0 134 t.gJ t.gI ["_law_script"] (C9a K):=by
 have G_l_cell_at:=B1d (P:=P) (w:=w) (base:=base) T;have G_l_lines_by:=B5f (P:=P) (w:=w) (base:=base) T;have G_Line_init:=B6x (P:=P) (w:=w) (base:=base) T;have G_Number_init:=B3w (P:=P) (w:=w) (base:=base) T;have G_Cloth_init:=B5t (P:=P) (w:=w) (base:=base) T;have G_l_plan_by:=B8n (P:=P) (w:=w) (base:=base) T;have G_l_rows_of:=B7g (P:=P) (w:=w) (base:=base) T;have G_l_refused_at:=B2z (P:=P) (w:=w) (base:=base) T;have G_planned:=B4f (P:=P) (w:=w) (base:=base) T;have G_l_written:=B7v (P:=P) (w:=w) (base:=base) T;refine T.gY.ok A4t (λvs H Q E h=> ?_) (λcdv A outer s H vs Q E hr h=> ?_)
 ·obtain ⟨a,ns,rfl,_⟩:=h;rfl
 ·obtain ⟨a,ns,rfl,hS,l63,bits,k⟩:=h;have hu:=C6u hr
  refine ⟨_,(A0e (A0x (i:=1) A4t.nd rfl (Or.inl rfl) (A0j G_l_cell_at (hr.mono (by lia)) rfl T.aV T.aJ.kp T.aS .nil A1a (A0a (pv 0) (A0a A0f A0c))))
   (A0e (A0x (i:=2) A4t.nd rfl (Or.inl rfl) (A1h A6d (A2b (A0a A1r (A0a A1r (A0a A1r A0c)))) A2d (A1g (A0v A2a A0f (A0v A2s (pv 1) A0f)))))
   (A0e (A0x (i:=3) A4t.nd rfl (Or.inl rfl) C1w)
   (A0e (A3m PassesOwn.never rfl (A5s rfl T.bo (A0a (A0q A0p (by rfl) T.ai Z0r (A0a (pv 2) A0c)) A0c)) (A0k (i:=4) A4t.nd rfl (Or.inl rfl) (Or.inl rfl))
    (A0g (B5v hu (pv 3) (A1b A1f (pv 2) (pv 4) (λ_ _=>rfl)) (A0v A2a A0f (A0v A2s (A0v A3d (pv 1) (A1b A1f (A2b (A0a A0f (A0a A0f (A0a A0f A0c)))) (pv 4) (λ_ _=>rfl))) A0f)) rfl)))
   (A6j (A1m (A0w A3t (A0v A2s (A0v A3d (pv 1) A0f) A0f) A0f (A1c _))
    (A0g (B5v hu (pv 3) A1r (A0v A2a A0f (A0v A2s (A0v A3d (pv 1) A0f) A0f)) rfl))
    A0u)
   (A0e (A0x (i:=5) A4t.nd rfl (Or.inl rfl) (A0j G_l_lines_by (hr.mono (by lia)) rfl T.fM T.dD.kp T.fJ .nil A1a (A0a (A0v B2b (A2b (A0a (A0j G_l_cell_at (hr.mono (by lia)) rfl T.aV T.aJ.kp T.aS .nil A1a (A0a (pv 0) (A0a A0f A0c))) (A0a (A0j G_l_cell_at (hr.mono (by lia)) rfl T.aV T.aJ.kp T.aS .nil A1a (A0a (pv 0) (A0a A0f A0c))) A0c))) (A1h A6d (pv 0) (A1g A0f) (A1g A0f))) (A0a (pv 2) (A0a (pv 3) A0c)))))
   (A0e (A0x (i:=6) A4t.nd rfl (Or.inl rfl) (D3n (D0o A1r (A2b (A0a A1r A0c)) D2q) rfl rfl (by simp) (by decide)))
   (A0e (A0x (i:=7) A4t.nd rfl (Or.inl rfl) (A2b A0c))
   (A0e (A3m PassesOwn.never rfl (A5s rfl T.bo (A0a (A0q A0p (by rfl) T.ai Z0r (A0a (pv 5) A0c)) A0c)) (A0k (i:=4) A4t.nd rfl (Or.inl rfl) (Or.inl rfl))
    (A0e (B5v hu (pv 6) (A0v B4l A1r (A1u B1b (by rfl) T.gx PyProof.Rows.boot_str (A0a (pv 4) A0c))) (A1u A5n (by rfl) T.bI Z1o (A0a (A1b A1f (A1b A1f (pv 5) (pv 4) (λ_ _=>rfl)) A0f (λ_ _=>rfl)) A0c)) rfl)
    (A0g (A2r (A5t Z0k Z0n Z0o A1n (pv 7) (A0a (C0g T.gQ G_Line_init (hr.mono (by lia)) rfl T.gS T.fV .nil A1a (A0a (A0v B4l A1r (A1u B1b (by rfl) T.gx PyProof.Rows.boot_str (A0a (pv 4) A0c))) (A0a (A1u A5n (by rfl) T.bI Z1o (A0a (A1b A1f (A1b A1f (pv 5) (pv 4) (λ_ _=>rfl)) A0f (λ_ _=>rfl)) A0c)) (A0a (A1u A5n (by rfl) T.bI Z1o (A0a (A1b A1f (A1b A1f (pv 5) (pv 4) (λ_ _=>rfl)) A0f (λ_ _=>rfl)) A0c)) (A0a (C0g T.gA G_Number_init (hr.mono (by lia)) rfl T.gE T.fj .nil A1a (A0a (pv 4) A0c)) A0c))))) A0c))))))
   (A0e (A0x (i:=8) A4t.nd rfl (Or.inl rfl) (C0g T.gK G_Cloth_init (hr.mono (by lia)) rfl T.gM T.fG .nil A1a (A0a A0f (A0a (pv 3) (A0a (pv 6) (A0a (A2b (A0a A1r A0c)) (A0a (pv 7) (A0a (A2b (A0a A1r A0c)) A0c))))))))
   (A0e (A7f (A0j G_l_plan_by (hr.mono (by lia)) rfl T.fW T.eC.kp T.fY .nil A1a (A0a (pv 0) (A0a (A0j G_l_rows_of (hr.mono (by lia)) rfl T.ge T.eI.kp T.gb .nil A1a (A0a (pv 5) (A0a (pv 3) A0c))) A0c))) (A4y (n:=3) rfl (A0n (A0k (i:=9) A4t.nd rfl (Or.inl rfl) (Or.inl rfl)) (A0n (A0k (i:=10) A4t.nd rfl (Or.inl rfl) (Or.inl rfl)) (A0n (A0k (i:=11) A4t.nd rfl (Or.inl rfl) (Or.inl rfl)) A3e)))))
   (A0e (A3m PassesOwn.never rfl (A5s rfl T.bo (A0a A0f A0c)) (A0k (i:=12) A4t.nd rfl (Or.inl rfl) (Or.inl rfl))
    (A0e (A0x (i:=13) A4t.nd rfl (Or.inl rfl) (A1u A5n (by rfl) T.bI Z1o (A0a (pv 9) A0c)))
    (A6j (A1m (A0w D5s (pv 10) A6u (A1c _))
     (A0g (A1m (A5x (A2q (A0j G_l_refused_at (hr.mono (by lia)) rfl T.fc T.cB.kp T.eU .nil A1a (A0a (pv 8) (A0a (pv 13) (A0a (pv 11) A0c))))))
      (A0g (A0r B3s))
      A0u))
     (A0e (A0x (i:=14) A4t.nd rfl (Or.inl rfl) (A0j G_planned (hr.mono (by lia)) rfl T.fw T.d_.kp T.ft .nil D5l (A0a (pv 8) (A0a (pv 13) A0c))))
     (A0g (A1m (PW.pt (B0k (A0w (A9x hr.units) (A0j G_l_written (hr.mono (by lia)) rfl T.f_ T.eG.kp T.gj .nil A1a (A0a (pv 14) (A0a (A0q A0p (by rfl) T.ai Z0r (A0a (pv 10) A0c)) A0c))) (pv 10) (A1c _)) (A7p (A0w B1u (A1b A1e (pv 14) A0f (λ_ _=>rfl)) (pv 11) (A1c _)))))
      (A0g (A0r B3s))
      A0u))))
    (A0g (A1m (A0w (A9x hr.units) (pv 13) (pv 9) (A1c _))
     (A0g (A0r B3s))
     A0u)))))
   (A0g (A0r B3s)))))))))))))),?_⟩
  refine ⟨_,rfl,a,ns,0,rfl,hS,by decide,λhh=> ?_⟩;refine ⟨A0h (by simp),λl0 hl0=>⟨_,rfl,_,_,rfl,rfl,(by show (0:Int)<3;decide),_,_,rfl,rfl,_,rfl,l0,_,rfl,SqL.of A0b,λax hax=> ?_⟩⟩;obtain ⟨ya,ea,ly3,mya⟩:=C4w V.str [("p":Str),"pp","q"] none (some (1+hh%3));have ea:A2u [V.str "p",.str "pp",.str "q"] none (some (1+hh%3))=ya.map V.str:=ea;have ly3:ya.length<=3:=ly3;rw [show A2u [V.str "p",.str "pp",.str "q"] none (some (1+hh%3))=ya.map V.str from ea]
  have oka:OkS ya:=λy hy=>by
   have:=mya y hy;simp at this;rcases this with rfl | rfl | rfl <;> decide +kernel
  have s1:A0o H (upd (upd H l0 (.lst [.str "p",.str "pp",.str "q"])) ax (.lst (ya.map V.str))):=(A0d hl0).trans (A0d hax);have hax2:upd (upd H l0 (.lst [.str "p",.str "pp",.str "q"])) ax (.lst (ya.map V.str)) ax=some (.lst (ya.map V.str)):=A0b;generalize upd (upd H l0 (.lst [.str "p",.str "pp",.str "q"])) ax (.lst (ya.map V.str))=H2 at s1 hax2⊢;refine λld hld=> ?_;have s3:A0o H2 (upd H2 ld (.dK [])):=A0d hld;have hld3:upd H2 ld (.dK []) ld=some (.dK []):=A0b;generalize upd H2 ld (.dK [])=H3 at s3 hld3⊢;refine ⟨_,rfl,ax,_,rfl,.inl (SqL.of (s3 _ _ hax2)),_,rfl,by lia,by rw [Z08];lia,?_⟩
  refine A4p (n:=(ya.map V.str).length) (λi σ X=>∃(o4:Option V) (lk:List (Key×V)),σ=[some (.ref a),some (.int hh),some (.ref ax),some (.ref ld),o4,none,none,none,none,none,none,none,none,none,none]/\A0o H2 X/\X ld=some (.dK lk)/\lk.length<=i/\(∀p∈lk,∃n:Int,p.2= .int n/\1<=n/\n<=60)/\∀y∈ya.take i,(B0z lk (Sum.inr y)).isSome=true)
   ⟨none,[],rfl,s3,hld3,Z09 _,(by intro p hp;cases hp),by simp⟩ ?_ ?_
  ·rintro i σ X hi ⟨o4,lk,rfl,sx,h3,llk,vlk,klk⟩;rw [Z08] at hi;have hyi:ya[i]? =some ya[i]:=Z0b hi;have ey:atI (ya.map V.str) (0+(i:Int))=some (.str ya[i]):=by rw [Int.zero_add];exact A0i (by rw [Z1z,hyi];rfl)
   obtain ⟨d,ed,d1,d2⟩:∃d:Int,atI [V.int 3,.int 18,.int 108] (0+(i:Int))=some (.int d)/\0<d/\d<1073741824:=by
    rw [Int.zero_add]
    match i,(show i<3 by lia) with
    | 0,_=>exact ⟨3,rfl,by decide,by decide⟩
    | 1,_=>exact ⟨18,rfl,by decide,by decide⟩
    | 2,_=>exact ⟨108,rfl,by decide,by decide⟩
   have b5:0<=hh/d%6/\hh/d%6<6:=⟨Z1v _ (by decide),Z1p _ (by decide)⟩;have lput:=A5i lk (Sum.inr ya[i]) (V.int (1+hh/d%6));refine ⟨_,rfl,A0h (by simp),λz hz=>⟨_,rfl,z,_,_,_,rfl,rfl,SqL.of A0b,ed,_,_,rfl,rfl,⟨d1,d2⟩,_,_,rfl,rfl,(by show (0:Int)<6;decide),_,_,rfl,rfl,?_⟩⟩;have u1:A0o X (upd X z (.lst [.int 3,.int 18,.int 108])):=A0d hz;generalize upd X z (.lst [.int 3,.int 18,.int 108])=X1 at u1⊢;refine ⟨_,rfl,_,rfl,_,rfl,ax,_,_,_,rfl,rfl,SqL.of (u1 _ _ (sx _ _ hax2)),ey,ld,_,rfl,D1t.k (k:=Sum.inr ya[i]) (u1 _ _ h3) (A1o (by lia)),?_⟩;refine ⟨_,_,rfl,A0s (sx.trans u1) hld,A0b,Z1n lput (by lia),λp hp=> ?_,λy hy=> ?_⟩
   ·rcases C1i hp with hp | hp
    ·exact vlk p hp
    ·rw [hp];exact ⟨_,rfl,by lia,by lia⟩
   ·rw [C1o];split
    ·rfl
    ·rename_i hne;rw [Z14,hyi] at hy;rcases Z07.mp hy with hy | hy
     ·exact klk y hy
     ·exact absurd (by rw [show y=ya[i] by simpa using hy]) hne
  rintro σ H4a ⟨o4,lk0,rfl,s24a,hld4a,llk0,vlk0,klk0⟩;rw [Z08] at llk0 klk0;rw [Z18] at klk0;refine ⟨λσ X=>∃(lk:List (Key×V)),σ=[some (.ref a),some (.int hh),some (.ref ax),some (.ref ld),o4,none,none,none,none,none,none,none,none,none,none]/\A0o H2 X/\X ld=some (.dK lk)/\lk.length<=10/\(∀p∈lk,∃n:Int,p.2= .int n/\1<=n/\n<=60)/\∀y∈ya,(B0z lk (Sum.inr y)).isSome=true,?_,?_⟩
  ·refine ⟨_,rfl,_,_,rfl,rfl,⟨by decide,by decide⟩,_,_,rfl,rfl,(by show (0:Int)<4;decide),rfl,_,rfl,A9h (λ_=> ?_) (λ_=>⟨lk0,rfl,s24a,hld4a,by lia,vlk0,klk0⟩)⟩;have b60:0<=hh/648%60/\hh/648%60<60:=⟨Z1v _ (by decide),Z1p _ (by decide)⟩;have lput:=A5i lk0 (Sum.inr "p") (V.int (1+hh/648%60));refine ⟨_,rfl,_,_,rfl,rfl,⟨by decide,by decide⟩,_,_,rfl,rfl,(by show (0:Int)<60;decide),_,_,rfl,rfl,_,rfl,ld,_,rfl,D1t.k (k:=Sum.inr "p") hld4a (A1o (by lia)),?_⟩;refine ⟨_,rfl,A0s s24a hld,A0b,Z1n lput (by lia),λp hp=> ?_,λy hy=> ?_⟩
   ·rcases C1i hp with hp | hp
    ·exact vlk0 p hp
    ·rw [hp];exact ⟨_,rfl,by lia,by lia⟩
   ·rw [C1o];split
    ·rfl
    ·exact klk0 y hy
  rintro σ H4 ⟨lk,rfl,s24,hld4,llk,vlk,klk⟩;obtain ⟨is,il⟩:=D3f λp hp=>let ⟨n,e,_⟩:=vlk p hp;⟨n,e⟩
  have dk:D9u lk ya:=λy hy=>by
   obtain ⟨v,hv⟩:=Option.isSome_iff_exists.mp (klk y hy);obtain ⟨p,hp,_,e⟩:=D0e hv;obtain ⟨n,en,n1,n60⟩:=vlk p hp;exact ⟨n,by rw [hv,<-e,en],n1,n60⟩
  have s04:=s1.trans s24;have hax4:=s24 _ _ hax2;refine ⟨_,rfl,a,ns,2,rfl,s04.seq hS,by decide,λz1=>⟨_,rfl,a,ns,3,rfl,s04.seq hS,by decide,λz2=>⟨A0h (by simp),λc0 hc0=> ?_⟩⟩⟩;have t4:A0o H4 (upd H4 c0 (.lst [.int z1,.int z2])):=A0d hc0;have hc04:upd H4 c0 (.lst [.int z1,.int z2]) c0=some (.lst [.int z1,.int z2]):=A0b;generalize upd H4 c0 (.lst [.int z1,.int z2])=G4 at t4 hc04⊢;refine ⟨_,rfl,_,rfl,_,rfl,a,_,rfl,(s04.trans t4).seq hS,λc1 hc1=> ?_⟩;obtain ⟨cs,ecs,_,_⟩:=C4w V.int ns (some 4) (some 6)
  have lcs:cs.length<=2:=by
   have h1:=D4b (ns.map V.int) 4 6;have e:A2u (ns.map V.int) (some ((4:Nat):Int)) (some ((6:Nat):Int))=cs.map V.int:=ecs;rw [e,Z08] at h1
   lia
  rw [ecs];have t5:A0o G4 (upd G4 c1 (.lst (cs.map V.int))):=A0d hc1;have hc15:upd G4 c1 (.lst (cs.map V.int)) c1=some (.lst (cs.map V.int)):=A0b;generalize upd G4 c1 (.lst (cs.map V.int))=G5 at t5 hc15⊢;refine ⟨c0,c1,_,_,rfl,rfl,t5 _ _ hc04,hc15,A0h (by rw [Z08];simp;lia),λcl hcl=> ?_⟩;have ecl:[V.int z1,V.int z2]++cs.map V.int=(z1::z2::cs).map V.int:=rfl;rw [ecl];have t6:A0o G5 (upd G5 cl (.lst ((z1::z2::cs).map V.int))):=A0d hcl;have hcl6:upd G5 cl (.lst ((z1::z2::cs).map V.int)) cl=some (.lst ((z1::z2::cs).map V.int)):=A0b;generalize upd G5 cl (.lst ((z1::z2::cs).map V.int))=G6 at t6 hcl6⊢;have t46:=t4.trans (t5.trans t6);refine ⟨_,rfl,_,rfl,cl,ax,ld,z1::z2::cs,ya,lk,rfl,hcl6,by simp;lia,t46 _ _ hax4,ly3,oka,t46 _ _ hld4,dk,λsq sx rows H5 hsq0 u5 hsq sds tot lr few=> ?_⟩;have s45:=t46.trans u5;have s05:=s04.trans s45;have hld5:=s45 _ _ hld4;have lsx:=Paired.length sds;refine λad had=>⟨A0h (by simp),λl3 hl3=> ?_⟩;have adl3:ad≠l3:=λz=>by rw [<-z,A0b] at hl3;cases hl3
  refine ⟨by rw [A0l adl3];exact A0b,[(Sum.inr "t",.ref l3)],rfl,by simp,?_⟩;have sm0:A0o H5 (upd (upd (upd H5 ad (.dK [])) l3 (.lst [.str "p"])) ad (.dK (A9z [] [(Sum.inr "t",.ref l3)]))):=A0s ((A0d had).trans (A0d hl3)) had;have had0:upd (upd (upd H5 ad (.dK [])) l3 (.lst [.str "p"])) ad (.dK (A9z [] [(Sum.inr "t",.ref l3)])) ad=some (.dK [(Sum.inr "t",.ref l3)]):=A0b;have ar0:AR (λ_=>True) (upd (upd (upd H5 ad (.dK [])) l3 (.lst [.str "p"])) ad (.dK (A9z [] [(Sum.inr "t",.ref l3)]))) [(Sum.inr "t",.ref l3)] [("t",["p"])]:= .cons ⟨rfl,l3,rfl,True.intro,by rw [A0l adl3.symm];exact A0b⟩ .nil;generalize upd (upd (upd H5 ad (.dK [])) l3 (.lst [.str "p"])) ad (.dK (A9z [] [(Sum.inr "t",.ref l3)]))=G0 at sm0 had0 ar0⊢;refine ⟨A0h (by simp),λlv hlv=> ?_⟩;have t1:A0o G0 (upd G0 lv (.lst [])):=A0d hlv;have hlv1:upd G0 lv (.lst []) lv=some (.lst []):=A0b;have lv5:H5 lv=none:=sm0.free hlv;have ar1:AR (λb=>b≠lv) (upd G0 lv (.lst [])) [(Sum.inr "t",.ref l3)] [("t",["p"])]:=ar0.imp λb xs _ e=>⟨A0t e hlv,t1 _ _ e⟩;have adlv:ad≠lv:=A0t had0 hlv;generalize upd G0 lv (.lst [])=G1 at t1 hlv1 ar1⊢;refine ⟨_,rfl,sq,_,rfl,.inl (SqL.of ((sm0.trans t1) _ _ hsq)),_,rfl,by lia,by lia,?_⟩
  refine A4p (n:=sx.length) (λi σ X=>∃(o4:Option V) (ak:List (Key×V)) (es:List (Str×List Str)) (xs:List V),σ=[some (.ref a),some (.int hh),some (.ref ax),some (.ref ld),o4,some (.ref sq),some (.ref ad),some (.ref lv),none,none,none,none,none,none,none]/\LI t H5 X ad lv ak es xs rows i)
   ⟨_,_,_,[],rfl,⟨sm0.trans t1,t1 _ _ had0,hlv1,ar1,(by intro e he;rw [Z0w.mp he];simp),by simp,by rw [List.take_zero];exact .nil⟩⟩ ?_ ?_
  ·rintro i σ X hi ⟨o4',ak,es,xs,rfl,I⟩;rw [Int.zero_add];have hxi:sx[i]? =some sx[i]:=Z0b hi;obtain ⟨e,he,b,O,S,ex,hb,hO,hS'⟩:=B1k sds hxi;rw [ex] at hxi;have hem:=Z13 he;obtain ⟨okr,zo,zs,okO,okS⟩:=tot e hem;have e3:=few e hem;have lo:=okr.lo;have ls:=okr.ls;have lxs:=Paired.length I.lis;have lak:=Paired.length I.ar;have lle:=I.le;rw [Z0x] at lxs;have snk:=C9b ⟨i,by lia⟩;dsimp only at snk;obtain ⟨okn',_,lg,ls'⟩:=snk;have sm:=I.sm;refine ⟨_,rfl,_,rfl,sq,_,_,_,rfl,rfl,SqL.of (sm _ _ hsq),A0i hxi,b,_,_,_,rfl,rfl,SqL.of (sm _ _ hb),A0i (j:=0) rfl,O,_,rfl,.inl (SqL.of (sm _ _ hO)),λl1 hl1=> ?_⟩;have v1:A0o X (upd X l1 (.lst (e.own.map V.str))):=A0d hl1;have hl1':upd X l1 (.lst (e.own.map V.str)) l1=some (.lst (e.own.map V.str)):=A0b;have nl1:l1≠lv:=λz=>by rw [z,I.hlv] at hl1;cases hl1
   generalize upd X l1 (.lst (e.own.map V.str))=X1 at v1 hl1'⊢;refine ⟨_,rfl,_,rfl,_,rfl,lg,_,_,rfl,rfl,A0h (by lia),ad,_,rfl,D1t.k (k:=Sum.inr (B2m i)) (v1 _ _ I.had) (A1o (by lia)),?_⟩;obtain ⟨es',ar',m',le'⟩:=D5h (x:=B2m i) (l:=l1) (ys:=e.own) nl1 hl1' (I.ar.same v1);have had1:=v1 _ _ I.had;have k3:KB ad X1 (upd X1 ad (.dK (B0b ak (Sum.inr (B2m i)) (.ref l1)))):=KB.refl.upd;have had6:upd X1 ad (.dK (B0b ak (Sum.inr (B2m i)) (.ref l1))) ad=some (.dK (B0b ak (Sum.inr (B2m i)) (.ref l1))):=A0b;have sm6:A0o H5 (upd X1 ad (.dK (B0b ak (Sum.inr (B2m i)) (.ref l1)))):=A0s (sm.trans v1) had;generalize upd X1 ad (.dK (B0b ak (Sum.inr (B2m i)) (.ref l1)))=Y6 at k3 had6 sm6⊢;have l56:∀{b:Addr} {zs:List V},X1 b=some (.lst zs)->Y6 b=some (.lst zs):=λz=>k3 _ _ (A7s z had1 (by intro w;cases w)) z;have hlv6:=l56 (v1 _ _ I.hlv);refine ⟨_,rfl,.inl ⟨rfl,_,SqL.of hlv6⟩,_,rfl,_,rfl,lg,_,_,rfl,rfl,A0h (by lia),_,rfl,_,rfl,sq,_,_,_,rfl,rfl,SqL.of (sm6 _ _ hsq),A0i hxi,b,_,_,_,rfl,rfl,SqL.of (sm6 _ _ hb),A0i (j:=0) rfl,O,_,rfl,.inl (SqL.of (sm6 _ _ hO)),λp1 hp1=> ?_⟩;have v2:A0o Y6 (upd Y6 p1 (.lst (e.own.map V.str))):=A0d hp1;have hp1':upd Y6 p1 (.lst (e.own.map V.str)) p1=some (.lst (e.own.map V.str)):=A0b;generalize upd Y6 p1 (.lst (e.own.map V.str))=Y7 at v2 hp1'⊢;have sm7:=sm6.trans v2;refine ⟨_,rfl,_,rfl,sq,_,_,_,rfl,rfl,SqL.of (sm7 _ _ hsq),A0i hxi,b,_,_,_,rfl,rfl,SqL.of (sm7 _ _ hb),A0i (j:=1) rfl,S,_,rfl,.inl (SqL.of (sm7 _ _ hS')),λp2 hp2=> ?_⟩;have v3:A0o Y7 (upd Y7 p2 (.lst (e.sums.map V.str))):=A0d hp2;have hp2':upd Y7 p2 (.lst (e.sums.map V.str)) p2=some (.lst (e.sums.map V.str)):=A0b;generalize upd Y7 p2 (.lst (e.sums.map V.str))=Y7b at v3 hp2'⊢;refine ⟨_,rfl,λnx ndx hnx hndx hne1=>⟨nx,_,ndx,_,rfl,A0b,T.gB,T.dM,rfl,?_⟩⟩;have u3:A0o Y7b (upd (upd (upd Y7b ndx (.own nx)) nx (.ins t.aL ndx [])) nx (.ins t.aL ndx [("number",.int (i:Int))])):=C5p hnx hndx;generalize upd (upd (upd Y7b ndx (.own nx)) nx (.ins t.aL ndx [])) nx (.ins t.aL ndx [("number",.int (i:Int))])=Y8 at u3⊢;refine λx dx hx' hdx hne2=> ?_;have u4:A0o Y8 (upd (upd Y8 dx (.own x)) x (.ins t.ao dx [])):=A0s (A0d hdx) hx';have g9x:upd (upd Y8 dx (.own x)) x (.ins t.ao dx []) x=some (.ins t.ao dx []):=A0b;generalize upd (upd Y8 dx (.own x)) x (.ins t.ao dx [])=Y9 at u4 g9x⊢;refine ⟨x,dx,p1,p2,.ref nx,B2m i,e.own,e.sums,rfl,g9x,(v3.trans (u3.trans u4)) _ _ hp1',(u3.trans u4) _ _ hp2',by lia,by lia,λcc cu Ga hc0' hu0' hxA hccA hcuA kba=>⟨rfl,?_⟩⟩;have u69:A0o Y6 Y9:=v2.trans (v3.trans (u3.trans u4));have u6a:A0o Y6 Ga:=v2.trans (v3.trans (u3.trans (KB.same u4 kba hx')));have hlva:=u6a _ _ hlv6;refine ⟨lv,_,_,rfl,rfl,hlva,A1o (by lia),?_⟩;have k9:KB lv Ga (upd Ga lv (.lst (xs++[.ref x]))):=KB.refl.upd;have hlvb:upd Ga lv (.lst (xs++[.ref x])) lv=some (.lst (xs++[.ref x])):=A0b;have smb:A0o H5 (upd Ga lv (.lst (xs++[.ref x]))):=A0s (sm6.trans u6a) lv5;generalize upd Ga lv (.lst (xs++[.ref x]))=Gb at k9 hlvb smb⊢
   have fresh9:∀{b:Addr},Y9 b=none->b∉[lv]:=λz m=>by
    rw [Z0w.mp m,u69 _ _ hlv6] at z;cases z
   have nin:∀{b:Addr},b∉[lv]->b≠lv:=λm z=>m (by rw [z];simp);refine ⟨_,_,es',xs++[.ref x],rfl,⟨smb,k9 _ _ adlv (u6a _ _ had6),hlvb,ar'.imp λb zs n z=>⟨n,k9 _ _ n (u6a _ _ (l56 z))⟩,λe' he'=> ?_,by lia,?_⟩⟩
   ·rcases m' e' he' with he' | he'
    ·exact I.l4 e' he'
    ·rw [he'];show e.own.length<=4;lia
   ·rw [Z14,he,Option.toList_some];refine B1g (Paired.mapP I.lis λ_ _ z=>(z.same v1).imp (λb C d fs y=> ?_) λb zs n y=>⟨n,k9 _ _ (nin n) (u6a _ _ (l56 y))⟩) (.cons ⟨x,dx,cc,cu,.ref nx,B2m i,rfl,k9 _ _ (A7s hxA hlva (by intro z;cases z)) hxA,fresh9 hc0',k9 _ _ (nin (fresh9 hc0')) hccA,fresh9 hu0',k9 _ _ (nin (fresh9 hu0')) hcuA⟩ .nil);have z6:=k3 _ _ (A7s y had1 (by intro w;cases w)) y;have z7:=u6a _ _ z6;exact k9 _ _ (A7s z7 hlva (by intro w;cases w)) z7
  rintro σ X ⟨o4',ak,es,xs,rfl,I⟩;have lis:=I.lis;rw [lsx,Z18] at lis;have lxs:=Paired.length lis;have lak:=Paired.length I.ar;have lle:=I.le;refine ⟨_,rfl,_,rfl,A0h (by simp),λtl htl=> ?_⟩;have v1:A0o X (upd X tl (.lst [.str "t"])):=A0d htl;have htl1:upd X tl (.lst [.str "t"]) tl=some (.lst (([("t":Str)]).map V.str)):=A0b;generalize upd X tl (.lst [.str "t"])=X1 at v1 htl1⊢;refine ⟨_,rfl,A0h (by simp),λol hol=> ?_⟩;have v2:A0o X1 (upd X1 ol (.lst [.str "t"])):=A0d hol;have hol2:upd X1 ol (.lst [.str "t"]) ol=some (.lst (([("t":Str)]).map V.str)):=A0b;generalize upd X1 ol (.lst [.str "t"])=X2 at v2 hol2⊢;refine λp dx hp hdx hne=> ?_;have v3:A0o X2 (upd (upd X2 dx (.own p)) p (.ins t.af dx [])):=A0s (A0d hdx) hp;have hcp:upd (upd X2 dx (.own p)) p (.ins t.af dx []) p=some (.ins t.af dx []):=A0b;generalize upd (upd X2 dx (.own p)) p (.ins t.af dx [])=X3 at v3 hcp⊢;have v03:=v1.trans (v2.trans v3);refine ⟨p,dx,ld,ad,tl,lv,ol,97,lk,ak,is,es,["t"],["t"],xs,_,rfl,hcp,v03 _ _ (I.sm _ _ hld5),il,by lia,v03 _ _ I.had,I.ar.same v03,by lia,(λe he=>by have:=I.l4 e he;lia),(v2.trans v3) _ _ htl1,by simp,v03 _ _ I.hlv,by lia,λx hx=> ?_,v3 _ _ hol2,by simp,λl' a' t' v' o' ak' Gc hp9 nl' hl9 na' ha9 ar9 nt' ht9 nv' hv9 no' ho9 kb9=>⟨rfl,?_⟩⟩
  ·obtain ⟨j,hj⟩:=List.getElem?_of_mem hx;obtain ⟨e,_,x0,d0,_,_,_,_,rfl,e0,_⟩:=B1k lis hj;exact ⟨x0,d0,_,rfl,(λz=>by rw [z] at e0;rw [(v1.trans v2) _ _ e0] at hp;cases hp),v03 _ _ e0⟩
  have v2c:A0o X2 Gc:=KB.same v3 kb9 hp;have v0c:=v1.trans (v2.trans v2c);have s5c:=I.sm.trans v0c;have lisc:B2e t [lv] Gc xs rows:=Paired.mapP lis λ_ _ z=>z.same v0c;have okr:∀e∈rows,(∀n∈e.so,1<=n/\n<=60)/\(∀n∈e.ss,1<=n/\n<=60)/\e.so.length+e.ss.length<=3:=λe he=>⟨(tot e he).1.go.pos,(tot e he).1.gs.pos,few e he⟩;obtain ⟨ok0,_⟩:=B5m okr lr rows.length (Z09 _);have nl:=B4s rows rows.length;refine ⟨_,rfl,_,rfl,_,rfl,sq,ld,sx,rows,lk,rfl,s5c _ _ hsq,Paired.mapP sds (λ_ _ z=>z.same s5c),s5c _ _ hld5,tot,lr,few,λD ys W1 hD w1 hDw ros=> ?_⟩;refine ⟨a,D,ns,ys,A2h rows rows.length,frM rows rows.length,rfl,(s05.trans (s5c.trans w1)).seq hS,l63,bits,hDw,ros,ok0,nl.symm,λr ml q W2 ds vm l fr ms w2 hrw hml mvs l24 hq rosq ok run=> ?_,λr ml W2 vm l fr ms m w2 hrw hml mvs l24 ok run rf=> ?_⟩
  ·refine ⟨r,_,rfl,SqT.of hrw,rfl,_,_,rfl,_,_,rfl,_,_,rfl,rfl,?_⟩;have wc2:=w1.trans w2;have ldq:=Paired.length rosq;have rlq:=ok.rl;refine ⟨_,rfl,by decide,by decide,?_⟩;refine A4p (n:=2) (λi σ Z=>∃(o12 o13 o14:Option V),σ=[some (.ref a),some (.int hh),some (.ref ax),some (.ref ld),o4',some (.ref sq),some (.ref ad),some (.ref lv),some (.ref p),some (.ref ml),some (.ref q),some (.int fr),o12,o13,o14]/\A0o W2 Z) ⟨none,none,none,rfl,A0o.refl _⟩ ?_ ?_
   ·rintro i σ Z hi ⟨o12,o13,o14,rfl,sZ⟩;refine ⟨_,rfl,ml,_,rfl,.inl (SqL.of (sZ _ _ hml)),λhd hhd=> ?_⟩;have x1:A0o Z (upd Z hd (.lst vm)):=A0d hhd;have hhd1:upd Z hd (.lst vm) hd=some (.lst vm):=A0b;generalize upd Z hd (.lst vm)=Z1 at x1 hhd1⊢;have sZ1:=sZ.trans x1;have sc1:=wc2.trans sZ1;refine ⟨λσ Y=>∃(o14:Option V),σ=[some (.ref a),some (.int hh),some (.ref ax),some (.ref ld),o4',some (.ref sq),some (.ref ad),some (.ref lv),some (.ref p),some (.ref ml),some (.ref q),some (.int fr),some (.int (0+(i:Int))),some (.ref hd),o14]/\A0o Z1 Y,?_,?_⟩
    ·refine ⟨_,rfl,rfl,_,rfl,A3l rfl ?_⟩;refine ⟨_,rfl,_,rfl,p,hd,dx,l',a',t',v',o',97,lk,xs,vm,_,rows,ms,rfl,sc1 _ _ hp9,sc1 _ _ hl9,sc1 _ _ hv9,Paired.mapP lisc (λ_ _ z=>z.same sc1),tot,lr,few,hhd1,mvs.same sZ1,by lia,λr2 tp2 ns2 l2 fr2 Z2 to x2 hr2 htp2 nd2=> ?_,λj m l2 fr2 dx2 Z2 hm to rf _ _=>(D1w (l:=l) (fr:=fr) ok0 run hm to rf).elim⟩;obtain ⟨ok2,run2⟩:=to.ok ok0;rw [run] at run2;have er:rwL (-1) l=rwL (-1) l2:=(congrArg Prod.fst (Z1a run2));have ef:fr=fr2:=(congrArg Prod.snd (Z1a run2));subst ef;have rok:∀r∈rwL (-1) l2,D4d r:=λr hr=>(ok2.ro r hr).ok;have hqZ:Z2 q=some (.lst ds):=x2 _ _ (sZ1 _ _ hq);have rdG:A3n Z2 ds (rwL (-1) l2):=by rw [<-er];exact rosq.kt (KT.same (sZ1.trans x2))
     have lt:=C1f l2 (-1);have lx2:=nd2.len;have dp:=ok2.dp;rw [Nat.zero_add] at dp;have lm:((rwL (-1) l2).map C2w).length=(rwL (-1) l2).length:=Z08 _;rw [er] at ldq rlq;refine ⟨_,rfl,_,rfl,q,_,rfl,.inl (SqL.of hqZ),r2,tp2,_,ns2,C5y l2,(rwL (-1) l2).map C2w,?_,hr2,htp2,B9u nd2,D8g l2 (-1),(D8r l2 (-1) rok).le (by lia),by lia,by lia,λD9 ys9 Z4 hD9 x4 hy9 rep9=> ?_⟩
     ·show [V.ref r2,V.int ((ds.length:Nat):Int)]=[V.ref r2,V.int ((((rwL (-1) l2).map C2w).length:Nat):Int)];rw [lm,ldq]
     have clay:PyData.canLay0 (.list ((rwL (-1) l2).map C2w))=true:=by simp only [PyData.canLay0];exact (B1m rok).1
     refine ⟨_,rfl,.list ((rwL (-1) l2).map C2w),.list ((rwL (-1) l2).map C2w),.lst hy9 (rep9.same (A7e _)),C5t (x4 _ _ hqZ) (rdG.kt (KT.same x4)),B0n rok,B0n rok,_,rfl,?_⟩;rw [SeqAt.eqv_refl _ clay];refine A6q ?_;refine ⟨_,rfl,r2,_,_,_,rfl,rfl,SqT.of (x4 _ _ hr2),A0i (j:=0) rfl,_,rfl,rfl,_,rfl,C5w rfl ?_⟩;exact ⟨_,rfl,x2.trans x4⟩
    rintro σ Y ⟨o14',rfl,sY⟩;have clay:PyData.canLay0 (.list (ms.map B1i))=true:=by simp only [PyData.canLay0];exact (B8a ms).1
    have shp:SeqAt.shaped (.list (ms.map B1i))=true:=A9w (B8a ms) (by decide);refine ⟨_,rfl,_,rfl,.list (ms.map B1i),.list (ms.map B1i),.lst (sY _ _ hhd1) (B2u (mvs.same (sZ1.trans sY))),.lst ((sZ1.trans sY) _ _ hml) (B2u (mvs.same (sZ1.trans sY))),shp,shp,_,rfl,?_⟩;rw [SeqAt.eqv_refl _ clay];exact A6q ⟨_,_,_,rfl,sZ1.trans sY⟩
   ·rintro σ Z ⟨o12,o13,o14,rfl,sZ⟩;exact k _
  ·refine ⟨r,_,rfl,SqT.of hrw,rfl,_,_,rfl,_,_,rfl,_,_,rfl,rfl,?_⟩;have wc2:=w1.trans w2;refine ⟨_,rfl,by decide,by decide,?_⟩;refine A4p (n:=2) (λi σ Z=>∃(o12 o13 o14:Option V),σ=[some (.ref a),some (.int hh),some (.ref ax),some (.ref ld),o4',some (.ref sq),some (.ref ad),some (.ref lv),some (.ref p),some (.ref ml),some .non,some (.int (ms.length:Int)),o12,o13,o14]/\A0o W2 Z) ⟨none,none,none,rfl,A0o.refl _⟩ ?_ ?_
   ·rintro i σ Z hi ⟨o12,o13,o14,rfl,sZ⟩;refine ⟨_,rfl,ml,_,rfl,.inl (SqL.of (sZ _ _ hml)),λhd hhd=> ?_⟩;have x1:A0o Z (upd Z hd (.lst vm)):=A0d hhd;have hhd1:upd Z hd (.lst vm) hd=some (.lst vm):=A0b;generalize upd Z hd (.lst vm)=Z1 at x1 hhd1⊢;have sZ1:=sZ.trans x1;have sc1:=wc2.trans sZ1;have lms:(ms++[m]++[Mv.cut 0 2]).length<=26:=by simp only [Z06,Z0j];lia
    refine ⟨λσ Y=>σ=[some (.ref a),some (.int hh),some (.ref ax),some (.ref ld),o4',some (.ref sq),some (.ref ad),some (.ref lv),some (.ref p),some (.ref ml),some .non,some (.int (ms.length:Int)),some (.int (0+(i:Int))),some (.ref hd),o14]/\A0o Z1 Y,?_,?_⟩
    ·refine ⟨_,rfl,rfl,_,rfl,A2c rfl ?_⟩;exact ⟨_,rfl,_,rfl,_,rfl,p,hd,dx,l',a',t',v',o',97,_,lk,xs,vm,_,rows,ms++[m]++[.cut 0 2],rfl,sc1 _ _ hp9,sc1 _ _ hl9,sc1 _ _ hv9,Paired.mapP lisc (λ_ _ z=>z.same sc1),tot,lr,few,hhd1,mvs.same sZ1,lms,D8v ok0 ok run rf,D9n ok0 ok run rf,λZ2 x2=>⟨true,rfl,A6q ⟨rfl,x2⟩⟩⟩
    rintro σ Y ⟨rfl,sY⟩;have clay:PyData.canLay0 (.list ((ms++[m]++[Mv.cut 0 2]).map B1i))=true:=by simp only [PyData.canLay0];exact (B8a _).1
    have shp:SeqAt.shaped (.list ((ms++[m]++[Mv.cut 0 2]).map B1i))=true:=A9w (B8a _) (by decide);refine ⟨_,rfl,_,rfl,_,_,.lst (sY _ _ hhd1) (B2u (mvs.same (sZ1.trans sY))),.lst ((sZ1.trans sY) _ _ hml) (B2u (mvs.same (sZ1.trans sY))),shp,shp,_,rfl,?_⟩;rw [SeqAt.eqv_refl _ clay];exact A6q ⟨_,_,_,rfl,sZ1.trans sY⟩
   ·rintro σ Z ⟨o12,o13,o14,rfl,sZ⟩;exact k _
end
end My
namespace PySem.W.Fast
def tw11970260200228316767:=()
def tw11169827319386362953:=()
def tw2346407749464312608:=()
def tw6072582625884483684:=()
def tw14933357071283462074:=()
def tw17189505143607483883:=()
def tw13065467323774486574:=()
def tw1269920714466235026:=()
def tw622806424898636236:=()
def tw2240009814647308189:=()
def tw16062944413879438884:=()
def tw11377060683863291455:=()
def tw17434900273522306530:=()
def tw14094113655302959611:=()
def tw10692385641425178781:=()
def tw9857702507797815747:=()
def tw10438161347247332069:=()
def tw14992175857140361007:=()
def tw1622863081023832130:=()
def tw7958367027275379476:=()
def tw17906885633639194178:=()
def tw13673133477986284223:=()
def tw7123280946759775586:=()
def tw12594159263028665974:=()
def tw11820740164315139855:=()
def tw7480536370133727293:=()
def tw11497308648551858551:=()
def tw16725537926357490883:=()
def tw13432547742383134314:=()
def tw5589077806635870808:=()
def tw18153953251896456033:=()
def tw16011364488310848889:=()
def tw11772555367534235292:=()
def tw656392121921144656:=()
def tw13658984278594554980:=()
def tw9867856340507973552:=()
def tw13895740038245055917:=()
def tw3935419692852769414:=()
def tw15997270516493729742:=()
def tw15585809618296036352:=()
def tw14812087047528718866:=()
def tw15593705807392738197:=()
def tw13311393093220774564:=()
def tw5554797835335751251:=()
def tw17123123495871421739:=()
def tw2288777283592927667:=()
def tw5407998008435571395:=()
def tw8839976277378493750:=()
def tw18322571138712155902:=()
def tw10166546273329472937:=()
def tw14969178063649786401:=()
def tw11917085776651244737:=()
def tw5139866948786148983:=()
def tw16534938233920639659:=()
def tw2956128358779388613:=()
def tw8455131235104544671:=()
def tw18241978485476757262:=()
def tw10683841295226756155:=()
def tw4576168242635876850:=()
def tw910189880529667907:=()
def tw4301521448515914782:=()
def tw8754715510905993284:=()
def tw15644439788113283006:=()
def tw6471176714734568839:=()
def tw10296751541959481311:=()
def tw1692240769193771043:=()
def tw16207136820783589740:=()
def tw12466747996075856820:=()
def tw10023111098879168876:=()
def tw18153841421170466476:=()
def tw6890476046143681013:=()
def tw9703663448734197870:=()
def tw9136949978365927975:=()
def tw5762031138843208189:=()
def tw17994686857408406208:=()
def tw1531005795701268698:=()
def tw9152372818379249352:=()
def tw7686577386560089799:=()
def tw7960686691009698694:=()
def tw12125440038442183859:=()
def tw3358988769860743592:=()
def tw1531679510132348084:=()
def tw10031905718430300182:=()
def tw12312567916348201081:=()
def tw16995207017547522201:=()
def tw13411118527918382689:=()
def tw15660917766779903617:=()
def tw4398257314981730620:=()
def tw17977369044156549172:=()
def tw6801104993209546646:=()
def tw11980548416971503563:=()
def tw5016702929519154260:=()
def tw7410797851649349881:=()
def tw15645723552083307586:=()
def tw11693963559047164742:=()
def tw4427334428161383650:=()
def tw4292438508445521349:=()
def tw11237757019136676385:=()
def tw17964801755245057875:=()
def tw15309806470643800523:=()
def tw11737602140807381186:=()
def tw15300887897195461201:=()
def tw4386175963717037141:=()
def tw5581963717739084076:=()
def tw16593192741835750865:=()
def tw1489742420106659498:=()
def tw5477902478533836157:=()
def tw2726891596779274966:=()
def tw7080215791252034658:=()
def tw16263899185632668150:=()
def tw14487136900014849789:=()
def tw17019246226724018286:=()
def tw5768141346944689289:=()
def tw11763492198462541616:=()
def tw1394620081564933956:=()
def tw18279433298355380348:=()
def tw13254727805478730479:=()
def tw14124504261987032269:=()
def tw11092343726791322230:=()
def tw8691116094465279008:=()
def tw10688460172635802394:=()
def tw4671862790880319914:=()
def tw3375671413583188022:=()
def tw11266183410424335971:=()
def tw10672723115815447487:=()
def tw3746547047905858639:=()
def tw13490227838237404150:=()
def tw14067420743079858049:=()
def tw6738440980063819682:=()
def tw7307918097889909975:=()
def tw1615692987943269124:=()
def tw17609639933311584917:=()
def tw16988221237323167372:=()
def tw13819351516248276929:=()
def tw10464268681432414220:=()
def tw4831322075274996912:=()
def tw12475688305434786580:=()
def tw4970955003425674321:=()
def tw251407579087617925:=()
def tw15621252527329293067:=()
def tw13044342369305281888:=()
def tw3728278074304312324:=()
def tw15291517379467584827:=()
def tw3571182348979827018:=()
def tw3776647678492039423:=()
def tw8567688709539293786:=()
def tw4095167053577814691:=()
def tw16141062788074895025:=()
def tw16402691101236217699:=()
def tw4095518385469607444:=()
def tw7267096499700549874:=()
def tw12109452960470703872:=()
def tw2117641188268675845:=()
def tw9825051737792899128:=()
def tw8023054474514961125:=()
def tw11913098215586062256:=()
def tw4547566872577685093:=()
def tw922038095743160224:=()
def tw12376645863217847259:=()
def tw13810790696272394781:=()
def tw10443851854691823765:=()
def tw16832815846986251467:=()
def tw8412715247049952745:=()
def tw10757512832036478585:=()
def tw12654030294967594415:=()
def tw15283722108166144568:=()
def tw2369269073884149878:=()
def tw11055601508039157996:=()
def tw12735509890976323552:=()
def tw14281050347198169141:=()
def tw2890929537597459606:=()
def tw3221759281747856843:=()
def tw15977337713297956857:=()
def tw12644508167065898336:=()
def tw294879574754956575:=()
def tw15709655391145993603:=()
def tw6302294696499994701:=()
def tw10716871355528750484:=()
def tw16190379707193394395:=()
def tw14406360275658516273:=()
def tw9083607799716309397:=()
def tw16546984857933954892:=()
def tw15503702261299082514:=()
def tw5637461001166884639:=()
def tw533791145189348943:=()
def tw7071804250471216116:=()
def tw5751055492733531882:=()
def tw12363952572361103552:=()
def tw11913115357893084361:=()
def tw3542423733084818864:=()
def tw11886341893164319720:=()
def tw13809850455854153716:=()
def tw5900877952054174539:=()
def tw3984454848166437780:=()
def tw17132062984428519134:=()
def tw5051713886224288129:=()
def tw2626759041270691098:=()
def tw14905867160284619511:=()
def tw15106483952652518822:=()
def tw12922175621891732812:=()
def tw1888831502557733283:=()
def tw1416870087736804226:=()
def tw6501447852747641977:=()
def tw6087423341176215294:=()
def tw15329306398693726124:=()
def tw14806033293179936956:=()
def tw7841207191022320177:=()
def tw8285757209681903520:=()
def tw13749241835903039617:=()
def tw17949806570843417468:=()
def tw9585040217482425925:=()
def tw4375641462288719115:=()
def tw16667044906784678432:=()
def tw13542579472919894119:=()
def tw11060687674373908866:=()
def tw13173640149257220347:=()
def tw17378538782118181812:=()
def tw16044655029912595033:=()
def tw14425318970042355405:=()
def tw16736236167829426432:=()
def tw5085162840294115748:=()
def tw16183437683621515912:=()
def tw8641187061194811062:=()
def tw11405831644492128818:=()
def tw4545505978538515410:=()
def tw8919615517027340982:=()
def tw3796357452980923139:=()
def tw123921246291442074:=()
def tw8978147413995720661:=()
def tw4561577134428116359:=()
def tw1200066676614463655:=()
def tw18295678023241789213:=()
def tw527616927084379936:=()
def tw4585177619016633536:=()
def tw697555878096666836:=()
def tw7528454427020459672:=()
def tw8838933103283803341:=()
def tw12260160544428837955:=()
def tw2896826106357532849:=()
def tw12604025491804475520:=()
def tw12243142290496184749:=()
def tw16336781658323308064:=()
def tw10029194539453805065:=()
def tw6267955657152534273:=()
def tw16259512059947230395:=()
def tw9208224896791027700:=()
def tw1716825001515132509:=()
def tw6213178786638493997:=()
def tw17186699464284242690:=()
def tw12916590260406396188:=()
def tw5332365250805537882:=()
def tw7764134925942298393:=()
def tw3528345727499163828:=()
def tw4109849046432820085:=()
def tw16707244458629455015:=()
def tw711707268688213469:=()
def tw11505333350767549978:=()
def tw17581122382825198351:=()
def tw12183762211978008076:=()
def tw9083571063866752725:=()
def tw595094292353736519:=()
def tw12506478230951717300:=()
def tw11945811316364319901:=()
def tw4224092721196542484:=()
def tw5927333616189634121:=()
def tw8477589822933343114:=()
def tw6811990531526764819:=()
def tw15889182311695379135:=()
def tw7303977621589202491:=()
end PySem.W.Fast
namespace My
open PySem L2
abbrev LkF (K:PySem.W.Frag) (x q:Str) (st:Stmt) (f:Addr):Prop:=∃(oc:Value) (od:Option Addr) (kV dc pm:Value) (an:Option Addr) (cd ct:Value) (sl:Array (Option Value)),K.lookup f=some ⟨oc,od,.func (PySem.W.fnOf x q (A8t st) (A5g st) (A0m st) .none kV dc pm an cd ct),sl⟩/\PySem.W.codeIn K cd q=true/\PySem.W.keepIn K (.ref f)=true
theorem D6c {K:PySem.W.Frag} {x q:Str} {st:Stmt} {f:Addr} {oc:Value} {od:Option Addr} {kV dc pm:Value} {an:Option Addr} {cd ct:Value} {sl:Array (Option Value)} (l:K.lookup f=some ⟨oc,od,.func (PySem.W.fnOf x q (A8t st) (A5g st) (A0m st) .none kV dc pm an cd ct),sl⟩) (c:PySem.W.codeIn K cd q=true) (k:PySem.W.keepIn K (.ref f)=true):LkF K x q st f:=⟨_,_,_,_,_,_,_,_,_,l,c,k⟩
theorem A2e {K:PySem.W.Frag} {x q:Str} {st:Stmt} {f:Addr} {ps:List Str} (l:LkF K x q st f) (h:∀(kV doc pm:Value) (an:Option Addr) (cdv ct:Value) (us:List Value),us.length=ps.length->bindArgs (PySem.W.fnOf x q (A8t st) (A5g st) (A0m st) .none kV doc pm an cdv ct) ⟨us,[]⟩=pure (ps.zip us)):∃d,Fun K x q st f d/\A1p K d ps []/\PySem.W.keepIn K (.ref f)=true:=by
 obtain ⟨_,_,_,_,_,_,_,_,_,l,c,k⟩:=l;have F:=D1r (st:=st) l c k;exact ⟨_,F,F.binds h,k⟩
theorem A5j {p:List Value->Prop} (h:p []):∀us:List Value,us.length=0->p us:=λus e=>by rw [List.length_eq_zero_iff.mp e];exact h
theorem A1w {n:Nat} {p:List Value->Prop} (h:∀(a:Value) (us:List Value),us.length=n->p (a::us)):∀us:List Value,us.length=n+1->p us
 | a::r,e=>h a r (Nat.succ.inj e)
theorem D6o {l:PySem.W.OpenLaw} {w:World} {K:PySem.W.Frag} {h:Heap} {mg:Str->Option Value} {fa:Addr} (X:K.In h) (G:h.Ns mainGlobals mg) (hfa:mg "law"=some (.ref fa))
  {C_LoomError C_NoMove C_Line C_Cloth C_Term C_Number:Addr}
  (aC_LoomError:PySem.W.nsIn K mainGlobals "LoomError"=some (some (.ref C_LoomError)))
  (aC_NoMove:PySem.W.nsIn K mainGlobals "NoMove"=some (some (.ref C_NoMove)))
  (aC_Line:PySem.W.nsIn K mainGlobals "Line"=some (some (.ref C_Line)))
  (aC_Cloth:PySem.W.nsIn K mainGlobals "Cloth"=some (some (.ref C_Cloth)))
  (aC_Term:PySem.W.nsIn K mainGlobals "Term"=some (some (.ref C_Term)))
  (aC_Number:PySem.W.nsIn K mainGlobals "Number"=some (some (.ref C_Number)))
  {f0:Addr}
  (a0:PySem.W.findIn K (.ref C_NoMove) "__init__"=some (some (.ref f0)))
  (l0:LkF K "__init__" "NoMove.__init__" A6l f0)
  (i0:PySem.W.isFn K (.ref f0)=true)
  {f1:Addr}
  (a1:PySem.W.nsIn K mainGlobals "copied"=some (some (.ref f1)))
  (l1:LkF K "copied" "copied" B6a f1)
  {f2:Addr}
  (a2:PySem.W.nsIn K mainGlobals "copied_dict"=some (some (.ref f2)))
  (l2:LkF K "copied_dict" "copied_dict" A6f f2)
  {f3:Addr}
  (a3:PySem.W.nsIn K mainGlobals "lengths_along"=some (some (.ref f3)))
  (l3:LkF K "lengths_along" "lengths_along" A5f f3)
  {f4:Addr}
  (a4:PySem.W.nsIn K mainGlobals "is_loop"=some (some (.ref f4)))
  (l4:LkF K "is_loop" "is_loop" B1z f4)
  {f5:Addr}
  (a5:PySem.W.nsIn K mainGlobals "body_of"=some (some (.ref f5)))
  (l5:LkF K "body_of" "body_of" B3c f5)
  {f6:Addr}
  (a6:PySem.W.nsIn K mainGlobals "with_body"=some (some (.ref f6)))
  (l6:LkF K "with_body" "with_body" A9e f6)
  {f7:Addr}
  (a7:PySem.W.nsIn K mainGlobals "first_nest"=some (some (.ref f7)))
  (l7:LkF K "first_nest" "first_nest" A6x f7)
  {f8:Addr}
  (a8:PySem.W.nsIn K mainGlobals "nodes_in"=some (some (.ref f8)))
  (l8:LkF K "nodes_in" "nodes_in" B0m f8)
  {f9:Addr}
  (a9:PySem.W.nsIn K mainGlobals "nodes_of"=some (some (.ref f9)))
  (l9:LkF K "nodes_of" "nodes_of" B0v f9)
  {f10:Addr}
  (a10:PySem.W.nsIn K mainGlobals "numbers_from"=some (some (.ref f10)))
  (l10:LkF K "numbers_from" "numbers_from" A5o f10)
  {f11:Addr}
  (a11:PySem.W.nsIn K mainGlobals "looped"=some (some (.ref f11)))
  (l11:LkF K "looped" "looped" B6q f11)
  {f12:Addr}
  (a12:PySem.W.nsIn K mainGlobals "planned"=some (some (.ref f12)))
  (l12:LkF K "planned" "planned" B2h f12)
  {f13:Addr}
  (a13:PySem.W.nsIn K mainGlobals "moved"=some (some (.ref f13)))
  (l13:LkF K "moved" "moved" B9s f13)
  {f14:Addr}
  (a14:PySem.W.nsIn K mainGlobals "path_to"=some (some (.ref f14)))
  (l14:LkF K "path_to" "path_to" B2g f14)
  {f15:Addr}
  (a15:PySem.W.nsIn K mainGlobals "moved_along"=some (some (.ref f15)))
  (l15:LkF K "moved_along" "moved_along" A6h f15)
  {f16:Addr}
  (a16:PySem.W.nsIn K mainGlobals "moved_at"=some (some (.ref f16)))
  (l16:LkF K "moved_at" "moved_at" B0o f16)
  {f17:Addr}
  (a17:PySem.W.nsIn K mainGlobals "swapped"=some (some (.ref f17)))
  (l17:LkF K "swapped" "swapped" B1s f17)
  {f18:Addr}
  (a18:PySem.W.nsIn K mainGlobals "cut_by"=some (some (.ref f18)))
  (l18:LkF K "cut_by" "cut_by" B5u f18)
  {f19:Addr}
  (a19:PySem.W.nsIn K mainGlobals "joined_with"=some (some (.ref f19)))
  (l19:LkF K "joined_with" "joined_with" A6g f19)
  {f20:Addr}
  (a20:PySem.W.nsIn K mainGlobals "renumbered"=some (some (.ref f20)))
  (l20:LkF K "renumbered" "renumbered" A7a f20)
  {f21:Addr}
  (a21:PySem.W.nsIn K mainGlobals "renumbered_node"=some (some (.ref f21)))
  (l21:LkF K "renumbered_node" "renumbered_node" A4i f21)
  {f22:Addr}
  (a22:PySem.W.nsIn K mainGlobals "instead_in"=some (some (.ref f22)))
  (l22:LkF K "instead_in" "instead_in" A7k f22)
  {f23:Addr}
  (a23:PySem.W.nsIn K mainGlobals "instead"=some (some (.ref f23)))
  (l23:LkF K "instead" "instead" B1t f23)
  {f24:Addr}
  (a24:PySem.W.findIn K (.ref C_Line) "__init__"=some (some (.ref f24)))
  (l24:LkF K "__init__" "Line.__init__" A8u f24)
  (i24:PySem.W.isFn K (.ref f24)=true)
  {f25:Addr}
  (a25:PySem.W.findIn K (.ref C_Cloth) "__init__"=some (some (.ref f25)))
  (l25:LkF K "__init__" "Cloth.__init__" A7t f25)
  (i25:PySem.W.isFn K (.ref f25)=true)
  {f26:Addr}
  (a26:PySem.W.findIn K (.ref C_Number) "__init__"=some (some (.ref f26)))
  (l26:LkF K "__init__" "Number.__init__" A6c f26)
  (i26:PySem.W.isFn K (.ref f26)=true)
  {f27:Addr}
  (a27:PySem.W.nsIn K mainGlobals "_law_cell_at"=some (some (.ref f27)))
  (l27:LkF K "_law_cell_at" "_law_cell_at" A8y f27)
  {f28:Addr}
  (a28:PySem.W.nsIn K mainGlobals "_law_whole"=some (some (.ref f28)))
  (l28:LkF K "_law_whole" "_law_whole" B2d f28)
  {f29:Addr}
  (a29:PySem.W.nsIn K mainGlobals "_law_rows_of"=some (some (.ref f29)))
  (l29:LkF K "_law_rows_of" "_law_rows_of" A8v f29)
  {f30:Addr}
  (a30:PySem.W.nsIn K mainGlobals "_law_named"=some (some (.ref f30)))
  (l30:LkF K "_law_named" "_law_named" B1x f30)
  {f31:Addr}
  (a31:PySem.W.nsIn K mainGlobals "_law_all_named"=some (some (.ref f31)))
  (l31:LkF K "_law_all_named" "_law_all_named" A6e f31)
  {f32:Addr}
  (a32:PySem.W.nsIn K mainGlobals "_law_swapped"=some (some (.ref f32)))
  (l32:LkF K "_law_swapped" "_law_swapped" A9b f32)
  {f33:Addr}
  (a33:PySem.W.nsIn K mainGlobals "_law_cut"=some (some (.ref f33)))
  (l33:LkF K "_law_cut" "_law_cut" C0w f33)
  {f34:Addr}
  (a34:PySem.W.nsIn K mainGlobals "_law_joined"=some (some (.ref f34)))
  (l34:LkF K "_law_joined" "_law_joined" B0e f34)
  {f35:Addr}
  (a35:PySem.W.nsIn K mainGlobals "_law_width_by"=some (some (.ref f35)))
  (l35:LkF K "_law_width_by" "_law_width_by" A6w f35)
  {f36:Addr}
  (a36:PySem.W.nsIn K mainGlobals "_law_made"=some (some (.ref f36)))
  (l36:LkF K "_law_made" "_law_made" B6p f36)
  {f37:Addr}
  (a37:PySem.W.nsIn K mainGlobals "_law_move_of"=some (some (.ref f37)))
  (l37:LkF K "_law_move_of" "_law_move_of" A8z f37)
  {f38:Addr}
  (a38:PySem.W.nsIn K mainGlobals "_law_bad_move"=some (some (.ref f38)))
  (l38:LkF K "_law_bad_move" "_law_bad_move" A7b f38)
  {f39:Addr}
  (a39:PySem.W.nsIn K mainGlobals "_law_lines_by"=some (some (.ref f39)))
  (l39:LkF K "_law_lines_by" "_law_lines_by" A7m f39)
  {f40:Addr}
  (a40:PySem.W.nsIn K mainGlobals "_law_plan_by"=some (some (.ref f40)))
  (l40:LkF K "_law_plan_by" "_law_plan_by" A9d f40)
  {f41:Addr}
  (a41:PySem.W.nsIn K mainGlobals "_law_wholes"=some (some (.ref f41)))
  (l41:LkF K "_law_wholes" "_law_wholes" B0j f41)
  {f42:Addr}
  (a42:PySem.W.nsIn K mainGlobals "_law_is_node"=some (some (.ref f42)))
  (l42:LkF K "_law_is_node" "_law_is_node" A8x f42)
  {f43:Addr}
  (a43:PySem.W.nsIn K mainGlobals "_law_written"=some (some (.ref f43)))
  (l43:LkF K "_law_written" "_law_written" A9f f43)
  {f44:Addr}
  (a44:PySem.W.nsIn K mainGlobals "_law_refused_at"=some (some (.ref f44)))
  (l44:LkF K "_law_refused_at" "_law_refused_at" A5q f44)
  {f45:Addr}
  (a45:PySem.W.nsIn K mainGlobals "law"=some (some (.ref f45)))
  (l45:LkF K "law" "law" C9u f45)
  {pt_NO_OUTER:Tok}
  (aP_NO_OUTER:PySem.W.nsIn K mainGlobals "NO_OUTER"=some (some (.int (-1) pt_NO_OUTER)))
  {pt_NO_WIDTH:Tok}
  (aP_NO_WIDTH:PySem.W.nsIn K mainGlobals "NO_WIDTH"=some (some (.int (0) pt_NO_WIDTH)))
  (xe_NoMove:PySem.W.excInI K C_NoMove f0 [.type "ValueError",.type "Exception",.type "BaseException",.type "object"] "ValueError.__new__"=true)
  (kc_NoMove:PySem.W.keepIn K (.ref C_NoMove)=true)
  (sx_NoMove:PySem.W.findIn K (.ref C_NoMove) "__setattr__"=some (some (.builtin "object.__setattr__")))
  (xo_NoMove:PySem.W.excOver K C_NoMove=true)
  (xh_NoMove:(PySem.W.clsIn K C_NoMove).any (·.hasDict)=true)
  (na_NoMove_place:PySem.W.findIn K (.ref C_NoMove) "place"=some none)
  (x1_NoMove:PySem.W.findIn K (.ref C_NoMove) "__getattribute__"=some (some (.builtin "BaseException.__getattribute__")))
  (x2_NoMove:PySem.W.findIn K (.ref C_NoMove) "__getattr__"=some none)
  (x3_NoMove:PySem.W.mroIn K C_NoMove (.type "BaseException")=some true)
  (x4_NoMove:PySem.W.mroIn K C_NoMove (.type "object")=some true)
  (x5_NoMove:PySem.W.findIn K (.ref C_NoMove) "__class__"=some (some (.builtin "object.__class__")))
  (x6_NoMove:PySem.W.specialIn K (.builtin "object.__class__") "__get__"=some (some (.builtin "getset_descriptor.__get__")))
  (x7_NoMove:PySem.W.takesIn K (.builtin "object.__class__")=some true)
  (cs_LoomError:PySem.W.isClsIn K C_LoomError=true)
  (ct_LoomError:PySem.W.typeIn K (.ref C_LoomError)=some (.type "type"))
  (mr_NoMove_LoomError:PySem.W.mroIn K C_NoMove (.ref C_LoomError)=some true)
  (cs_NoMove:PySem.W.isClsIn K C_NoMove=true)
  (ct_NoMove:PySem.W.typeIn K (.ref C_NoMove)=some (.type "type"))
  (mr_NoMove_NoMove:PySem.W.mroIn K C_NoMove (.ref C_NoMove)=some true)
  (eb_NoMove:PySem.W.mroIn K C_NoMove (.type "BaseException")=some true)
  (pg_Cloth:PySem.W.plainGet K C_Cloth Str.empty=true)
  (hd_Cloth:PySem.W.hasDictIn K C_Cloth=true)
  (po_Cloth:PySem.W.plainOver K C_Cloth=true)
  (sa_Cloth:PySem.W.findIn K (.ref C_Cloth) "__setattr__"=some (some (.builtin "object.__setattr__")))
  (mk_Cloth:PySem.W.makesIn K C_Cloth=true)
  (kc_Cloth:PySem.W.keepIn K (.ref C_Cloth)=true)
  (in_Cloth:PySem.W.findIn K (.ref C_Cloth) "__init__"=some (some (.ref f25)))
  (na_Cloth_wheel:PySem.W.findIn K (.ref C_Cloth) "wheel"=some none)
  (na_Cloth_lengths:PySem.W.findIn K (.ref C_Cloth) "lengths"=some none)
  (na_Cloth_arrays:PySem.W.findIn K (.ref C_Cloth) "arrays"=some none)
  (na_Cloth_tables:PySem.W.findIn K (.ref C_Cloth) "tables"=some none)
  (na_Cloth_lines:PySem.W.findIn K (.ref C_Cloth) "lines"=some none)
  (na_Cloth_outs:PySem.W.findIn K (.ref C_Cloth) "outs"=some none)
  (t1_Cloth:PySem.W.findIn K (.ref C_Cloth) "__class__"=some (some (.builtin "object.__class__")))
  (t2_Cloth:PySem.W.specialIn K (.builtin "object.__class__") "__get__"=some (some (.builtin "getset_descriptor.__get__")))
  (t3_Cloth:PySem.W.takesIn K (.builtin "object.__class__")=some true)
  (t4_Cloth:PySem.W.mroIn K C_Cloth (.type "object")=some true)
  (pg_Line:PySem.W.plainGet K C_Line Str.empty=true)
  (hd_Line:PySem.W.hasDictIn K C_Line=true)
  (po_Line:PySem.W.plainOver K C_Line=true)
  (sa_Line:PySem.W.findIn K (.ref C_Line) "__setattr__"=some (some (.builtin "object.__setattr__")))
  (mk_Line:PySem.W.makesIn K C_Line=true)
  (kc_Line:PySem.W.keepIn K (.ref C_Line)=true)
  (in_Line:PySem.W.findIn K (.ref C_Line) "__init__"=some (some (.ref f24)))
  (na_Line_name:PySem.W.findIn K (.ref C_Line) "name"=some none)
  (na_Line_axes:PySem.W.findIn K (.ref C_Line) "axes"=some none)
  (na_Line_sums:PySem.W.findIn K (.ref C_Line) "sums"=some none)
  (na_Line_term:PySem.W.findIn K (.ref C_Line) "term"=some none)
  (t1_Line:PySem.W.findIn K (.ref C_Line) "__class__"=some (some (.builtin "object.__class__")))
  (t2_Line:PySem.W.specialIn K (.builtin "object.__class__") "__get__"=some (some (.builtin "getset_descriptor.__get__")))
  (t3_Line:PySem.W.takesIn K (.builtin "object.__class__")=some true)
  (t4_Line:PySem.W.mroIn K C_Line (.type "object")=some true)
  (mb_Line_list:PySem.W.mroIn K C_Line (.type "list")=some false)
  (mb_Line_tuple:PySem.W.mroIn K C_Line (.type "tuple")=some false)
  (mb_Line_dict:PySem.W.mroIn K C_Line (.type "dict")=some false)
  (pg_Number:PySem.W.plainGet K C_Number Str.empty=true)
  (hd_Number:PySem.W.hasDictIn K C_Number=true)
  (po_Number:PySem.W.plainOver K C_Number=true)
  (sa_Number:PySem.W.findIn K (.ref C_Number) "__setattr__"=some (some (.builtin "object.__setattr__")))
  (mk_Number:PySem.W.makesIn K C_Number=true)
  (kc_Number:PySem.W.keepIn K (.ref C_Number)=true)
  (in_Number:PySem.W.findIn K (.ref C_Number) "__init__"=some (some (.ref f26)))
  (na_Number_number:PySem.W.findIn K (.ref C_Number) "number"=some none)
  (t1_Number:PySem.W.findIn K (.ref C_Number) "__class__"=some (some (.builtin "object.__class__")))
  (t2_Number:PySem.W.specialIn K (.builtin "object.__class__") "__get__"=some (some (.builtin "getset_descriptor.__get__")))
  (t3_Number:PySem.W.takesIn K (.builtin "object.__class__")=some true)
  (t4_Number:PySem.W.mroIn K C_Number (.type "object")=some true)
  (z_isinstance:PySem.W.nsIn K mainGlobals "isinstance"=some none)
  (z_list:PySem.W.nsIn K mainGlobals "list"=some none)
  (z_tuple:PySem.W.nsIn K mainGlobals "tuple"=some none)
  (z_dict:PySem.W.nsIn K mainGlobals "dict"=some none)
  (z_enumerate:PySem.W.nsIn K mainGlobals "enumerate"=some none)
  (z_len:PySem.W.nsIn K mainGlobals "len"=some none)
  (z_range:PySem.W.nsIn K mainGlobals "range"=some none)
  (z_reversed:PySem.W.nsIn K mainGlobals "reversed"=some none)
  (z_zip:PySem.W.nsIn K mainGlobals "zip"=some none)
  (z_bool:PySem.W.nsIn K mainGlobals "bool"=some none)
  (z_int:PySem.W.nsIn K mainGlobals "int"=some none)
  (z_min:PySem.W.nsIn K mainGlobals "min"=some none)
  (z_max:PySem.W.nsIn K mainGlobals "max"=some none)
  (z_str:PySem.W.nsIn K mainGlobals "str"=some none)
  :∃fd:FuncData,(∀(s:Shared) (v:Value),BindsTo s fd ⟨[v],[]⟩ [("_law_script",v)])/\∀base:Heap,K.In base->base.Ns mainGlobals mg->A1y l.prog w K mg base CX0 134 fa fd ["_law_script"] (C9a K):=by
 have e:=hfa.symm.trans (Z0f X G a45);cases e;obtain ⟨d0,F0,b0,k0⟩:=A2e (ps:=["self","place"]) l0 λ_ _ _ _ _ _=>A1w λ_=>A1w λ_=>A5j rfl;obtain ⟨d1,F1,b1,k1⟩:=A2e (ps:=["value"]) l1 λ_ _ _ _ _ _=>A1w λ_=>A5j rfl;obtain ⟨d2,F2,b2,k2⟩:=A2e (ps:=["value"]) l2 λ_ _ _ _ _ _=>A1w λ_=>A5j rfl;obtain ⟨d3,F3,b3,k3⟩:=A2e (ps:=["axes","lengths"]) l3 λ_ _ _ _ _ _=>A1w λ_=>A1w λ_=>A5j rfl;obtain ⟨d4,F4,b4,k4⟩:=A2e (ps:=["node"]) l4 λ_ _ _ _ _ _=>A1w λ_=>A5j rfl;obtain ⟨d5,F5,b5,k5⟩:=A2e (ps:=["loop"]) l5 λ_ _ _ _ _ _=>A1w λ_=>A5j rfl;obtain ⟨d6,F6,b6,k6⟩:=A2e (ps:=["loop","body"]) l6 λ_ _ _ _ _ _=>A1w λ_=>A1w λ_=>A5j rfl;obtain ⟨d7,F7,b7,k7⟩:=A2e (ps:=["cloth"]) l7 λ_ _ _ _ _ _=>A1w λ_=>A5j rfl;obtain ⟨d8,F8,b8,k8⟩:=A2e (ps:=["line"]) l8 λ_ _ _ _ _ _=>A1w λ_=>A5j rfl;obtain ⟨d9,F9,b9,k9⟩:=A2e (ps:=["place","line","lengths","fresh"]) l9 λ_ _ _ _ _ _=>A1w λ_=>A1w λ_=>A1w λ_=>A1w λ_=>A5j rfl;obtain ⟨d10,F10,b10,k10⟩:=A2e (ps:=["fresh","axes"]) l10 λ_ _ _ _ _ _=>A1w λ_=>A1w λ_=>A5j rfl;obtain ⟨d11,F11,b11,k11⟩:=A2e (ps:=["numbers","sizes","inside"]) l11 λ_ _ _ _ _ _=>A1w λ_=>A1w λ_=>A1w λ_=>A5j rfl;obtain ⟨d12,F12,b12,k12⟩:=A2e (ps:=["cloth","moves"]) l12 λ_ _ _ _ _ _=>A1w λ_=>A1w λ_=>A5j rfl;obtain ⟨d13,F13,b13,k13⟩:=A2e (ps:=["nest","move"]) l13 λ_ _ _ _ _ _=>A1w λ_=>A1w λ_=>A5j rfl;obtain ⟨d14,F14,b14,k14⟩:=A2e (ps:=["number","body"]) l14 λ_ _ _ _ _ _=>A1w λ_=>A1w λ_=>A5j rfl;obtain ⟨d15,F15,b15,k15⟩:=A2e (ps:=["path","body","move","fresh"]) l15 λ_ _ _ _ _ _=>A1w λ_=>A1w λ_=>A1w λ_=>A1w λ_=>A5j rfl;obtain ⟨d16,F16,b16,k16⟩:=A2e (ps:=["place","body","move","fresh"]) l16 λ_ _ _ _ _ _=>A1w λ_=>A1w λ_=>A1w λ_=>A1w λ_=>A5j rfl;obtain ⟨d17,F17,b17,k17⟩:=A2e (ps:=["loop"]) l17 λ_ _ _ _ _ _=>A1w λ_=>A5j rfl;obtain ⟨d18,F18,b18,k18⟩:=A2e (ps:=["tile","loop","fresh"]) l18 λ_ _ _ _ _ _=>A1w λ_=>A1w λ_=>A1w λ_=>A5j rfl;obtain ⟨d19,F19,b19,k19⟩:=A2e (ps:=["behind","loop"]) l19 λ_ _ _ _ _ _=>A1w λ_=>A1w λ_=>A5j rfl;obtain ⟨d20,F20,b20,k20⟩:=A2e (ps:=["body","old","new"]) l20 λ_ _ _ _ _ _=>A1w λ_=>A1w λ_=>A1w λ_=>A5j rfl;obtain ⟨d21,F21,b21,k21⟩:=A2e (ps:=["node","old","new"]) l21 λ_ _ _ _ _ _=>A1w λ_=>A1w λ_=>A1w λ_=>A5j rfl;obtain ⟨d22,F22,b22,k22⟩:=A2e (ps:=["numbers","old","new"]) l22 λ_ _ _ _ _ _=>A1w λ_=>A1w λ_=>A1w λ_=>A5j rfl;obtain ⟨d23,F23,b23,k23⟩:=A2e (ps:=["number","old","new"]) l23 λ_ _ _ _ _ _=>A1w λ_=>A1w λ_=>A1w λ_=>A5j rfl;obtain ⟨d24,F24,b24,k24⟩:=A2e (ps:=["self","name","axes","sums","term"]) l24 λ_ _ _ _ _ _=>A1w λ_=>A1w λ_=>A1w λ_=>A1w λ_=>A1w λ_=>A5j rfl;obtain ⟨d25,F25,b25,k25⟩:=A2e (ps:=["self","wheel","lengths","arrays","tables","lines","outs"]) l25 λ_ _ _ _ _ _=>A1w λ_=>A1w λ_=>A1w λ_=>A1w λ_=>A1w λ_=>A1w λ_=>A1w λ_=>A5j rfl;obtain ⟨d26,F26,b26,k26⟩:=A2e (ps:=["self","number"]) l26 λ_ _ _ _ _ _=>A1w λ_=>A1w λ_=>A5j rfl;obtain ⟨d27,F27,b27,k27⟩:=A2e (ps:=["_law_script","_law_k"]) l27 λ_ _ _ _ _ _=>A1w λ_=>A1w λ_=>A5j rfl;obtain ⟨d28,F28,b28,k28⟩:=A2e (ps:=["_law_found"]) l28 λ_ _ _ _ _ _=>A1w λ_=>A5j rfl;obtain ⟨d29,F29,b29,k29⟩:=A2e (ps:=["_law_lines","_law_lengths"]) l29 λ_ _ _ _ _ _=>A1w λ_=>A1w λ_=>A5j rfl;obtain ⟨d30,F30,b30,k30⟩:=A2e (ps:=["_law_some","_law_old","_law_new"]) l30 λ_ _ _ _ _ _=>A1w λ_=>A1w λ_=>A1w λ_=>A5j rfl;obtain ⟨d31,F31,b31,k31⟩:=A2e (ps:=["_law_rows","_law_old","_law_new"]) l31 λ_ _ _ _ _ _=>A1w λ_=>A1w λ_=>A1w λ_=>A5j rfl;obtain ⟨d32,F32,b32,k32⟩:=A2e (ps:=["_law_rows","_law_at"]) l32 λ_ _ _ _ _ _=>A1w λ_=>A1w λ_=>A5j rfl;obtain ⟨d33,F33,b33,k33⟩:=A2e (ps:=["_law_rows","_law_at","_law_width","_law_behind"]) l33 λ_ _ _ _ _ _=>A1w λ_=>A1w λ_=>A1w λ_=>A1w λ_=>A5j rfl;obtain ⟨d34,F34,b34,k34⟩:=A2e (ps:=["_law_rows","_law_at"]) l34 λ_ _ _ _ _ _=>A1w λ_=>A1w λ_=>A5j rfl;obtain ⟨d35,F35,b35,k35⟩:=A2e (ps:=["_law_cell"]) l35 λ_ _ _ _ _ _=>A1w λ_=>A5j rfl;obtain ⟨d36,F36,b36,k36⟩:=A2e (ps:=["_law_rows","_law_at","_law_cell","_law_behind"]) l36 λ_ _ _ _ _ _=>A1w λ_=>A1w λ_=>A1w λ_=>A1w λ_=>A5j rfl;obtain ⟨d37,F37,b37,k37⟩:=A2e (ps:=["_law_number","_law_cell"]) l37 λ_ _ _ _ _ _=>A1w λ_=>A1w λ_=>A5j rfl;obtain ⟨d38,F38,b38,k38⟩:=A2e (ps:=["_law_rows","_law_cell","_law_behind"]) l38 λ_ _ _ _ _ _=>A1w λ_=>A1w λ_=>A1w λ_=>A5j rfl;obtain ⟨d39,F39,b39,k39⟩:=A2e (ps:=["_law_cells","_law_axes","_law_lengths"]) l39 λ_ _ _ _ _ _=>A1w λ_=>A1w λ_=>A1w λ_=>A5j rfl;obtain ⟨d40,F40,b40,k40⟩:=A2e (ps:=["_law_script","_law_rows"]) l40 λ_ _ _ _ _ _=>A1w λ_=>A1w λ_=>A5j rfl;obtain ⟨d41,F41,b41,k41⟩:=A2e (ps:=["_law_found"]) l41 λ_ _ _ _ _ _=>A1w λ_=>A5j rfl;obtain ⟨d42,F42,b42,k42⟩:=A2e (ps:=["_law_node"]) l42 λ_ _ _ _ _ _=>A1w λ_=>A5j rfl;obtain ⟨d43,F43,b43,k43⟩:=A2e (ps:=["_law_found","_law_most"]) l43 λ_ _ _ _ _ _=>A1w λ_=>A1w λ_=>A5j rfl;obtain ⟨d44,F44,b44,k44⟩:=A2e (ps:=["_law_cloth","_law_moves","_law_place"]) l44 λ_ _ _ _ _ _=>A1w λ_=>A1w λ_=>A1w λ_=>A5j rfl;obtain ⟨_,_,_,_,_,_,_,_,_,l45,c,k45⟩:=l45;have F45:=D1r (st:=C9u) l45 c k45;have b45:=F45.binds (ps:=["_law_script"]) λ_ _ _ _ _ _=>A1w λ_=>A5j rfl;exact ⟨_,λs v=> .of_eq rfl,λbase _ _=>D6j (t:=⟨C_LoomError,C_NoMove,C_Line,C_Cloth,C_Term,C_Number,f0,_,f1,_,f2,_,f3,_,f4,_,f5,_,f6,_,f7,_,f8,_,f9,_,f10,_,f11,_,f12,_,f13,_,f14,_,f15,_,f16,_,f17,_,f18,_,f19,_,f20,_,f21,_,f22,_,f23,_,f24,_,f25,_,f26,_,f27,_,f28,_,f29,_,f30,_,f31,_,f32,_,f33,_,f34,_,f35,_,f36,_,f37,_,f38,_,f39,_,f40,_,f41,_,f42,_,f43,_,f44,_,fa,_⟩) ⟨F0,b0,F1,Z0f X G a1,b1,F2,Z0f X G a2,b2,F3,Z0f X G a3,b3,F4,Z0f X G a4,b4,F5,Z0f X G a5,b5,F6,Z0f X G a6,b6,F7,Z0f X G a7,b7,F8,Z0f X G a8,b8,F9,Z0f X G a9,b9,F10,Z0f X G a10,b10,F11,Z0f X G a11,b11,F12,Z0f X G a12,b12,F13,Z0f X G a13,b13,F14,Z0f X G a14,b14,F15,Z0f X G a15,b15,F16,Z0f X G a16,b16,F17,Z0f X G a17,b17,F18,Z0f X G a18,b18,F19,Z0f X G a19,b19,F20,Z0f X G a20,b20,F21,Z0f X G a21,b21,F22,Z0f X G a22,b22,F23,Z0f X G a23,b23,F24,b24,F25,b25,F26,b26,F27,Z0f X G a27,b27,F28,Z0f X G a28,b28,F29,Z0f X G a29,b29,F30,Z0f X G a30,b30,F31,Z0f X G a31,b31,F32,Z0f X G a32,b32,F33,Z0f X G a33,b33,F34,Z0f X G a34,b34,F35,Z0f X G a35,b35,F36,Z0f X G a36,b36,F37,Z0f X G a37,b37,F38,Z0f X G a38,b38,F39,Z0f X G a39,b39,F40,Z0f X G a40,b40,F41,Z0f X G a41,b41,F42,Z0f X G a42,b42,F43,Z0f X G a43,b43,F44,Z0f X G a44,b44,F45,Z0f X G a45,b45,⟨_,Z0f X G aP_NO_OUTER,⟨_,rfl⟩⟩,⟨_,Z0f X G aP_NO_WIDTH,⟨_,rfl⟩⟩,Z0f X G aC_NoMove,⟨xe_NoMove,kc_NoMove⟩,⟨sx_NoMove,xo_NoMove,xh_NoMove,na_NoMove_place⟩,⟨⟨x1_NoMove,x2_NoMove,x3_NoMove,x4_NoMove,x5_NoMove,x6_NoMove,x7_NoMove⟩,xh_NoMove,na_NoMove_place⟩,⟨x1_NoMove,x2_NoMove,x3_NoMove,x4_NoMove,x5_NoMove,x6_NoMove,x7_NoMove⟩,C9f cs_LoomError ct_LoomError mr_NoMove_LoomError,D6b eb_NoMove cs_NoMove ct_NoMove mr_NoMove_NoMove,Z0f X G aC_Line,Z0f X G aC_Cloth,Z0f X G aC_Number,⟨pg_Cloth,hd_Cloth,po_Cloth,sa_Cloth⟩,⟨mk_Cloth,in_Cloth,i25,kc_Cloth⟩,na_Cloth_wheel,na_Cloth_lengths,na_Cloth_arrays,na_Cloth_tables,na_Cloth_lines,na_Cloth_outs,⟨t1_Cloth,t2_Cloth,t3_Cloth,t4_Cloth⟩,⟨pg_Line,hd_Line,po_Line,sa_Line⟩,⟨mk_Line,in_Line,i24,kc_Line⟩,na_Line_name,na_Line_axes,na_Line_sums,na_Line_term,⟨t1_Line,t2_Line,t3_Line,t4_Line⟩,mb_Line_list,mb_Line_tuple,mb_Line_dict,⟨pg_Number,hd_Number,po_Number,sa_Number⟩,⟨mk_Number,in_Number,i26,kc_Number⟩,na_Number_number,⟨t1_Number,t2_Number,t3_Number,t4_Number⟩,Z1c X G z_isinstance,Z1c X G z_list,Z1c X G z_tuple,Z1c X G z_dict,Z1c X G z_enumerate,Z1c X G z_len,Z1c X G z_range,Z1c X G z_reversed,Z1c X G z_zip,Z1c X G z_bool,Z1c X G z_int,Z1c X G z_min,Z1c X G z_max,Z1c X G z_str⟩⟩
theorem walk {l:PySem.W.OpenLaw} {q:Program} {loose:List Str} {XP:(Str->Option Value)->Heap->Prop} {YP:World->Heap->Prop} {d:DefRec} {K:Params->PySem.W.Frag} (hn:l.most=some 63) (hdf:d.params.defaults=[])
  (hY:∀(w:World) (h:Heap),YP w h->(K w.params).In h)
  (F:∀(w:World) (mg:Str->Option Value) (fa:Addr) (h:Heap),(K w.params).In h->h.Ns mainGlobals mg->mg d.name=some (.ref fa)->
   ∃fd:FuncData,(∀(s:Shared) (u:Value),BindsTo s fd ⟨[u],[]⟩ [("_law_script",u)])/\∀base:Heap,(K w.params).In base->base.Ns mainGlobals mg->A1y l.prog w (K w.params) mg base CX0 134 fa fd ["_law_script"] (C9a (K w.params))) :
  PySem.W.WalkO q loose XP YP l.row.toRowW d [] (λf vs=>PySem.call f vs) :=
 L2.C9j (n:=63) (k:=134) (x:="_law_script") (CX:=λ_=>CX0) (sp:=λw=>C9a (K w.params)) hn (by decide) hdf ⟨rfl,by decide,by decide,rfl⟩ hY F (λ_ _ a ns hl hb hS=>⟨a,ns,rfl,hS,hl,hb,λ_=>rfl⟩) λ_ _ _ _ _ z=>z
end My
local macro_rules | `(tactic| walk_at "kf") => `(tactic| (refine' My.D6c ?l ?c ?k; (case l => k_is); (case c => k_is); (case k => k_is)))
open PySem PySem.W PyProof.Rows
set_option maxRecDepth 100000 in
set_option maxHeartbeats 0 in
theorem PySem.Challenge.cw_arrayloom_k54_rows_of_moves_holds : PySem.Challenge.rw_arrayloom_k54_rows_of_moves.Holds := by
 w_on;o_law;k_head;(case hw=>w_witness2)
 k_fill
 refine My.walk (l:=PySem.Challenge.rw_arrayloom_k54_rows_of_moves) rfl rfl (λw h Y=>PySem.W.kIn_of Y) ?F
 case F =>
  intro w mg fa h KX G hmg;refine' My.D6o KX G hmg ?aC_LoomError ?aC_NoMove ?aC_Line ?aC_Cloth ?aC_Term ?aC_Number ?a0 ?l0 ?i0 ?a1 ?l1 ?a2 ?l2 ?a3 ?l3 ?a4 ?l4 ?a5 ?l5 ?a6 ?l6 ?a7 ?l7 ?a8 ?l8 ?a9 ?l9 ?a10 ?l10 ?a11 ?l11 ?a12 ?l12 ?a13 ?l13 ?a14 ?l14 ?a15 ?l15 ?a16 ?l16 ?a17 ?l17 ?a18 ?l18 ?a19 ?l19 ?a20 ?l20 ?a21 ?l21 ?a22 ?l22 ?a23 ?l23 ?a24 ?l24 ?i24 ?a25 ?l25 ?i25 ?a26 ?l26 ?i26 ?a27 ?l27 ?a28 ?l28 ?a29 ?l29 ?a30 ?l30 ?a31 ?l31 ?a32 ?l32 ?a33 ?l33 ?a34 ?l34 ?a35 ?l35 ?a36 ?l36 ?a37 ?l37 ?a38 ?l38 ?a39 ?l39 ?a40 ?l40 ?a41 ?l41 ?a42 ?l42 ?a43 ?l43 ?a44 ?l44 ?a45 ?l45 ?aP_NO_OUTER ?aP_NO_WIDTH ?xe_NoMove ?kc_NoMove ?sx_NoMove ?xo_NoMove ?xh_NoMove ?na_NoMove_place ?x1_NoMove ?x2_NoMove ?x3_NoMove ?x4_NoMove ?x5_NoMove ?x6_NoMove ?x7_NoMove ?cs_LoomError ?ct_LoomError ?mr_NoMove_LoomError ?cs_NoMove ?ct_NoMove ?mr_NoMove_NoMove ?eb_NoMove ?pg_Cloth ?hd_Cloth ?po_Cloth ?sa_Cloth ?mk_Cloth ?kc_Cloth ?in_Cloth ?na_Cloth_wheel ?na_Cloth_lengths ?na_Cloth_arrays ?na_Cloth_tables ?na_Cloth_lines ?na_Cloth_outs ?t1_Cloth ?t2_Cloth ?t3_Cloth ?t4_Cloth ?pg_Line ?hd_Line ?po_Line ?sa_Line ?mk_Line ?kc_Line ?in_Line ?na_Line_name ?na_Line_axes ?na_Line_sums ?na_Line_term ?t1_Line ?t2_Line ?t3_Line ?t4_Line ?mb_Line_list ?mb_Line_tuple ?mb_Line_dict ?pg_Number ?hd_Number ?po_Number ?sa_Number ?mk_Number ?kc_Number ?in_Number ?na_Number_number ?t1_Number ?t2_Number ?t3_Number ?t4_Number ?z_isinstance ?z_list ?z_tuple ?z_dict ?z_enumerate ?z_len ?z_range ?z_reversed ?z_zip ?z_bool ?z_int ?z_min ?z_max ?z_str
  (case aC_LoomError | aC_NoMove | aC_Line | aC_Cloth | aC_Term | aC_Number=>k_is)
  (case a0=>k_is);(case l0=>walk_at "kf")
  (case i0=>k_is)
  (case a1=>k_is);(case l1=>walk_at "kf")
  (case a2=>k_is);(case l2=>walk_at "kf")
  (case a3=>k_is);(case l3=>walk_at "kf")
  (case a4=>k_is);(case l4=>walk_at "kf")
  (case a5=>k_is);(case l5=>walk_at "kf")
  (case a6=>k_is);(case l6=>walk_at "kf")
  (case a7=>k_is);(case l7=>walk_at "kf")
  (case a8=>k_is);(case l8=>walk_at "kf")
  (case a9=>k_is);(case l9=>walk_at "kf")
  (case a10=>k_is);(case l10=>walk_at "kf")
  (case a11=>k_is);(case l11=>walk_at "kf")
  (case a12=>k_is);(case l12=>walk_at "kf")
  (case a13=>k_is);(case l13=>walk_at "kf")
  (case a14=>k_is);(case l14=>walk_at "kf")
  (case a15=>k_is);(case l15=>walk_at "kf")
  (case a16=>k_is);(case l16=>walk_at "kf")
  (case a17=>k_is);(case l17=>walk_at "kf")
  (case a18=>k_is);(case l18=>walk_at "kf")
  (case a19=>k_is);(case l19=>walk_at "kf")
  (case a20=>k_is);(case l20=>walk_at "kf")
  (case a21=>k_is);(case l21=>walk_at "kf")
  (case a22=>k_is);(case l22=>walk_at "kf")
  (case a23=>k_is);(case l23=>walk_at "kf")
  (case a24=>k_is);(case l24=>walk_at "kf")
  (case i24=>k_is)
  (case a25=>k_is);(case l25=>walk_at "kf")
  (case i25=>k_is)
  (case a26=>k_is);(case l26=>walk_at "kf")
  (case i26=>k_is)
  (case a27=>k_is);(case l27=>walk_at "kf")
  (case a28=>k_is);(case l28=>walk_at "kf")
  (case a29=>k_is);(case l29=>walk_at "kf")
  (case a30=>k_is);(case l30=>walk_at "kf")
  (case a31=>k_is);(case l31=>walk_at "kf")
  (case a32=>k_is);(case l32=>walk_at "kf")
  (case a33=>k_is);(case l33=>walk_at "kf")
  (case a34=>k_is);(case l34=>walk_at "kf")
  (case a35=>k_is);(case l35=>walk_at "kf")
  (case a36=>k_is);(case l36=>walk_at "kf")
  (case a37=>k_is);(case l37=>walk_at "kf")
  (case a38=>k_is);(case l38=>walk_at "kf")
  (case a39=>k_is);(case l39=>walk_at "kf")
  (case a40=>k_is);(case l40=>walk_at "kf")
  (case a41=>k_is);(case l41=>walk_at "kf")
  (case a42=>k_is);(case l42=>walk_at "kf")
  (case a43=>k_is);(case l43=>walk_at "kf")
  (case a44=>k_is);(case l44=>walk_at "kf")
  (case a45=>k_is);(case l45=>walk_at "kf")
  (case aP_NO_OUTER | aP_NO_WIDTH=>k_is)
  (case xe_NoMove=>first | kernel_rfl | rfl | decide | k_is)
  (case kc_NoMove | sx_NoMove=>k_is)
  (case xo_NoMove | xh_NoMove=>first | kernel_rfl | rfl | decide | k_is)
  (case na_NoMove_place | x1_NoMove | x2_NoMove | x3_NoMove | x4_NoMove | x5_NoMove | x6_NoMove | x7_NoMove | cs_LoomError | ct_LoomError | mr_NoMove_LoomError=>k_is)
  (case cs_NoMove | ct_NoMove | mr_NoMove_NoMove | eb_NoMove | pg_Cloth | hd_Cloth | po_Cloth | sa_Cloth | mk_Cloth | kc_Cloth | in_Cloth=>k_is)
  (case na_Cloth_wheel | na_Cloth_lengths | na_Cloth_arrays | na_Cloth_tables | na_Cloth_lines | na_Cloth_outs | t1_Cloth | t2_Cloth | t3_Cloth | t4_Cloth | pg_Line=>k_is)
  (case hd_Line | po_Line | sa_Line | mk_Line | kc_Line | in_Line | na_Line_name | na_Line_axes | na_Line_sums | na_Line_term | t1_Line=>k_is)
  (case t2_Line | t3_Line | t4_Line | mb_Line_list | mb_Line_tuple | mb_Line_dict | pg_Number | hd_Number | po_Number | sa_Number | mk_Number=>k_is)
  (case kc_Number | in_Number | na_Number_number | t1_Number | t2_Number | t3_Number | t4_Number | z_isinstance | z_list | z_tuple | z_dict=>k_is)
  (case z_enumerate | z_len | z_range | z_reversed | z_zip | z_bool | z_int | z_min | z_max | z_str=>k_is)
