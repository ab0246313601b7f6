import PyProof.Rows.All
import Wide.All
import OpenK.AllK
import Wide.FinOn
import Lean
import PyProof.EqAt
import PyProof.EqKinds
import PyProof.TupleCall
import KE.KDictLaws
import KE.KDictList
import KE.KDictOf
import KE.KEqDict
import KE.KIntText
import KE.KTabLook
import KE.KTryMore
import KE.KUnpack
import PyProof.AttrMissHeap
import PyProof.AutoListH
import PyProof.CompUse
import PyProof.ConsumeWalk
import PyProof.Conv_int_bool
import PyProof.DictItems
import PyProof.DictValues
import PyProof.DictWalks
import PyProof.Draws
import PyProof.EnumFor
import PyProof.EnumMake
import PyProof.EnumStmt
import PyProof.ExcClass3
import PyProof.ExcInit
import PyProof.FString4
import PyProof.FString5
import PyProof.FactsAll.list_3
import PyProof.FactsAll.set
import PyProof.FactsAll.subtypes_5
import PyProof.FactsAll.zip
import PyProof.NeKinds
import PyProof.P3Eq
import PyProof.RangeIter
import PyProof.ReprHeads
import PyProof.ReprLen
import PyProof.Rows.SetFrom
import PyProof.Rows.StrNews
import PyProof.SetRoads
import PyProof.StrLawsRepr
import PyProof.StrWalks
import PyProof.SumAny
import PyProof.TupleKey
import PyProof.Walks
import PySem.Challenge.RW_arrayloom_k21_tables_taken
set_option Elab.async false
set_option bootstrap.genMatcherCode false
set_option linter.all false
set_option maxRecDepth 100000
set_option maxHeartbeats 4000000
section
open PySem PySem.Spec PyProof.Rows PySem.Calls
abbrev Z00:=@wpAny_bind
abbrev Z01:=@Heap.get?_push_of_some
abbrev Z02:=@List.mem_append_right
abbrev Z03:=@List.getElem?_eq_some_iff
abbrev Z04:=@wpAny_pure
abbrev Z05:=@List.mem_append_left
abbrev Z06:=@List.length_append
abbrev Z07:=@List.mem_append
abbrev Z08:=@List.length_map
abbrev Z09:=@Nat.le_refl
abbrev Z0a:=@Heap.lt_size
abbrev Z0b:=@List.getElem?_eq_getElem
abbrev Z0c:=@Heap.get?_push_size
abbrev Z0d:=@PyProof.Rows.boot_isinstance
abbrev Z0e:=@List.mem_cons
abbrev Z0f:=@PySem.W.mg_of
abbrev Z0g:=@List.size_toArray
abbrev Z0h:=@Nat.ne_of_lt
abbrev Z0i:=@Option.map_eq_some_iff
abbrev Z0j:=@List.length_singleton
abbrev Z0k:=@PySem.F.plainAttrs_list
abbrev Z0m:=@PyProof.Rows.boot_tuple
abbrev Z0n:=@PySem.F.slot_list_append
abbrev Z0o:=@PySem.F.type_list_append
abbrev Z0p:=@List.map_cons
abbrev Z0q:=@Nat.lt_of_lt_of_le
abbrev Z0r:=@PySem.boot_len
abbrev Z0s:=@List.map_append
abbrev Z0t:=@if_neg
abbrev Z0u:=@List.append_nil
abbrev Z0v:=@Bool.false_ne_true
abbrev Z0w:=@List.mem_singleton
abbrev Z0x:=@List.length_take
abbrev Z0y:=@List.length_cons
abbrev Z0z:=@List.append_assoc
abbrev Z10:=@wpAny_mono
abbrev Z11:=@wpAny_field
abbrev Z12:=@if_pos
abbrev Z13:=@List.mem_of_getElem?
abbrev Z14:=@List.take_add_one
abbrev Z15:=@List.nodup_cons
abbrev Z16:=@wpAny_newObj_type
abbrev Z18:=@List.take_length
abbrev Z19:=@List.length_drop
abbrev Z1a:=@Option.some.inj
abbrev Z1b:=@wpAny_callSpecial?_slot
abbrev Z1c:=@PySem.W.mg_none_of
abbrev Z1e:=@Nat.zero_le
abbrev Z1f:=@List.mem_cons_of_mem
abbrev Z1g:=@wpAny_call_entry
abbrev Z1h:=@wpAny_setField_rec
abbrev Z1i:=@List.not_mem_nil
abbrev Z1j:=@decide_eq_false
abbrev Z1k:=@wpAny_loadPart_at
abbrev Z1l:=@List.getElem?_append_right
abbrev Z1n:=@Nat.le_trans
abbrev Z1o:=@PyProof.Rows.boot_list
abbrev Z1p:=@Int.emod_lt_of_pos
abbrev Z1q:=@Nat.ne_of_gt
abbrev Z1r:=@Heap.get?_update_self
abbrev Z1s:=@Heap.size_push
abbrev Z1t:=@wpAny_setField
abbrev Z1v:=@Int.emod_nonneg
abbrev Z1w:=@wpAny_holding
abbrev Z1x:=@Bool.and_eq_true
abbrev Z1y:=@wpAny_standAt
abbrev Z1z:=@List.getElem?_map
abbrev Z20:=@decide_eq_true
abbrev Z21:=@wpAny_seqItems
abbrev Z22:=@beq_eq_false_iff_ne
abbrev Z23:=@List.getElem?_set_self
abbrev Z26:=@List.getElem?_append_left
abbrev Z27:=@List.mem_cons_self
abbrev Z28:=@List.lookup_cons
abbrev Z2a:=@List.getElem?_set_ne
abbrev Z2b:=@wpAny_execs_nil
abbrev Z2c:=@List.mem_map
end
namespace L2
open PySem PySem.Spec PyProof.Rows
abbrev Key:=Sum Int Str
def B5c:Key->Value->Bool
 | .inl k,v=>Value.isInt k v
 | .inr x,v=>Value.isStrOf x v
def keyH (w:World):Key->Int
 | .inl k=>hashInt k
 | .inr x=>hashStr w x
theorem A1k:∀{k:Key} {v:Value},B5c k v=true->(∃i t,k=Sum.inl i/\v=Value.int i t)\/(∃x t,k=Sum.inr x/\v=Value.str x t)
 | .inl i,v,h=>by
  obtain ⟨t,e⟩:=Value.isInt_shape (k:=i) (v:=v) h;exact .inl ⟨i,t,rfl,e⟩
 | .inr x,v,h=>by
  obtain ⟨t,e⟩:=Value.isStrOf_shape (x:=x) (v:=v) h;exact .inr ⟨x,t,rfl,e⟩
theorem C0a (i:Int) (t:Tok):B5c (.inl i) (.int i t)=true:=by simp [B5c,Value.isInt]
theorem C0t (x:Str) (t:Tok):B5c (.inr x) (.str x t)=true:=by simp [B5c,Value.isStrOf]
theorem D0a (a b:Int):decide ((Sum.inl a:Key)=Sum.inl b)=(a == b):=by
 by_cases e:a=b
 ·subst e;simp
 ·have h:¬(Sum.inl a:Key)=Sum.inl b:=λq=>e (Sum.inl.inj q);rw [Z1j h];exact (Z22.mpr e).symm
theorem D0c (a b:Str):decide ((Sum.inr a:Key)=Sum.inr b)=decide (a=b):=by
 by_cases e:a=b
 ·subst e;simp
 ·have h:¬(Sum.inr a:Key)=Sum.inr b:=λq=>e (Sum.inr.inj q);rw [Z1j h,Z1j e]
theorem D0f (a:Int) (b:Str):decide ((Sum.inl a:Key)=Sum.inr b)=false:=Z1j (λq=>nomatch q)
theorem D0m (a:Str) (b:Int):decide ((Sum.inr a:Key)=Sum.inl b)=false:=Z1j (λq=>nomatch q)
def A0l (prog:Program) (w:World):PySem.KeyKind prog w Key where
 is:=B5c
 hash:=keyH w
 inj:=λv a b ha hb=>by
  rcases A1k ha with ⟨i,t,rfl,rfl⟩ | ⟨x,t,rfl,rfl⟩
  ·rcases A1k hb with ⟨j,u,rfl,e⟩ | ⟨y,u,rfl,e⟩
   ·injection e with e1 _;rw [e1]
   ·exact nomatch e
  ·rcases A1k hb with ⟨j,u,rfl,e⟩ | ⟨y,u,rfl,e⟩
   ·exact nomatch e
   ·injection e with e1 _;rw [e1]
 byValue:=λk v h=>by
  rcases A1k h with ⟨i,t,rfl,rfl⟩ | ⟨x,t,rfl,rfl⟩ <;> rfl
 pyHash:=λhv h=>by
  rcases A1k hv with ⟨i,t,rfl,rfl⟩ | ⟨x,t,rfl,rfl⟩
  ·exact wpAny_pyHash_int h
  ·exact wpAny_pyHash_str h
 eqBool:=λhu hv h=>by
  rcases A1k hu with ⟨i,t,rfl,rfl⟩ | ⟨x,t,rfl,rfl⟩
  ·rcases A1k hv with ⟨j,u,rfl,rfl⟩ | ⟨y,u,rfl,rfl⟩
   ·rw [D0a] at h;exact wpAny_eqBool_int h
   ·rw [D0f] at h;exact SeqAt.EqAt.int_str i t y u _ _ _ _ h
  ·rcases A1k hv with ⟨j,u,rfl,rfl⟩ | ⟨y,u,rfl,rfl⟩
   ·rw [D0m] at h;exact SeqAt.EqAt.str_int x t j u _ _ _ _ h
   ·rw [D0c] at h;exact wpAny_eqBool_str h
 «strs»:=λk x t v h=>by
  rcases A1k h with ⟨i,u,rfl,e⟩ | ⟨y,u,rfl,e⟩
  ·exact nomatch e
  ·injection e with e1 _;subst e1;cases v <;> rfl
theorem B5v (prog:Program) (w:World) (i:Int) (t:Tok):(A0l prog w).is (.inl i) (.int i t)=true:=C0a i t
theorem B5w (prog:Program) (w:World) (x:Str) (t:Tok):(A0l prog w).is (.inr x) (.str x t)=true:=C0t x t
inductive V where
 | non | bl (b:Bool) | int (i:Int) | str (x:Str) | byt (b:Array UInt8) | flt (b:UInt64) | ref (a:Addr) | ty (n:String)
 deriving DecidableEq
def A2a:V->Value->Prop
 | .non,u=>u=Value.none
 | .bl b,u=>u=Value.bool b
 | .int i,u=>∃t,u=Value.int i t
 | .str x,u=>∃t,u=Value.str x t
 | .byt b,u=>∃t,u=Value.bytes b t
 | .flt b,u=>∃t,u=Value.float b t
 | .ref a,u=>u=Value.ref a
 | .ty n,u=>u=Value.type n
abbrev A1v:List V->List Value->Prop:=Paired A2a
theorem A1v.length {xs:List V} {us:List Value} (r:A1v xs us):xs.length=us.length:=Paired.length r
theorem A1v.get:∀{xs:List V} {us:List Value} {i:Nat} {x:V},A1v xs us->xs[i]? =some x->∃u,us[i]? =some u/\A2a x u
 | _,_,_,_,.nil,e=>by simp at e
 | _,_,0,_,.cons r _,e=>by simp at e;subst e;exact ⟨_,rfl,r⟩
 | _,_,i+1,x,.cons _ t,e=>by
  obtain ⟨u,h1,h2⟩:=A1v.get (i:=i) (x:=x) t (by simpa using e);exact ⟨u,by simpa using h1,h2⟩
theorem A1v.append:∀{xs ys:List V} {us ws:List Value},A1v xs us->A1v ys ws->A1v (xs++ys) (us++ws)
 | _,_,_,_,.nil,s=>s
 | _,_,_,_,.cons r t,s=> .cons r (A1v.append t s)
theorem A1v.take:∀{xs:List V} {us:List Value} (n:Nat),A1v xs us->A1v (xs.take n) (us.take n)
 | _,_,0,_=> .nil
 | _,_,_+1,.nil=> .nil
 | _,_,n+1,.cons r t=> .cons r (A1v.take n t)
theorem A1v.drop:∀{xs:List V} {us:List Value} (n:Nat),A1v xs us->A1v (xs.drop n) (us.drop n)
 | _,_,0,r=>r
 | _,_,_+1,.nil=> .nil
 | _,_,n+1,.cons _ t=>A1v.drop n t
def B4h:Option V->Option Value->Prop
 | some v,some u=>A2a v u
 | none,none=>True
 | _,_=>False
def KV {κ:Type}:List (κ×V)->List (κ×Value)->Prop:=Paired λ(p:κ×V) (q:κ×Value)=>p.1=q.1/\A2a p.2 q.2
def kV:Key->V
 | .inl i=> .int i
 | .inr x=> .str x
inductive HO where
 | lst (xs:List V)
 | tup (xs:List V)
 | dK (kvs:List (Key×V)) | dT (kvs:List (List Key×V))
 | set (S:Int->Bool) (n:Nat)
 | ins (C dx:Addr) (fs:List (Str×V))
 | own (x:Addr)
 | xd (fs:List (Str×V))
 | met (f x:Addr)
 | rng (lo hi:Int)
 | frz (o:Obj) (u:HO)
 | tbl (ps:Array Value)
 | ext (φ:Heap->Prop)
abbrev Hp:=Addr->Option HO
def upd (H:Hp) (a:Addr) (o:HO):Hp:=λb=>if b=a then some o else H b
theorem A0b {H:Hp} {a:Addr} {o:HO}:upd H a o a=some o:=by unfold upd;rw [Z12 rfl]
theorem A0e {H:Hp} {a b:Addr} {o:HO} (h:b≠a):upd H a o b=H b:=by unfold upd;rw [Z0t h]
theorem C7l {H:Hp} {a:Addr} {o u:HO}:upd (upd H a o) a u=upd H a u:=by
 funext b;unfold upd;split <;> rfl
theorem A0z {H:Hp} {a b:Addr} {o u:HO} (h:H a=some o) (h':H b=some u) (d:o≠u):a≠b:=by
 intro e;subst e;rw [h] at h';exact d (Z1a h')
theorem A0i {H:Hp} {a b:Addr} {o:HO} (h:H a=some o) (h':H b=none):a≠b:=by
 intro e;subst e;rw [h] at h';cases h'
section
variable (P:Program) (w:World)
def A1c (H:Hp) (h:Heap) (a:Addr):HO->Prop
 | .lst xs=>xs.length<=sizeLine/\∃(its:List Value) (n:Nat),A1v xs its/\h.get? a=some { cls:= .type "list",data:= .seq its.toArray n }
 | .tup xs=>xs.length<=sizeLine/\∃its:List Value,A1v xs its/\IsTup h a its.toArray
 | .dK kvs=>kvs.length<=sizeLine/\(a == sysModules)=false/\∃vs,KV kvs vs/\h.DictOf (A0l P w) a vs
 | .dT kvs=>kvs.length<=sizeLine/\(a == sysModules)=false/\∃xs:List (List Key×Addr×Value),
   Paired (λ(p:List Key×V) (q:List Key×Addr×Value)=>p.1=q.1/\H q.2.1=some (.tup (p.1.map kV))/\A2a p.2 q.2.2) kvs xs/\
   ∃o es ep,h.get? a=some o/\o.ExactDict/\o.data= .dict es ep/\es.toList=xs.map (entryOfKey (tupleKind (A0l P w)))/\(xs.map (·.1)).Nodup
 | .set S n=>h.SetOf (intKind P w) a S n
 | .ins C dx fs=>H dx=some (.own a)/\fs.length<=1000/\dx≠a/\h.get? a=some (PySem.W.instObj C dx)/\
   ∃mA,h.Ns1 dx mA/\(∀f,B4h (fs.lookup f) (mA f))/\PySem.Within mA (fs.map (·.1))
 | .own _=>∃o,h.get? a=some o
 | .xd fs=>∃mA,h.Ns1 a mA/\∀f,B4h (fs.lookup f) (mA f)
 | .rng lo hi=>∃t u v,h.get? a=some { cls:= .type "range",data:= .fields #[.int lo t,.int hi u,.int 1 v] }
 | .frz o u=>h.get? a=some o/\A1c H h a u
 | .tbl ps=>h.get? a=some { cls:= .none,data:= .fields ps }
 | .met f x=>h.get? a=some (PySem.W.methodObj (.ref f) (.ref x))
 | .ext φ=>φ h/\(∃o,h.get? a=some o)/\∀h1 h2:Heap,φ h1->(∀o,h1.get? a=some o->h2.get? a=some o)->φ h2
def HOk (H:Hp) (h:Heap):Prop:=∀a o,H a=some o->A1c P w H h a o
end
section
variable {P:Program} {w:World} {H H':Hp} {h h':Heap} {a:Addr} {o:HO}
theorem A1c.lt (x:A1c P w H h a o):a<h.objs.size:=by
 cases o with
 | lst xs=>obtain ⟨_,_,_,_,e⟩:=x;exact Z0a e
 | tup xs=>obtain ⟨_,_,_,p⟩:=x;exact p.lt
 | dK kvs=>obtain ⟨_,_,_,_,o,_,_,e,_⟩:=x;exact Z0a e
 | dT kvs=>obtain ⟨_,_,_,_,o,_,_,e,_⟩:=x;exact Z0a e
 | set S n=>obtain ⟨o,_,_,_,e,_⟩:=x;exact Z0a e
 | ins C dx fs=>obtain ⟨_,_,_,e,_⟩:=x;exact Z0a e
 | own y=>obtain ⟨_,e⟩:=x;exact Z0a e
 | xd fs=>obtain ⟨_,⟨_,_,_,e,_⟩,_⟩:=x;exact Z0a e
 | rng lo hi=>obtain ⟨_,_,_,e⟩:=x;exact Z0a e
 | frz ob u=>obtain ⟨e,_⟩:=x;exact Z0a e
 | tbl ps=>exact Z0a (show h.get? a=some _ from x)
 | met f y=>exact Z0a (show h.get? a=some _ from x)
 | ext φ=>obtain ⟨_,⟨_,e⟩,_⟩:=x;exact Z0a e
theorem Paired.mapP {α β:Type} {F G:α->β->Prop}:∀{l₁:List α} {l₂:List β},Paired F l₁ l₂->(∀a b,F a b->G a b)->Paired G l₁ l₂
 | _,_,.nil,_=> .nil
 | _,_,.cons r t,f=> .cons (f _ _ r) (Paired.mapP t f)
theorem A1c.stay (x:A1c P w H h a o) (k:∀b u,(b=a\/H b=some (.own a))->h.get? b=some u->h'.get? b=some u)
  (ho:∀b,H b=some (.own a)->H' b=some (.own a)) (ht:∀b xs,H b=some (.tup xs)->H' b=some (.tup xs)):A1c P w H' h' a o:=by
 induction o with
 | lst xs=>obtain ⟨z,its,n,r,e⟩:=x;exact ⟨z,its,n,r,k _ _ (.inl rfl) e⟩
 | tup xs=>obtain ⟨z,its,r,ob,e,c⟩:=x;exact ⟨z,its,r,ob,k _ _ (.inl rfl) e,c⟩
 | dK kvs=>obtain ⟨z,y,vs,r,ob,es,ep,e,c⟩:=x;exact ⟨z,y,vs,r,ob,es,ep,k _ _ (.inl rfl) e,c⟩
 | dT kvs =>
  obtain ⟨z,y,xs,r,ob,es,ep,e,c⟩:=x;exact ⟨z,y,xs,Paired.mapP r λp q z=>⟨z.1,ht _ _ z.2.1,z.2.2⟩,ob,es,ep,k _ _ (.inl rfl) e,c⟩
 | set S n=>obtain ⟨ob,es,ep,t,e,c⟩:=x;exact ⟨ob,es,ep,t,k _ _ (.inl rfl) e,c⟩
 | ins C dx fs =>
  obtain ⟨d,z,ne,e,mA,⟨od,es,ep,e2,c⟩,r⟩:=x;exact ⟨ho _ d,z,ne,k _ _ (.inl rfl) e,mA,⟨od,es,ep,k _ _ (.inr d) e2,c⟩,r⟩
 | own y=>obtain ⟨ob,e⟩:=x;exact ⟨ob,k _ _ (.inl rfl) e⟩
 | xd fs=>obtain ⟨mA,⟨od,es,ep,e,c⟩,r⟩:=x;exact ⟨mA,⟨od,es,ep,k _ _ (.inl rfl) e,c⟩,r⟩
 | rng lo hi=>obtain ⟨t,u,v,e⟩:=x;exact ⟨t,u,v,k _ _ (.inl rfl) e⟩
 | frz ob u ih=>obtain ⟨e,q⟩:=x;exact ⟨k _ _ (.inl rfl) e,ih q⟩
 | tbl ps =>
  have e:h.get? a=some { cls:= .none,data:= .fields ps }:=x;show h'.get? a=some { cls:= .none,data:= .fields ps };exact k a _ (.inl rfl) e
 | met f y =>
  have e:h.get? a=some (PySem.W.methodObj (.ref f) (.ref y)):=x;show h'.get? a=some (PySem.W.methodObj (.ref f) (.ref y));exact k a _ (.inl rfl) e
 | ext φ=>obtain ⟨p,⟨o,e⟩,st⟩:=x;exact ⟨st _ _ p λo q=>k _ _ (.inl rfl) q,⟨o,k _ _ (.inl rfl) e⟩,st⟩
theorem HOk.lt (x:HOk P w H h) (e:H a=some o):a<h.objs.size:=(x a o e).lt
theorem HOk.fresh (x:HOk P w H h) (e:h.objs.size<=a):H a=none:=by
 cases q:H a with
 | none=>rfl
 | some u=>exact absurd (Z0q (x.lt q) e) (Nat.lt_irrefl _)
theorem HOk.kept (x:HOk P w H h) (k:∀b u,h.get? b=some u->h'.get? b=some u):HOk P w H h':=λa o e =>
 (x a o e).stay (λb u _ q=>k b u q) (λ_ q=>q) λ_ _ q=>q
theorem HOk.laid (x:HOk P w H h) (k:∀b u,h.get? b=some u->h'.get? b=some u) (hp:h.objs.size<=a) (new:A1c P w (upd H a o) h' a o):HOk P w (upd H a o) h':=λb u e=>by
 have hn:=x.fresh hp;by_cases hb:b=a
 ·subst hb;rw [A0b] at e;cases e;exact new
 ·rw [A0e hb] at e;exact (x b u e).stay (λc v _ q=>k c v q) (λc q=>by rw [A0e (A0i q hn)];exact q) λc xs q=>by rw [A0e (A0i q hn)];exact q
end
def Rd (H:Hp) (a:Addr) (u:HO):Prop:=H a=some u\/∃o,H a=some (.frz o u)
theorem Rd.ok {P:Program} {w:World} {H:Hp} {h:Heap} {a:Addr} {u:HO} (r:Rd H a u) (x:HOk P w H h):A1c P w H h a u:=by
 rcases r with r | ⟨o,r⟩
 ·exact x a u r
 ·obtain ⟨_,q⟩:=x a _ r;exact q
def Mut:Option HO->Prop
 | some (.lst _)=>True
 | some (.dK _)=>True
 | some (.dT _)=>True
 | some (.set _ _)=>True
 | some (.ins _ _ _)=>True
 | some (.ext _)=>True
 | _=>False
section
variable {P:Program} {w:World} {H:Hp} {h h':Heap} {x e:Addr} {o':HO}
theorem HOk.write (ok:HOk P w H h) (mu:Mut (H x)) (he:e=x\/H e=some (.own x)) (k:∀b u,b≠e->h.get? b=some u->h'.get? b=some u) (heo:∃u,h'.get? e=some u)
  (new:A1c P w (upd H x o') h' x o'):HOk P w (upd H x o') h':=λb u q=>by
 have nown:∀c y,H c=some (.own y)->c≠x:=λc y r z=>by subst z;rw [r] at mu;exact mu
 have ntup:∀c xs,H c=some (.tup xs)->c≠x:=λc xs r z=>by subst z;rw [r] at mu;exact mu
 by_cases hb:b=x
 ·subst hb;rw [A0b] at q;cases q;exact new
 ·rw [A0e hb] at q;by_cases hbe:b=e
  ·have q':H b=some (.own x):=by
    rcases he with z | z
    ·exact absurd (hbe.trans z) hb
    ·rw [hbe];exact z
   rw [q] at q';cases q';obtain ⟨v,hv⟩:=heo;exact ⟨v,by rw [hbe];exact hv⟩
  ·refine (ok b u q).stay (λc v hc r=>k c v ?_ r) (λc r=>by rw [A0e (nown c b r)];exact r) λc xs r=>by rw [A0e (ntup c xs r)];exact r
   rcases hc with rfl | hc
   ·exact hbe
   ·rintro rfl;rcases he with z | z
    ·exact nown c b hc z
    ·rw [hc] at z;cases z;exact hb rfl
end
structure Un (fs ex:List Addr) (H H':Hp) (h h':Heap):Prop where
 keep:∀b o,h.get? b=some o->H b=none->b∉fs->b∉ex->h'.get? b=some o
 slot:∀b o,h.get? b=some o->H b=none->b∈fs->b∉ex->∃sl,h'.get? b=some { o with slots:=sl }
 free:∀b o,h.get? b=some o->H b=none->b∉ex->H' b=none
 there:∀b o,h.get? b=some o->b∉ex->∃o',h'.get? b=some o'
 tups:∀b xs,H b=some (.tup xs)->H' b=some (.tup xs)
 frzs:∀b o u,H b=some (.frz o u)->H' b=some (.frz o u)
 tbls:∀b ps,H b=some (.tbl ps)->∃more,H' b=some (.tbl (ps++more))
section
variable {fs fs' ex ex':List Addr} {H H1 H2:Hp} {h h1 h2 h':Heap} {a x e:Addr} {o:HO}
theorem Un.any (u:Un fs ex H H1 h h1) {b:Addr} {ob:Obj} (q:h.get? b=some ob) (n:H b=none) (hx:b∉ex):∃sl,h1.get? b=some { ob with slots:=sl }:=by
 by_cases hb:b∈fs
 ·exact u.slot b ob q n hb hx
 ·exact ⟨ob.slots,u.keep b ob q n hb hx⟩
theorem Un.kept (k:∀b u,h.get? b=some u->h'.get? b=some u):Un fs ex H H h h' :=
 ⟨λb ob q _ _ _=>k b ob q,λb ob q _ _ _=>⟨ob.slots,k b ob q⟩,λ_ _ _ n _=>n,λb ob q _=>⟨ob,k b ob q⟩,λ_ _ q=>q,λ_ _ _ q=>q,λ_ ps q=>⟨#[],by rw [q];simp⟩⟩
theorem Un.refl:Un fs ex H H h h:=Un.kept λ_ _ q=>q
theorem Un.laid (k:∀b u,h.get? b=some u->h'.get? b=some u) (hp:h.objs.size<=a) (hn:H a=none):Un fs ex H (upd H a o) h h' where
 keep:=λb u q _ _ _=>k b u q
 slot:=λb u q _ _ _=>⟨u.slots,k b u q⟩
 free:=λb u q n _=>by rw [A0e (Z0h (Z0q (Z0a q) hp))];exact n
 there:=λb u q _=>⟨u,k b u q⟩
 tups:=λb xs q=>by rw [A0e (A0i q hn)];exact q
 frzs:=λb u xs q=>by rw [A0e (A0i q hn)];exact q
 tbls:=λb ps q=>⟨#[],by rw [A0e (A0i q hn),q];simp⟩
theorem Un.write (mu:Mut (H x)) (he:e=x\/H e=some (.own x)) (k:∀b u,b≠e->h.get? b=some u->h'.get? b=some u) (heo:∃u,h'.get? e=some u):Un fs ex H (upd H x o) h h':=by
 have hx:∀b,H b=none->b≠x:=λb n z=>by subst z;rw [n] at mu;exact mu
 have hb:∀b,H b=none->b≠e:=λb n z=>by
  subst z;rcases he with r | r
  ·exact hx b n r
  ·rw [n] at r;cases r
 have hm:∀b u,H b=some u->¬Mut (some u)->b≠x:=λb u q nm z=>by subst z;rw [q] at mu;exact nm mu
 refine ⟨λb u q n _ _=>k b u (hb b n) q,λb u q n _ _=>⟨u.slots,k b u (hb b n) q⟩,λb u q n _=>by rw [A0e (hx b n)];exact n,λb u q _=> ?_,
  λb xs q=>by rw [A0e (hm b _ q λz=>z)];exact q,λb u xs q=>by rw [A0e (hm b _ q λz=>z)];exact q,λb ps q=>⟨#[],by rw [A0e (hm b _ q λz=>z),q];simp⟩⟩
 by_cases hbe:b=e
 ·subst hbe;exact heo
 ·exact ⟨u,k b u hbe q⟩
end
def trk (h:Heap) (H:Hp):List Addr:=(List.range h.objs.size).filter λa=>(H a).isSome
def C4t (h:Heap) (H:Hp):Heap:=PySem.W.hideAll h (trk h H)
theorem C0q (h:Heap) (H:Hp):(C4t h H).objs.size=h.objs.size:=PySem.W.hideAll_size _ _
theorem C4v {h:Heap} {H:Hp} {b:Addr} {o:Obj} (e:h.get? b=some o) (n:H b=none):(C4t h H).get? b=some o :=
 PySem.W.hideAll_get _ e λhm=>by
  have q:(H b).isSome=true:=(List.mem_filter.mp hm).2;rw [n] at q;simp at q
theorem C8w {h:Heap} {H:Hp} {b:Addr} {o:Obj} (e:(C4t h H).get? b=some o):h.get? b=some o/\H b=none:=by
 have e':h.get? b=some o:=PySem.W.of_hideAll (trk h H) e;refine ⟨e',?_⟩
 cases q:H b with
 | none=>rfl
 | some x =>
  have hm:b∈trk h H:=List.mem_filter.mpr ⟨List.mem_range.mpr (Z0a e'),by simp [q]⟩;have z:(C4t h H).get? b=none:=PySem.W.hideAll_none (trk h H) hm;rw [z] at e;cases e
structure Mod (K:PySem.W.Frag) (mg:Str->Option Value) (base:Heap):Prop where
 kin:K.In base
 glob:base.Ns mainGlobals mg
 blt:∃mb,base.Ns builtinsNs mb/\∀x:Str,x≠"__name__"->mb x=bootBuiltins x
 nolimit:base.NoLimit
structure Cx where
 prog:Program
 w:World
 K:PySem.W.Frag
 mg:Str->Option Value
 base:Heap
 A:Around
 N:List Str
 s₀:Shared
 H₀:Hp
 env:Env
 outer:List Env
 stack:List Env
 ex:List Addr
 fn:Str->Bool
 calm:Bool
 pn:List (Addr×Obj)
 xe:Value->Shared->Prop
def frs (l:List Env):List Addr:=l.filterMap (·.frame)
abbrev Cx.fs (X:Cx):List Addr:=frs X.outer
def Vis (sc:Scope) (x:Str):Prop:=sc.names.lookup x=some .local\/sc.names.lookup x=some .cell\/sc.names.lookup x=some .free
def Loc (sc:Scope) (x:Str):Prop:=sc.names.lookup x=some .local\/sc.names.lookup x=some .cell
def Look (env:Env) (h:Heap) (m:Str->Option Value) (x:Str) (u:Value):Prop :=
 (env.kindOf x=some .local/\m x=some u)\/((env.kindOf x=some .cell\/env.kindOf x=some .free)/\∃c,env.cells.lookup x=some c/\h.IsCell c (some u))
structure Cx.Ok (X:Cx):Prop where
 mod:Mod X.K X.mg X.base
 kind:X.env.scope.kind= .function
 glob:X.env.globals=mainGlobals
 blt:X.env.builtins=builtinsNs
 above:X.s₀.heap.objs.size<=X.env.locals
 inj:∀x y c,X.env.cells.lookup x=some c->X.env.cells.lookup y=some c->x=y
 has:∀x,(X.env.kindOf x=some .cell\/X.env.kindOf x=some .free)->∃c,X.env.cells.lookup x=some c
 cab:∀x c,X.fn x=true->X.env.cells.lookup x=some c->X.s₀.heap.objs.size<=c
 hd:X.calm=true->X.A.handled=none
 frames:X.A.frames=some X.stack
 stk:X.stack=X.outer\/(X.stack=X.env::X.outer/\X.env.frame=some X.env.locals)
 exf:∀b∈X.ex,b≠X.env.locals/\∀x c,X.env.cells.lookup x=some c->c≠b
 bs:∀b o,X.base.get? b=some o->X.s₀.heap.get? b=some o/\X.H₀ b=none
 bsz:X.base.objs.size<=X.s₀.heap.objs.size
 noex:∀b o,X.base.get? b=some o->b∉X.ex
 exfs:∀b∈X.ex,b∉X.fs
 funs:X.s₀.heap.FunFrames X.base X.outer
 frf:∀b∈X.fs,X.H₀ b=none
structure Inv (X:Cx) (pins:List (Addr×Obj)) (σ:List (Option V)) (H:Hp) (s:Shared):Prop where
 ok:X.Ok
 os:s.os=X.s₀.os
 bare:AllBare s.gens
 base:Un X.fs X.ex X.H₀ H X.s₀.heap s.heap
 loc:∃m,s.heap.Ns X.env.locals m/\∀(i:Nat) (x:Str) (v:V),X.N[i]? =some x->σ[i]? =some (some v)->Vis X.env.scope x->∃u,A2a v u/\Look X.env s.heap m x u
 cell:∀x c,X.env.cells.lookup x=some c->∃v,s.heap.IsCell c v
 free:H X.env.locals=none
 freeC:∀x c,X.env.cells.lookup x=some c->H c=none
 pin:∀p∈X.pn++pins,s.heap.get? p.1=some p.2/\H p.1=none/\p.1≠X.env.locals/\p.1∉X.fs/\∀v,p.2.data≠.cell v
 hok:HOk X.prog X.w H s.heap
 len:σ.length=X.N.length
section
variable {X:Cx} {pins:List (Addr×Obj)} {σ:List (Option V)} {H H':Hp} {s:Shared} {h':Heap}
theorem Cx.Ok.nofr (ok:X.Ok) {b:Addr} {o:Obj} (e:X.base.get? b=some o):b∉X.fs:=λhb=>by
 have:=(ok.funs.mem hb).1;rw [e] at this;cases this
theorem Inv.bs (I:Inv X pins σ H s):∀b o,X.base.get? b=some o->s.heap.get? b=some o/\H b=none:=λb o e =>
 ⟨I.base.keep b o (I.ok.bs b o e).1 (I.ok.bs b o e).2 (I.ok.nofr e) (I.ok.noex b o e),I.base.free b o (I.ok.bs b o e).1 (I.ok.bs b o e).2 (I.ok.noex b o e)⟩
theorem Inv.bk (I:Inv X pins σ H s):∀b o,X.base.get? b=some o->s.heap.get? b=some o:=λb o e=>(I.bs b o e).1
theorem Inv.mod (I:Inv X pins σ H s):Mod X.K X.mg X.base:=I.ok.mod
theorem Inv.kIn (I:Inv X pins σ H s):X.K.In s.heap:=I.ok.mod.kin.keeps I.bk
theorem Inv.lt (I:Inv X pins σ H s):X.env.locals<s.heap.objs.size:=let ⟨_,hn,_⟩:=I.loc;hn.lt
theorem Inv.sz (I:Inv X pins σ H s):X.s₀.heap.objs.size<=s.heap.objs.size:=Z1n I.ok.above (Nat.le_of_lt I.lt)
theorem Inv.nofs (I:Inv X pins σ H s) {a:Addr} (h:s.heap.objs.size<=a):a∉X.fs:=λhb=>by
 obtain ⟨_,o,ho,_⟩:=I.ok.funs.mem hb;exact absurd (Z0q (Z0a ho) (Z1n I.sz h)) (Nat.lt_irrefl _)
theorem Inv.cne (I:Inv X pins σ H s):∀x c,X.env.cells.lookup x=some c->c≠X.env.locals:=λx c e z=>by
 obtain ⟨v,o,ho,hd⟩:=I.cell x c e;obtain ⟨m,⟨o',es,ep,ho',hd',_⟩,_⟩:=I.loc;rw [z,ho'] at ho;cases ho;rw [hd'] at hd;cases hd
theorem Inv.funs (I:Inv X pins σ H s):s.heap.FunFrames X.base X.outer:=by
 have all:∀(l:List Env),(∀b∈frs l,b∈X.fs)->X.s₀.heap.FunFrames X.base l->s.heap.FunFrames X.base l:=by
  intro l
  induction l with
  | nil=>intro _ _;trivial
  | cons env r ih =>
   intro hs hl;obtain ⟨hk,⟨L,o,hf,hn,ho,hd⟩,hr⟩:=hl;have hL:L∈X.fs:=hs L (by unfold frs;rw [List.filterMap_cons,hf];exact Z27);obtain ⟨sl,e⟩:=I.base.slot L o ho (I.ok.frf L hL) hL λz=>I.ok.exfs L z hL;exact ⟨hk,⟨L,_,hf,hn,e,hd⟩,ih (λb hb=>hs b (by unfold frs;rw [List.filterMap_cons,hf];exact Z1f _ hb)) hr⟩
 exact all X.outer (λ_ hb=>hb) I.ok.funs
theorem Inv.stack (I:Inv X pins σ H s):s.heap.FunFrames X.base X.stack:=by
 rcases I.ok.stk with e | ⟨e,hf⟩
 ·rw [e];exact I.funs
 ·rw [e];obtain ⟨m,hn,_⟩:=I.loc;refine .cons (by rw [I.ok.kind];decide) hf hn ?_ I.funs;exact Heap.get?_none_of_le (Z1n I.ok.bsz I.ok.above)
theorem Inv.stkSub (I:Inv X pins σ H s):∀b∈frs X.stack,b∈X.env.locals::X.fs:=λb hb=>by
 rcases I.ok.stk with e | ⟨e,hf⟩
 ·rw [e] at hb;exact Z1f _ hb
 ·rw [e] at hb;unfold frs at hb;rw [List.filterMap_cons,hf] at hb;exact hb
theorem Inv.stkFree (I:Inv X pins σ H s):∀b∈frs X.stack,H b=none:=λb hb=>by
 rcases Z0e.mp (I.stkSub b hb) with e | hb
 ·rw [e];exact I.free
 ·obtain ⟨_,o,ho,_⟩:=I.ok.funs.mem hb;exact I.base.free b o ho (I.ok.frf b hb) λz=>I.ok.exfs b z hb
theorem Inv.step {g':Array GenState} {t':Nat} {d':Drawn} {ch:List Addr} (I:Inv X pins σ H s)
  (hch:∀b∈ch,(b∈X.ex\/X.s₀.heap.objs.size<=b)/\b≠X.env.locals/\(∀x c,X.env.cells.lookup x=some c->c≠b)/\∀p∈X.pn++pins,p.1≠b)
  (keep:∀b o,b≠X.env.locals->b∉X.fs->b∉ch->s.heap.get? b=some o->H b=none->h'.get? b=some o)
  (slot:∀b o,b≠X.env.locals->b∈X.fs->b∉ch->s.heap.get? b=some o->H b=none->∃sl,h'.get? b=some { o with slots:=sl }) (free:∀b o,b∉ch->s.heap.get? b=some o->H b=none->H' b=none)
  (there:∀b o,b∉ch->s.heap.get? b=some o->∃o',h'.get? b=some o')
  (tups:∀b xs,H b=some (.tup xs)->H' b=some (.tup xs)) (frzs:∀b o u,H b=some (.frz o u)->H' b=some (.frz o u)) (tbls:∀b ps,H b=some (.tbl ps)->∃more,H' b=some (.tbl (ps++more)))
  (ns:∀m,s.heap.Ns X.env.locals m->h'.Ns X.env.locals m) (hok:HOk X.prog X.w H' h') (hg:AllBare g') :
  Inv X pins σ H' { s with heap:=h',gens:=g',drawn:=d',toks:=t' }:=by
 have neL:∀b o,X.s₀.heap.get? b=some o->b≠X.env.locals:=λb o e=>Z0h (Z0q (Z0a e) I.ok.above)
 have neC:∀b o,X.s₀.heap.get? b=some o->b∉X.ex->b∉ch:=λb o e hx hb=>by
  rcases (hch b hb).1 with z | z
  ·exact hx z
  ·exact absurd (Z0q (Z0a e) z) (Nat.lt_irrefl _)
 have cellK:∀x c,X.env.cells.lookup x=some c->∀v,s.heap.IsCell c v->h'.IsCell c v:=λx c e v ⟨o,ho,hd⟩=>by
  have nch:c∉ch:=λz=>(hch c z).2.2.1 x c e rfl;by_cases hc:c∈X.fs
  ·obtain ⟨sl,q⟩:=slot c o (I.cne x c e) hc nch ho (I.freeC x c e);exact ⟨_,q,hd⟩
  ·exact ⟨o,keep c o (I.cne x c e) hc nch ho (I.freeC x c e),hd⟩
 refine ⟨I.ok,I.os,hg,⟨λb o e n hb hx=> ?_,λb o e n hb hx=> ?_,λb o e n hx=> ?_,λb o e hx=> ?_,λb xs e=>tups b xs (I.base.tups b xs e),λb o xs e=>frzs b o xs (I.base.frzs b o xs e),λb ps e=> ?_⟩,?_,λx c e=> ?_,?_,λx c e=> ?_,λp hp=> ?_,hok,I.len⟩
 ·exact keep b o (neL b o e) hb (neC b o e hx) (I.base.keep b o e n hb hx) (I.base.free b o e n hx)
 ·obtain ⟨sl,e1⟩:=I.base.slot b o e n hb hx;obtain ⟨sl',e2⟩:=slot b _ (neL b o e) hb (neC b o e hx) e1 (I.base.free b o e n hx);exact ⟨sl',e2⟩
 ·obtain ⟨o',e1⟩:=I.base.there b o e hx;exact free b o' (neC b o e hx) e1 (I.base.free b o e n hx)
 ·obtain ⟨o',e1⟩:=I.base.there b o e hx;exact there b o' (neC b o e hx) e1
 ·obtain ⟨m1,e1⟩:=I.base.tbls b ps e;obtain ⟨m2,e2⟩:=tbls b _ e1;exact ⟨m1++m2,by rw [e2,Array.append_assoc]⟩
 ·obtain ⟨m,hn,hl⟩:=I.loc;refine ⟨m,ns m hn,λi x v e1 e2 e3=> ?_⟩;obtain ⟨u,r,l⟩:=hl i x v e1 e2 e3;refine ⟨u,r,?_⟩;rcases l with l | ⟨k,c,e,z⟩
  ·exact .inl l
  ·exact .inr ⟨k,c,e,cellK x c e _ z⟩
 ·obtain ⟨v,z⟩:=I.cell x c e;exact ⟨v,cellK x c e v z⟩
 ·obtain ⟨m,⟨o,_,_,ho,_⟩,_⟩:=I.loc;exact free _ o (λz=>(hch _ z).2.1 rfl) ho I.free
 ·obtain ⟨v,o,ho,hd⟩:=I.cell x c e;exact free c o (λz=>(hch c z).2.2.1 x c e rfl) ho (I.freeC x c e)
 ·obtain ⟨e,n,ne,nf,d⟩:=I.pin p hp;have nch:p.1∉ch:=λz=>(hch p.1 z).2.2.2 p hp rfl;exact ⟨keep p.1 p.2 ne nf nch e n,free p.1 p.2 nch e n,ne,nf,d⟩
theorem Inv.un {t':Nat} (I:Inv X pins σ H s) (u:Un X.fs [] H H' s.heap h') (hok:HOk X.prog X.w H' h'):Inv X pins σ H' { s with heap:=h',toks:=t' }:=by
 obtain ⟨m,⟨o,es,ep,ho,r⟩,_⟩:=id I.loc;obtain ⟨sl,hL⟩:=u.any ho I.free (by simp)
 exact I.step (g':=s.gens) (d':=s.drawn) (ch:=[]) (λ_ z=>nomatch z) (λb o _ hb _ e n=>u.keep b o e n hb (by simp)) (λb o _ hb _ e n=>u.slot b o e n hb (by simp)) (λb o _ e n=>u.free b o e n (by simp)) (λb o _ e=>u.there b o e (by simp)) u.tups u.frzs u.tbls (λm' hm=>by
  obtain ⟨o',es',ep',ho',r'⟩:=hm;rw [ho] at ho';cases ho'
  exact ⟨_,es',ep',hL,r'⟩) hok I.bare
theorem Inv.call {g':Array GenState} {t':Nat} {d':Drawn} {ch:List Addr} (I:Inv X pins σ H s) (u:Un (frs X.stack) ch H H' s.heap h') (hok:HOk X.prog X.w H' h') (hg:AllBare g')
  (hch:∀b∈ch,(b∈X.ex\/X.s₀.heap.objs.size<=b)/\b≠X.env.locals/\(∀x c,X.env.cells.lookup x=some c->c≠b)/\∀p∈X.pn++pins,p.1≠b) :
  Inv X pins σ H' { s with heap:=h',gens:=g',drawn:=d',toks:=t' }:=by
 obtain ⟨m,⟨o,es,ep,ho,r⟩,_⟩:=id I.loc;obtain ⟨sl,hL⟩:=u.any ho I.free λz=>(hch _ z).2.1 rfl
 exact I.step (ch:=ch) hch (λb o hL hb hc e n=>u.keep b o e n (λz=>(Z0e.mp (I.stkSub b z)).elim hL hb) hc) (λb o _ _ hc e n=>u.any e n hc) (λb o hc e n=>u.free b o e n hc) (λb o hc e=>u.there b o e hc) u.tups u.frzs u.tbls (λm' hm=>by
  obtain ⟨o',es',ep',ho',r'⟩:=hm;rw [ho] at ho';cases ho'
  exact ⟨_,es',ep',hL,r'⟩) hok hg
theorem Inv.turned {t':Nat} {it:Addr} (I:Inv X pins σ H s) (k:∀b o,b≠it->s.heap.get? b=some o->h'.get? b=some o) (hn:H it=none) (hL:it≠X.env.locals)
  (h1:it∈X.ex\/X.s₀.heap.objs.size<=it) (h2:∀x c,X.env.cells.lookup x=some c->c≠it) (h3:∀p∈X.pn++pins,p.1≠it):Inv X pins σ H { s with heap:=h',toks:=t' }:=by
 have nit:∀b u,H b=some u->b≠it:=λb u e z=>by rw [z,hn] at e;cases e
 refine I.step (g':=s.gens) (d':=s.drawn) (ch:=[it]) (λb hb=> ?_) (λb o _ _ hc e _=>k b o (λz=>hc (by simp [z])) e) (λb o _ _ hc e _=>⟨o.slots,k b o (λz=>hc (by simp [z])) e⟩) (λ_ _ _ _ n=>n)
  (λb o hc e=>⟨o,k b o (λz=>hc (by simp [z])) e⟩) (λ_ _ e=>e) (λ_ _ _ e=>e) (λb ps e=>⟨#[],by rw [e];simp⟩) (λm hm=> ?_) (λb u e=> ?_) I.bare
 ·have e:b=it:=by simpa using hb
  subst e;exact ⟨h1,hL,h2,h3⟩
 ·obtain ⟨o,es,ep,ho,r⟩:=hm;exact ⟨o,es,ep,k _ o (Ne.symm hL) ho,r⟩
 ·refine (I.hok b u e).stay (λc v hc q=>k c v ?_ q) (λ_ q=>q) λ_ _ q=>q;rcases hc with z | z
  ·rw [z];exact nit b u e
  ·exact nit c _ z
theorem Inv.tok (I:Inv X pins σ H s) (t:Nat):Inv X pins σ H { s with toks:=t }:=I.un (h':=s.heap) (t':=t) Un.refl I.hok
theorem Inv.kept {t':Nat} (I:Inv X pins σ H s) (k:∀b u,s.heap.get? b=some u->h'.get? b=some u):Inv X pins σ H { s with heap:=h',toks:=t' }:=I.un (Un.kept k) (I.hok.kept k)
theorem Inv.laid {a:Addr} {o:HO} {t':Nat} (I:Inv X pins σ H s) (k:∀b u,s.heap.get? b=some u->h'.get? b=some u) (hp:s.heap.objs.size<=a) (new:A1c X.prog X.w (upd H a o) h' a o) :
  Inv X pins σ (upd H a o) { s with heap:=h',toks:=t' }:=I.un (Un.laid k hp (I.hok.fresh hp)) (I.hok.laid k hp new)
theorem Inv.write {x e:Addr} {o:HO} {t':Nat} (I:Inv X pins σ H s) (mu:Mut (H x)) (he:e=x\/H e=some (.own x)) (k:∀b u,b≠e->s.heap.get? b=some u->h'.get? b=some u) (heo:∃u,h'.get? e=some u)
  (new:A1c X.prog X.w (upd H x o) h' x o):Inv X pins σ (upd H x o) { s with heap:=h',toks:=t' }:=I.un (Un.write mu he k heo) (I.hok.write mu he k heo new)
theorem Inv.weak {σ':List (Option V)} (I:Inv X pins σ H s) (hl:σ'.length=σ.length) (w:∀(i:Nat) v,σ'[i]? =some (some v)->σ[i]? =some (some v)):Inv X pins σ' H s :=
 ⟨I.ok,I.os,I.bare,I.base,let ⟨m,hn,hl'⟩:=I.loc;⟨m,hn,λi x v e1 e2 e3=>hl' i x v e1 (w i v e2) e3⟩,I.cell,I.free,I.freeC,I.pin,I.hok,hl.trans I.len⟩
theorem Inv.pins_of {pins':List (Addr×Obj)} (I:Inv X pins σ H s) (h:∀p∈pins',s.heap.get? p.1=some p.2/\H p.1=none/\p.1≠X.env.locals/\p.1∉X.fs/\∀v,p.2.data≠.cell v):Inv X pins' σ H s :=
 ⟨I.ok,I.os,I.bare,I.base,I.loc,I.cell,I.free,I.freeC,λp hp=>(Z07.mp hp).elim (λz=>I.pin p (Z05 _ z)) (h p),I.hok,I.len⟩
theorem B2j {N:List Str} (hN:N.Nodup) {i j:Nat} {x:Str} (a:N[i]? =some x) (b:N[j]? =some x):i=j:=by
 obtain ⟨h1,e1⟩:=Z03.mp a;obtain ⟨h2,e2⟩:=Z03.mp b;exact (List.getElem_inj hN).mp (e1.trans e2.symm)
theorem B4f {M:Model} {A:Around} {E:Value->Shared->Prop} {i:Nat} {x:Str} {v:V} {u:Value} {Q:Unit->Shared->Prop} (I:Inv X pins σ H s) (hN:X.N.Nodup) (hi:X.N[i]? =some x) (hx:Loc X.env.scope x) (r:A2a v u)
  (h:∀s',Inv X pins (σ.set i (some v)) H s'->(∃a,Heap.SameBut a s.heap s'.heap/\(a=X.env.locals\/X.env.cells.lookup x=some a))->Q () s') (hf:X.fn x=true\/X.env.scope.names.lookup x=some .local:=by first | exact .inl rfl | exact .inr rfl | assumption):wpAny M A (storeName X.env x u) Q E s:=by
 obtain ⟨m,hn,hl⟩:=id I.loc;have hcls:(X.env.scope.kind == .class||(X.env.scope.kind == .module&&X.env.locals != X.env.globals))=false:=by rw [I.ok.kind];rfl
 have hiσ:i<σ.length:=by rw [I.len];exact (Z03.mp hi).1
 have cne:=I.cne
 have tracked:∀{a:Addr} {h':Heap},(∃o,s.heap.get? a=some o/\H a=none)->Heap.SameBut a s.heap h'->HOk X.prog X.w H h':=λ{a h'} ha hs b ob e=>by
  obtain ⟨_,_,hfree⟩:=ha;refine (I.hok b ob e).stay (λc w' hc q=>(hs.2 c ?_).trans q) (λ_ q=>q) λ_ _ q=>q;rintro rfl;rcases hc with rfl | hc
  ·rw [hfree] at e;cases e
  ·rw [hfree] at hc;cases hc
 rcases hx with hk | hk
 ·refine wpAny_storeName_local hk hn (λh' hn' hs=> ?_) hcls;obtain ⟨oL,_,_,hoL,_⟩:=id hn;refine h _ ⟨I.ok,I.os,I.bare,⟨λb o e n hb hx=> ?_,λb o e n hb hx=> ?_,I.base.free,λb o e hx=> ?_,I.base.tups,I.base.frzs,I.base.tbls⟩,⟨_,hn',λj y v' e1 e2 e3=> ?_⟩,λy c e=> ?_,I.free,I.freeC,λp hp=> ?_,tracked ⟨oL,hoL,I.free⟩ hs,by simpa using I.len⟩ ⟨_,hs,.inl rfl⟩
  ·exact (hs.2 b (Z0h (Z0q (Z0a e) I.ok.above))).trans (I.base.keep b o e n hb hx)
  ·obtain ⟨sl,e1⟩:=I.base.slot b o e n hb hx;exact ⟨sl,(hs.2 b (Z0h (Z0q (Z0a e) I.ok.above))).trans e1⟩
  ·obtain ⟨o',e1⟩:=I.base.there b o e hx;exact ⟨o',(hs.2 b (Z0h (Z0q (Z0a e) I.ok.above))).trans e1⟩
  ·by_cases hj:j=i
   ·subst hj;rw [hi] at e1;cases e1;rw [Z23 hiσ] at e2;cases e2;exact ⟨u,r,.inl ⟨hk,by simp⟩⟩
   ·rw [Z2a (Ne.symm hj)] at e2;obtain ⟨u',r',q⟩:=hl j y v' e1 e2 e3;refine ⟨u',r',?_⟩;rcases q with ⟨k,e⟩ | ⟨k,c,e,z⟩
    ·refine .inl ⟨k,?_⟩;have:y≠x:=λe=>hj (B2j hN e1 (e▸hi));simp [this,e]
    ·exact .inr ⟨k,c,e,z.sameBut hs (cne y c e)⟩
  ·obtain ⟨w',z⟩:=I.cell y c e;exact ⟨w',z.sameBut hs (cne y c e)⟩
  ·obtain ⟨e,n,ne,nf,d⟩:=I.pin p hp;exact ⟨(hs.2 p.1 ne).trans e,n,ne,nf,d⟩
 ·have hfn:X.fn x=true:=by
   rcases hf with z | z
   ·exact z
   ·rw [z] at hk;cases hk
  obtain ⟨c,hc⟩:=I.ok.has x (.inl hk);obtain ⟨w',z⟩:=I.cell x c hc;refine wpAny_storeName_cell I.ok.kind hk hc z (λh' hc' hs=> ?_);obtain ⟨oc,hoc,hocd⟩:=id z;refine h { s with heap:=h' } ⟨I.ok,I.os,I.bare,⟨λb o e n hb hx=> ?_,λb o e n hb hx=> ?_,I.base.free,λb o e hx=> ?_,I.base.tups,I.base.frzs,I.base.tbls⟩,⟨m,hn.sameBut hs (Ne.symm (cne x c hc)),λj y v' e1 e2 e3=> ?_⟩,λy c' e=> ?_,I.free,I.freeC,λp hp=> ?_,tracked ⟨oc,hoc,I.freeC x c hc⟩ hs,by simpa using I.len⟩ ⟨c,hs,.inr hc⟩
  ·exact (hs.2 b (Z0h (Z0q (Z0a e) (I.ok.cab x c hfn hc)))).trans (I.base.keep b o e n hb hx)
  ·obtain ⟨sl,e1⟩:=I.base.slot b o e n hb hx;exact ⟨sl,(hs.2 b (Z0h (Z0q (Z0a e) (I.ok.cab x c hfn hc)))).trans e1⟩
  ·obtain ⟨o',e1⟩:=I.base.there b o e hx;exact ⟨o',(hs.2 b (Z0h (Z0q (Z0a e) (I.ok.cab x c hfn hc)))).trans e1⟩
  ·by_cases hj:j=i
   ·subst hj;rw [hi] at e1;cases e1;rw [Z23 hiσ] at e2;cases e2;exact ⟨u,r,.inr ⟨.inl hk,c,hc,hc'⟩⟩
   ·rw [Z2a (Ne.symm hj)] at e2;obtain ⟨u',r',q⟩:=hl j y v' e1 e2 e3;refine ⟨u',r',?_⟩;rcases q with q | ⟨k,c',e,z'⟩
    ·exact .inl q
    ·refine .inr ⟨k,c',e,z'.sameBut hs ?_⟩;rintro rfl;exact hj (B2j hN e1 (I.ok.inj _ _ _ e hc▸hi))
  ·by_cases hcc:c'=c
   ·subst hcc;exact ⟨_,hc'⟩
   ·obtain ⟨w2,z2⟩:=I.cell y c' e;exact ⟨w2,z2.sameBut hs hcc⟩
  ·obtain ⟨e,n,ne,nf,d⟩:=I.pin p hp;refine ⟨(hs.2 p.1 ?_).trans e,n,ne,nf,d⟩;intro q;rw [q,hoc] at e;have q':oc=p.2:=Z1a e;exact d w' (by rw [<-q'];exact hocd)
theorem A8p {M:Model} {A:Around} {E:Value->Shared->Prop} {i:Nat} {x:Str} {v:V} {u:Value} {Q:Unit->Shared->Prop} (I:Inv X pins σ H s) (hN:X.N.Nodup) (hi:X.N[i]? =some x) (hx:Loc X.env.scope x) (r:A2a v u)
  (h:∀s',Inv X pins (σ.set i (some v)) H s'->Q () s') (hf:X.fn x=true\/X.env.scope.names.lookup x=some .local:=by first | exact .inl rfl | exact .inr rfl | assumption):wpAny M A (storeName X.env x u) Q E s :=
 B4f I hN hi hx r (λs' I' _=>h s' I') hf
theorem Inv.call' {s':Shared} {ch:List Addr} (I:Inv X pins σ H s) (ho:s'.os=s.os) (u:Un (frs X.stack) ch H H' s.heap s'.heap) (hok:HOk X.prog X.w H' s'.heap) (hg:AllBare s'.gens)
  (hch:∀b∈ch,(b∈X.ex\/X.s₀.heap.objs.size<=b)/\b≠X.env.locals/\(∀x c,X.env.cells.lookup x=some c->c≠b)/\∀p∈X.pn++pins,p.1≠b):Inv X pins σ H' s':=by
 obtain ⟨h',g',d',t',o'⟩:=s';have e:o'=s.os:=ho;subst e;exact I.call (g':=g') (t':=t') (d':=d') u hok hg hch
end
abbrev XK:=Value->Option Addr->Hp->Prop
abbrev St:=List (Option V)
abbrev VK:=V->Hp->Prop
abbrev TE:=St->Hp->VK->Prop
abbrev TT:=St->Hp->(Bool->Hp->Prop)->Prop
abbrev TA:=St->Hp->(List V->Hp->Prop)->Prop
structure B7o where
 nx:St->Hp->Prop
 rt:VK
 bk:St->Hp->Prop:=λ_ _=>False
 ct:St->Hp->Prop:=λ_ _=>False
abbrev TS:=B7o->St->Hp->Prop
def EP (X:Cx) (pins:List (Addr×Obj)) (σ:St) (Q:VK) (u:Value) (s':Shared):Prop:=∃v H',Inv X pins σ H' s'/\A2a v u/\Q v H'
def TP (X:Cx) (pins:List (Addr×Obj)) (σ:St) (Q:Bool->Hp->Prop) (b:Bool) (s':Shared):Prop:=∃H',Inv X pins σ H' s'/\Q b H'
def AP (X:Cx) (pins:List (Addr×Obj)) (σ:St) (Q:List V->Hp->Prop) (us:List Value) (s':Shared):Prop:=∃vs H',Inv X pins σ H' s'/\A1v vs us/\Q vs H'
def SP (X:Cx) (pins:List (Addr×Obj)) (D:B7o) (f:Flow) (s':Shared):Prop :=
 match f with
 | .next=>∃σ' H',Inv X pins σ' H' s'/\D.nx σ' H'
 | .brk=>∃σ' H',Inv X pins σ' H' s'/\D.bk σ' H'
 | .cont=>∃σ' H',Inv X pins σ' H' s'/\D.ct σ' H'
 | .ret u=>∃v σ' H',Inv X pins σ' H' s'/\A2a v u/\D.rt v H'
def PE (X:Cx) (e:Expr) (t:TE):Prop :=
 ∀(pins:List (Addr×Obj)) (s:Shared) (σ:St) (H:Hp) (Q:VK),Inv X pins σ H s->t σ H Q->wpAny (model X.prog X.w) X.A (eval e X.env) (EP X pins σ Q) X.xe s
def PT (X:Cx) (e:Expr) (t:TT):Prop :=
 ∀(pins:List (Addr×Obj)) (s:Shared) (σ:St) (H:Hp) (Q:Bool->Hp->Prop),Inv X pins σ H s->t σ H Q->wpAny (model X.prog X.w) X.A (isTrue e X.env (eval e X.env)) (TP X pins σ Q) X.xe s
def PW (X:Cx) (e:Expr) (t:TT):Prop :=
 ∀(whole:Sem Value) (pins:List (Addr×Obj)) (s:Shared) (σ:St) (H:Hp) (Q:Bool->Hp->Prop),Inv X pins σ H s->t σ H Q->wpAny (model X.prog X.w) X.A (isTrue e X.env whole) (TP X pins σ Q) X.xe s
theorem PW.pt {X:Cx} {e:Expr} {t:TT} (h:PW X e t):PT X e t:=h _
def PA (X:Cx) (es:List Expr) (t:TA):Prop :=
 ∀(pos:Pos) (pins:List (Addr×Obj)) (s:Shared) (σ:St) (H:Hp) (Q:List V->Hp->Prop),Inv X pins σ H s->t σ H Q->wpAny (model X.prog X.w) X.A (spliced (backTo pos (starEach es X.env))) (AP X pins σ Q) X.xe s
def PS (X:Cx) (st:Stmt) (t:TS):Prop :=
 ∀(pins:List (Addr×Obj)) (s:Shared) (σ:St) (H:Hp) (D:B7o),Inv X pins σ H s->t D σ H->wpAny (model X.prog X.w) X.A (exec st X.env) (SP X pins D) X.xe s
def PSs (X:Cx) (st:List Stmt) (t:TS):Prop :=
 ∀(pins:List (Addr×Obj)) (s:Shared) (σ:St) (H:Hp) (D:B7o),Inv X pins σ H s->t D σ H->wpAny (model X.prog X.w) X.A (execs st X.env) (SP X pins D) X.xe s
theorem thn {α:Type} {t:Sem α} {Q Q':α->Shared->Prop} {M:Model} {A:Around} {E:Value->Shared->Prop} {s:Shared} (h:wpAny M A t Q E s) (hQ:∀a s,Q a s->Q' a s):wpAny M A t Q' E s:=Z10 h hQ λ_ _ x=>x
section
variable {X:Cx}
def D4g (i:Nat):TE:=λσ H Q=>∃v,σ[i]? =some (some v)/\Q v H
def tC (v:V):TE:=λ_ H Q=>Q v H
theorem D0q {i:Nat} {x:Str} {pos:Pos} (hN:X.N[i]? =some x) (hv:Vis X.env.scope x) (hd:(x == ("__debug__":Str))=false:=by decide) (hcd:(x == ("__classdict__":Str))=false:=by decide):PE X (.Name x pos) (D4g i):=by
 intro pins s σ H Q I h;obtain ⟨v,e,h⟩:=h;obtain ⟨m,hn,hl⟩:=I.loc;obtain ⟨u,r,l⟩:=hl i x v hN e hv;have fin:EP X pins σ Q u s:=⟨v,H,I,r,h⟩;rcases l with ⟨hk,hm⟩ | ⟨hk,c,hc,hcell⟩
 ·exact wpAny_Name (wpAny_loadName_local I.ok.kind hk hn hm fin) hd
 ·rcases hk with hk | hk
  ·exact wpAny_Name (wpAny_loadName_cell I.ok.kind hk hc hcell fin) hd
  ·exact wpAny_Name (wpAny_loadName_free I.ok.kind hk hc hcell fin hcd) hd
theorem A0m {i j pos}:PE X (.Constant (.int i) j pos) (tC (.int i)):=λ_ _ _ H _ I h=>wpAny_Constant_int ⟨.int i,H,I.tok _,⟨_,rfl⟩,h⟩
theorem B0j {b j pos}:PE X (.Constant (.bool b) j pos) (tC (.bl b)):=λ_ _ _ H _ I h=>Constant_bool ⟨.bl b,H,I,rfl,h⟩
theorem A2n {x j pos}:PE X (.Constant (.str x) j pos) (tC (.str x)):=λ_ _ _ H _ I h=>Calls.Constant_str ⟨.str x,H,I.tok _,⟨_,rfl⟩,h⟩
def Gl (X:Cx) (x:Str):Prop:=X.env.kindOf x=some .globalImplicit
theorem A7v {E:Value->Shared->Prop} {pins:List (Addr×Obj)} {s:Shared} {σ:St} {H:Hp} {x:Str} {u:Value} {pos:Pos} {Q:Value->Shared->Prop} (I:Inv X pins σ H s) (hg:Gl X x) (hm:X.mg x=some u) (h:Q u s)
  (hd:(x == ("__debug__":Str))=false:=by decide):wpAny (model X.prog X.w) X.A (eval (.Name x pos) X.env) Q E s :=
 Calls.Name_function_global I.ok.kind hg (Calls.loadGlobal_global (by rw [I.ok.glob];exact I.mod.glob.keeps I.bk) hm h) hd
theorem A7x {E:Value->Shared->Prop} {pins:List (Addr×Obj)} {s:Shared} {σ:St} {H:Hp} {x:Str} {u:Value} {pos:Pos} {Q:Value->Shared->Prop} (I:Inv X pins σ H s) (hg:Gl X x) (hm:X.mg x=none) (hv:bootBuiltins x=some u) (h:Q u s)
  (hn:x≠"__name__":=by decide) (hd:(x == ("__debug__":Str))=false:=by decide):wpAny (model X.prog X.w) X.A (eval (.Name x pos) X.env) Q E s:=by
 obtain ⟨mb,h1,h2⟩:=I.mod.blt;exact Calls.Name_function_global I.ok.kind hg (Calls.loadGlobal_builtin (by rw [I.ok.glob];exact I.mod.glob.keeps I.bk) hm (by rw [I.ok.blt];exact h1.keeps I.bk) ((h2 x hn).trans hv) h) hd
theorem B1m {x:Str} {v:V} {u:Value} {pos:Pos} (hg:Gl X x) (hm:X.mg x=some u) (r:A2a v u) (hd:(x == ("__debug__":Str))=false:=by decide):PE X (.Name x pos) (tC v) :=
 λ_ _ _ H _ I h=>A7v I hg hm ⟨v,H,I,r,h⟩ hd
theorem A1z {x:Str} {v:V} {u:Value} {pos:Pos} (hg:Gl X x) (hm:X.mg x=none) (hv:bootBuiltins x=some u) (r:A2a v u) (hn:x≠"__name__":=by decide) (hd:(x == ("__debug__":Str))=false:=by decide):PE X (.Name x pos) (tC v) :=
 λ_ _ _ H _ I h=>A7x I hg hm hv ⟨v,H,I,r,h⟩ hn hd
variable {a b:Expr} {ta tb:TE} {pos:Pos}
def PC (X:Cx) (op:CmpOp) (a b:Expr) (t:TE):Prop :=
 ∀(pins:List (Addr×Obj)) (s:Shared) (σ:St) (H:Hp) (Q:VK),Inv X pins σ H s->t σ H Q->
  wpAny (model X.prog X.w) X.A (eval a X.env) (λv s₁=>wpAny (model X.prog X.w) X.A (eval b X.env) (λu s₂=>wpAny (model X.prog X.w) X.A (compareOp op v u) (EP X pins σ Q) X.xe s₂) X.xe s₁) X.xe s
def tB (t:TE):TT:=λσ H Q=>t σ H λx H1=>∃c,x= .bl c/\Q c H1
theorem C5x {op:CmpOp} {t:TE} (h:PC X op a b t) (h1:behindInMarks op b=false:=by first | exact nobehind _ (by decide) (by decide) | rfl):PT X (.Compare a [op] [b] pos) (tB t):=by
 intro pins s σ H Q I hw;refine wpAny_isTrue_Compare1 (thn (h pins s σ H _ I hw) λv s1 h1=>thn h1 λu s2 h2=>thn h2 λc s3 ⟨x,H1,I1,r1,q1⟩=> ?_) h1;obtain ⟨d,rfl,q⟩:=q1;cases r1;exact wpAny_truthy_bool ⟨H1,I1,q⟩
theorem A2k {e:Expr} {t:TE} (h:PE X e t) (he:∀whole,isTrue e X.env whole=(do let v<-whole;standAt e.pos;holding [v] (truthy v)):=by intro _;rfl):PT X e (tB t):=by
 intro pins s σ H Q I hw;refine isTrue_plain (thn (h pins s σ H _ I hw) λv s1 ⟨x,H1,I1,r1,q1⟩=> ?_) (he _);obtain ⟨d,rfl,q⟩:=q1;cases r1;exact wpAny_truthy_bool ⟨H1,I1,q⟩
variable {tA tB':TT} {rest:List Expr}
def tAnd (t u:TT):TT:=λσ H Q=>t σ H λc H1=>if c=true then u σ H1 Q else Q false H1
def tOr (t u:TT):TT:=λσ H Q=>t σ H λc H1=>if c=true then Q true H1 else u σ H1 Q
def tNot (t:TT):TT:=λσ H Q=>t σ H λc H1=>Q (!c) H1
theorem B1i (ha:PT X a tA):PW X (.BoolOp .And [a] pos) tA:=by
 intro wh pins s σ H Q I h;refine isTrue_and (thn (ha pins s σ H Q I h) λc s1 e=> ?_)
 cases c with
 | true=>exact isTrue_and_nil e
 | false=>exact e
theorem B2y (ha:PT X a tA):PW X (.BoolOp .Or [a] pos) tA:=by
 intro wh pins s σ H Q I h;refine isTrue_or (thn (ha pins s σ H Q I h) λc s1 e=> ?_)
 cases c with
 | false=>exact isTrue_or_nil e
 | true=>exact e
theorem B7t (ha:PT X a tA) (hb:PW X (.BoolOp .And (b::rest) pos) tB'):PW X (.BoolOp .And (a::b::rest) pos) (tAnd tA tB'):=by
 intro wh pins s σ H Q I h;refine isTrue_and (thn (ha pins s σ H _ I h) λc s1 ⟨H1,I1,q1⟩=> ?_)
 cases c with
 | true=>exact hb wh pins s1 σ H1 Q I1 q1
 | false=>exact ⟨H1,I1,q1⟩
theorem B6h (ha:PT X a tA) (hb:PW X (.BoolOp .Or (b::rest) pos) tB'):PW X (.BoolOp .Or (a::b::rest) pos) (tOr tA tB'):=by
 intro wh pins s σ H Q I h;refine isTrue_or (thn (ha pins s σ H _ I h) λc s1 ⟨H1,I1,q1⟩=> ?_)
 cases c with
 | true=>exact ⟨H1,I1,q1⟩
 | false=>exact hb wh pins s1 σ H1 Q I1 q1
theorem A9h (ha:PT X a tA):PT X (.UnaryOp .Not a pos) (tNot tA):=by
 intro pins s σ H Q I h;exact isTrue_not (ha pins s σ H (λc H1=>Q (!c) H1) I h)
def D2z (ta tb:TE):TE:=λσ H Q=>ta σ H λx H1=>∃c,x= .bl c/\if c=true then tb σ H1 Q else Q (.bl false) H1
def D3f (ta:TE):TE:=λσ H Q=>ta σ H λx H1=>∃c,x= .bl c/\Q (.bl (!c)) H1
theorem C2g {op} {t:TE} (h:PE X a t):PE X (.BoolOp op [a] pos) t:=λpins s σ H Q I hw=>BoolOp_one (h pins s σ H Q I hw)
theorem B6q (ha:PE X a ta) (hb:PE X (.BoolOp .And (b::rest) pos) tb):PE X (.BoolOp .And (a::b::rest) pos) (D2z ta tb):=by
 intro pins s σ H Q I h;refine BoolOp_and (thn (ha pins s σ H _ I h) λv s1 ⟨x,H1,I1,r1,q1⟩=> ?_);obtain ⟨c,rfl,q1⟩:=q1;cases r1;refine wpAny_truthy_bool ?_
 cases c with
 | true=>exact hb pins s1 σ H1 Q I1 q1
 | false=>exact ⟨.bl false,H1,I1,rfl,q1⟩
theorem D1b (ha:PE X a ta):PE X (.UnaryOp .Not a pos) (D3f ta):=by
 intro pins s σ H Q I h;refine UnaryOp_ (thn (ha pins s σ H _ I h) λv s1 ⟨x,H1,I1,r1,q1⟩=> ?_);obtain ⟨c,rfl,q1⟩:=q1;cases r1;exact not_of (wpAny_truthy_bool ⟨.bl (!c),H1,I1,rfl,q1⟩)
end
def SqL (K:PySem.W.Frag) (H:Hp) (a:Addr) (xs:List V):Prop :=
 Rd H a (.lst xs)\/
  ∃(o:Obj) (its:Array Value) (n:Nat),K.lookup a=some o/\o.cls= .type "list"/\o.dict=none/\o.data= .seq its n/\its.size<=sizeLine/\A1v xs its.toList
def SqT (K:PySem.W.Frag) (H:Hp) (a:Addr) (xs:List V):Prop :=
 Rd H a (.tup xs)\/
  ∃(o:Obj) (its:Array Value) (n:Nat),K.lookup a=some o/\o.cls= .type "tuple"/\o.data= .seq its n/\its.size<=sizeLine/\A1v xs its.toList
def absV:Value->Option V
 | .none=>some .non
 | .bool b=>some (.bl b)
 | .int i _=>some (.int i)
 | .str x _=>some (.str x)
 | .bytes b _=>some (.byt b)
 | .float b _=>some (.flt b)
 | .ref a=>some (.ref a)
 | .type n=>some (.ty n)
 | _=>none
theorem A2a.abs {x:V} {u:Value} (r:A2a x u):absV u=some x:=by
 cases x with
 | non=>cases r;rfl
 | bl _=>cases r;rfl
 | int _=>obtain ⟨t,rfl⟩:=r;rfl
 | str _=>obtain ⟨t,rfl⟩:=r;rfl
 | byt _=>obtain ⟨t,rfl⟩:=r;rfl
 | flt _=>obtain ⟨t,rfl⟩:=r;rfl
 | ref _=>cases r;rfl
 | ty _=>cases r;rfl
theorem A2a.inj {x y:V} {u:Value} (r:A2a x u) (q:A2a y u):x=y:=Z1a (r.abs.symm.trans q.abs)
theorem A1v.inj:∀{xs ys:List V} {us:List Value},A1v xs us->A1v ys us->xs=ys
 | _,_,_,.nil,.nil=>rfl
 | _,_,_,.cons r t,.cons r' t'=>by rw [r.inj r',A1v.inj t t']
section
variable {X:Cx} {pins:List (Addr×Obj)} {σ:St} {H:Hp} {s:Shared} {a:Addr} {xs ys:List V}
theorem SqL.of {K:PySem.W.Frag} (h:H a=some (.lst xs)):SqL K H a xs:= .inl (.inl h)
theorem SqT.of {K:PySem.W.Frag} (h:H a=some (.tup xs)):SqT K H a xs:= .inl (.inl h)
theorem Inv.list (I:Inv X pins σ H s) (h:SqL X.K H a xs):∃its:List Value,A1v xs its/\PlainL s.heap a its.toArray/\xs.length<=sizeLine:=by
 rcases h with h | ⟨o,its,n,hk,hc,hd,hs,hz,r⟩
 ·obtain ⟨z,its,n,r,e⟩:=h.ok I.hok;exact ⟨its,r,⟨_,n,e,rfl,rfl,rfl⟩,z⟩
 ·refine ⟨its.toList,r,⟨o,n,I.kIn a o hk,hc,hd,by simpa using hs⟩,?_⟩;have e:=r.length;simp only [Array.length_toList] at e;omega
theorem Inv.tuple (I:Inv X pins σ H s) (h:SqT X.K H a xs):∃its:List Value,A1v xs its/\IsTup s.heap a its.toArray/\xs.length<=sizeLine:=by
 rcases h with h | ⟨o,its,n,hk,hc,hs,hz,r⟩
 ·obtain ⟨z,its,r,p⟩:=h.ok I.hok;exact ⟨its,r,p,z⟩
 ·refine ⟨its.toList,r,⟨o,I.kIn a o hk,hc,n,by simpa using hs⟩,?_⟩;have e:=r.length;simp only [Array.length_toList] at e;omega
theorem Inv.list_inj (I:Inv X pins σ H s) (h:SqL X.K H a xs) (h':SqL X.K H a ys):xs=ys:=by
 obtain ⟨its,r,⟨o,n,e,_,_,d⟩,_⟩:=I.list h;obtain ⟨its',r',⟨o',n',e',_,_,d'⟩,_⟩:=I.list h';rw [e] at e';cases e';rw [d] at d';injection d' with d1 _;have:its=its':=by simpa using congrArg Array.toList d1
 subst this;exact r.inj r'
theorem Inv.tuple_inj (I:Inv X pins σ H s) (h:SqT X.K H a xs) (h':SqT X.K H a ys):xs=ys:=by
 obtain ⟨its,r,⟨o,e,_,n,d⟩,_⟩:=I.tuple h;obtain ⟨its',r',⟨o',e',_,n',d'⟩,_⟩:=I.tuple h';rw [e] at e';cases e';rw [d] at d';injection d' with d1 _;have:its=its':=by simpa using congrArg Array.toList d1
 subst this;exact r.inj r'
end
abbrev Cx.wish (X:Cx) (E:Value->Shared->Prop):Cx:={ X with xe:=E }
abbrev Cx.nox (X:Cx):Cx:=X.wish λ_ _=>False
theorem Cx.Ok.wish {X:Cx} (ok:X.Ok) (E:Value->Shared->Prop):(X.wish E).Ok :=
 ⟨ok.mod,ok.kind,ok.glob,ok.blt,ok.above,ok.inj,ok.has,ok.cab,ok.hd,ok.frames,ok.stk,ok.exf,ok.bs,ok.bsz,ok.noex,ok.exfs,ok.funs,ok.frf⟩
theorem Cx.Ok.unwish {X:Cx} {E:Value->Shared->Prop} (ok:(X.wish E).Ok):X.Ok :=
 ⟨ok.mod,ok.kind,ok.glob,ok.blt,ok.above,ok.inj,ok.has,ok.cab,ok.hd,ok.frames,ok.stk,ok.exf,ok.bs,ok.bsz,ok.noex,ok.exfs,ok.funs,ok.frf⟩
section
variable {X:Cx} {pins:List (Addr×Obj)} {σ:St} {H:Hp} {s:Shared} {E:Value->Shared->Prop}
theorem Inv.wish (I:Inv X pins σ H s) (E:Value->Shared->Prop):Inv (X.wish E) pins σ H s:=⟨I.ok.wish E,I.os,I.bare,I.base,I.loc,I.cell,I.free,I.freeC,I.pin,I.hok,I.len⟩
theorem Inv.unwish (I:Inv (X.wish E) pins σ H s):Inv X pins σ H s:=⟨I.ok.unwish,I.os,I.bare,I.base,I.loc,I.cell,I.free,I.freeC,I.pin,I.hok,I.len⟩
theorem SP.unwish {D:B7o} {f:Flow} {s':Shared} (h:SP (X.wish E) pins D f s'):SP X pins D f s':=by
 cases f with
 | next=>obtain ⟨σ',H',I,q⟩:=h;exact ⟨σ',H',I.unwish,q⟩
 | brk=>obtain ⟨σ',H',I,q⟩:=h;exact ⟨σ',H',I.unwish,q⟩
 | cont=>obtain ⟨σ',H',I,q⟩:=h;exact ⟨σ',H',I.unwish,q⟩
 | ret u=>obtain ⟨v,σ',H',I,r,q⟩:=h;exact ⟨v,σ',H',I.unwish,r,q⟩
theorem PSs.nox {st:List Stmt} {t:TS} (h:PSs X.nox st t):PSs X st t:=λpins s σ H D I hw =>
 Z10 (h pins s σ H D (I.wish _) hw) (λ_ _ q=>q.unwish) λ_ _ z=>False.elim z
end
section
variable {X:Cx} {st:Stmt} {rest:List Stmt} {t u:TS} {e:Expr} {te:TE} {pos:Pos}
def D3i:TS:=λD σ H=>D.nx σ H
def tSeq (t u:TS):TS:=λD σ H=>t { D with nx:=u D } σ H
theorem A0u:PSs X [] D3i:=λ_ _ σ H _ I h=>Z2b ⟨σ,H,I,h⟩
theorem A0d (h1:PS X st t) (h2:PSs X rest u):PSs X (st::rest) (tSeq t u):=by
 intro pins s σ H D I h;refine wpAny_execs_cons (thn (h1 pins s σ H { D with nx:=u D } I h) λf s1 q=> ?_)
 cases f with
 | next =>
  obtain ⟨σ',H',I',q⟩:=q;exact h2 pins s1 σ' H' D I' q
 | ret v=>exact q
 | brk=>exact q
 | cont=>exact q
theorem A0f (h1:PS X st t):PSs X [st] t:=by
 intro pins s σ H D I h;refine wpAny_execs_cons (thn (h1 pins s σ H D I h) λf s1 q=> ?_)
 cases f with
 | next=>exact Z2b q
 | ret v=>exact q
 | brk=>exact q
 | cont=>exact q
theorem Inv.quiet {pins:List (Addr×Obj)} {σ:St} {H:Hp} {s:Shared} (I:Inv X pins σ H s):interactive X.env=false:=by simp [interactive,I.ok.kind]
def D2n (te:TE):TS:=λD σ H=>te σ H λ_ H1=>D.nx σ H1
theorem A2f (he:PE X e te) (hs:swapsWith e none pos.line X.env=pure false:=by rfl):PS X (.Expr e pos) (D2n te):=by
 intro pins s σ H D I h;exact wpAny_Expr_any (thn (he pins s σ H _ I h) λv s1 ⟨x,H1,I1,r1,q1⟩=>⟨σ,H1,I1,q1⟩) I.quiet hs
def tRet (te:TE):TS:=λD σ H=>te σ H D.rt
theorem A0q (he:PE X e te):PS X (.Return (some e) pos) (tRet te):=by
 intro pins s σ H D I h;exact wpAny_Return_some (thn (he pins s σ H _ I h) λv s1 ⟨x,H1,I1,r1,q1⟩=>⟨x,σ,H1,I1,r1,q1⟩)
def tIfS (c:TT) (t u:TS):TS:=λD σ H=>c σ H λb H1=>if b=true then t D σ H1 else u D σ H1
theorem A1w {c:Expr} {a b:List Stmt} {tc:TT} (hc:PT X c tc) (ha:PSs X a t) (hb:PSs X b u):PS X (.If c a b pos) (tIfS tc t u):=by
 intro pins s σ H D I h;refine wpAny_If (thn (hc pins s σ H _ I h) λd s1 ⟨H1,I1,q1⟩=> ?_)
 cases d with
 | true=>exact ha pins s1 σ H1 D I1 q1
 | false=>exact hb pins s1 σ H1 D I1 q1
end
abbrev TG:=V->St->Hp->(St->Hp->Prop)->Prop
abbrev TGs:=List V->St->Hp->(St->Hp->Prop)->Prop
def PG (X:Cx) (target:Expr) (t:TG):Prop :=
 ∀(pins:List (Addr×Obj)) (s:Shared) (σ:St) (H:Hp) (v:V) (u:Value) (Q:St->Hp->Prop),Inv X pins σ H s->A2a v u->t v σ H Q->
  wpAny (model X.prog X.w) X.A (assign target X.env u) (λ_ s'=>∃σ' H',Inv X pins σ' H' s'/\Q σ' H') X.xe s
def PGs (X:Cx) (ts:List Expr) (t:TGs):Prop :=
 ∀(pins:List (Addr×Obj)) (s:Shared) (σ:St) (H:Hp) (vs:List V) (us:List Value) (Q:St->Hp->Prop),Inv X pins σ H s->A1v vs us->t vs σ H Q->
  wpAny (model X.prog X.w) X.A (assignInOrder ((assignEach ts X.env).map (·.2)) us) (λ_ s'=>∃σ' H',Inv X pins σ' H' s'/\Q σ' H') X.xe s
section
variable {X:Cx} {pos:Pos}
def B5z (i:Nat):TG:=λv σ H Q=>Q (σ.set i (some v)) H
theorem A0p {i:Nat} {x:Str} (hN:X.N.Nodup) (hi:X.N[i]? =some x) (hx:Loc X.env.scope x) (hf:X.fn x=true\/X.env.scope.names.lookup x=some .local:=by first | exact .inl rfl | exact .inr rfl | assumption):PG X (.Name x pos) (B5z i):=by
 intro pins s σ H v u Q I r h;exact wpAny_assign_Name (A8p I hN hi hx r (λs' I'=>⟨_,H,I',h⟩) hf)
def D2r:TGs:=λvs σ H Q=>vs=[]/\Q σ H
def C1u (t:TG) (u:TGs):TGs:=λvs σ H Q=>∃v r,vs=v::r/\t v σ H λσ' H'=>u r σ' H' Q
theorem A5d:PGs X [] D2r:=by
 intro pins s σ H vs us Q I r h;obtain ⟨e,h⟩:=h;subst e;cases r;exact assignInOrder_nil ⟨σ,H,I,h⟩
theorem A1l {e:Expr} {es:List Expr} {t:TG} {u:TGs} (h1:PG X e t) (h2:PGs X es u)
  (hs:(assignEach (e::es) X.env).map (·.2)=assign e X.env::(assignEach es X.env).map (·.2):=by rfl):PGs X (e::es) (C1u t u):=by
 intro pins s σ H vs us Q I r h;obtain ⟨v,vr,e1,h⟩:=h;subst e1
 cases r with
 | cons r rr =>
  rw [hs];refine assignInOrder_cons (thn (h1 pins s σ H _ _ _ I r h) λ_ s1 ⟨σ1,H1,I1,q1⟩=> ?_);exact h2 pins s1 σ1 H1 _ _ Q I1 rr q1
def D3r (K:PySem.W.Frag) (n:Nat) (t:TGs):TG:=λv σ H Q=>∃a xs,v= .ref a/\SqT K H a xs/\xs.length=n/\t xs σ H Q
theorem A8a {es:List Expr} {k:Nat} {t:TGs} {n:Nat} (hc:X.calm=true) (h:PGs X es t)
  (hn:(assignEach es X.env).length=n:=by rfl) (hst:(assignEach es X.env).findIdx? (·.1)=none:=by rfl):PG X (.Tuple es k pos) (D3r X.K n t):=by
 intro pins s σ H v u Q I r hw;obtain ⟨a,xs,e1,hq,hl,hw⟩:=hw;subst e1;cases r;obtain ⟨its,rv,ht,hz⟩:=I.tuple hq;refine assign_Tuple_tuple (I.ok.hd hc) ht (by simp [hn,<-hl,rv.length]) hst λh' hx=> ?_;have I1:Inv X pins σ H { s with heap:=h' }:=I.kept (t':=s.toks) λb o e=>hx b o (Z0h (Z0a e)) e
 exact h pins _ σ H xs _ Q I1 (by simpa using rv) hw
def D3y (te:TE) (g:TG):TS:=λD σ H=>te σ H λx H1=>g x σ H1 D.nx
theorem A1b {i:Nat} {x:Str} {e:Expr} {te:TE} {pos':Pos} (hN:X.N.Nodup) (hi:X.N[i]? =some x) (hx:Loc X.env.scope x) (he:PE X e te) (hs:swapsWith e (some (.Name x pos')) pos.line X.env=pure false:=by rfl) (hf:X.fn x=true\/X.env.scope.names.lookup x=some .local:=by first | exact .inl rfl | exact .inr rfl | assumption) :
  PS X (.Assign [.Name x pos'] e pos) (D3y te (B5z i)):=by
 intro pins s σ H D I h;refine wpAny_Assign_Name (thn (he pins s σ H _ I h) λv s1 ⟨y,H1,I1,r1,q1⟩=> ?_) hs;exact A8p I1 hN hi hx r1 (λs2 I2=>⟨_,H1,I2,q1⟩) hf
end
structure It where
 go:Nat->Hp->Prop
 yld:Nat->Hp->V->Hp->Prop
 stop:Nat->Hp->Prop
def B4i (X:Cx) (pins:List (Addr×Obj)) (H:Hp) (b:Addr):Prop :=
 H b=none/\b≠X.env.locals/\b∉X.fs/\(b∈X.ex\/X.s₀.heap.objs.size<=b)/\(∀x c,X.env.cells.lookup x=some c->c≠b)/\∀p∈X.pn++pins,p.1≠b
theorem Inv.fpOk {X:Cx} {pins:List (Addr×Obj)} {σ:St} {H H':Hp} {s:Shared} {b:Addr} (I:Inv X pins σ H s) (hb:s.heap.objs.size<=b) (hn:H' b=none):B4i X pins H' b:=by
 refine ⟨hn,Z1q (Z0q I.lt hb),I.nofs hb,.inr (Z1n I.sz hb),λx c e z=> ?_,λp hp z=> ?_⟩
 ·obtain ⟨v,q⟩:=I.cell x c e;exact absurd (Z0q q.lt (by rw [z];exact hb)) (Nat.lt_irrefl _)
 ·exact absurd (Z0q (Z0a (I.pin p hp).1) (by rw [z];exact hb)) (Nat.lt_irrefl _)
structure C6c (P:Program) (w:World) (K:PySem.W.Frag) (tg:Expr) (J:It) (fp:List Addr) (it:Addr) (tn:Nat->Heap->Prop):Prop where
 mem:it∈fp
 obj:∀i h,tn i h->∀b∈fp,∃o,h.get? b=some o/\∀v,o.data≠.cell v
 keep:∀i h h',tn i h->(∀b∈fp,∀o,h.get? b=some o->h'.get? b=some o)->tn i h'
 item:∀(X:Cx),X.prog=P->X.w=w->X.K=K->X.calm=true->∀(i:Nat) (pins:List (Addr×Obj)) (s:Shared) (σ:St) (H:Hp) (E:Value->Shared->Prop),Inv X pins σ H s->(∀b∈fp,B4i X pins H b)->tn i s.heap->J.go i H->
  wpAny (model P w) X.A (pyNext (.ref it)) (λr s1=>∃u,r=some u/\
   wpAny (model P w) X.A (letOwnedTupleGo tg (.ref it) u) (λ_ s2=>∃x H',Inv X pins σ H' s2/\A2a x u/\J.yld i H x H'/\tn (i+1) s2.heap/\∀b∈fp,H' b=none) E s1) E s
 done:∀(X:Cx),X.prog=P->X.w=w->X.K=K->X.calm=true->∀(i:Nat) (pins:List (Addr×Obj)) (s:Shared) (σ:St) (H:Hp) (E:Value->Shared->Prop),Inv X pins σ H s->(∀b∈fp,B4i X pins H b)->tn i s.heap->J.stop i H->
  wpAny (model P w) X.A (pyNext (.ref it)) (λr s1=>r=none/\Inv X pins σ H s1) E s
 self:∀(A:Around) (i:Nat) (s:Shared) (Q:Value->Shared->Prop) (E:Value->Shared->Prop),tn i s.heap->Q (.ref it) s->wpAny (model P w) A (pyIter (.ref it)) Q E s
abbrev TI:=St->Hp->(It->Hp->Prop)->Prop
def PIE (X:Cx) (pins:List (Addr×Obj)) (σ:St) (tg:Expr) (R:It->Hp->Prop) (itv:Value) (s2:Shared):Prop :=
 ∃(it:Addr) (fp:List Addr) (tn:Nat->Heap->Prop) (J:It) (H':Hp),itv= .ref it/\Inv X pins σ H' s2/\C6c X.prog X.w X.K tg J fp it tn/\tn 0 s2.heap/\(∀b∈fp,B4i X pins H' b)/\R J H'
def PI (X:Cx) (tg iter:Expr) (wi:TI):Prop :=
 ∀(pins:List (Addr×Obj)) (s:Shared) (σ:St) (H:Hp) (R:It->Hp->Prop),Inv X pins σ H s->wi σ H R->
  wpAny (model X.prog X.w) X.A (eval iter X.env) (λv s1=>wpAny (model X.prog X.w) X.A (pyIter v) (PIE X pins σ tg R) X.xe s1) X.xe s
theorem C0y {M:Model} {A:Around} {E:Value->Shared->Prop} {s:Shared} {tg:Expr} {it:Addr} {u:Value} {o:Obj} {n:String} {vs:Array Value} {Q:Unit->Shared->Prop} (ho:s.heap.get? it=some o) (hc:o.cls= .type n) (hd:o.data= .fields vs)
  (hn:["enumerate","zip","dict_itemiterator","dict_reverseitemiterator","odict_iterator","itertools.zip_longest","itertools.pairwise"].contains n=false) (hQ:Q () s):wpAny M A (letOwnedTupleGo tg (.ref it) u) Q E s:=by
 unfold letOwnedTupleGo
 cases tg <;> first
  | exact Z04 hQ
  | (cases u <;> first
    | exact Z04 hQ
    | (refine Z00 (wpAny_load ho ?_);rw [hc,hd];show wpAny M A (if (["enumerate","zip","dict_itemiterator","dict_reverseitemiterator","odict_iterator","itertools.zip_longest","itertools.pairwise"].contains n&&vs[0]? == some (rawInt _))=true then _ else _) Q E s;rw [Z0t (by intro h;rw [hn,Bool.false_and] at h;cases h)];exact Z04 hQ))
def Itl (K:PySem.W.Frag) (a:Addr):It :=
 ⟨λi H=>∃xs x,SqL K H a xs/\xs[i]? =some x,λi H x H'=>H'=H/\∀xs,SqL K H a xs->xs[i]? =some x,λi H=>∃xs,SqL K H a xs/\xs.length<=i⟩
def Itt (K:PySem.W.Frag) (a:Addr):It :=
 ⟨λi H=>∃xs x,SqT K H a xs/\xs[i]? =some x,λi H x H'=>H'=H/\∀xs,SqT K H a xs->xs[i]? =some x,λi H=>∃xs,SqT K H a xs/\xs.length<=i⟩
def Itr (lo:Int) (n:Nat):It:=⟨λi _=>i<n,λi H x H'=>H'=H/\x= .int (lo+i),λi _=>n<=i⟩
theorem B9k {P:Program} {w:World} {K:PySem.W.Frag} {tg:Expr} (a it:Addr):C6c P w K tg (Itl K a) [it] it (λi h=>h.IsListIter it a i) where
 mem:=by simp
 obj:=λi h st b hb=>by
  have e:b=it:=by simpa using hb
  subst e;obtain ⟨o,e,c,d⟩:=st;exact ⟨o,e,λv z=>by rw [d] at z;cases z⟩
 keep:=λi h h' st k=>st.at λo e=>k it (by simp) o e
 item:=by
  intro X hP hw hK hc i pins s σ H E I hf st hg;subst hP hw hK;obtain ⟨xs,x,hq,hx⟩:=hg;obtain ⟨its,rv,p,hz⟩:=I.list hq;obtain ⟨u,hu,ru⟩:=rv.get hx;obtain ⟨f0,f1,f2,f3,f4,f5⟩:=hf it (by simp);refine wpAny_pyNext_list_item st p.isList (x:=u) (by simpa using hu) λh' st' sb=> ?_;have I1:Inv X pins σ H { s with heap:=h' }:=I.turned (t':=s.toks) (λb o hb e=>(sb.2 b hb).trans e) f0 f1 f3 f4 f5
  obtain ⟨o,e,c,d⟩:=id st';exact ⟨u,rfl,C0y (s:={ s with heap:=h' }) e c d (by decide) ⟨x,H,I1,ru,⟨rfl,λys hy=>by rw [I.list_inj hy hq];exact hx⟩,st',λb hb=>(hf b hb).1⟩⟩
 done:=by
  intro X hP hw hK hc i pins s σ H E I hf st hg;subst hP hw hK;obtain ⟨xs,hq,hx⟩:=hg;obtain ⟨its,rv,p,hz⟩:=I.list hq;obtain ⟨f0,f1,f2,f3,f4,f5⟩:=hf it (by simp);have hl:=rv.length;exact wpAny_pyNext_list_end (I.ok.hd hc) st p.isList (by simp;omega) λh' eb=>⟨rfl,I.turned (t':=s.toks) (λb o hb e=>eb b o hb e) f0 f1 f3 f4 f5⟩
 self:=λ_ _ _ _ _ st h=>wpAny_pyIter_listiter st h
theorem B9a {P:Program} {w:World} {K:PySem.W.Frag} {tg:Expr} (a it:Addr):C6c P w K tg (Itt K a) [it] it (λi h=>h.IsTupleIter it a i) where
 mem:=by simp
 obj:=λi h st b hb=>by
  have e:b=it:=by simpa using hb
  subst e;obtain ⟨o,e,c,d⟩:=st;exact ⟨o,e,λv z=>by rw [d] at z;cases z⟩
 keep:=λi h h' st k=>st.at λo e=>k it (by simp) o e
 item:=by
  intro X hP hw hK hc i pins s σ H E I hf st hg;subst hP hw hK;obtain ⟨xs,x,hq,hx⟩:=hg;obtain ⟨its,rv,p,hz⟩:=I.tuple hq;obtain ⟨u,hu,ru⟩:=rv.get hx;obtain ⟨f0,f1,f2,f3,f4,f5⟩:=hf it (by simp);refine wpAny_pyNext_tuple_item st (show s.heap.IsTuple a its.toArray from p) (x:=u) (by simpa using hu) λh' st' sb=> ?_;have I1:Inv X pins σ H { s with heap:=h' }:=I.turned (t':=s.toks) (λb o hb e=>(sb.2 b hb).trans e) f0 f1 f3 f4 f5
  obtain ⟨o,e,c,d⟩:=id st';exact ⟨u,rfl,C0y (s:={ s with heap:=h' }) e c d (by decide) ⟨x,H,I1,ru,⟨rfl,λys hy=>by rw [I.tuple_inj hy hq];exact hx⟩,st',λb hb=>(hf b hb).1⟩⟩
 done:=by
  intro X hP hw hK hc i pins s σ H E I hf st hg;subst hP hw hK;obtain ⟨xs,hq,hx⟩:=hg;obtain ⟨its,rv,p,hz⟩:=I.tuple hq;obtain ⟨f0,f1,f2,f3,f4,f5⟩:=hf it (by simp);have hl:=rv.length;exact wpAny_pyNext_tuple_end (I.ok.hd hc) st (show s.heap.IsTuple a its.toArray from p) (by simp;omega) λh' eb=>⟨rfl,I.turned (t':=s.toks) (λb o hb e=>eb b o hb e) f0 f1 f3 f4 f5⟩
 self:=λ_ _ _ _ _ st h=>wpAny_pyIter_tupleiter st h
theorem B9h {P:Program} {w:World} {K:PySem.W.Frag} {tg:Expr} (it:Addr) (lo:Int) (n:Nat):C6c P w K tg (Itr lo n) [it] it (λi h=>IsRangeIter h it (lo+(i:Nat)*1) ((n:Int)-(i:Nat)) 1) where
 mem:=by simp
 obj:=λi h st b hb=>by
  have e:b=it:=by simpa using hb
  subst e
  exact ⟨_,st,λv z=>by
   have z':Data.fields _=Data.cell v:=z
   cases z'⟩
 keep:=λi h h' st k=>k it (by simp) _ st
 item:=by
  intro X hP hw hK hc i pins s σ H E I hf st hg;subst hP hw hK;obtain ⟨f0,f1,f2,f3,f4,f5⟩:=hf it (by simp);have W:=Walks.range (prog:=X.prog) (w:=X.w) (I.ok.hd hc) it lo 1 n;refine W.item i s _ _ hg st λv h' tk hv st' kk=> ?_;obtain ⟨t,rfl⟩:=hv;have I1:Inv X pins σ H { s with heap:=h',toks:=tk }:=I.turned (λb o hb e=>kk b o (by simpa using hb) e) f0 f1 f3 f4 f5
  refine ⟨_,rfl,C0y (s:={ s with heap:=h',toks:=tk }) (n:="range_iterator") st' rfl rfl (by decide) ⟨.int (lo+i),H,I1,⟨t,?_⟩,⟨rfl,rfl⟩,st',λb hb=>(hf b hb).1⟩⟩
  rw [Int.mul_one]
 done:=by
  intro X hP hw hK hc i pins s σ H E I hf st hg;subst hP hw hK;obtain ⟨f0,f1,f2,f3,f4,f5⟩:=hf it (by simp);exact wpAny_pyNext_range_end (I.ok.hd hc) st (by have:n<=i:=hg;omega) λh' eb=>⟨rfl,I.turned (t':=s.toks) (λb o hb e=>eb b o hb e) f0 f1 f3 f4 f5⟩
 self:=λ_ _ _ _ _ st h=>wpAny_pyIter_rangeiter st h
section
variable {X:Cx} {tg:Expr}
def D0p (K:PySem.W.Frag) (tl:TE):TI:=λσ H R=>tl σ H λx H1=>∃a,x= .ref a/\(∃xs,SqL K H1 a xs)/\R (Itl K a) H1
def D4e (K:PySem.W.Frag) (tl:TE):TI:=λσ H R=>tl σ H λx H1=>∃a,x= .ref a/\(∃xs,SqT K H1 a xs)/\R (Itt K a) H1
theorem A2d {l:Expr} {tl:TE} (hl:PE X l tl):PI X tg l (D0p X.K tl):=by
 intro pins s σ H R I h;refine thn (hl pins s σ H _ I h) λv s1 ⟨x,H1,I1,r1,q1⟩=> ?_;obtain ⟨a,e,⟨xs,hq⟩,q⟩:=q1;subst e;cases r1;obtain ⟨its,rv,p,hz⟩:=I1.list hq;refine wpAny_pyIter_list p.isList ?_;refine ⟨s1.heap.objs.size,[s1.heap.objs.size],_,_,H1,rfl,I1.kept (t':=s1.toks) λb o e=>Z01 _ e,B9k a _,⟨_,Z0c _ rfl,rfl,rfl⟩,λb hb=> ?_,q⟩;have e:b=s1.heap.objs.size:=by simpa using hb
 subst e;exact I1.fpOk (Z09 _) (I1.hok.fresh (Z09 _))
theorem D1m {l:Expr} {tl:TE} (hl:PE X l tl):PI X tg l (D4e X.K tl):=by
 intro pins s σ H R I h;refine thn (hl pins s σ H _ I h) λv s1 ⟨x,H1,I1,r1,q1⟩=> ?_;obtain ⟨a,e,⟨xs,hq⟩,q⟩:=q1;subst e;cases r1;obtain ⟨its,rv,p,hz⟩:=I1.tuple hq;refine wpAny_pyIter_tuple (show s1.heap.IsTuple a its.toArray from p) ?_;refine ⟨s1.heap.objs.size,[s1.heap.objs.size],_,_,H1,rfl,I1.kept (t':=s1.toks) λb o e=>Z01 _ e,B9a a _,⟨_,Z0c _ rfl,rfl,rfl⟩,λb hb=> ?_,q⟩;have e:b=s1.heap.objs.size:=by simpa using hb
 subst e;exact I1.fpOk (Z09 _) (I1.hok.fresh (Z09 _))
theorem C4b {pins:List (Addr×Obj)} {σ:St} {H:Hp} {s:Shared} {R:It->Hp->Prop} {E:Value->Shared->Prop} {lo hi:Int} {t u v:Tok} {tk:Nat} (I:Inv X pins σ H s) (h1: -(2^62)<=lo) (h2:lo<2^62) (h3: -(2^62)<=hi) (h4:hi<2^62)
  (q:R (Itr lo (hi-lo).toNat) H):wpAny (model X.prog X.w) X.A (pyIter (.ref s.heap.objs.size)) (PIE X pins σ tg R) E { s with heap:=s.heap.push { cls:= .type "range",data:= .fields #[.int lo t,.int hi u,.int 1 v] },toks:=tk }:=by
 refine wpAny_pyIter_range (IsRange.new ..) (small_one h1 h2 h3 h4) ?_;have I1:Inv X pins σ H { s with heap:=s.heap.push { cls:= .type "range",data:= .fields #[.int lo t,.int hi u,.int 1 v] },toks:=tk }:=I.kept λb o e=>Z01 _ e
 refine ⟨(s.heap.push { cls:= .type "range",data:= .fields #[.int lo t,.int hi u,.int 1 v] }).objs.size,[(s.heap.push { cls:= .type "range",data:= .fields #[.int lo t,.int hi u,.int 1 v] }).objs.size],_,_,H,rfl,
  I1.kept (t':=tk) λb o e=>Z01 _ e,B9h _ lo (hi-lo).toNat,?_,λb hb=> ?_,q⟩
 ·have e1:lo+((0:Nat):Int)*1=lo:=by simp
  have e2:(((hi-lo).toNat:Nat):Int)-((0:Nat):Int)=Builtin.Range.rangeSize lo hi 1:=by rw [rangeSize_one];split <;> omega
  show IsRangeIter _ _ (lo+((0:Nat):Int)*1) ((((hi-lo).toNat:Nat):Int)-((0:Nat):Int)) 1;rw [e1,e2];exact Z0c _ rfl
 ·have e:b=(s.heap.push { cls:= .type "range",data:= .fields #[.int lo t,.int hi u,.int 1 v] }).objs.size:=by simpa using hb
  subst e;exact I1.fpOk (Z09 _) (I1.hok.fresh (Z09 _))
def D3w (ta:TA):TI:=λσ H R=>ta σ H λvs H1=>∃j:Int,vs=[.int j]/\-(2^62)<=j/\j<2^62/\R (Itr 0 j.toNat) H1
theorem A4e {a:Expr} {ta:TA} {p pos:Pos} (hg:Gl X "range") (hm:X.mg "range"=none) (ha:PA X [a] ta) (hs:starEach [a] X.env=[(false,eval a X.env)]:=by rfl):PI X tg (.Call (.Name "range" p) [a] [] pos) (D3w ta):=by
 intro pins s σ H R I h;refine Call_ (A7x I hg hm boot_range (PyProof.Rows.callWith_type1 (thn (ha pos pins s σ H _ I h) λus s1 ⟨vs,H1,I1,r1,q1⟩=> ?_) hs rfl));obtain ⟨j,e,q1,q2,q⟩:=q1;subst e
 cases r1 with
 | cons r rr =>
  cases rr
  obtain ⟨t,rfl⟩:=r;exact call_range_1 (C4b I1 (by omega) (by omega) q1 q2 (by simpa using q))
def tFor (wi:TI) (g:TG) (tb:TS):TS:=λD σ H=>wi σ H λJ H1=>∃W:Nat->Nat->St->Hp->Prop,(∃m,W 0 m σ H1)/\∀i m σ H,W i m σ H->
 (J.stop i H/\D.nx σ H)\/(J.go i H/\∃N:St->Hp->Prop,(∀σ' H',N σ' H'->∃m',m'<m/\W (i+1) m' σ' H')/\∀x H',J.yld i H x H'->g x σ H' λσ2 H2=>tb { D with nx:=N,ct:=N,bk:=D.nx } σ2 H2)
def B3o (fp:List Addr) (h:Heap):List (Addr×Obj):=fp.filterMap λb=>(h.get? b).map λo=>(b,o)
theorem A3j {fp:List Addr} {h:Heap} {b:Addr} {o:Obj} (hb:b∈fp) (e:h.get? b=some o):(b,o)∈B3o fp h:=List.mem_filterMap.mpr ⟨b,hb,by rw [e];rfl⟩
theorem C0f {fp:List Addr} {h:Heap} {p:Addr×Obj} (hp:p∈B3o fp h):p.1∈fp/\h.get? p.1=some p.2:=by
 obtain ⟨b,hb,e⟩:=List.mem_filterMap.mp hp
 cases q:h.get? b with
 | none=>rw [q] at e;cases e
 | some o =>
  rw [q] at e;have e':(b,o)=p:=Z1a e;subst e';exact ⟨hb,q⟩
theorem Inv.pinned {pins:List (Addr×Obj)} {σ:St} {H:Hp} {s:Shared} {fp:List Addr} (I:Inv X pins σ H s) (hf:∀b∈fp,B4i X pins H b) (ho:∀b∈fp,∃o,s.heap.get? b=some o/\∀v,o.data≠.cell v):Inv X (pins++B3o fp s.heap) σ H s :=
 I.pins_of λp hp=>(Z07.mp hp).elim (λz=>I.pin p (Z02 _ z)) λz=>by
  obtain ⟨hb,e⟩:=C0f z;obtain ⟨f0,f1,f2,_⟩:=hf p.1 hb;obtain ⟨o,e',d⟩:=ho p.1 hb;rw [e] at e';cases e';exact ⟨e,f0,f1,f2,d⟩
theorem Inv.unpinned {pins pl:List (Addr×Obj)} {σ:St} {H:Hp} {s:Shared} (I:Inv X (pins++pl) σ H s):Inv X pins σ H s:=I.pins_of λp hp=>I.pin p (Z02 _ (Z05 _ hp))
theorem A2w {iter:Expr} {body:List Stmt} {wi:TI} {g:TG} {tb:TS} {pos:Pos} (hp:PassesOwn (model X.prog X.w) X.A X.env X.xe) (hc:X.calm=true) (hi:PI X tg iter wi) (hg:PG X tg g) (hb:PSs X body tb)
  (hs:∀x,foldedSetIterable iter X.env x=pure x:=by intro _;rfl):PS X (.For tg iter body [] pos) (tFor wi g tb):=by
 intro pins s σ H D I h;refine wpAny_For (thn (hi pins s σ H _ I h) λv s1 h1=>thn h1 λitv s2 h2=> ?_) hs;obtain ⟨it,fp,tn,J,H2,e,I2,T,st2,f2,W,⟨m0,w0⟩,turn⟩:=h2;subst e;have stat:∀{H':Hp},(∀b∈fp,H' b=none)->∀b∈fp,B4i X pins H' b:=λhn b hb=>⟨hn b hb,(f2 b hb).2⟩;refine codeAny_forLoop_any (λn s'=>∃i σ' H',Inv X pins σ' H' s'/\tn i s'.heap/\(∀b∈fp,H' b=none)/\W i n σ' H') ?_ m0 ⟨0,σ,H2,I2,st2,λb hb=>(f2 b hb).1,w0⟩;rintro n s3 ⟨i,σ3,H3,I3,st3,fr3,w3⟩;rcases turn i n σ3 H3 w3 with ⟨stop,qn⟩ | ⟨go,N,hN,step⟩
 ·refine wpAny_passesOwn hp (thn (T.done X rfl rfl rfl hc i pins s3 σ3 H3 X.xe I3 (stat fr3) st3 stop) λr s4 ⟨hr,I4⟩=> ?_);subst hr;exact Z2b ⟨σ3,H3,I4,qn⟩
 ·refine wpAny_passesOwn hp (thn (T.item X rfl rfl rfl hc i pins s3 σ3 H3 X.xe I3 (stat fr3) st3 go) λr s4 ⟨u,hr,h4⟩=> ?_);subst hr;refine wpAny_passesOwn hp (thn h4 λ_ s5 ⟨x,H5,I5,r5,y5,st5,fr5⟩=> ?_);have I5':=I5.pinned (stat fr5) (T.obj _ _ st5);refine wpAny_passesOwn hp (thn (hg _ s5 σ3 H5 x u _ I5' r5 (step x H5 y5)) λ_ s6 ⟨σ6,H6,I6,q6⟩=> ?_);refine wpAny_passesOwn hp (thn (hb _ s6 σ6 H6 _ I6 q6) λf s7 q7=> ?_)
  have again:∀{σ7:St} {H7:Hp},Inv X (pins++B3o fp s5.heap) σ7 H7 s7->N σ7 H7->∃m,m<n/\∃i σ' H',Inv X pins σ' H' s7/\tn i s7.heap/\(∀b∈fp,H' b=none)/\W i m σ' H':=λ{σ7 H7} I7 n7=>by
   obtain ⟨m',hm,w7⟩:=hN σ7 H7 n7;refine ⟨m',hm,i+1,σ7,H7,I7.unpinned,T.keep _ _ _ st5 λb hb o e=>(I7.pin (b,o) (Z02 _ (Z02 _ (A3j hb e)))).1,λb hb=> ?_,w7⟩;obtain ⟨o,e,d⟩:=T.obj _ _ st5 b hb;exact (I7.pin (b,o) (Z02 _ (Z02 _ (A3j hb e)))).2.1
  cases f with
  | next=>obtain ⟨σ7,H7,I7,n7⟩:=q7;exact again I7 n7
  | cont=>obtain ⟨σ7,H7,I7,n7⟩:=q7;exact again I7 n7
  | brk=>obtain ⟨σ7,H7,I7,q7⟩:=q7;exact ⟨σ7,H7,I7.unpinned,q7⟩
  | ret v=>obtain ⟨x7,σ7,H7,I7,r7,q7⟩:=q7;exact ⟨x7,σ7,H7,I7.unpinned,r7,q7⟩
end
theorem A3v {K:PySem.W.Frag} {a:Addr} {xs:List V} {g:TG} {tb:TS} {D:B7o} {σ:St} {H:Hp} (Pv:Nat->St->Hp->Prop) (h0:Pv 0 σ H) (hl:∀i σ H,i<=xs.length->Pv i σ H->SqL K H a xs)
  (hs:∀i x σ H,xs[i]? =some x->Pv i σ H->g x σ H λσ2 H2=>tb { D with nx:=Pv (i+1),ct:=Pv (i+1),bk:=D.nx } σ2 H2) (hd:∀σ H,Pv xs.length σ H->D.nx σ H) :
  ∃W:Nat->Nat->St->Hp->Prop,(∃m,W 0 m σ H)/\∀i m σ H,W i m σ H->
   ((Itl K a).stop i H/\D.nx σ H)\/((Itl K a).go i H/\∃N:St->Hp->Prop,(∀σ' H',N σ' H'->∃m',m'<m/\W (i+1) m' σ' H')/\∀x H',(Itl K a).yld i H x H'->g x σ H' λσ2 H2=>tb { D with nx:=N,ct:=N,bk:=D.nx } σ2 H2):=by
 refine ⟨λi m σ H=>m=xs.length-i/\i<=xs.length/\Pv i σ H,⟨xs.length,by simp,Z1e _,h0⟩,?_⟩;rintro i m σ H ⟨rfl,hi,p⟩;have q:=hl i σ H hi p;by_cases hlt:i<xs.length
 ·refine .inr ⟨⟨xs,xs[i],q,by simp [hlt]⟩,Pv (i+1),λσ' H' p'=>⟨xs.length-(i+1),by omega,rfl,hlt,p'⟩,λx H' y=> ?_⟩;obtain ⟨e,y⟩:=y;subst e;exact hs i x σ _ (y xs q) p
 ·have e:i=xs.length:=by omega
  subst e;exact .inl ⟨⟨xs,q,Z09 _⟩,hd σ H p⟩
theorem B4a {lo:Int} {n:Nat} {g:TG} {tb:TS} {D:B7o} {σ:St} {H:Hp} (Pv:Nat->St->Hp->Prop) (h0:Pv 0 σ H)
  (hs:∀i σ H,i<n->Pv i σ H->g (.int (lo+i)) σ H λσ2 H2=>tb { D with nx:=Pv (i+1),ct:=Pv (i+1),bk:=D.nx } σ2 H2) (hd:∀σ H,Pv n σ H->D.nx σ H) :
  ∃W:Nat->Nat->St->Hp->Prop,(∃m,W 0 m σ H)/\∀i m σ H,W i m σ H->
   ((Itr lo n).stop i H/\D.nx σ H)\/((Itr lo n).go i H/\∃N:St->Hp->Prop,(∀σ' H',N σ' H'->∃m',m'<m/\W (i+1) m' σ' H')/\∀x H',(Itr lo n).yld i H x H'->g x σ H' λσ2 H2=>tb { D with nx:=N,ct:=N,bk:=D.nx } σ2 H2):=by
 refine ⟨λi m σ H=>m=n-i/\i<=n/\Pv i σ H,⟨n,by simp,Z1e _,h0⟩,?_⟩;rintro i m σ H ⟨rfl,hi,p⟩;by_cases hlt:i<n
 ·refine .inr ⟨hlt,Pv (i+1),λσ' H' p'=>⟨n-(i+1),by omega,rfl,hlt,p'⟩,λx H' y=> ?_⟩;obtain ⟨e,y⟩:=y;subst e y;exact hs i σ _ hlt p
 ·have e:i=n:=by omega
  subst e;exact .inl ⟨Z09 _,hd σ H p⟩
abbrev R2:=V->V->Hp->VK->Prop
def OpR (X:Cx) (f:Value->Value->Sem Value) (r:R2):Prop :=
 ∀(pins:List (Addr×Obj)) (s:Shared) (σ:St) (H:Hp) (x y:V) (v u:Value) (Q:VK),Inv X pins σ H s->A2a x v->A2a y u->r x y H Q->
  wpAny (model X.prog X.w) X.A (f v u) (EP X pins σ Q) X.xe s
def A5y (X:Cx) (f:Value) (r:List V->Hp->VK->Prop):Prop :=
 ∀(pins:List (Addr×Obj)) (s:Shared) (σ:St) (H:Hp) (xs:List V) (us:List Value) (Q:VK),Inv X pins σ H s->A1v xs us->r xs H Q->
  wpAny (model X.prog X.w) X.A (call f us) (EP X pins σ Q) X.xe s
def tOp (r:R2) (ta tb:TE):TE:=λσ H Q=>ta σ H λx H1=>tb σ H1 λy H2=>r x y H2 Q
def rI (C:Int->Int->Prop) (g:Int->Int->V):R2:=λx y H Q=>∃i j,x= .int i/\y= .int j/\C i j/\Q (g i j) H
def rI0 (g:Int->Int->V):R2:=λx y H Q=>∃i j,x= .int i/\y= .int j/\Q (g i j) H
section
variable {X:Cx} {a b c:Expr} {ta tb tc:TE} {pos:Pos}
theorem D3x (ha:PE X a ta) (hb:PE X b tb) {pins:List (Addr×Obj)} {s:Shared} {σ:St} {H:Hp} {R:V->V->Hp->Prop} (I:Inv X pins σ H s)
  (h:ta σ H λx H1=>tb σ H1 λy H2=>R x y H2) {Q:Value->Shared->Prop} {f:Value->Value->Sem Value}
  (hf:∀v u s2 x y H2,Inv X pins σ H2 s2->A2a x v->A2a y u->R x y H2->wpAny (model X.prog X.w) X.A (f v u) Q X.xe s2) :
  wpAny (model X.prog X.w) X.A (eval a X.env) (λv s₁=>wpAny (model X.prog X.w) X.A (eval b X.env) (λu s₂=>wpAny (model X.prog X.w) X.A (f v u) Q X.xe s₂) X.xe s₁) X.xe s:=by
 refine thn (ha pins s σ H _ I h) λv s1 ⟨x,H1,I1,r1,q1⟩=> ?_;refine thn (hb pins s1 σ H1 _ I1 q1) λu s2 ⟨y,H2,I2,r2,q2⟩=> ?_;exact hf v u s2 x y H2 I2 r1 r2 q2
theorem A0v {op:Operator} {r:R2} (ho:OpR X (binaryOp op) r) (ha:PE X a ta) (hb:PE X b tb):PE X (.BinOp a op b pos) (tOp r ta tb):=by
 intro pins s σ H Q I h;exact wpAny_BinOp (D3x ha hb I h λv u s2 x y H2 I2 rx ry q=>ho pins s2 σ H2 x y v u Q I2 rx ry q)
theorem opI {f:Value->Value->Sem Value} {C:Int->Int->Prop} {g:Int->Int->Int}
  (rule:∀(i j:Int) (t u:Tok) (s:Shared) (Q:Value->Shared->Prop) (E:Value->Shared->Prop),C i j->Q (.int (g i j) s.toks) { s with toks:=s.toks+1 }->wpAny (model X.prog X.w) X.A (f (.int i t) (.int j u)) Q E s) :
  OpR X f (rI C λi j=> .int (g i j)):=by
 intro pins s σ H x y v u Q I rx ry h;obtain ⟨i,j,rfl,rfl,hc,q⟩:=h;obtain ⟨t,rfl⟩:=rx;obtain ⟨t',rfl⟩:=ry;exact rule i j t t' s _ _ hc ⟨.int (g i j),H,I.tok _,⟨_,rfl⟩,q⟩
theorem D4d {f:Value->Value->Sem Value} {g:Int->Int->Int}
  (rule:∀(i j:Int) (t u:Tok) (s:Shared) (Q:Value->Shared->Prop) (E:Value->Shared->Prop),Q (.int (g i j) s.toks) { s with toks:=s.toks+1 }->wpAny (model X.prog X.w) X.A (f (.int i t) (.int j u)) Q E s) :
  OpR X f (rI0 λi j=> .int (g i j)):=by
 intro pins s σ H x y v u Q I rx ry h;obtain ⟨i,j,rfl,rfl,q⟩:=h;obtain ⟨t,rfl⟩:=rx;obtain ⟨t',rfl⟩:=ry;exact rule i j t t' s _ _ ⟨.int (g i j),H,I.tok _,⟨_,rfl⟩,q⟩
theorem D4j {f:Value->Value->Sem Value} {g:Int->Int->Bool}
  (rule:∀(i j:Int) (t u:Tok) (s:Shared) (Q:Value->Shared->Prop) (E:Value->Shared->Prop),Q (.bool (g i j)) s->wpAny (model X.prog X.w) X.A (f (.int i t) (.int j u)) Q E s) :
  OpR X f (rI0 λi j=> .bl (g i j)):=by
 intro pins s σ H x y v u Q I rx ry h;obtain ⟨i,j,rfl,rfl,q⟩:=h;obtain ⟨t,rfl⟩:=rx;obtain ⟨t',rfl⟩:=ry;exact rule i j t t' s _ _ ⟨.bl (g i j),H,I,rfl,q⟩
def CDiv (i j:Int):Prop:=0<j/\j<1073741824
def CPow (i j:Int):Prop:=0<=j/\j<=1000000/\i.natAbs<2^64
def D2v (i j:Int):Prop:=(-(2^64)<i/\i<2^64)\/(-(2^64)<j/\j<2^64)
theorem D2v.ok {i j:Int} (h:D2v i j):IntMulOk i j:=by
 rcases h with ⟨h1,h2⟩ | ⟨h1,h2⟩
 ·exact .of_left (intBits_le_64 h1 h2)
 ·exact .of_right (intBits_le_64 h1 h2)
theorem A6y:OpR X (binaryOp .Add) (rI0 λi j=> .int (i+j)):=D4d λ_ _ _ _ _ _ _ q=>add_int q
theorem B4e:OpR X (binaryOp .Sub) (rI0 λi j=> .int (i-j)):=D4d λ_ _ _ _ _ _ _ q=>sub_int q
theorem A9z:OpR X (binaryOp .Mult) (rI D2v λi j=> .int (i*j)):=opI λ_ _ _ _ _ _ _ hc q=>mul_int q hc.ok
theorem A5i:OpR X (binaryOp .FloorDiv) (rI CDiv λi j=> .int (i/j)):=opI λi j _ _ _ _ _ hc q=>by
 have h1:(0:Int)<j:=hc.1;have h2:j<1073741824:=hc.2;exact floordiv_int (by omega) (by rw [Int.fdiv_eq_ediv_of_nonneg i (by omega)];exact q) (.inl (PyProof.noPylong_small (by omega)))
theorem A1e:OpR X (binaryOp .Mod) (rI (λ_ j=>0<j) λi j=> .int (i%j)):=opI λi j _ _ _ _ _ hc q=>by
 have h1:(0:Int)<j:=hc;exact mod_int' (by omega) (by rw [Int.fmod_eq_emod_of_nonneg i (by omega)];exact q)
theorem A7z:OpR X (binaryOp .Pow) (rI CPow λi j=> .int (i^j.toNat)):=opI λ_ _ _ _ _ _ _ hc q=>pow_int_small hc.1 hc.2.1 hc.2.2 q
end
def D4i:V->V->Bool
 | .non,.non=>true | .non,.int _=>true | .int _,.non=>true | .non,.bl _=>true | .bl _,.non=>true | .non,.str _=>true | .str _,.non=>true
 | .int _,.int _=>true | .bl _,.bl _=>true | .str _,.str _=>true | .byt _,.byt _=>true
 | .int _,.str _=>true | .str _,.int _=>true | .bl _,.str _=>true | .str _,.bl _=>true
 | _,_=>false
def rEq:R2:=λx y H Q=>D4i x y=true/\Q (.bl (decide (x=y))) H
def rNe:R2:=λx y H Q=>D4i x y=true/\Q (.bl (!decide (x=y))) H
theorem B9r {i j:Int}:decide (V.int i=V.int j)=(i == j):=by
 rw [Bool.eq_iff_iff];simp
theorem C5w {i j:Bool}:decide (V.bl i=V.bl j)=(i == j):=by
 rw [Bool.eq_iff_iff];simp
theorem C0d {i j:Str}:decide (V.str i=V.str j)=(i == j):=by
 rw [Bool.eq_iff_iff];simp
theorem C1d {i j:Array UInt8}:decide (V.byt i=V.byt j)=(i.toList == j.toList):=by
 rw [Bool.eq_iff_iff];cases i;cases j;simp
section
variable {X:Cx} {a b c:Expr} {ta tb tc:TE} {pos:Pos}
theorem A1j {pins:List (Addr×Obj)} {σ:St} {H:Hp} {s:Shared} {Q:VK} {k k':Bool} (I:Inv X pins σ H s) (q:Q (.bl k) H) (e:k=k'):EP X pins σ Q (.bool k') s:=by
 subst e;exact ⟨.bl k,H,I,rfl,q⟩
theorem A8g:OpR X (compareOp .Eq) rEq:=by
 intro pins s σ H x y v u Q I rx ry h;obtain ⟨hs,q⟩:=h
 cases x with
 | non =>
  cases rx
  cases y with
  | non=>cases ry;exact PySem.EqNone.eq_none_none (A1j I q (by simp))
  | bl j=>cases ry;exact PySem.EqNone.eq_none_bool (A1j I q (by simp))
  | int j=>obtain ⟨t',rfl⟩:=ry;exact PySem.EqNone.eq_none_int (A1j I q (by simp))
  | str j=>obtain ⟨t',rfl⟩:=ry;exact PySem.EqNone.eq_none_str (A1j I q (by simp))
  | _=>exact absurd (show false=true from hs) Z0v
 | bl i =>
  cases rx
  cases y with
  | non=>cases ry;exact PySem.EqNone.eq_bool_none (A1j I q (by simp))
  | bl j=>cases ry;exact eq_bool (A1j I q C5w)
  | str j=>obtain ⟨t',rfl⟩:=ry;exact PySem.EqMixed.eq_bool_str (A1j I q (by simp))
  | _=>exact absurd (show false=true from hs) Z0v
 | int i =>
  obtain ⟨t,rfl⟩:=rx
  cases y with
  | non=>cases ry;exact PySem.EqNone.eq_int_none (A1j I q (by simp))
  | int j=>obtain ⟨t',rfl⟩:=ry;exact eq_int (A1j I q B9r)
  | str j=>obtain ⟨t',rfl⟩:=ry;exact PySem.EqMixed.eq_int_str (A1j I q (by simp))
  | _=>exact absurd (show false=true from hs) Z0v
 | str i =>
  obtain ⟨t,rfl⟩:=rx
  cases y with
  | non=>cases ry;exact PySem.EqNone.eq_str_none (A1j I q (by simp))
  | bl j=>cases ry;exact PySem.EqMixed.eq_str_bool (A1j I q (by simp))
  | int j=>obtain ⟨t',rfl⟩:=ry;exact PySem.EqMixed.eq_str_int (A1j I q (by simp))
  | str j=>obtain ⟨t',rfl⟩:=ry;exact eq_str (A1j I q C0d)
  | _=>exact absurd (show false=true from hs) Z0v
 | byt i =>
  obtain ⟨t,rfl⟩:=rx
  cases y with
  | byt j=>obtain ⟨t',rfl⟩:=ry;exact PySem.W.eq_bytes (A1j I q C1d)
  | _=>exact absurd (show false=true from hs) Z0v
 | _=>cases y <;> exact absurd (show false=true from hs) Z0v
theorem C1t:OpR X (compareOp .NotEq) rNe:=by
 intro pins s σ H x y v u Q I rx ry h;obtain ⟨hs,q⟩:=h
 cases x with
 | non =>
  cases rx
  cases y with
  | non=>cases ry;exact PySem.EqNone.ne_none_none (A1j I q (by simp))
  | bl j=>cases ry;exact PySem.EqNone.ne_none_bool (A1j I q (by simp))
  | int j=>obtain ⟨t',rfl⟩:=ry;exact PySem.EqNone.ne_none_int (A1j I q (by simp))
  | str j=>obtain ⟨t',rfl⟩:=ry;exact PySem.EqNone.ne_none_str (A1j I q (by simp))
  | _=>exact absurd (show false=true from hs) Z0v
 | bl i =>
  cases rx
  cases y with
  | non=>cases ry;exact PySem.EqNone.ne_bool_none (A1j I q (by simp))
  | bl j=>cases ry;exact ne_bool (A1j I q (congrArg not C5w))
  | str j=>obtain ⟨t',rfl⟩:=ry;exact PySem.EqMixed.ne_bool_str (A1j I q (by simp))
  | _=>exact absurd (show false=true from hs) Z0v
 | int i =>
  obtain ⟨t,rfl⟩:=rx
  cases y with
  | non=>cases ry;exact PySem.EqNone.ne_int_none (A1j I q (by simp))
  | int j=>obtain ⟨t',rfl⟩:=ry;exact ne_int (A1j I q (congrArg not B9r))
  | str j=>obtain ⟨t',rfl⟩:=ry;exact PySem.EqMixed.ne_int_str (A1j I q (by simp))
  | _=>exact absurd (show false=true from hs) Z0v
 | str i =>
  obtain ⟨t,rfl⟩:=rx
  cases y with
  | non=>cases ry;exact PySem.EqNone.ne_str_none (A1j I q (by simp))
  | bl j=>cases ry;exact PySem.EqMixed.ne_str_bool (A1j I q (by simp))
  | int j=>obtain ⟨t',rfl⟩:=ry;exact PySem.EqMixed.ne_str_int (A1j I q (by simp))
  | str j=>obtain ⟨t',rfl⟩:=ry;exact ne_str (A1j I q (congrArg not C0d))
  | _=>exact absurd (show false=true from hs) Z0v
 | byt i =>
  obtain ⟨t,rfl⟩:=rx
  cases y with
  | byt j=>obtain ⟨t',rfl⟩:=ry;exact PySem.W.ne_bytes (A1j I q (congrArg not C1d))
  | _=>exact absurd (show false=true from hs) Z0v
 | _=>cases y <;> exact absurd (show false=true from hs) Z0v
theorem D2p:OpR X (compareOp .Lt) (rI0 λi j=> .bl (decide (i<j))):=D4j λ_ _ _ _ _ _ _ q=>lt_int q
theorem C2t:OpR X (compareOp .Gt) (rI0 λi j=> .bl (decide (j<i))):=D4j λ_ _ _ _ _ _ _ q=>gt_int q
theorem A1n (b:Expr) {op:CmpOp} (h:op≠.In:=by decide) (h2:op≠.NotIn:=by decide):behindInMarks op b=false:=by
 have e1:(op == CmpOp.In)=false:=by cases op <;> first | rfl | exact absurd rfl h
 have e2:(op == CmpOp.NotIn)=false:=by cases op <;> first | rfl | exact absurd rfl h2
 cases b <;> simp [behindInMarks,e1,e2]
theorem C7n {op:CmpOp} {r:R2} (ho:OpR X (compareOp op) r) (ha:PE X a ta) (hb:PE X b tb) (hm:behindInMarks op b=false):PE X (.Compare a [op] [b] pos) (tOp r ta tb):=by
 intro pins s σ H Q I h;exact wpAny_Compare1 (D3x ha hb I h λv u s2 x y H2 I2 rx ry q=>ho pins s2 σ H2 x y v u Q I2 rx ry q) hm
def D2l (t:TE):TT:=λσ H Q=>t σ H λx H'=>∃k,x= .bl k/\Q k H'
theorem A1d {op:CmpOp} {r:R2} (ho:OpR X (compareOp op) r) (ha:PE X a ta) (hb:PE X b tb) (hm:behindInMarks op b=false):PT X (.Compare a [op] [b] pos) (D2l (tOp r ta tb)):=by
 intro pins s σ H Q I h
 refine wpAny_isTrue_Compare1 (thn (ha pins s σ H _ I h) λv s1 ⟨x,H1,I1,r1,q1⟩=>thn (hb pins s1 σ H1 _ I1 q1) λu s2 ⟨y,H2,I2,r2,q2⟩ =>
  thn (ho pins s2 σ H2 x y v u _ I2 r1 r2 q2) λc s3 ⟨z,H3,I3,r3,k,e,q3⟩=> ?_) hm
 subst e;cases r3;exact wpAny_truthy_bool ⟨H3,I3,q3⟩
theorem C1x:(sizeLine:Nat)<2^63:=by rw [sizeLine_eq];decide
theorem B3d {x:V} {us:List Value} (r:A1v [x] us):∃u,us=[u]/\A2a x u:=by
 cases r with
 | cons r1 r2=>cases r2;exact ⟨_,rfl,r1⟩
theorem B8z {x y:V} {us:List Value} (r:A1v [x,y] us):∃u w',us=[u,w']/\A2a x u/\A2a y w':=by
 cases r with
 | cons r1 r2 =>
  cases r2 with
  | cons r3 r4=>cases r4;exact ⟨_,_,rfl,r1,r3⟩
theorem C1c (hc:X.calm=true):A5y X (.builtin "min") (λxs H Q=>∃i j,xs=[.int i,.int j]/\Q (.int (if j<i then j else i)) H):=by
 intro pins s σ H xs us Q I r h;obtain ⟨i,j,rfl,q⟩:=h;obtain ⟨u,w',rfl,⟨t,rfl⟩,⟨t',rfl⟩⟩:=B8z r;refine min_two_ints (I.ok.hd hc) λh' tk k=>⟨_,H,I.kept k,?_,q⟩;by_cases hj:j<i
 ·rw [Z12 hj,Z12 hj];exact ⟨_,rfl⟩
 ·rw [Z0t hj,Z0t hj];exact ⟨_,rfl⟩
end
structure C7s (h:Heap) (x dx C:Addr) (mA:Str->Option Value):Prop where
 obj:h.get? x=some (PySem.W.instObj C dx)
 ns:h.Ns1 dx mA
 ne:dx≠x
theorem C2e {h:Heap} {dx:Addr} {mA:Str->Option Value} (n:h.Ns1 dx mA):∃od,h.get? dx=some od/\∀name,PySem.W.lookIn name od=some (mA name):=by
 obtain ⟨o,es,ep,ho,hd,hk,_,hm⟩:=n;refine ⟨o,ho,λname=> ?_⟩;have e:=hm name;unfold nsFind findBy at e;rw [<-Array.find?_toList] at e;unfold PySem.W.lookIn;rw [hd];dsimp only;split
 ·rename_i y q;rw [q] at e;exact congrArg some e
 ·rename_i q;rw [q] at e
  have a:es.toList.any (·.refKey)=false:=by
   rw [List.any_eq_false];intro y hy;obtain ⟨z,t,hkey⟩:=hk y (Array.mem_toList_iff.mp hy);simp [DictEntry.refKey,hkey]
  have a':¬es.toList.any (·.refKey)=true:=by rw [a];exact Z0v
  rw [Z0t a'];exact congrArg some e
theorem C7s.look {h:Heap} {x dx C:Addr} {mA:Str->Option Value} (I:C7s h x dx C mA):∃od,PySem.W.InstAt h x (PySem.W.instObj C dx) C (some od)/\∀name,PySem.W.lookIn name od=some (mA name) :=
 let ⟨od,ho,hl⟩:=C2e I.ns
 ⟨od,⟨I.obj,rfl,rfl,ho⟩,hl⟩
section
variable {prog:Program} {w:World} {A:Around} {E:Value->Shared->Prop} {s:Shared} {K:PySem.W.Frag} {x dx C f:Addr} {mA:Str->Option Value} {name:Str} {v:Value}
theorem A2o {expr:Bool} {Q:Value->Shared->Prop} (X:K.In s.heap) (I:C7s s.heap x dx C mA) (hg:PySem.W.plainGet K C name=true) (hh:PySem.W.hasDictIn K C=true)
  (ha:PySem.W.findIn K (.ref C) name=some none) (hv:mA name=some v) (hv':PySem.W.handedIn v=true) (h:Q v { s with toks:=s.toks+1 }) :
  wpAny (model prog w) A (getAttr (.ref x) name expr) Q E s:=by
 obtain ⟨od,J,hl⟩:=I.look;exact PySem.W.get_value X J (PySem.W.plainGet_of hg).1 (PySem.W.findObj_own hh ha rfl (by rw [hl,hv])) hv' h
theorem C2u {pl:Sem Bool} {Q:Value×List Value->Shared->Prop} (X:K.In s.heap) (I:C7s s.heap x dx C mA) (hg:PySem.W.plainGet K C name=true)
  (hf:PySem.W.findIn K (.ref C) name=some (some (.ref f))) (ht:PySem.W.isFn K (.ref f)=true) (hv:mA name=none) (h:Q (.ref f,[.ref x]) s) :
  wpAny (model prog w) A (getMethod (.ref x) name pl) Q E s:=by
 obtain ⟨od,J,hl⟩:=I.look;exact PySem.W.method_fn X J (PySem.W.plainGet_of hg).1 (PySem.W.plainGet_of hg).2 hf (beq_iff_eq.mp ht) (by show (PySem.W.lookIn name od).map (·.isSome)=some false;rw [hl,hv];rfl) h
theorem C6m {ns:List Str} {Q:Unit->Shared->Prop} (X:K.In s.heap) (I:C7s s.heap x dx C mA)
  (hs:PySem.W.findIn K (.ref C) "__setattr__"=some (some (.builtin "object.__setattr__"))) (hp:PySem.W.plainOver K C=true) (ht:PySem.W.takerIn K C name=some none) (hh:PySem.W.hasDictIn K C=true)
  (hw:PySem.Within mA ns) (hsz:ns.length<=sizeLine)
  (h:∀h',C7s h' x dx C (λy=>if y=name then some v else mA y)->Heap.SameBut dx s.heap h'->Q () { s with heap:=h',toks:=s.toks+2 }) :
  wpAny (model prog w) A (setAttr (.ref x) name v) Q E s:=by
 obtain ⟨od,J,hl⟩:=I.look;refine PySem.W.set_plain X J hs (PySem.W.osa_open (s:={ s with toks:=s.toks+1 }) (r:=none) X J hp ht λb=> ?_)
 obtain ⟨cd,hc,hd'⟩:=PySem.W.any_some hh;have hx:s.heap.get? x=some ⟨.ref C,some dx,.plain,#[]⟩:=I.obj;refine Z00 (Z04 (Z00 (Z00 (wpAny_loadPart hx (Z00 (PySem.W.Looks.here (s:={ s with toks:=s.toks+1 }) (PySem.W.looks_clsIn X hc) ?_))))));rw [hd'];refine Z04 (a:=some dx) (Z00 (Z04 (Z00 ?_)));refine wpAny_nsSet1 (s:={ s with toks:=s.toks+1 }) I.ns λh' hn2 hs2=> ?_
 obtain ⟨oD,esD,epD,hoD,hdD,hcD⟩:=hn2.count (PySem.Within.cons name v hw);refine Z00 (wpAny_lookBehind hoD (by rw [hdD];exact pastItsLine_dict (Z1n hcD (by rw [Z0y];omega))) ?_);exact Z04 (h _ ⟨(hs2.2 _ (Ne.symm I.ne)).trans I.obj,hn2,I.ne⟩ hs2)
theorem C4d {R:Result->Shared->Prop} {vs:List Value} {kw:List (Str×Value)} (X:K.In s.heap) (hm:PySem.W.makesIn K C=true)
  (hi:PySem.W.findIn K (.ref C) "__init__"=some (some (.ref f))) (hf:PySem.W.typeIn K (.ref f)=some (.type "function"))
  (h:codeAny (model prog w) (A.under (.builtin "type.__call__" ⟨.ref C::vs,kw⟩)) (.call (.ref f) ⟨.ref (s.heap.objs.size+1)::vs,kw⟩) (PySem.W.InitBack (s.heap.objs.size+1) R)
   { s with heap:=(s.heap.push PySem.W.emptyDict).push (PySem.W.instObj C s.heap.objs.size) }) :
  codeAny (model prog w) A (.call (.ref C) ⟨vs,kw⟩) R s:=by
 obtain ⟨hh,g,d,t,os⟩:=s;exact PySem.W.make_core (PySem.W.makes_of X hm) (PySem.W.looks_findIn X hi) (λself=>PySem.W.bind_fn X self hf) (.inl rfl) h
end
def A5t (f:Str) (v:V):List (Str×V)->List (Str×V)
 | []=>[(f,v)]
 | (g,x)::r=>if g=f then (g,v)::r else (g,x)::A5t f v r
theorem A9w (f g:Str) (v:V):∀fs:List (Str×V),(A5t f v fs).lookup g=if g=f then some v else fs.lookup g
 | []=>by
  show List.lookup g [(f,v)]=_;by_cases h:g=f
  ·have hb:(g == f)=true:=beq_iff_eq.mpr h;simp only [List.lookup,hb,Z12 h]
  ·have hb:(g == f)=false:=Z22.mpr h;simp only [List.lookup,hb,Z0t h]
 | (k,x)::r=>by
  have ih:=A9w f g v r;rw [show A5t f v ((k,x)::r)=(if k=f then (k,v)::r else (k,x)::A5t f v r) from rfl];by_cases hk:k=f
  ·rw [Z12 hk];by_cases h:g=k
   ·have hb:(g == k)=true:=beq_iff_eq.mpr h;simp only [List.lookup,hb,Z12 (h.trans hk)]
   ·have hb:(g == k)=false:=Z22.mpr h;simp only [List.lookup,hb,Z0t (λe:g=f=>h (e.trans hk.symm))]
  ·rw [Z0t hk];by_cases h:g=k
   ·have hb:(g == k)=true:=beq_iff_eq.mpr h;simp only [List.lookup,hb,Z0t (λe:g=f=>hk (h.symm.trans e))]
   ·have hb:(g == k)=false:=Z22.mpr h;simp only [List.lookup,hb];exact ih
theorem A8z (f:Str) (v:V):∀fs:List (Str×V),f∈(A5t f v fs).map (·.1)/\∀g,g∈fs.map (·.1)->g∈(A5t f v fs).map (·.1)
 | []=>⟨by simp [A5t],λg h=>by simp at h⟩
 | (k,x)::r=>by
  obtain ⟨i1,i2⟩:=A8z f v r;rw [show A5t f v ((k,x)::r)=(if k=f then (k,v)::r else (k,x)::A5t f v r) from rfl];by_cases hk:k=f
  ·rw [Z12 hk];subst hk;exact ⟨by simp,λg h=>by simpa using h⟩
  ·rw [Z0t hk];refine ⟨?_,λg h=> ?_⟩
   ·rw [Z0p];exact Z1f _ i1
   ·rw [Z0p] at h⊢;rcases Z0e.mp h with e | e
    ·exact Z0e.mpr (.inl e)
    ·exact Z1f _ (i2 g e)
theorem A9p (f:Str) (v:V):∀fs:List (Str×V),(A5t f v fs).length<=fs.length+1
 | []=>by simp [A5t]
 | (k,x)::r=>by
  have ih:=A9p f v r;rw [show A5t f v ((k,x)::r)=(if k=f then (k,v)::r else (k,x)::A5t f v r) from rfl];by_cases hk:k=f
  ·rw [Z12 hk,Z0y,Z0y];omega
  ·rw [Z0t hk,Z0y,Z0y];omega
theorem B4h.some_of {v:V} {o:Option Value} (r:B4h (some v) o):∃u,o=some u/\A2a v u:=by
 cases o with
 | none=>exact (show False from r).elim
 | some u=>exact ⟨u,rfl,r⟩
theorem B4h.none_of {o:Option Value} (r:B4h none o):o=none:=by
 cases o with
 | none=>rfl
 | some u=>exact (show False from r).elim
theorem C2i {v:V} {u:Value} (r:A2a v u):PySem.W.handedIn u=true:=by
 cases v with
 | non=>cases (show u=Value.none from r);rfl
 | bl b=>cases (show u=Value.bool b from r);rfl
 | int i=>obtain ⟨t,e⟩:=(show∃t,u=Value.int i t from r);cases e;rfl
 | str x=>obtain ⟨t,e⟩:=(show∃t,u=Value.str x t from r);cases e;rfl
 | byt b=>obtain ⟨t,e⟩:=(show∃t,u=Value.bytes b t from r);cases e;rfl
 | flt b=>obtain ⟨t,e⟩:=(show∃t,u=Value.float b t from r);cases e;rfl
 | ref a=>cases (show u=Value.ref a from r);rfl
 | ty n=>cases (show u=Value.type n from r);rfl
section
variable {P:Program} {w:World} {H H':Hp} {h h':Heap} {a C dx:Addr} {fs fs':List (Str×V)}
theorem B1b (hok:HOk P w H h) (e:H a=some (.ins C dx fs)):∃mA,C7s h a dx C mA/\(∀f,B4h (fs.lookup f) (mA f))/\PySem.Within mA (fs.map (·.1))/\fs.length<=1000/\H dx=some (.own a):=by
 obtain ⟨d,z,ne,ob,mA,n,r,q⟩:=(show A1c P w H h a (.ins C dx fs) from hok a _ e);exact ⟨mA,⟨ob,n,ne⟩,r,q,z,d⟩
end
structure Cls (K:PySem.W.Frag) (C:Addr):Prop where
 pg:PySem.W.plainGet K C Str.empty=true
 hd:PySem.W.hasDictIn K C=true
 po:PySem.W.plainOver K C=true
 sa:PySem.W.findIn K (.ref C) "__setattr__"=some (some (.builtin "object.__setattr__"))
theorem Cls.get {K:PySem.W.Frag} {C:Addr} (c:Cls K C) (f:Str):PySem.W.plainGet K C f=true:=c.pg
def A2h (K:PySem.W.Frag) (C:Addr) (f:Str):Prop:=PySem.W.findIn K (.ref C) f=some none
theorem A2h.taker {K:PySem.W.Frag} {C:Addr} {f:Str} (n:A2h K C f):PySem.W.takerIn K C f=some none:=by
 unfold PySem.W.takerIn;rw [show PySem.W.findIn K (.ref C) f=some none from n];rfl
structure C5s (K:PySem.W.Frag) (C:Addr) (m:Str) (f:Addr):Prop where
 at_:PySem.W.findIn K (.ref C) m=some (some (.ref f))
 fn:PySem.W.isFn K (.ref f)=true
 kp:PySem.W.keepIn K (.ref f)=true
section
variable {X:Cx} {pins:List (Addr×Obj)} {σ:St} {H:Hp} {s:Shared} {a C dx:Addr} {fs:List (Str×V)} {f:Str} {v:V} {A:Around} {E:Value->Shared->Prop}
theorem B8g {b:Bool} {Q:Value->Shared->Prop} (I:Inv X pins σ H s) (e:H a=some (.ins C dx fs)) (c:Cls X.K C) (n:A2h X.K C f) (l:fs.lookup f=some v)
  (h:∀u s',Inv X pins σ H s'->A2a v u->Q u s'):wpAny (model X.prog X.w) A (getAttr (.ref a) f b) Q E s:=by
 obtain ⟨mA,O,r,_,_,_⟩:=B1b I.hok e;obtain ⟨u,hu,ru⟩:=B4h.some_of (v:=v) (o:=mA f) (by rw [<-l];exact r f);exact A2o I.kIn O (c.get f) c.hd n hu (C2i ru) (h u _ (I.tok _) ru)
theorem B0o {m:Str} {g:Addr} {pl:Sem Bool} {Q:Value×List Value->Shared->Prop} (I:Inv X pins σ H s) (e:H a=some (.ins C dx fs)) (c:Cls X.K C) (k:C5s X.K C m g) (l:fs.lookup m=none)
  (h:Q (.ref g,[.ref a]) s):wpAny (model X.prog X.w) A (getMethod (.ref a) m pl) Q E s:=by
 obtain ⟨mA,O,r,_,_,_⟩:=B1b I.hok e;have hn:mA m=none:=B4h.none_of (by rw [<-l];exact r m);exact C2u I.kIn O (c.get m) k.at_ k.fn hn h
theorem B8o {y:V} {u:Value} {Q:Unit->Shared->Prop} (I:Inv X pins σ H s) (e:H a=some (.ins C dx fs)) (c:Cls X.K C) (n:A2h X.K C f) (hl:fs.length<1000) (ry:A2a y u)
  (h:∀s',Inv X pins σ (upd H a (.ins C dx (A5t f y fs))) s'->Q () s'):wpAny (model X.prog X.w) A (setAttr (.ref a) f u) Q E s:=by
 obtain ⟨mA,O,r,wi,_,ho⟩:=B1b I.hok e;have hz:(fs.map (·.1)).length<=sizeLine:=by rw [Z08,sizeLine_eq];omega
 refine C6m I.kIn O c.sa c.po n.taker c.hd wi hz λh' O' sb=>h _ ?_;have hd:∃o,h'.get? dx=some o:=let ⟨o,_,_,e',_⟩:=O'.ns;⟨o,e'⟩;refine I.write (x:=a) (e:=dx) (by rw [e];exact True.intro) (.inr ho) (λb q hb z=>(sb.2 b hb).trans z) hd ?_;refine ⟨by rw [A0e O.ne];exact ho,?_,O.ne,O'.obj,_,O'.ns,λg=> ?_,λg hg=> ?_⟩
 ·have:=A9p f y fs;omega
 ·show B4h ((A5t f y fs).lookup g) (if g=f then some u else mA g);rw [A9w];by_cases q:g=f
  ·rw [Z12 q,Z12 q];exact ry
  ·rw [Z0t q,Z0t q];exact r g
 ·by_cases q:g=f
  ·rw [q];exact (A8z f y fs).1
  ·refine (A8z f y fs).2 g (wi g λz=>hg ?_);show (if g=f then some u else mA g)=none;rw [Z0t q];exact z
theorem Inv.made (I:Inv X pins σ H s):Inv X pins σ (upd (upd H s.heap.objs.size (.own (s.heap.objs.size+1))) (s.heap.objs.size+1) (.ins C s.heap.objs.size []))
  { s with heap:=(s.heap.push PySem.W.emptyDict).push (PySem.W.instObj C s.heap.objs.size) }:=by
 have e1:(s.heap.push PySem.W.emptyDict).get? s.heap.objs.size=some PySem.W.emptyDict:=Z0c s.heap rfl
 have e2:((s.heap.push PySem.W.emptyDict).push (PySem.W.instObj C s.heap.objs.size)).get? (s.heap.objs.size+1)=some (PySem.W.instObj C s.heap.objs.size):=by
  have:=Z0c (s.heap.push PySem.W.emptyDict) (o:=PySem.W.instObj C s.heap.objs.size) rfl
  rwa [Z1s] at this
 have e3:(s.heap.push PySem.W.emptyDict).Ns s.heap.objs.size (λ_=>none):=⟨PySem.W.emptyDict,#[],_,e1,rfl,(λe he=>absurd he (by simp)),λ_=>rfl⟩;have I1:=I.laid (a:=s.heap.objs.size) (o:= .own (s.heap.objs.size+1)) (h':=s.heap.push PySem.W.emptyDict) (t':=s.toks) (λb u q=>Z01 _ q) (Z09 _) ⟨_,e1⟩;refine I1.laid (a:=s.heap.objs.size+1) (o:= .ins C s.heap.objs.size []) (t':=s.toks) (λb u q=>Z01 _ q) (Nat.le_of_eq (Z1s _ _)) ?_;have ne:s.heap.objs.size≠s.heap.objs.size+1:=Z0h (Nat.lt_succ_self _);refine ⟨by rw [A0e ne,A0b],Z1e _,ne,e2,λ_=>none,(Heap.Ns1.of_empty e3).at λo q=>Z01 _ q,λ_=>True.intro,λy hy=>absurd rfl hy⟩
theorem C9d {prog:Program} {w:World} {env:Env} {e:Expr} {f:Str} {pos:Pos} {s:Shared} {Q:Value->Shared->Prop} (hb:attributeBase e f env (eval e env)=eval e env)
  (h:wpAny (model prog w) A (eval e env) (λo s₁=>wpAny (model prog w) A (getAttr o f true) Q E s₁) E s):wpAny (model prog w) A (eval (.Attribute e f pos) env) Q E s :=
 Attribute_any_ h (by rw [arm_eval_Attribute,hb])
end
def tFld (K:PySem.W.Frag) (ta:TE) (f:Str):TE:=λσ H Q=>ta σ H λx H1=>∃a C dx fs v,x= .ref a/\H1 a=some (.ins C dx fs)/\Cls K C/\A2h K C f/\fs.lookup f=some v/\Q v H1
def sFld (K:PySem.W.Frag) (ta tv:TE) (f:Str):TS:=λD σ H=>tv σ H λy H1=>ta σ H1 λx H2=>∃a C dx fs,x= .ref a/\H2 a=some (.ins C dx fs)/\Cls K C/\A2h K C f/\fs.length<1000/\
 D.nx σ (upd H2 a (.ins C dx (A5t f y fs)))
section
variable {X:Cx} {o e value:Expr} {f:Str} {pos pos' tpos:Pos} {ta tv:TE}
theorem A1q (he:PE X e ta) (hb:attributeBase e f X.env (eval e X.env)=eval e X.env):PE X (.Attribute e f pos) (tFld X.K ta f):=by
 intro pins s σ H Q I h;refine C9d hb (thn (he pins s σ H _ I h) λu s1 ⟨x,H1,I1,rx,a,C,dx,fs,v,ex,ea,c,n,l,q⟩=> ?_);subst ex;obtain rfl:u=Value.ref a:=rx;exact B8g I1 ea c n l λu' s2 I2 ru=>⟨v,H1,I2,ru,q⟩
theorem A3r (ha:PE X o ta) (hv:PE X value tv) (hs:swapsWith value (some (.Attribute o f pos')) pos.line X.env=pure false):PS X (.Assign [.Attribute o f pos'] value pos) (sFld X.K ta tv f):=by
 intro pins s σ H D I h;refine plainObj_wpAny_Assign_Attribute (thn (hv pins s σ H _ I h) λu s1 ⟨y,H1,I1,ry,q⟩=>thn (ha pins s1 σ H1 _ I1 q) λov s2 ⟨x,H2,I2,rx,a,C,dx,fs,ex,ea,c,n,l,q2⟩=> ?_) hs;subst ex;obtain rfl:ov=Value.ref a:=rx;exact B8o I2 ea c n l ry λs3 I3=>⟨σ,_,I3,q2⟩
end
section
variable {X:Cx} {pins:List (Addr×Obj)} {σ:St} {H:Hp} {s:Shared} {A:Around} {E:Value->Shared->Prop} {Q:Value->Shared->Prop} {c:Value} {b:Bool}
inductive B6y (K:PySem.W.Frag) (H:Hp):V->Value->Prop where
 | non:B6y K H .non (.type "NoneType")
 | bl (x:Bool):B6y K H (.bl x) (.type "bool")
 | int (i:Int):B6y K H (.int i) (.type "int")
 | str (x:Str):B6y K H (.str x) (.type "str")
 | flt (x:UInt64):B6y K H (.flt x) (.type "float")
 | lst {a:Addr} {xs:List V} (e:H a=some (.lst xs)):B6y K H (.ref a) (.type "list")
 | frz {a:Addr} {o:Obj} {xs:List V} (e:H a=some (.frz o (.lst xs))):B6y K H (.ref a) (.type "list")
 | tup {a:Addr} {xs:List V} (e:H a=some (.tup xs)):B6y K H (.ref a) (.type "tuple")
 | dK {a:Addr} {kvs:List (Key×V)} (e:H a=some (.dK kvs)):B6y K H (.ref a) (.type "dict")
 | dT {a:Addr} {kvs:List (List Key×V)} (e:H a=some (.dT kvs)):B6y K H (.ref a) (.type "dict")
 | ins {a C dx:Addr} {fs:List (Str×V)} (e:H a=some (.ins C dx fs)) (cl:Cls K C) (ha:PySem.W.findIn K (.ref C) "__class__"=some (some (.builtin "object.__class__")))
   (hn:PySem.W.specialIn K (.builtin "object.__class__") "__get__"=some (some (.builtin "getset_descriptor.__get__"))) (htk:PySem.W.takesIn K (.builtin "object.__class__")=some true)
   (hm:PySem.W.mroIn K C (.type "object")=some true):B6y K H (.ref a) (.ref C)
theorem C0c {x:V} {u t:Value} (I:Inv X pins σ H s) (rx:A2a x u) (ty:B6y X.K H x t) (e:PySem.W.kitOne X.K t c=some b) (h:∀tk,Q (.bool b) { s with toks:=tk }) :
  wpAny (model X.prog X.w) A (call (.builtin "isinstance") [u,c]) Q E s:=by
 cases ty with
 | non=>cases (show u=Value.none from rx);exact PySem.W.kia_one PySem.W.kitx_none I.kIn True.intro e (λz=>nomatch z) h
 | bl y=>cases (show u=Value.bool y from rx);exact PySem.W.kia_one PySem.W.kitx_bool I.kIn True.intro e (λz=>nomatch z) h
 | int i=>obtain ⟨t,q⟩:=(show∃t,u=Value.int i t from rx);cases q;exact PySem.W.kia_one PySem.W.kitx_int I.kIn True.intro e (λz=>nomatch z) h
 | str y=>obtain ⟨t,q⟩:=(show∃t,u=Value.str y t from rx);cases q;exact PySem.W.kia_one PySem.W.kitx_str I.kIn True.intro e (λz=>nomatch z) h
 | flt y=>obtain ⟨t,q⟩:=(show∃t,u=Value.float y t from rx);cases q;exact PySem.W.kia_one PySem.W.kitx_float I.kIn True.intro e (λz=>nomatch z) h
 | @lst a xs ea =>
  cases (show u=Value.ref a from rx)
  obtain ⟨_,_,n,_,h1⟩:=(show A1c X.prog X.w H s.heap a (.lst xs) from I.hok a _ ea);exact PySem.W.kia_one PySem.W.kitx_list I.kIn ⟨_,h1,rfl⟩ e (λz=>nomatch z) h
 | @frz a ob xs ea =>
  cases (show u=Value.ref a from rx)
  obtain ⟨_,_,_,n,_,h1⟩:=(show A1c X.prog X.w H s.heap a (.frz ob (.lst xs)) from I.hok a _ ea);exact PySem.W.kia_one PySem.W.kitx_list I.kIn ⟨_,h1,rfl⟩ e (λz=>nomatch z) h
 | @tup a xs ea =>
  cases (show u=Value.ref a from rx)
  obtain ⟨_,_,_,p⟩:=(show A1c X.prog X.w H s.heap a (.tup xs) from I.hok a _ ea);obtain ⟨o,h1,h2,_⟩:=p;exact PySem.W.kia_one PySem.W.kitx_tuple I.kIn ⟨o,h1,h2⟩ e (λz=>nomatch z) h
 | @dK a kvs ea =>
  cases (show u=Value.ref a from rx)
  obtain ⟨_,_,vs,_,p⟩:=(show A1c X.prog X.w H s.heap a (.dK kvs) from I.hok a _ ea);obtain ⟨o,es,ep,h1,h2,_⟩:=p;exact PySem.W.kia_one PySem.W.kitx_dict I.kIn ⟨o,h1,h2.1⟩ e (λz=>nomatch z) h
 | @dT a kvs ea =>
  cases (show u=Value.ref a from rx)
  obtain ⟨_,_,xs,_,o,es,ep,h1,h2,_⟩:=(show A1c X.prog X.w H s.heap a (.dT kvs) from I.hok a _ ea);exact PySem.W.kia_one PySem.W.kitx_dict I.kIn ⟨o,h1,h2.1⟩ e (λz=>nomatch z) h
 | @ins a C dx fs ea cl ha hn htk hm =>
  cases (show u=Value.ref a from rx)
  obtain ⟨mA,O,_⟩:=B1b I.hok ea;obtain ⟨od,J,_⟩:=O.look;exact PySem.W.kia_one (PySem.W.kitx_own (cl.get _) cl.hd ha hn htk hm) I.kIn J e (λz=>nomatch z) h
end
structure A7e (k:Nat) (A:Around):Prop where
 hd:A.handled=none
 dp:A.depth+3*k+5<recursionLimit
 un:A.units+16*k+200<cLine
 gd:A.guards=some []
theorem A7e.mono {j k:Nat} {A:Around} (r:A7e k A) (h:j<=k):A7e j A:=⟨r.hd,by have:=r.dp;omega,by have:=r.un;omega,r.gd⟩
theorem A7e.deeper {k:Nat} {A:Around} (r:A7e (k+1) A) (env:Env):A7e k (A.deeper env) :=
 ⟨r.hd,by have:=r.dp;show A.depth+1+3*k+5<_;omega,by have:=r.un;show A.units+3+16*k+200<_;omega,r.gd⟩
theorem B8s {A:Around} {C:Addr} {us:List Value} {kw:List (Str×Value)}:(A.under (.builtin "type.__call__" ⟨.ref C::us,kw⟩)).depth=A.depth+1:=by
 first | rfl | simp [Around.under,Code.weight,Code.isCreation,Code.isGuard,Code.isCaller,Code.frames,Code.isFrame,guardIds]
theorem B8v {A:Around} {C:Addr} {us:List Value} {kw:List (Str×Value)}:(A.under (.builtin "type.__call__" ⟨.ref C::us,kw⟩)).units=A.units+1:=by
 first | rfl | simp [Around.under,Code.cUnits,Code.frames,Code.isFrame]
theorem B5l {A:Around} {C:Addr} {us:List Value} {kw:List (Str×Value)}:(A.under (.builtin "type.__call__" ⟨.ref C::us,kw⟩)).guards=A.guards:=by
 show pushGuards (Code.guards (.builtin "type.__call__" ⟨.ref C::us,kw⟩)) A.guards=A.guards;have h:Code.isGuard (.builtin "type.__call__" ⟨.ref C::us,kw⟩)=false:=by first | rfl | (simp [Code.isGuard,guardIds]) | decide
 unfold Code.guards;rw [h];cases A.guards <;> rfl
theorem A7e.make {k:Nat} {A:Around} (r:A7e (k+1) A) (C:Addr) (us:List Value) (kw:List (Str×Value)):A7e k (A.under (.builtin "type.__call__" ⟨.ref C::us,kw⟩)) :=
 ⟨r.hd,by have:=r.dp;rw [B8s];omega,by have:=r.un;rw [B8v];omega,by rw [B5l];exact r.gd⟩
theorem A7e.depth {k:Nat} {A:Around} (r:A7e k A):A.depth<recursionLimit:=by have:=r.dp;omega
theorem A7e.units {k:Nat} {A:Around} (r:A7e k A):A.units+64<cLine:=by have:=r.un;omega
theorem A7e.units0 {k:Nat} {A:Around} (r:A7e k A):A.units<cLine:=by have:=r.un;omega
def tNil:TA:=λ_ H Q=>Q [] H
def D2e (ta:TE) (tr:TA):TA:=λσ H Q=>ta σ H λx H1=>tr σ H1 λxs H2=>Q (x::xs) H2
section
variable {X:Cx} {e:Expr} {es:List Expr} {te:TE} {t:TA} {pos:Pos}
theorem A0c:PA X [] tNil:=λ_ _ _ _ H Q I h=>Calls.spliced_nil ⟨[],H,I,.nil,h⟩
theorem A0a (ha:PE X e te) (hr:PA X es t) (hs:starEach (e::es) X.env=(false,eval e X.env)::starEach es X.env:=by rfl):PA X (e::es) (D2e te t):=by
 intro pos pins s σ H Q I h;rw [hs];show wpAny _ _ (spliced ((false,eval e X.env)::backTo pos (starEach es X.env))) _ _ s;refine Calls.spliced_cons (thn (ha pins s σ H _ I h) λu s1 ⟨x,H1,I1,r1,q1⟩=> ?_);exact thn (hr pos pins s1 σ H1 _ I1 q1) λus s2 ⟨xs,H2,I2,r2,q2⟩=>⟨x::xs,H2,I2,.cons r1 r2,q2⟩
def tTup (t:TA):TE:=λσ H Q=>t σ H λxs H1=>xs.length<=sizeLine/\∀p,H1 p=none->Q (.ref p) (upd H1 p (.tup xs))
def tLst (t:TA):TE:=λσ H Q=>t σ H λxs H1=>xs.length<=sizeLine/\∀p,H1 p=none->Q (.ref p) (upd H1 p (.lst xs))
theorem B0w {x1} (h:PA X es t):PE X (.Tuple es x1 pos) (tTup t):=by
 intro pins s σ H Q I hq;refine wpAny_Tuple_spliced (thn (h pos pins s σ H _ I hq) λus s1 ⟨xs,H1,I1,r,z,q⟩=>⟨by rw [<-r.length];exact z,?_⟩);have hf:H1 s1.heap.objs.size=none:=I1.hok.fresh (Z09 _);refine ⟨.ref s1.heap.objs.size,upd H1 s1.heap.objs.size (.tup xs),I1.laid (t':=s1.toks) (λb u e=>Z01 _ e) (Z09 _) ?_,rfl,q _ hf⟩;exact ⟨z,us,r,⟨_,Z0c _ rfl,rfl,_,rfl⟩⟩
theorem A6t (h:PA X es t):PE X (.List es pos) (tLst t):=by
 intro pins s σ H Q I hq;refine wpAny_List_spliced (thn (h pos pins s σ H _ I hq) λus s1 ⟨xs,H1,I1,r,z,q⟩=>⟨by rw [<-r.length];exact z,?_⟩);have hf:H1 s1.heap.objs.size=none:=I1.hok.fresh (Z09 _);refine ⟨.ref s1.heap.objs.size,upd H1 s1.heap.objs.size (.lst xs),I1.laid (t':=s1.toks) (λb u e=>Z01 _ e) (Z09 _) ?_,rfl,q _ hf⟩;exact ⟨z,us,0,r,Z0c _ rfl⟩
end
abbrev Sp:=List V->Hp->VK->XK->Prop
abbrev CXT:=List Env->Hp->Shared->XK->Value->Shared->Prop
structure C6s (P:Program) (w:World) (K:PySem.W.Frag) (mg:Str->Option Value) (base:Heap) (A:Around) (outer:List Env) (s:Shared) (H:Hp):Prop where
 frames:A.frames=some outer
 mod:Mod K mg base
 bs:∀b o,base.get? b=some o->s.heap.get? b=some o/\H b=none
 bsz:base.objs.size<=s.heap.objs.size
 funs:s.heap.FunFrames base outer
 frf:∀b∈frs outer,H b=none
 hok:HOk P w H s.heap
 bare:AllBare s.gens
def CE (outer:List Env) (P:Program) (w:World) (H:Hp) (s:Shared) (Q:VK) (u:Value) (s':Shared):Prop :=
 ∃v H',s'.os=s.os/\AllBare s'.gens/\Un (frs outer) [] H H' s.heap s'.heap/\HOk P w H' s'.heap/\A2a v u/\Q v H'
def CR (CX:CXT) (outer:List Env) (P:Program) (w:World) (H:Hp) (s:Shared) (Q:VK) (E:XK) (r:Result) (s':Shared):Prop :=
 match r with
 | .ok (.ret u)=>CE outer P w H s Q u s'
 | .ok _=>False
 | .error e=>CX outer H s E e s'
structure A1m (P:Program) (w:World) (K:PySem.W.Frag) (mg:Str->Option Value) (base:Heap) (CX:CXT) (k:Nat) (f:Addr) (fd:FuncData) (ps:List Str) (sp:Sp):Prop where
 len:∀vs H Q E,sp vs H Q E->vs.length=ps.length
 run:∀(A:Around) (outer:List Env) (s:Shared) (H:Hp) (args:Args) (us:List Value) (vs:List V) (Q:VK) (E:XK),A7e k A->C6s P w K mg base A outer s H->BindsTo s fd args (ps.zip us)->A1v vs us->sp vs H Q E->
  codeAny (model P w) A (.call (.ref f) args) (CR CX outer P w H s Q E) s
theorem A1m.mono {P:Program} {w:World} {K:PySem.W.Frag} {mg:Str->Option Value} {base:Heap} {CX:CXT} {j k:Nat} {f:Addr} {fd:FuncData} {ps:List Str} {sp:Sp} (F:A1m P w K mg base CX j f fd ps sp) (h:j<=k) :
  A1m P w K mg base CX k f fd ps sp:=⟨F.len,λA outer s H args us vs Q E hr=>F.run A outer s H args us vs Q E (hr.mono h)⟩
theorem C6s.make {P:Program} {w:World} {K:PySem.W.Frag} {mg:Str->Option Value} {base:Heap} {A:Around} {outer:List Env} {s:Shared} {H:Hp} (e:C6s P w K mg base A outer s H) (C:Addr) (us:List Value) (kw:List (Str×Value)) :
  C6s P w K mg base (A.under (.builtin "type.__call__" ⟨.ref C::us,kw⟩)) outer s H:=⟨by first | exact e.frames | (simpa [Around.under,Code.envs,Code.isFrame,pushEnvs] using e.frames),e.mod,e.bs,e.bsz,e.funs,e.frf,e.hok,e.bare⟩
section
variable {X:Cx} {pins:List (Addr×Obj)} {σ:St} {H:Hp} {s s':Shared}
theorem Inv.env0 (I:Inv X pins σ H s):C6s X.prog X.w X.K X.mg X.base X.A X.stack s H :=
 ⟨I.ok.frames,I.ok.mod,I.bs,Z1n I.ok.bsz I.sz,I.stack,I.stkFree,I.hok,I.bare⟩
theorem Inv.after {Q:VK} {u:Value} (I:Inv X pins σ H s) (h:CE X.stack X.prog X.w H s Q u s'):EP X pins σ Q u s':=by
 obtain ⟨v,H',os,bare,un,hok,r,q⟩:=h;obtain ⟨hh,g,d,t,os'⟩:=s';obtain rfl:os'=s.os:=os;exact ⟨v,H',I.call (h':=hh) (g':=g) (d':=d) (t':=t) (ch:=[]) un hok bare (λb z=>absurd z (by simp)),r,q⟩
end
def D3c (sp:Sp) (dvs:List V) (E:XK) (t:TA):TE:=λσ H Q=>t σ H λvs H1=>sp (vs++dvs) H1 Q E
def D3q (C:Addr) (m:Str) (sp:Sp) (dvs:List V) (E:XK) (ta:TE) (t:TA):TE:=λσ H Q=>ta σ H λx H1=>∃a dx fs,x= .ref a/\H1 a=some (.ins C dx fs)/\fs.lookup m=none/\
 t σ H1 λvs H2=>sp (x::(vs++dvs)) H2 Q E
def D3o (C:Addr) (sp:Sp) (dvs:List V) (E:XK) (t:TA):TE:=λσ H Q=>t σ H λvs H1=>∀x dx,H1 x=none->H1 dx=none->dx≠x->
 sp (.ref x::(vs++dvs)) (upd (upd H1 dx (.own x)) x (.ins C dx [])) (λv H2=>v= .non/\Q (.ref x) H2) E
def A1i (K:PySem.W.Frag) (fd:FuncData) (ps:List Str) (ds:List Value):Prop :=
 ∀(s:Shared) (us:List Value),K.In s.heap->(us++ds).length=ps.length->BindsTo s fd ⟨us,[]⟩ (ps.zip (us++ds))
theorem A1i.all {K:PySem.W.Frag} {fd:FuncData} {ps:List Str} (h:∀us:List Value,us.length=ps.length->bindArgs fd ⟨us,[]⟩=pure (ps.zip us)):A1i K fd ps []:=λs us _ hl=>by
 rw [Z0u] at hl⊢;exact .of_eq (h us hl)
def A7y (CX:CXT) (X:Cx) (E:XK):Prop:=∀(pins:List (Addr×Obj)) (σ:St) (H:Hp) (s:Shared) (e:Value) (s':Shared),Inv X pins σ H s->CX X.stack H s E e s'->X.xe e s'
section
variable {X:Cx} {CX:CXT} {k:Nat} {f C:Addr} {fd:FuncData} {ps:List Str} {sp:Sp} {dvs:List V} {ds:List Value} {E:XK} {x m:Str} {p pos apos:Pos} {e o:Expr} {es:List Expr} {ta:TE} {t:TA}
theorem B9s {pins:List (Addr×Obj)} {σ:St} {H:Hp} {s:Shared} {Q:VK} {us:List Value} {vs:List V} (F:A1m X.prog X.w X.K X.mg X.base CX k f fd ps sp) (hr:A7e k X.A) (hb:A1i X.K fd ps ds) (hd:A1v dvs ds) (hx:A7y CX X E)
  (I:Inv X pins σ H s) (r:A1v vs us) (h:sp (vs++dvs) H Q E):wpAny (model X.prog X.w) X.A (call (.ref f) us) (EP X pins σ Q) X.xe s:=by
 have r2:A1v (vs++dvs) (us++ds):=r.append hd;have hl:(us++ds).length=ps.length:=by rw [<-r2.length];exact F.len _ _ _ _ h
 refine wpAny_call (codeAny_mono (F.run X.A X.stack s H ⟨us,[]⟩ (us++ds) (vs++dvs) Q E hr I.env0 (hb s us I.kIn hl) r2 h) λr s' hq=> ?_)
 cases r with
 | error e=>exact hx pins σ H s e s' I hq
 | ok fl =>
  cases fl with
  | ret u=>exact I.after hq
  | next=>exact False.elim hq
  | brk=>exact False.elim hq
  | cont=>exact False.elim hq
theorem A0h (F:A1m X.prog X.w X.K X.mg X.base CX k f fd ps sp) (hr:A7e k X.A) (hg:Gl X x) (hm:X.mg x=some (.ref f)) (hk:PySem.W.keepIn X.K (.ref f)=true) (hb:A1i X.K fd ps ds) (hd:A1v dvs ds) (hx:A7y CX X E)
  (ha:PA X (e::es) t) (hdb:(x == ("__debug__":Str))=false:=by decide) (he:starEach (e::es) X.env=(false,eval e X.env)::starEach es X.env:=by rfl) (hpl:(backTo pos (starEach es X.env)).any (·.1)=false:=by rfl) :
  PE X (.Call (.Name x p) (e::es) [] pos) (D3c sp dvs E t):=by
 intro pins s σ H Q I h;refine wpAny_Call_Name_kw (A7v I hg hm ?_ hdb);refine PySem.W.callWith_K (h₀:=X.base) I.ok.mod.kin hk (thn (ha pos pins s σ H _ I h) λus s1 ⟨vs,H1,I1,r,q⟩=>⟨I1.kIn,?_⟩) he hpl;exact B9s F hr hb hd hx I1 r q
theorem B5m {pl:Sem Bool} (he:PE X o ta) (c:Cls X.K C) (hm:C5s X.K C m f) (F:A1m X.prog X.w X.K X.mg X.base CX k f fd ps sp) (hr:A7e k X.A) (hb:A1i X.K fd ps ds) (hd:A1v dvs ds) (hx:A7y CX X E) (ha:PA X (e::es) t)
  (hst:starEach (e::es) X.env=(false,eval e X.env)::starEach es X.env:=by rfl) (hpl:(backTo pos (starEach es X.env)).any (·.1)=false:=by rfl)
  (ht:eval (.Call (.Attribute o m apos) (e::es) [] pos) X.env=(do
   let ov<-eval o X.env
   standAt apos.atName
   let (f,first)<-holding [ov] (getMethod ov m pl)
   callWith pos f first (backTo pos (starEach (e::es) X.env)) (backToKw pos (keywordEach [] X.env))):=by rfl) :
  PE X (.Call (.Attribute o m apos) (e::es) [] pos) (D3q C m sp dvs E ta t):=by
 intro pins s σ H Q I h;refine PySem.W.methodCall_KW (pl:=pl) (thn (he pins s σ H _ I h) λu s1 ⟨x,H1,I1,rx,a,dx,fs,ex,ea,l,q⟩=> ?_) ht;subst ex;obtain rfl:u=Value.ref a:=rx;refine B0o I1 ea c hm l ?_;refine PySem.W.callWith_K (first:=[.ref a]) (h₀:=X.base) I.ok.mod.kin hm.kp (thn (ha pos pins s1 σ H1 _ I1 q) λus s2 ⟨vs,H2,I2,r,q2⟩=>⟨I2.kIn,?_⟩) hst hpl;exact B9s (us:= .ref a::us) (vs:= .ref a::vs) F hr hb hd hx I2 (.cons rfl r) q2
structure Mk (K:PySem.W.Frag) (C f:Addr):Prop where
 makes:PySem.W.makesIn K C=true
 init:PySem.W.findIn K (.ref C) "__init__"=some (some (.ref f))
 fn:PySem.W.isFn K (.ref f)=true
 kp:PySem.W.keepIn K (.ref C)=true
theorem C2x {pins:List (Addr×Obj)} {σ:St} {H:Hp} {s:Shared} {Q:VK} {us:List Value} {vs:List V} (M:Mk X.K C f) (F:A1m X.prog X.w X.K X.mg X.base CX k f fd ps sp) (hr:A7e (k+1) X.A) (hb:A1i X.K fd ps ds) (hd:A1v dvs ds)
  (hx:A7y CX X E) (I:Inv X pins σ H s) (r:A1v vs us)
  (h:∀x dx,H x=none->H dx=none->dx≠x->sp (.ref x::(vs++dvs)) (upd (upd H dx (.own x)) x (.ins C dx [])) (λv H2=>v= .non/\Q (.ref x) H2) E) :
  wpAny (model X.prog X.w) X.A (call (.ref C) us) (EP X pins σ Q) X.xe s:=by
 have hq:=h (s.heap.objs.size+1) s.heap.objs.size (I.hok.fresh (Nat.le_succ _)) (I.hok.fresh (Z09 _)) (Z0h (Nat.lt_succ_self _));have I2:=Inv.made (C:=C) I;have r2:A1v (V.ref (s.heap.objs.size+1)::(vs++dvs)) (Value.ref (s.heap.objs.size+1)::(us++ds)):= .cons rfl (r.append hd)
 have hl:(Value.ref (s.heap.objs.size+1)::us++ds).length=ps.length:=by
  have e:=r2.length;rw [F.len _ _ _ _ hq] at e;exact e.symm
 refine wpAny_call (C4d (f:=f) I.kIn M.makes M.init (beq_iff_eq.mp M.fn) (codeAny_mono (F.run _ X.stack _ _ ⟨Value.ref (s.heap.objs.size+1)::us,[]⟩ (Value.ref (s.heap.objs.size+1)::(us++ds)) _ _ E (hr.make C us [])
  (I2.env0.make C us []) (hb _ (Value.ref (s.heap.objs.size+1)::us) I2.kIn hl) r2 hq) λr s' hq'=> ?_))
 cases r with
 | error e=>exact hx pins σ _ _ e s' I2 hq'
 | ok fl =>
  cases fl with
  | ret u =>
   obtain ⟨v,H',I3,rv,ev,q3⟩:=I2.after hq';subst ev;exact ⟨rv,⟨V.ref (s.heap.objs.size+1),H',I3,rfl,q3⟩⟩
  | next=>exact False.elim hq'
  | brk=>exact False.elim hq'
  | cont=>exact False.elim hq'
theorem A7p (M:Mk X.K C f) (F:A1m X.prog X.w X.K X.mg X.base CX k f fd ps sp) (hr:A7e (k+1) X.A) (hg:Gl X x) (hm:X.mg x=some (.ref C)) (hb:A1i X.K fd ps ds) (hd:A1v dvs ds) (hx:A7y CX X E)
  (ha:PA X (e::es) t) (hdb:(x == ("__debug__":Str))=false:=by decide) (he:starEach (e::es) X.env=(false,eval e X.env)::starEach es X.env:=by rfl) (hpl:(backTo pos (starEach es X.env)).any (·.1)=false:=by rfl) :
  PE X (.Call (.Name x p) (e::es) [] pos) (D3o C sp dvs E t):=by
 intro pins s σ H Q I h;refine wpAny_Call_Name_kw (A7v I hg hm ?_ hdb);refine PySem.W.callWith_K (h₀:=X.base) I.ok.mod.kin M.kp (thn (ha pos pins s σ H _ I h) λus s1 ⟨vs,H1,I1,r,q⟩=>⟨I1.kIn,?_⟩) he hpl;exact C2x M F hr hb hd hx I1 r q
end
section
variable {X:Cx} {CX:CXT} {k:Nat} {f C:Addr} {fd:FuncData} {ps ks:List Str} {sp:Sp} {E:XK} {x m:Str} {p pos apos kpos:Pos} {e o:Expr} {es:List Expr} {kws:List Keyword} {te ta:TE} {t tk:TA} {nm:Option Str}
variable {g:List Value->List Value->List Value} {gV:List V->List V->List V}
end
structure A0t (N P:List Str) (sc:Scope):Prop where
 kind:sc.kind= .function
 co:sc.isCoroutine=false
 gen:sc.isGenerator=false
 nd:N.Nodup
 pre:N.take P.length=P
 par:∀x∈P,sc.names.lookup x=some .local\/sc.names.lookup x=some .cell
 nofree:∀y∈sc.names,y.2≠.free
theorem B2s {kindOf:Str->Option NameKind} {x:Str}:∀{binds:List (Str×Value)} {m:Str->Option Value},(∀v,(x,v)∉binds)->bindL kindOf binds m x=m x
 | [],_,_=>rfl
 | (n,v)::r,m,h=>by
  unfold bindL;rw [B2s λw hw=>h w (Z1f _ hw)];split
  ·have:x≠n:=by rintro rfl;exact h v Z27
   simp [this]
  ·rfl
theorem B2q {kindOf:Str->Option NameKind} {x:Str}:∀{binds:List (Str×Value)} {m:Str->Option Value},(∀v,(x,v)∉binds)->bindC kindOf binds m x=m x
 | [],_,_=>rfl
 | (n,v)::r,m,h=>by
  unfold bindC;rw [B2q λw hw=>h w (Z1f _ hw)];split
  ·rfl
  ·have:x≠n:=by rintro rfl;exact h v Z27
   simp [this]
theorem B2v {kindOf:Str->Option NameKind} {x:Str} {v:Value}:∀{P:List Str} {vs:List Value} {i:Nat} {m:Str->Option Value},P.Nodup->P[i]? =some x->vs[i]? =some v->kindOf x=some .local->
  bindL kindOf (P.zip vs) m x=some v
 | [],_,_,_,_,h,_,_=>by simp at h
 | _::_,[],_,_,_,_,h,_=>by simp at h
 | p::P,w::vs,0,m,nd,h1,h2,hk=>by
  simp at h1 h2;subst h1;subst h2;show bindL kindOf ((p,w)::P.zip vs) m p=_;unfold bindL;rw [B2s λv hv=>(Z15.mp nd).1 (List.of_mem_zip hv).1,Z12 hk];simp
 | p::P,w::vs,i+1,m,nd,h1,h2,hk=>by
  show bindL kindOf ((p,w)::P.zip vs) m x=_;unfold bindL;exact B2v (i:=i) (Z15.mp nd).2 (by simpa using h1) (by simpa using h2) hk
theorem B3j {kindOf:Str->Option NameKind} {x:Str} {v:Value}:∀{P:List Str} {vs:List Value} {i:Nat} {m:Str->Option Value},P.Nodup->P[i]? =some x->vs[i]? =some v->kindOf x≠some .local->
  bindC kindOf (P.zip vs) m x=some v
 | [],_,_,_,_,h,_,_=>by simp at h
 | _::_,[],_,_,_,_,h,_=>by simp at h
 | p::P,w::vs,0,m,nd,h1,h2,hk=>by
  simp at h1 h2;subst h1;subst h2;show bindC kindOf ((p,w)::P.zip vs) m p=_;unfold bindC;rw [B2q λv hv=>(Z15.mp nd).1 (List.of_mem_zip hv).1,Z0t hk];simp
 | p::P,w::vs,i+1,m,nd,h1,h2,hk=>by
  show bindC kindOf ((p,w)::P.zip vs) m x=_;unfold bindC;exact B3j (i:=i) (Z15.mp nd).2 (by simpa using h1) (by simpa using h2) hk
def B1j (N:List Str) (vs:List V):St:=vs.map some++List.replicate (N.length-vs.length) none
def C2p (CX:CXT) (P:Program) (w:World) (K:PySem.W.Frag) (mg:Str->Option Value) (base:Heap) (N:List Str) (qual:Str) (scope:Scope) (f:Addr) (cd:Value) (A:Around) (outer:List Env) (s:Shared) (H:Hp) (E:XK):Cx where
 prog:=P
 w:=w
 K:=K
 mg:=mg
 base:=base
 A:=A.deeper (envOfC qual scope s.heap.objs.size f cd)
 N:=N
 s₀:=s
 H₀:=H
 env:=envOfC qual scope s.heap.objs.size f cd
 outer:=outer
 stack:=envOfC qual scope s.heap.objs.size f cd::outer
 ex:=[]
 calm:=true
 fn:=λ_=>true
 pn:=[]
 xe:=λe s'=>wpAny (model P w) (A.deeper (envOfC qual scope s.heap.objs.size f cd)) (leaving (envOfC qual scope s.heap.objs.size f cd) e) (λ_ s''=>CX outer H s E e s'') (λe' s''=>CX outer H s E e' s'') s'
theorem B7q {sc:Scope} {n:Nat} {x:Str} (h:sc.names.lookup x=some .cell):∃c,(cellsFrom n sc.names []).lookup x=some c:=by
 have q:=PySem.W.cellsFrom_some sc.names n [] (.inl h);exact Option.isSome_iff_exists.mp q
theorem C2h {CX:CXT} {P:Program} {w:World} {K:PySem.W.Frag} {mg:Str->Option Value} {base:Heap} {N ps:List Str} {qual:Str} {scope:Scope} {f:Addr} {cd:Value} {A:Around} {outer:List Env} {s s1:Shared} {H:Hp} {E:XK} {us:List Value} {vs:List V}
  (S:A0t N ps scope) (hd:A.handled=none) (e0:C6s P w K mg base A outer s H) (hl:vs.length=ps.length) (r:A1v vs us)
  (x:InCallC s s.heap.objs.size (bindL (envOfC qual scope s.heap.objs.size f cd).kindOf (ps.zip us) λ_=>none) (cellsFrom (s.heap.objs.size+1) scope.names []) (bindC (envOfC qual scope s.heap.objs.size f cd).kindOf (ps.zip us) λ_=>none) s1) :
  Inv (C2p CX P w K mg base N qual scope f cd A outer s H E) [] (B1j N vs) H s1:=by
 have hpl:ps.length<=N.length:=by have:=congrArg List.length S.pre;rw [Z0x] at this;omega
 obtain ⟨h1,tk,rfl,hk⟩:=x.done;have noA:∀b:Addr,b∉(C2p CX P w K mg base N qual scope f cd A outer s H E).ex:=λb z=>absurd (show b∈([]:List Addr) from z) (by simp)
 refine ⟨⟨e0.mod,S.kind,rfl,rfl,Z09 _,λy z c h1 h2=> ?_,λy hy=> ?_,λy c _ h=> ?_,λ_=>hd,Around.frames_deeper e0.frames,.inr ⟨rfl,rfl⟩,λb z=>absurd z (noA b),e0.bs,e0.bsz,λb _ _=>noA b,λb z=>absurd z (noA b),e0.funs,e0.frf⟩,
  rfl,e0.bare,Un.kept hk,⟨_,x.toInCall.ns,λi y v h1 h2 h3=> ?_⟩,λy c h=>⟨_,x.cell y c h⟩,e0.hok.fresh (Z09 _),λy c h=> ?_,λp hp=>absurd (show p∈([]:List (Addr×Obj)) from hp) (by simp),e0.hok.kept hk,?_⟩
 ·exact name_of_addr x.apart (PySem.mem_of_lookup h1) (PySem.mem_of_lookup h2)
 ·have hy:scope.names.lookup y=some .cell\/scope.names.lookup y=some .free:=hy;rcases hy with hy | hy
  ·exact B7q hy
  ·exact absurd rfl (S.nofree _ (PySem.mem_of_lookup hy))
 ·exact Nat.le_of_lt (x.above y c (PySem.mem_of_lookup h))
 ·have hi:i<vs.length:=by
   unfold B1j at h2;by_cases hi:i<vs.length
   ·exact hi
   ·rw [Z1l (by simpa using hi)] at h2;rw [List.getElem?_replicate] at h2;split at h2 <;> cases h2
  have ha:vs[i]? =some v:=by
   unfold B1j at h2;rw [Z26 (by simpa using hi),Z1z] at h2
   cases e:vs[i]? with
   | none=>rw [e] at h2;cases h2
   | some a=>rw [e] at h2;cases h2;rfl
  obtain ⟨u,hu,rv⟩:=r.get ha
  have hp:ps[i]? =some y:=by
   rw [<-S.pre,List.getElem?_take_of_lt (by omega)];exact h1
  have ndP:ps.Nodup:=by rw [<-S.pre];exact S.nd.sublist (List.take_sublist _ _)
  refine ⟨u,rv,?_⟩;rcases S.par y (Z13 hp) with k | k
  ·exact .inl ⟨k,B2v ndP hp hu k⟩
  ·obtain ⟨c,e⟩:=B7q (n:=s.heap.objs.size+1) k;refine .inr ⟨.inl k,c,e,?_⟩;have q:=x.cell y c e;rw [B3j ndP hp hu (by show scope.names.lookup y≠_;rw [k];decide)] at q;exact q
 ·exact e0.hok.fresh (Nat.le_of_lt (x.above y c (PySem.mem_of_lookup h)))
 ·unfold B1j;show _=N.length;rw [Z06,Z08,List.length_replicate];omega
theorem D0o {CX:CXT} {P:Program} {w:World} {K:PySem.W.Frag} {mg:Str->Option Value} {base:Heap} {k:Nat} {f:Addr} {name qual:Str} {params:Arguments} {body:List Stmt} {scope:Scope} {dV kV doc pm cdv ct oc:Value} {an od:Option Addr}
  {osl:Array (Option Value)} {N ps:List Str} {sp:Sp} (lk:K.lookup f=some ⟨oc,od,.func (PySem.W.fnOf name qual params body scope dV kV doc pm an cdv ct),osl⟩) (hcd:PySem.W.codeIn K cdv qual=true) (S:A0t N ps scope)
  (len:∀vs H Q E,sp vs H Q E->vs.length=ps.length)
  (hbody:∀(A:Around) (outer:List Env) (s:Shared) (H:Hp) (vs:List V) (Q:VK) (E:XK),A7e k (A.deeper (envOfC qual scope s.heap.objs.size f cdv))->sp vs H Q E->
   ∃t,PSs (C2p CX P w K mg base N qual scope f cdv A outer s H E) body t/\t { nx:=λ_ H'=>Q .non H',rt:=Q } (B1j N vs) H) :
  A1m P w K mg base CX (k+1) f (PySem.W.fnOf name qual params body scope dV kV doc pm an cdv ct) ps sp:=by
 refine ⟨len,λA outer s H args us vs Q E hr e0 hb r hsp=> ?_⟩;have hl:=len _ _ _ _ hsp;have KX:K.In s.heap:=e0.mod.kin.keeps λb o e=>(e0.bs b o e).1;have lim:s.heap.NoLimit:=e0.mod.nolimit.keeps λb o e=>(e0.bs b o e).1
 have hkind:∀y∈ps.zip us,scope.names.lookup y.1=some .local\/(scope.names.lookup y.1=some .cell/\((cellsFrom (s.heap.objs.size+1) scope.names []).lookup y.1).isSome=true):=λ⟨n,v⟩ hy=>by
  rcases S.par n (List.of_mem_zip hy).1 with q | q
  ·exact .inl q
  ·exact .inr ⟨q,PySem.W.cellsFrom_some _ _ _ (.inl q)⟩
 refine codeAny_call_function hr.depth (KX _ _ lk) rfl S.co S.gen rfl (PySem.W.codeRec_of KX hcd) (hb _ _ _ _ ?_);refine wpAny_newFunctionEnv_cells S.kind hkind λenv he s1 x=> ?_;subst he;refine ⟨lim.keeps x.toInCall.keep,codeAny_func ?_⟩;obtain ⟨t,ht,hq⟩:=hbody A outer s H vs Q E (hr.deeper _) hsp;have I:Inv (C2p CX P w K mg base N qual scope f cdv A outer s H E) [] (B1j N vs) H s1:=C2h S hr.hd e0 hl r x;refine Z10 (ht [] s1 (B1j N vs) H _ I hq) (λfl s' hs=> ?_) λe s' hs=>hs
 have fin:∀{σ':St} {H':Hp} {v:V} {u:Value},Inv (C2p CX P w K mg base N qual scope f cdv A outer s H E) [] σ' H' s'->A2a v u->Q v H'->CE outer P w H s Q u s' :=
  λ{σ' H' v u} J rv q=>⟨v,H',J.os,J.bare,J.base,J.hok,rv,q⟩
 cases fl with
 | ret u =>
  obtain ⟨v,σ',H',J,rv,q⟩:=hs;exact fin J rv q
 | next =>
  obtain ⟨σ',H',J,q⟩:=hs;exact fin (v:=V.non) (u:=Value.none) J rfl q
 | brk =>
  obtain ⟨_,_,_,q⟩:=hs;exact False.elim q
 | cont =>
  obtain ⟨_,_,_,q⟩:=hs;exact False.elim q
section
variable {X:Cx} {x:Str} {p pos:Pos} {e:Expr} {es:List Expr} {t:TA} {id T:String} {r:List V->Hp->VK->Prop}
def tCB (r:List V->Hp->VK->Prop) (t:TA):TE:=λσ H Q=>t σ H λvs H1=>r vs H1 Q
theorem A0o (hc:A5y X (.builtin id) r) (hg:Gl X x) (hm:X.mg x=none) (hv:bootBuiltins x=some (.builtin id)) (ha:PA X (e::es) t) (hn:x≠"__name__":=by decide) (hdb:(x == ("__debug__":Str))=false:=by decide)
  (he:starEach (e::es) X.env=(false,eval e X.env)::starEach es X.env:=by rfl) (hpl:(backTo pos (starEach es X.env)).any (·.1)=false:=by rfl):PE X (.Call (.Name x p) (e::es) [] pos) (tCB r t):=by
 intro pins s σ H Q I h;refine wpAny_Call_Name_kw (A7x I hg hm hv ?_ hn hdb);exact PyProof.Rows.callWith_builtin1 (thn (ha pos pins s σ H _ I h) λus s1 ⟨vs,H1,I1,r1,q1⟩=>hc pins s1 σ H1 vs us Q I1 r1 q1) he hpl
theorem A1t (hc:A5y X (.type T) r) (hg:Gl X x) (hm:X.mg x=none) (hv:bootBuiltins x=some (.type T)) (ha:PA X (e::es) t) (hn:x≠"__name__":=by decide) (hdb:(x == ("__debug__":Str))=false:=by decide)
  (he:starEach (e::es) X.env=(false,eval e X.env)::starEach es X.env:=by rfl) (hpl:(backTo pos (starEach es X.env)).any (·.1)=false:=by rfl):PE X (.Call (.Name x p) (e::es) [] pos) (tCB r t):=by
 intro pins s σ H Q I h;refine wpAny_Call_Name_kw (A7x I hg hm hv ?_ hn hdb);exact PyProof.Rows.callWith_type1 (thn (ha pos pins s σ H _ I h) λus s1 ⟨vs,H1,I1,r1,q1⟩=>hc pins s1 σ H1 vs us Q I1 r1 q1) he hpl
end
end L2
namespace HT
open PySem PyProof.Rows
section
open PySem.SeqAt
open PySem.AutoSeq1 (wpAny_loadPart')
open PySem.MeetsSeq PySem.MeetsSeq2 PySem.MeetsSeq3
end
section
variable {prog:Program} {w:World} {A:Around} {E:Value->Shared->Prop} {s:Shared}
theorem cat_tup {t b:Addr} {vs ws:List Value} {Q:Value->Shared->Prop} (ht:IsTup s.heap t vs.toArray) (hb:IsTup s.heap b ws.toArray) (hv:vs≠[])
  (h1:ws=[]->Q (.ref t) s) (h2:ws≠[]->Q (.ref s.heap.objs.size) { s with heap:=s.heap.push { cls:= .type "tuple",data:= .seq (vs++ws).toArray } })
  (hsz:vs.length+ws.length<=sizeLine):wpAny (model prog w) A (binaryOp .Add (.ref t) (.ref b)) Q E s:=by
 obtain ⟨⟨cls,dd,data,sl⟩,ho,hc,n,hd⟩:=id ht;obtain ⟨⟨cls2,dd2,data2,sl2⟩,ho2,hc2,n2,hd2⟩:=id hb;simp only at hc hd hc2 hd2;subst hc hd hc2 hd2;have e:vs.toArray++ws.toArray=(vs++ws).toArray:=by simp
 by_cases hw:ws=[]
 ·exact concat_meets ⟨_,ho,rfl⟩ ⟨_,ho2,rfl⟩ noFill_tuple_add seq_tuple_add PySem.F.slot_tuple_add PySem.F.entry_tuple_add (PySem.F.args_tuple_add_2 _ _)
   (tuple_addW1 t b vs.toArray ws.toArray n n2 dd dd2 sl sl2 (by simpa using hv) (by simp [hw])) ⟨ho,ho2,h1 hw⟩
 ·refine concat_meets ⟨_,ho,rfl⟩ ⟨_,ho2,rfl⟩ noFill_tuple_add seq_tuple_add PySem.F.slot_tuple_add PySem.F.entry_tuple_add (PySem.F.args_tuple_add_2 _ _)
   (tuple_addW2 t b vs.toArray ws.toArray n n2 dd dd2 sl sl2 (by simpa using hv) (by simpa using hw) (by rw [Z0g,Z0g];exact hsz)) ⟨ho,ho2,?_⟩
  rw [e];exact h2 hw
def sIx (n d:Nat):Option Int->Nat
 | none=>d
 | some v=>if v<0 then (v+(n:Int)).toNat else min v.toNat n
theorem sIx_nat (n d k:Nat):sIx n d (some (k:Int))=min k n:=by
 show (if (k:Int)<0 then ((k:Int)+(n:Int)).toNat else min (k:Int).toNat n)=min k n;rw [Z0t (by omega),Int.toNat_natCast]
end
end HT
namespace L2
open PySem PySem.Spec PyProof.Rows
abbrev TO:=St->Hp->(Option Int->Hp->Prop)->Prop
def PO (X:Cx) (e:Option Expr) (t:TO):Prop :=
 ∀(pins:List (Addr×Obj)) (s:Shared) (σ:St) (H:Hp) (Q:Option Int->Hp->Prop),Inv X pins σ H s->t σ H Q->
  wpAny (model X.prog X.w) X.A (evalPart e X.env) (λu s'=>∃o H',Inv X pins σ H' s'/\IsPart u o/\Q o H') X.xe s
def C7y:TO:=λ_ H Q=>Q none H
def D3v (t:TE):TO:=λσ H Q=>t σ H λx H1=>∃i,x= .int i/\Q (some i) H1
section
variable {X:Cx} {e:Expr} {te:TE} {lo hi:Option Expr} {tl th:TO} {pos p2:Pos}
theorem B6e:PO X none C7y:=by
 intro pins s σ H Q I h;rw [evalPart_none];exact Z04 ⟨none,H,I,.none,h⟩
theorem B4l (h:PE X e te):PO X (some e) (D3v te):=by
 intro pins s σ H Q I hw;rw [evalPart_some];refine thn (h pins s σ H _ I hw) λu s1 ⟨x,H1,I1,r1,q1⟩=> ?_;obtain ⟨i,rfl,q⟩:=q1;obtain ⟨t,rfl⟩:=r1;exact ⟨some i,H1,I1,.int i t,q⟩
def SlR (X:Cx) (r:V->Option Int->Option Int->Hp->VK->Prop):Prop :=
 ∀(pins:List (Addr×Obj)) (s:Shared) (σ:St) (H:Hp) (x:V) (v vl vu:Value) (lo hi:Option Int) (sl:Addr) (Q:VK),Inv X pins σ H s->A2a x v->s.heap.IsSliceOf sl vl vu .none->IsPart vl lo->IsPart vu hi->r x lo hi H Q->
  ∃T id,typeLookup (.type T) "__getitem__"=pure (some (.builtin id))/\s.TypeIs v T/\wpAny (model X.prog X.w) X.A (getItem v (.ref sl)) (EP X pins σ Q) X.xe s
def tSl (r:V->Option Int->Option Int->Hp->VK->Prop) (te:TE) (tl th:TO):TE:=λσ H Q=>te σ H λx H1=>tl σ H1 λl H2=>th σ H2 λu H3=>r x l u H3 Q
theorem B2l {r:V->Option Int->Option Int->Hp->VK->Prop} (hr:SlR X r) (he:PE X e te) (hl:PO X lo tl) (hu:PO X hi th):PE X (.Subscript e (.Slice lo hi none p2) pos) (tSl r te tl th):=by
 intro pins s σ H Q I h;refine Subscript_ (thn (he pins s σ H _ I h) λv s1 ⟨x,H1,I1,r1,q1⟩=> ?_);refine wpAny_Slice (thn (hl pins s1 σ H1 _ I1 q1) λvl s2 ⟨l,H2,I2,pl,q2⟩=>thn (hu pins s2 σ H2 _ I2 q2) λvu s3 ⟨u,H3,I3,pu,q3⟩=> ?_);rw [evalPart_none];refine Z04 ?_;have I4:Inv X pins σ H3 { s3 with heap:=s3.heap.push { cls:= .type "slice",data:= .fields #[vl,vu,.none] } }:=I3.kept (t':=s3.toks) λb ob q=>Z01 _ q
 obtain ⟨T,id,hT,ht,hg⟩:=hr pins { s3 with heap:=s3.heap.push { cls:= .type "slice",data:= .fields #[vl,vu,.none] } } σ H3 x v vl vu l u s3.heap.objs.size Q I4 r1 (Heap.IsSliceOf.new ..) pl pu q3;show wpAny (model X.prog X.w) X.A (subscriptTail e (.Slice lo hi none p2) v (.ref s3.heap.objs.size)) (EP X pins σ Q) X.xe { s3 with heap:=s3.heap.push { cls:= .type "slice",data:= .fields #[vl,vu,.none] } };exact tail_any (ops:=[.ref s3.heap.objs.size,v]) ht hT hg (by with_unfolding_all rfl)
def C2o (xs:List V) (lo hi:Option Int):List V:=(xs.drop (HT.sIx xs.length 0 lo)).take (HT.sIx xs.length xs.length hi-HT.sIx xs.length 0 lo)
theorem B5q (xs:List V) (lo hi:Option Int):(C2o xs lo hi).length<=xs.length:=by
 unfold C2o;rw [Z0x,Z19];omega
def D2y (K:PySem.W.Frag):R2:=λx y H Q=>∃a b xs ys,x= .ref a/\y= .ref b/\SqT K H a xs/\SqT K H b ys/\xs≠[]/\xs.length+ys.length<=sizeLine/\
 (ys=[]->Q (.ref a) H)/\(ys≠[]->∀p,H p=none->Q (.ref p) (upd H p (.tup (xs++ys))))
theorem A1v.nil_iff {xs:List V} {us:List Value} (r:A1v xs us):us=[]↔xs=[]:=by
 cases r with
 | nil=>simp
 | cons _ _=>simp
theorem C6l:OpR X (binaryOp .Add) (D2y X.K):=by
 intro pins s σ H x y v u Q I rx ry h;obtain ⟨a,b,xs,ys,rfl,rfl,ha,hb,hx,hz,q1,q2⟩:=h;cases rx;cases ry;obtain ⟨its,r1,p1,_⟩:=I.tuple ha;obtain ⟨its2,r2,p2,_⟩:=I.tuple hb;refine HT.cat_tup p1 p2 (λz=>hx (r1.nil_iff.mp z)) (λz=>⟨.ref a,H,I,rfl,q1 (r2.nil_iff.mp z)⟩) (λz=> ?_) (by rw [<-r1.length,<-r2.length];exact hz);refine ⟨.ref s.heap.objs.size,_,I.laid (t':=s.toks) (o:= .tup (xs++ys)) (λb ob q=>Z01 _ q) (Z09 _) ?_,rfl,q2 (λw=>z (r2.nil_iff.mpr w)) _ (I.hok.fresh (Z09 _))⟩;exact ⟨by rw [Z06];exact hz,_,r1.append r2,IsTup.new _ _⟩
end
def ixN (n:Nat) (i:Int):Option Nat:=if 0<=i then (if i<n then some i.toNat else none) else if -(n:Int)<=i then some (i+n).toNat else none
def atI {α:Type} (xs:List α) (i:Int):Option α:=(ixN xs.length i).bind λj=>xs[j]?
theorem C8s {n:Nat} {i:Int} {j:Nat} (h:ixN n i=some j):seqIndex? i n=some j/\j<n/\-(n:Int)<=i/\i<n:=by
 unfold ixN at h;by_cases h0:0<=i
 ·rw [Z12 h0] at h;by_cases h1:i<n
  ·rw [Z12 h1] at h;have e:i.toNat=j:=Z1a h;exact ⟨by rw [seqIndex_of h0 h1,e],by omega,by omega,h1⟩
  ·rw [Z0t h1] at h;cases h
 ·rw [Z0t h0] at h;by_cases h1: -(n:Int)<=i
  ·rw [Z12 h1] at h;have e:(i+n).toNat=j:=Z1a h;exact ⟨by rw [seqIndex_neg (by omega) h1,e],by omega,h1,by omega⟩
  ·rw [Z0t h1] at h;cases h
theorem B5p {α:Type} {xs:List α} {i:Int} {v:α} (h:atI xs i=some v):∃j,seqIndex? i xs.length=some j/\xs[j]? =some v/\j<xs.length/\-(xs.length:Int)<=i/\i<xs.length:=by
 unfold atI at h
 cases e:ixN xs.length i with
 | none=>rw [e] at h;cases h
 | some j =>
  rw [e] at h;obtain ⟨h1,h2,h3,h4⟩:=C8s e;exact ⟨j,h1,h,h2,h3,h4⟩
theorem A9o {α:Type} {xs:List α} {j:Nat} {v:α} (h:xs[j]? =some v):atI xs (j:Int)=some v:=by
 have hj:j<xs.length:=(Z03.mp h).1
 have e:ixN xs.length (j:Int)=some j:=by
  unfold ixN;rw [Z12 (by omega),Z12 (by omega)];simp
 unfold atI;rw [e];exact h
def C6q (b:Expr):Prop:=∀o i,subscripted b false o i=operate [o,i] (getItem o i)
def IxR (X:Cx) (r:R2):Prop :=
 ∀(value slice:Expr) (pins:List (Addr×Obj)) (s:Shared) (σ:St) (H:Hp) (x y:V) (v u:Value) (Q:VK),Inv X pins σ H s->A2a x v->A2a y u->r x y H Q->
  subscripted slice false v u=operate [v,u] (getItem v u)->wpAny (model X.prog X.w) X.A (subscriptTail value slice v u) (EP X pins σ Q) X.xe s
def MtR (X:Cx) (id:String) (r:V->List V->Hp->VK->Prop):Prop :=
 ∀(pins:List (Addr×Obj)) (s:Shared) (σ:St) (H:Hp) (x:V) (xs:List V) (v:Value) (us:List Value) (Q:VK),Inv X pins σ H s->A2a x v->A1v xs us->r x xs H Q->
  wpAny (model X.prog X.w) X.A (call (.builtin id) (v::us)) (EP X pins σ Q) X.xe s
section
variable {X:Cx} {a b:Expr} {ta tb:TE} {pos:Pos}
theorem A8k {r:R2} (hr:IxR X r) (ha:PE X a ta) (hb:PE X b tb) (hs:C6q b):PE X (.Subscript a b pos) (tOp r ta tb):=by
 intro pins s σ H Q I h;exact Subscript_ (D3x ha hb I h λv u s2 x y H2 I2 rx ry q=>hr a b pins s2 σ H2 x y v u Q I2 rx ry q (hs _ _))
def D3z (K:PySem.W.Frag):R2:=λx y H Q=>∃p xs i v,x= .ref p/\y= .int i/\SqL K H p xs/\atI xs i=some v/\Q v H
def rIxT (K:PySem.W.Frag):R2:=λx y H Q=>∃p xs i v,x= .ref p/\y= .int i/\SqT K H p xs/\atI xs i=some v/\Q v H
theorem A4u:IxR X (D3z X.K):=by
 intro value slice pins s σ H x y v u Q I rx ry h hs;obtain ⟨p,xs,i,z,rfl,rfl,hq,he,q⟩:=h;cases rx;obtain ⟨t,rfl⟩:=ry;obtain ⟨its,r,pl,hz⟩:=I.list hq;obtain ⟨j,h1,h2,h3,h4,h5⟩:=B5p he;obtain ⟨w,ew,rw'⟩:=r.get h2;have hl:=r.length;have hn:=C1x;have fin:EP X pins σ Q w s:=⟨z,H,I,rw',q⟩;by_cases h0:0<=i
 ·have hj:i.toNat=j:=by
   rw [seqIndex_of h0 h5] at h1;exact Z1a h1
  exact item_listR pl.isList h0 (by omega) (by rw [hj];simpa using ew) fin hs
 ·have hj:(i+(its.toArray.size:Int)).toNat=j:=by
   rw [seqIndex_neg (by omega) h4] at h1;rw [Z0g,<-hl];exact Z1a h1
  exact subscriptTail_builtinR (x:=w) pl.isList.typeIs slot_list_getitem.lookup
   (wpAny_getItem_list_neg (Q:=λr s'=>r=w/\EP X pins σ Q r s') pl.isList (by omega) (by rw [Z0g] <;> omega) (by omega) (by rw [hj];simpa using ew) ⟨rfl,fin⟩) hs
theorem C1s:IxR X (rIxT X.K):=by
 intro value slice pins s σ H x y v u Q I rx ry h hs;obtain ⟨p,xs,i,z,rfl,rfl,hq,he,q⟩:=h;cases rx;obtain ⟨t,rfl⟩:=ry;obtain ⟨its,r,pl,hz⟩:=I.tuple hq;obtain ⟨j,h1,h2,h3,h4,h5⟩:=B5p he;obtain ⟨w,ew,rw'⟩:=r.get h2;have hl:=r.length;have hn:=C1x;have fin:EP X pins σ Q w s:=⟨z,H,I,rw',q⟩
 exact subscriptTail_builtinR (x:=w) pl.typeIs slot_tuple_getitem.lookup
  (getItem_tuple (j:=j) (Q:=λr s'=>r=w/\EP X pins σ Q r s') pl (by omega) (by omega) (by rw [Z0g,<-hl];exact h1) (by simpa using ew) ⟨rfl,fin⟩) hs
theorem B2p (lo hi:Option Int) (n:Nat):(sliceBounds lo hi none n).1=((HT.sIx n 0 lo:Nat):Int)/\(sliceBounds lo hi none n).2.1=((HT.sIx n n hi:Nat):Int)/\(sliceBounds lo hi none n).2.2=1:=by
 refine ⟨?_,?_,rfl⟩
 ·cases lo with
  | none=>simp [sliceBounds,HT.sIx]
  | some i =>
   simp only [sliceBounds,HT.sIx,Option.getD_none,show (1:Int)>0 by decide,if_true];by_cases h:i<0
   ·simp only [h,if_true] <;> omega
   ·simp only [h,if_false] <;> omega
 ·cases hi with
  | none=>simp [sliceBounds,HT.sIx]
  | some i =>
   simp only [sliceBounds,HT.sIx,Option.getD_none,show (1:Int)>0 by decide,if_true];by_cases h:i<0
   ·simp only [h,if_true] <;> omega
   ·simp only [h,if_false] <;> omega
theorem B1h (its:List Value) (lo hi:Option Int):slicePick its.toArray lo hi none=((its.drop (HT.sIx its.length 0 lo)).take (HT.sIx its.length its.length hi-HT.sIx its.length 0 lo)).toArray:=by
 obtain ⟨h1,h2,h3⟩:=B2p lo hi its.toArray.size;unfold slicePick;rw [h1,h2,h3];simp only [sliceRange_one,pick_run,Z0g] <;> rfl
def rSlL (K:PySem.W.Frag):V->Option Int->Option Int->Hp->VK->Prop:=λx lo hi H Q=>∃a xs,x= .ref a/\SqL K H a xs/\∀p,H p=none->Q (.ref p) (upd H p (.lst (C2o xs lo hi)))
theorem B4o:SlR X (rSlL X.K):=by
 intro pins s σ H x v vl vu lo hi sl Q I rx hs pl pu h;obtain ⟨a,xs,rfl,hx,q⟩:=h;cases rx;obtain ⟨its,r,ht,hz⟩:=I.list hx;have hlen:=r.length;refine ⟨"list",_,slot_list_getitem.lookup,ht.isList.typeIs,?_⟩;refine wpAny_getItem_list_slice ht.isList hs pl pu .none (by simp) ?_ (by rw [Z0g] <;> omega);rw [B1h,<-hlen];refine ⟨.ref s.heap.objs.size,_,I.laid (t':=s.toks) (o:= .lst (C2o xs lo hi)) (λb ob q=>Z01 _ q) (Z09 _) ?_,rfl,q _ (I.hok.fresh (Z09 _))⟩;exact ⟨Z1n (B5q xs lo hi) hz,_,0,(r.drop (HT.sIx xs.length 0 lo)).take (HT.sIx xs.length xs.length hi-HT.sIx xs.length 0 lo),Z0c _ rfl⟩
theorem A0w:A5y X (.builtin "len") (λxs H Q=>∃p ys,xs=[.ref p]/\(SqL X.K H p ys\/SqT X.K H p ys)/\Q (.int ys.length) H):=by
 intro pins s σ H xs us Q I r h;obtain ⟨p,ys,rfl,hq,q⟩:=h;obtain ⟨u,rfl,rx⟩:=B3d r;cases rx;have hn:=C1x;rcases hq with hq | hq
 ·obtain ⟨its,r',pl,hz⟩:=I.list hq;have hlen:=r'.length;exact Calls.call_len_list pl.isList (by simp only [Z0g] <;> omega) ⟨.int ys.length,H,I.tok _,⟨s.toks+1,by rw [Z0g,hlen]⟩,q⟩
 ·obtain ⟨its,r',pl,hz⟩:=I.tuple hq;have hlen:=r'.length;exact len_tuple pl (by simp only [Z0g] <;> omega) ⟨.int ys.length,H,I.tok _,⟨s.toks+1,by rw [Z0g,hlen]⟩,q⟩
theorem A5k:A5y X (.type "list") (λxs H Q=>∃p ys,xs=[.ref p]/\(SqL X.K H p ys\/SqT X.K H p ys)/\∀l,H l=none->Q (.ref l) (upd H l (.lst ys))):=by
 intro pins s σ H xs us Q I r h;obtain ⟨p,ys,rfl,hq,q⟩:=h;obtain ⟨u,rfl,rx⟩:=B3d r;cases rx
 have fin:∀(its:List Value),A1v ys its->ys.length<=sizeLine->∀(h':Heap) (c':Nat),(∀b o',s.heap.get? b=some o'->h'.get? b=some o')->
   h'.get? s.heap.objs.size=some { cls:= .type "list",dict:=none,data:= .seq its.toArray c',slots:= #[] }->EP X pins σ Q (.ref s.heap.objs.size) { s with heap:=h' }:=λits r' hz h' c' kp e =>
  ⟨.ref s.heap.objs.size,_,I.laid (t':=s.toks) kp (Z09 _) (show A1c X.prog X.w _ h' _ (.lst ys) from ⟨hz,its,c',r',e⟩),rfl,q _ (I.hok.fresh (Z09 _))⟩
 rcases hq with hq | hq
 ·obtain ⟨its,r',pl,hz⟩:=I.list hq;have hlen:=r'.length;obtain ⟨o,ho,hc,n,hd⟩:=pl.isList;exact call_list_seq p (.inl rfl) ho hc hd (λh' c' kp e=>fin its r' hz h' c' kp e) (by simp only [Z0g] <;> omega)
 ·obtain ⟨its,r',pl,hz⟩:=I.tuple hq;have hlen:=r'.length;obtain ⟨o,ho,hc,n,hd⟩:=pl;exact call_list_seq p (.inr rfl) ho hc hd (λh' c' kp e=>fin its r' hz h' c' kp e) (by simp only [Z0g] <;> omega)
theorem A2t:A5y X (.type "tuple") (λxs H Q=>∃p ys,xs=[.ref p]/\((SqL X.K H p ys/\∀l,H l=none->Q (.ref l) (upd H l (.tup ys)))\/(SqT X.K H p ys/\Q (.ref p) H))):=by
 intro pins s σ H xs us Q I r h;obtain ⟨p,ys,rfl,h⟩:=h;obtain ⟨u,rfl,rx⟩:=B3d r;cases rx;rcases h with ⟨hq,q⟩ | ⟨hq,q⟩
 ·obtain ⟨its,r',pl,hz⟩:=I.list hq;have hlen:=r'.length;refine call_tuple_list pl.isList (λh' kp=> ?_) (by simp only [Z0g] <;> omega);have I1:Inv X pins σ H { s with heap:=h' }:=I.kept (t':=s.toks) kp
  have I2:Inv X pins σ (upd H h'.objs.size (.tup ys)) { s with heap:=h'.push { cls:= .type "tuple",data:= .seq its.toArray } } :=
   I1.laid (t':=s.toks) (λb o e=>Z01 _ e) (Z09 _) (show A1c X.prog X.w _ _ _ (.tup ys) from ⟨hz,its,r',IsTup.new _ _⟩)
  exact ⟨.ref h'.objs.size,_,I2,rfl,q _ (I1.hok.fresh (Z09 _))⟩
 ·obtain ⟨its,r',pl,hz⟩:=I.tuple hq;exact call_tuple_same pl ⟨.ref p,H,I,rfl,q⟩
def tyV (K:PySem.W.Frag) (T:String) (x:V) (H:Hp):Prop:=match x with
 | .str _=>T="str"
 | .int _=>T="int"
 | .ref p=>(T="list"/\∃xs,SqL K H p xs)\/(T="tuple"/\∃o,K.lookup p=some o/\o.cls= .type "tuple"/\o.dict=none)\/
   (T="dict"/\((∃kvs,H p=some (.dK kvs))\/∃kvs,H p=some (.dT kvs)))\/(T="set"/\∃S n,H p=some (.set S n))
 | _=>False
theorem C5r {pins:List (Addr×Obj)} {σ:St} {H:Hp} {s:Shared} {T:String} {x:V} {v:Value} (I:Inv X pins σ H s) (r:A2a x v) (ty:tyV X.K T x H) :
  s.TypeIs v T/\∀a,v= .ref a->∃ob,s.heap.get? a=some ob/\ob.dict=none:=by
 cases x with
 | str z =>
  obtain ⟨t,rfl⟩:=r;cases (show T="str" from ty);exact ⟨typeIs_str s z t,λ_ e=>nomatch e⟩
 | int i =>
  obtain ⟨t,rfl⟩:=r;cases (show T="int" from ty);exact ⟨typeIs_int s i t,λ_ e=>nomatch e⟩
 | ref p =>
  cases r
  rcases ty with ⟨rfl,xs,hq⟩ | ⟨rfl,o,hk,hc,hd⟩ | ⟨rfl,hk⟩ | ⟨rfl,S,n,hk⟩
  ·obtain ⟨its,_,pl,_⟩:=I.list hq;refine ⟨pl.isList.typeIs,λa e=> ?_⟩;cases e;obtain ⟨o,n,e,c,hd,_⟩:=pl;exact ⟨o,e,hd⟩
  ·refine ⟨⟨o,I.kIn p o hk,hc⟩,λa e=> ?_⟩;cases e;exact ⟨o,I.kIn _ o hk,hd⟩
  ·have z:∃o,s.heap.get? p=some o/\o.ExactDict:=by
    rcases hk with ⟨kvs,hk⟩ | ⟨kvs,hk⟩
    ·obtain ⟨_,_,_,_,o,_,_,e,ex,_⟩:=I.hok p _ hk;exact ⟨o,e,ex⟩
    ·obtain ⟨_,_,_,_,o,_,_,e,ex,_⟩:=I.hok p _ hk;exact ⟨o,e,ex⟩
   obtain ⟨o,e,ex⟩:=z;refine ⟨⟨o,e,ex.1⟩,λa e2=> ?_⟩;cases e2;exact ⟨o,e,ex.2.1⟩
  ·obtain ⟨o,_,_,_,e,ex,_⟩:=I.hok p _ hk;refine ⟨⟨o,e,ex.1⟩,λa e2=> ?_⟩;cases e2;exact ⟨o,e,ex.2.1⟩
 | _=>exact False.elim ty
def tBM0 (K:PySem.W.Frag) (T:String) (r:V->List V->Hp->VK->Prop) (to:TE):TE:=λσ H Q=>to σ H λx H1=>tyV K T x H1/\r x [] H1 Q
def tBM (K:PySem.W.Frag) (T:String) (r:V->List V->Hp->VK->Prop) (to:TE) (t:TA):TE:=λσ H Q=>to σ H λx H1=>tyV K T x H1/\t σ H1 λxs H2=>r x xs H2 Q
variable {o e:Expr} {es:List Expr} {to:TE} {t:TA} {name:Str} {apos cpos:Pos} {T id:String} {r:V->List V->Hp->VK->Prop}
theorem A9d (pa:PlainAttrs T) (slot:Slot T name id) (hty:typeOf (.builtin id)=pure (.type "method_descriptor")) (hm:MtR X id r) (ho:PE X o to)
  (hbase:attributeBase o name X.env (eval o X.env)=eval o X.env:=by rfl) (hline:(apos.endLine == cpos.line)=true:=by rfl):PE X (.Call (.Attribute o name apos) [] [] cpos) (tBM0 X.K T r to):=by
 intro pins s σ H Q I h;refine wpAny_Call_method0_late hbase hline (thn (ho pins s σ H _ I h) λv s1 ⟨x,H1,I1,r1,ty,q1⟩=> ?_);obtain ⟨h1,h2⟩:=C5r I1 r1 ty;exact ⟨T,id,pa,slot,hty,h1,h2,Calls.callWith_builtin rfl (PySem.evalArgs_none (hm pins s1 σ H1 x [] v [] Q I1 r1 .nil q1))⟩
theorem B9x (pa:PlainAttrs T) (slot:Slot T name id) (hty:typeOf (.builtin id)=pure (.type "method_descriptor")) (hm:MtR X id r) (ho:PE X o to) (ha:PA X (e::es) t)
  (hbase:attributeBase o name X.env (eval o X.env)=eval o X.env:=by rfl)
  (hfew:((backTo cpos (starEach (e::es) X.env)).all (λx=> !x.1)&&(backToKw cpos (keywordEach [] X.env)).all (λx=>x.1.isSome)
   && decide ((e::es).length+([]:List Keyword).length+(if ([]:List Keyword).isEmpty then 0 else 1)<30))=true:=by rfl)
  (hline:(apos.endLine == cpos.line)=true:=by rfl) (hs:starEach (e::es) X.env=(false,eval e X.env)::starEach es X.env:=by rfl) (hplain:(backTo cpos (starEach es X.env)).any (·.1)=false:=by rfl) :
  PE X (.Call (.Attribute o name apos) (e::es) [] cpos) (tBM X.K T r to t):=by
 intro pins s σ H Q I h;refine wpAny_Call_method_late hbase hfew hline rfl (thn (ho pins s σ H _ I h) λv s1 ⟨x,H1,I1,r1,ty,q1⟩=> ?_);obtain ⟨h1,h2⟩:=C5r I1 r1 ty;refine ⟨T,id,pa,slot,hty,h1,h2,?_⟩;have hA:=ha cpos pins s1 σ H1 _ I1 q1;rw [hs] at hA⊢;refine Calls.callWith_builtin (by show (false||(backTo cpos (starEach es X.env)).any (·.1))=false;rw [hplain] <;> rfl) (Calls.evalArgs_plain ?_);exact thn hA λus s2 ⟨vs,H2,I2,r2,q2⟩=>hm pins s2 σ H2 x vs v us Q I2 r1 r2 q2
end
def MtM (X:Cx) (id:String) (r:V->List V->Hp->VK->Prop):Prop :=
 ∀(pins:List (Addr×Obj)) (s:Shared) (σ:St) (H:Hp) (x:V) (xs:List V) (v:Value) (us:List Value) (Q:VK),Inv X pins σ H s->A2a x v->A1v xs us->r x xs H Q->
  wpAny (model X.prog X.w) X.A (call (.builtin id) (v::us)) (EP X pins σ Q) X.xe s
theorem A1v.one:∀{x:V} {us:List Value},A1v [x] us->∃u,us=[u]/\A2a x u
 | _,_,.cons r .nil=>⟨_,rfl,r⟩
theorem A1v.zero:∀{us:List Value},A1v [] us->us=[]
 | _,.nil=>rfl
theorem A1v.dropLast {xs:List V} {us:List Value} (h:A1v xs us):A1v xs.dropLast us.dropLast:=by
 induction h with
 | nil=>exact .nil
 | cons r t ih =>
  cases t with
  | nil=>exact .nil
  | cons q t'=>exact .cons r ih
theorem A1v.eraseIdx:∀{xs:List V} {us:List Value} (i:Nat),A1v xs us->A1v (xs.eraseIdx i) (us.eraseIdx i)
 | _,_,_,.nil=> .nil
 | _,_,0,.cons _ t=>t
 | _,_,i+1,.cons r t=> .cons r (A1v.eraseIdx i t)
theorem B8q {α:Type} (l:List α):l.eraseIdx (l.length-1)=l.dropLast:=by
 induction l with
 | nil=>rfl
 | cons a r ih =>
  cases r with
  | nil=>rfl
  | cons b r =>
   have e:(a::b::r).length-1=((b::r).length-1)+1:=by
    have h1:(a::b::r).length=r.length+2:=rfl;have h2:(b::r).length=r.length+1:=rfl;omega
   rw [e,List.eraseIdx_cons_succ,ih]
   all_goals rfl
theorem B3m {α:Type}:∀(l:List α) (i:Nat),(l.eraseIdx i).length<=l.length
 | [],_=>Z09 _
 | _::_,0=>Nat.le_succ _
 | _::r,i+1=>Nat.succ_le_succ (B3m r i)
section
variable {X:Cx} {pins:List (Addr×Obj)} {σ:St} {H:Hp} {s:Shared} {l b:Addr} {xs ys zs:List V}
theorem Inv.lset {its its':List Value} {n:Nat} {f:Array Value->Array Value} {t':Nat} (I:Inv X pins σ H s) (hH:H l=some (.lst xs))
  (e:s.heap.get? l=some { cls:= .type "list",data:= .seq its.toArray n }) (hf:f its.toArray=its'.toArray) (hv:A1v ys its') (hz:ys.length<=sizeLine) :
  Inv X pins σ (upd H l (.lst ys)) { s with heap:=s.heap.update l (Obj.mapSeq f),toks:=t' }:=by
 have q:=PySem.IsL.update e f;rw [hf] at q;refine I.write (x:=l) (e:=l) (by rw [hH];exact trivial) (.inl rfl) (λb' u hb hu=>(Heap.get?_update_other s.heap (Obj.mapSeq f) (Ne.symm hb)).trans hu) ⟨_,q⟩ ?_;exact ⟨hz,its',_,hv,q⟩
theorem Inv.lnew {its:List Value} {t':Nat} (I:Inv X pins σ H s) (hv:A1v ys its) (hz:ys.length<=sizeLine) :
  Inv X pins σ (upd H s.heap.objs.size (.lst ys)) { s with heap:=s.heap.push { cls:= .type "list",data:= .seq its.toArray },toks:=t' } :=
 I.laid (λ_ _ q=>Z01 _ q) (Z09 _) ⟨hz,its,0,hv,Z0c _ rfl⟩
theorem Inv.fresh (I:Inv X pins σ H s):H s.heap.objs.size=none:=I.hok.fresh (Z09 _)
theorem Inv.lstM (I:Inv X pins σ H s) (hH:H l=some (.lst xs)):xs.length<=sizeLine/\∃(its:List Value) (n:Nat),A1v xs its/\xs.length=its.length/\s.heap.get? l=some { cls:= .type "list",data:= .seq its.toArray n }:=by
 obtain ⟨z,its,n,r,e⟩:=I.hok l _ hH;exact ⟨z,its,n,r,r.length,e⟩
end
section
variable {X:Cx}
def C1h:V->List V->Hp->VK->Prop:=λx vs H Q=>∃l xs y,x= .ref l/\vs=[y]/\H l=some (.lst xs)/\xs.length<sizeLine/\Q .non (upd H l (.lst (xs++[y])))
theorem A7b:MtM X "list.append" C1h:=by
 intro pins s σ H x vs v us Q I rx rv h;obtain ⟨l,xs,y,rfl,rfl,hH,hz,q⟩:=h;cases rx;obtain ⟨u,rfl,ru⟩:=rv.one;obtain ⟨z,its,n,r,hl,e⟩:=I.lstM hH;refine call_meets F.slot_list_append ⟨_,e,rfl⟩ F.entry_list_append (F.args_list_append_2 _ _) (PySem.list_append l its.toArray n u (by rw [Z0g];omega)) ⟨e,?_⟩;refine ⟨.non,_,I.lset (its':=its++[u]) hH e (by simp) (r.append (.cons ru .nil)) ?_,rfl,q⟩;rw [Z06,Z0j];omega
def rPop:V->List V->Hp->VK->Prop:=λx vs H Q=>∃l xs y,x= .ref l/\vs=[]/\H l=some (.lst xs)/\xs[xs.length-1]? =some y/\Q y (upd H l (.lst xs.dropLast))
theorem D1p:MtM X "list.pop" rPop:=by
 intro pins s σ H x vs v us Q I rx rv h;obtain ⟨l,xs,y,rfl,rfl,hH,hy,q⟩:=h;cases rx;have hus:=rv.zero;subst hus;obtain ⟨z,its,n,r,hl,e⟩:=I.lstM hH;obtain ⟨u,hu,ru⟩:=r.get hy
 have hy':its.toArray[its.toArray.size-1]? =some u:=by
  show its.toArray[its.length-1]? =some u;rw [<-Array.getElem?_toList,<-hl];exact hu
 refine call_meets F.slot_list_pop ⟨_,e,rfl⟩ F.entry_list_pop (F.args_list_pop_1 _) (MeetsSeq.list_pop_last l its.toArray n u hy' (by rw [Z0g];omega)) ⟨e,?_⟩;refine ⟨y,_,I.lset (its':=its.dropLast) hH e ?_ r.dropLast ?_,ru,q⟩
 ·show its.toArray.eraseIdxIfInBounds (its.toArray.size-1)=its.dropLast.toArray;rw [Z0g,List.eraseIdxIfInBounds_toArray,B8q]
 ·rw [List.length_dropLast];omega
def D1s:V->List V->Hp->VK->Prop:=λx vs H Q=>∃l xs i k y,x= .ref l/\vs=[.int i]/\H l=some (.lst xs)/\-(2^63)<=i/\i<2^63/\seqIndex? i xs.length=some k/\xs[k]? =some y/\Q y (upd H l (.lst (xs.eraseIdx k)))
theorem C3j:MtM X "list.pop" D1s:=by
 intro pins s σ H x vs v us Q I rx rv h;obtain ⟨l,xs,i,k,y,rfl,rfl,hH,h1,h2,hk,hy,q⟩:=h;cases rx;obtain ⟨u,rfl,ru⟩:=rv.one;obtain ⟨t,rfl⟩:=ru;obtain ⟨z,its,n,r,hl,e⟩:=I.lstM hH;obtain ⟨w,hw,rw'⟩:=r.get hy
 refine call_meets F.slot_list_pop ⟨_,e,rfl⟩ F.entry_list_pop (F.args_list_pop_2 _ _)
  (MeetsSeq.list_pop_at l its.toArray n i t k w (fitsIndex_both h1 h2) (by rw [Z0g,<-hl];exact hk) (by rw [<-Array.getElem?_toList];exact hw) (by rw [Z0g];omega)) ⟨e,?_⟩
 refine ⟨y,_,I.lset (its':=its.eraseIdx k) hH e ?_ (r.eraseIdx k) ?_,rw',q⟩
 ·show its.toArray.eraseIdxIfInBounds k=(its.eraseIdx k).toArray;rw [List.eraseIdxIfInBounds_toArray]
 ·have:=B3m xs k;omega
def D1u:V->List V->Hp->VK->Prop:=λx vs H Q=>∃l xs,x= .ref l/\vs=[]/\H l=some (.lst xs)/\Q .non (upd H l (.lst []))
theorem B6s:MtM X "list.clear" D1u:=by
 intro pins s σ H x vs v us Q I rx rv h;obtain ⟨l,xs,rfl,rfl,hH,q⟩:=h;cases rx;have hus:=rv.zero;subst hus;obtain ⟨z,its,n,r,hl,e⟩:=I.lstM hH;refine call_meets F.slot_list_clear ⟨_,e,rfl⟩ F.entry_list_clear (F.args_list_clear_1 _) (AutoSeq1.list_clear_list_0 l its.toArray n (by rw [Z0g];omega)) ⟨e,?_⟩;exact ⟨.non,_,I.lset (its':=[]) (ys:=[]) hH e rfl .nil (Z1e _),rfl,q⟩
def rCat:R2:=λx y H Q=>∃l b xs zs,x= .ref l/\y= .ref b/\H l=some (.lst xs)/\H b=some (.lst zs)/\xs.length+zs.length<=sizeLine/\∀p,H p=none->Q (.ref p) (upd H p (.lst (xs++zs)))
theorem D1c:OpR X (binaryOp .Add) rCat:=by
 intro pins s σ H x y v u Q I rx ry h;obtain ⟨l,b,xs,zs,rfl,rfl,hH,hB,hz,q⟩:=h;cases rx;cases ry;obtain ⟨z,its,n,r,hl,e⟩:=I.lstM hH;obtain ⟨z2,its2,n2,r2,hl2,e2⟩:=I.lstM hB;refine PySem.P.add_list e e2 ?_ (by rw [Z0g,Z0g];omega);have ea:its.toArray++its2.toArray=(its++its2).toArray:=by simp
 rw [ea];exact ⟨.ref _,_,I.lnew (t':=s.toks) (r.append r2) (by rw [Z06];omega),rfl,q _ I.fresh⟩
end
section
variable {prog:Program} {w:World} {A:Around} {E:Value->Shared->Prop} {s:Shared}
set_option maxRecDepth 100000 in
end
section
variable {X:Cx}
end
section
variable {κ:Type} [DecidableEq κ]
def A3q (kvs:List (κ×V)) (k:κ):Option V:=(kvs.find? λkv=>decide (kv.1=k)).map (·.2)
def A6x (kvs:List (κ×V)) (k:κ) (v:V):List (κ×V) :=
 if (kvs.any λkv=>decide (kv.1=k))=true then kvs.map (λkv=>if kv.1=k then (kv.1,v) else kv) else kvs++[(k,v)]
def A8j (kvs:List (κ×V)) (k:κ):List (κ×V):=kvs.filter λkv=>decide (kv.1≠k)
theorem A2z {p:κ×V} {r:List (κ×V)} {k:κ} (e:p.1=k):A3q (p::r) k=some p.2:=by simp [A3q,List.find?_cons,e]
theorem A3b {p:κ×V} {r:List (κ×V)} {k:κ} (e:¬p.1=k):A3q (p::r) k=A3q r k:=by simp [A3q,List.find?_cons,e]
theorem B2e (k:κ):∀kvs:List (κ×V),(kvs.any λkv=>decide (kv.1=k))=(A3q kvs k).isSome
 | []=>rfl
 | p::r=>by
  rw [List.any_cons];by_cases e:p.1=k
  ·simp only [A2z e,Z20 e,Bool.true_or,Option.isSome_some]
  ·rw [A3b e,Z1j e,Bool.false_or];exact B2e k r
theorem A6b (kvs:List (κ×V)) (k:κ) (v:V):(A6x kvs k v).length<=kvs.length+1:=by
 unfold A6x;split
 ·rw [Z08];omega
 ·rw [Z06,Z0y,List.length_nil];omega
theorem B4h.isSome_eq {o:Option V} {u:Option Value} (r:B4h o u):o.isSome=u.isSome:=by
 cases o with
 | none=>cases u with
  | none=>rfl
  | some _=>exact (show False from r).elim
 | some _=>cases u with
  | none=>exact (show False from r).elim
  | some _=>rfl
theorem KV.val {kvs:List (κ×V)} {vs:List (κ×Value)} (r:KV kvs vs) (k:κ):B4h (A3q kvs k) (valueAt vs k):=by
 unfold KV at r
 induction r with
 | nil=>exact True.intro
 | @cons p q ps qs h t ih =>
  obtain ⟨h1,h2⟩:=h;by_cases e:p.1=k
  ·have e':q.1=k:=h1.symm.trans e;have b:valueAt (q::qs) k=some q.2:=by simp [valueAt,List.find?_cons,e']
   rw [A2z e,b];exact h2
  ·have e':¬q.1=k:=λz=>e (h1.trans z);have b:valueAt (q::qs) k=valueAt qs k:=by simp [valueAt,List.find?_cons,e']
   rw [A3b e,b];exact ih
theorem KV.any {kvs:List (κ×V)} {vs:List (κ×Value)} (r:KV kvs vs) (k:κ):(kvs.any λkv=>decide (kv.1=k))=vs.any λkv=>decide (kv.1=k):=by
 unfold KV at r
 induction r with
 | nil=>rfl
 | cons h t ih=>rw [List.any_cons,List.any_cons,ih,h.1]
theorem KV.repl {kvs:List (κ×V)} {vs:List (κ×Value)} (r:KV kvs vs) (k:κ) {y:V} {u:Value} (ry:A2a y u) :
  KV (kvs.map λkv=>if kv.1=k then (kv.1,y) else kv) (vs.map λkv=>if kv.1=k then (kv.1,u) else kv):=by
 unfold KV at r⊢
 induction r with
 | nil=>exact .nil
 | @cons p q ps qs h t ih =>
  rw [Z0p,Z0p];refine .cons ?_ ih;obtain ⟨h1,h2⟩:=h;by_cases e:p.1=k
  ·rw [Z12 e,Z12 (h1.symm.trans e)];exact ⟨h1,ry⟩
  ·rw [Z0t e,Z0t (λz=>e (h1.trans z))];exact ⟨h1,h2⟩
theorem KV.put {kvs:List (κ×V)} {vs:List (κ×Value)} (r:KV kvs vs) (k:κ) {y:V} {u:Value} (ry:A2a y u):KV (A6x kvs k y) (stored vs k u):=by
 unfold A6x stored;rw [r.any k];by_cases e:(vs.any λkv=>decide (kv.1=k))=true
 ·rw [Z12 e,Z12 e];exact r.repl k ry
 ·rw [Z0t e,Z0t e];exact Paired.snoc r ⟨rfl,ry⟩
theorem KV.drop {kvs:List (κ×V)} {vs:List (κ×Value)} (r:KV kvs vs) (k:κ):KV (A8j kvs k) (without vs k):=by
 unfold KV at r⊢;unfold A8j without
 induction r with
 | nil=>exact .nil
 | @cons p q ps qs h t ih =>
  obtain ⟨h1,h2⟩:=h;rw [List.filter_cons,List.filter_cons];by_cases e:p.1=k
  ·have a:¬decide (p.1≠k)=true:=by simp [e]
   have b:¬decide (q.1≠k)=true:=by simp [h1.symm.trans e]
   rw [Z0t a,Z0t b];exact ih
  ·have e':¬q.1=k:=λz=>e (h1.trans z);have a:decide (p.1≠k)=true:=by simp [e]
   have b:decide (q.1≠k)=true:=by simp [e']
   rw [Z12 a,Z12 b];exact .cons ⟨h1,h2⟩ ih
theorem KV.length {kvs:List (κ×V)} {vs:List (κ×Value)} (r:KV kvs vs):kvs.length=vs.length:=Paired.length r
theorem C3g (kvs:List (κ×V)) (k:κ):(A8j kvs k).length<=kvs.length:=List.length_filter_le _ _
end
theorem B5j {P:Program} {w:World} {k:Key} {u:Value} (r:A2a (kV k) u):(A0l P w).is k u=true:=by
 cases k with
 | inl i=>obtain ⟨t,e⟩:=(show∃t,u=Value.int i t from r);subst e;exact B5v P w i t
 | inr x=>obtain ⟨t,e⟩:=(show∃t,u=Value.str x t from r);subst e;exact B5w P w x t
theorem B3x {P:Program} {w:World}:∀{ks:List Key} {us:List Value},A1v (ks.map kV) us->ItemsAre (A0l P w) ks us
 | [],_,r=>by rw [List.map_nil] at r;cases r;exact .nil
 | k::ks,_,r=>by
  rw [Z0p] at r
  cases r with
  | cons h t=>exact .cons (B5j h) (B3x t)
abbrev KT (H:Hp):List (List Key×V)->List (List Key×Addr×Value)->Prop:=Paired λp q=>p.1=q.1/\H q.2.1=some (.tup (p.1.map kV))/\A2a p.2 q.2.2
theorem KT.val {H:Hp} {kvs:List (List Key×V)} {xs:List (List Key×Addr×Value)} (r:KT H kvs xs) (k:List Key):B4h (A3q kvs k) ((atKey xs k).map (·.2)):=by
 induction r with
 | nil=>exact True.intro
 | @cons p q ps qs h t ih =>
  obtain ⟨h1,_,h2⟩:=h;by_cases e:p.1=k
  ·have e':q.1=k:=h1.symm.trans e;have b:atKey (q::qs) k=some q.2:=by simp [atKey,List.find?_cons,e']
   rw [A2z e,b];exact h2
  ·have e':¬q.1=k:=λz=>e (h1.trans z);have b:atKey (q::qs) k=atKey qs k:=by simp [atKey,List.find?_cons,e']
   rw [A3b e,b];exact ih
theorem KT.repl {H:Hp} {kvs:List (List Key×V)} {xs:List (List Key×Addr×Value)} (r:KT H kvs xs) (k:List Key) {y:V} {u:Value} (ry:A2a y u) :
  KT H (kvs.map λkv=>if kv.1=k then (kv.1,y) else kv) (xs.map (putAt k u)):=by
 induction r with
 | nil=>exact .nil
 | @cons p q ps qs h t ih =>
  rw [Z0p,Z0p];refine .cons ?_ ih;obtain ⟨h1,h2,h3⟩:=h;unfold putAt;by_cases e:p.1=k
  ·rw [Z12 e,Z12 (h1.symm.trans e)];exact ⟨h1,h2,ry⟩
  ·rw [Z0t e,Z0t (λz=>e (h1.trans z))];exact ⟨h1,h2,h3⟩
theorem KT.put {H:Hp} {kvs:List (List Key×V)} {xs:List (List Key×Addr×Value)} (r:KT H kvs xs) (k:List Key) {b:Addr} {y:V} {u:Value} (hb:H b=some (.tup (k.map kV))) (ry:A2a y u) :
  KT H (A6x kvs k y) (storedH xs k b u):=by
 have e:(kvs.any λkv=>decide (kv.1=k))=(atKey xs k).isSome:=by
  rw [B2e,(r.val k).isSome_eq,Option.isSome_map]
 unfold A6x storedH;rw [e];by_cases q:(atKey xs k).isSome=true
 ·rw [Z12 q,Z12 q];exact r.repl k ry
 ·rw [Z0t q,Z0t q];exact Paired.snoc r ⟨rfl,hb,ry⟩
theorem KT.keeps {H H':Hp} {kvs:List (List Key×V)} {xs:List (List Key×Addr×Value)} (r:KT H kvs xs) (ht:∀b ys,H b=some (.tup ys)->H' b=some (.tup ys)):KT H' kvs xs :=
 Paired.mapP r λ_ _ z=>⟨z.1,ht _ _ z.2.1,z.2.2⟩
section
variable {P:Program} {w:World} {H:Hp} {h:Heap} {a:Addr}
theorem C7f {u:HO} (ok:HOk P w H h) (e:Rd H a u):A1c P w H h a u:=e.ok ok
theorem A9i {kvs:List (Key×V)} (ok:HOk P w H h) (e:Rd H a (.dK kvs)):kvs.length<=sizeLine/\(a == sysModules)=false/\∃vs,KV kvs vs/\h.DictOf (A0l P w) a vs :=
 show A1c P w H h a (.dK kvs) from C7f ok e
theorem B8p {kvs:List (Key×V)} (ok:HOk P w H h) (e:H a=some (.dK kvs)):kvs.length<=sizeLine/\(a == sysModules)=false/\∃vs,KV kvs vs/\h.DictOf (A0l P w) a vs:=A9i ok (.inl e)
theorem B7p {ks:List Key} (ok:HOk P w H h) (e:H a=some (.tup (ks.map kV))):(tupleKind (A0l P w)).is h ks a:=by
 obtain ⟨_,its,r,o,h1,h2,n,h3⟩:=(show A1c P w H h a (.tup (ks.map kV)) from ok a _ e);exact ⟨o,its.toArray,n,h1,h2,h3,by simpa using B3x r⟩
theorem C3h {kvs:List (List Key×V)} (ok:HOk P w H h) (e:Rd H a (.dT kvs)):kvs.length<=sizeLine/\(a == sysModules)=false/\
  ∃xs,KT H kvs xs/\h.DictOfH (tupleKind (A0l P w)) a xs:=by
 obtain ⟨z,y,xs,r,o,es,ep,h1,h2,h3,h4,h5⟩:=(show A1c P w H h a (.dT kvs) from C7f ok e);refine ⟨z,y,xs,r,o,es,ep,h1,h2,h3,h4,λx hx=> ?_,h5⟩
 have all:∀{l:List (List Key×V)} {m:List (List Key×Addr×Value)},KT H l m->∀x∈m,(tupleKind (A0l P w)).is h x.1 x.2.1:=by
  intro l m q
  induction q with
  | nil=>intro x hx;exact nomatch hx
  | @cons p q ps qs hq t ih =>
   intro x hx;rcases Z0e.mp hx with e | hx
   ·subst e;exact B7p ok (by rw [<-hq.1];exact hq.2.1)
   ·exact ih x hx
 exact all r x hx
theorem D3m {kvs:List (List Key×V)} (ok:HOk P w H h) (e:H a=some (.dT kvs)):kvs.length<=sizeLine/\(a == sysModules)=false/\
  ∃xs,KT H kvs xs/\h.DictOfH (tupleKind (A0l P w)) a xs:=C3h ok (.inl e)
end
def A7i (H:Hp) (a:Addr) (y:V) (r:Option V):Prop :=
 (∃kvs k,Rd H a (.dK kvs)/\y=kV k/\r=A3q kvs k)\/∃kvs k b,Rd H a (.dT kvs)/\y= .ref b/\H b=some (.tup (k.map kV))/\r=A3q kvs k
def B0z (H:Hp) (a:Addr) (y v:V) (H':Hp):Prop :=
 (∃kvs k,H a=some (.dK kvs)/\y=kV k/\kvs.length<sizeLine/\H'=upd H a (.dK (A6x kvs k v)))\/
 ∃kvs k b,H a=some (.dT kvs)/\y= .ref b/\H b=some (.tup (k.map kV))/\kvs.length<sizeLine/\H'=upd H a (.dT (A6x kvs k v))
theorem A7i.k {H:Hp} {a:Addr} {kvs:List (Key×V)} {k:Key} (e:H a=some (.dK kvs)):A7i H a (kV k) (A3q kvs k):= .inl ⟨kvs,k,.inl e,rfl,rfl⟩
theorem A7i.t {H:Hp} {a b:Addr} {kvs:List (List Key×V)} {k:List Key} (e:H a=some (.dT kvs)) (eb:H b=some (.tup (k.map kV))):A7i H a (.ref b) (A3q kvs k):= .inr ⟨kvs,k,b,.inl e,rfl,eb,rfl⟩
theorem B0z.k {H:Hp} {a:Addr} {kvs:List (Key×V)} {k:Key} {v:V} (e:H a=some (.dK kvs)) (hl:kvs.length<sizeLine):B0z H a (kV k) v (upd H a (.dK (A6x kvs k v))):= .inl ⟨kvs,k,e,rfl,hl,rfl⟩
theorem B0z.t {H:Hp} {a b:Addr} {kvs:List (List Key×V)} {k:List Key} {v:V} (e:H a=some (.dT kvs)) (eb:H b=some (.tup (k.map kV))) (hl:kvs.length<sizeLine) :
  B0z H a (.ref b) v (upd H a (.dT (A6x kvs k v))):= .inr ⟨kvs,k,b,e,rfl,eb,hl,rfl⟩
section
variable {X:Cx} {pins:List (Addr×Obj)} {σ:St} {H:Hp} {s:Shared} {a:Addr} {y v:V} {u r:Value} {o:Option V} {A:Around} {E:Value->Shared->Prop}
theorem Inv.big (I:Inv X pins σ H s):sysModules<s.heap.objs.size:=by
 have h:mainGlobals<s.heap.objs.size:=(I.mod.glob.keeps I.bk).lt;exact Nat.lt_trans (by decide) h
theorem C1n {Q:Value->Shared->Prop} (hu:A.units+1<cLine) (I:Inv X pins σ H s) (g:A7i H a y (some v)) (ry:A2a y u) (h:∀w' s',Inv X pins σ H s'->A2a v w'->Q w' s') :
  wpAny (model X.prog X.w) A (getItem (.ref a) u) Q E s:=by
 rcases g with ⟨kvs,k,e,ey,l⟩ | ⟨kvs,k,b,e,ey,eb,l⟩
 ·subst ey;obtain ⟨z,hd,vs,rel,dd⟩:=A9i I.hok e;obtain ⟨w',hw,rw'⟩:=B4h.some_of (v:=v) (o:=valueAt vs k) (by rw [l];exact rel.val k);exact wpAny_getItem_of (B5j ry) dd.mapOf hw (h w' _ (I.tok _) rw')
 ·subst ey;cases (show u=Value.ref b from ry);obtain ⟨z,hd,xs,rel,dd⟩:=C3h I.hok e;obtain ⟨w',hw,rw'⟩:=B4h.some_of (v:=v) (o:=(atKey xs k).map (·.2)) (by rw [l];exact rel.val k);obtain ⟨p,hp,hp2⟩:=Z0i.mp hw;refine wpAny_getItem_heap (tupleKind_room_in1 hu) (B7p I.hok eb) dd hp ?_;rw [hp2];exact h w' _ (I.tok _) rw'
theorem C6p {Q:Value->Shared->Prop} (hu:A.units+1<cLine) (I:Inv X pins σ H s) (g:A7i H a y o) (ry:A2a y u) (h:∀s',Inv X pins σ H s'->Q (.bool (!o.isSome)) s') :
  wpAny (model X.prog X.w) A (compareOp .NotIn u (.ref a)) Q E s:=by
 rcases g with ⟨kvs,k,e,ey,l⟩ | ⟨kvs,k,b,e,ey,eb,l⟩
 ·subst ey;obtain ⟨z,hd,vs,rel,dd⟩:=A9i I.hok e;refine wpAny_notIn_of (B5j ry) hd dd.mapOf ?_;rw [<-(rel.val k).isSome_eq,<-l];exact h _ (I.tok _)
 ·subst ey;cases (show u=Value.ref b from ry);obtain ⟨z,hd,xs,rel,dd⟩:=C3h I.hok e;refine wpAny_notIn_heap (tupleKind_room_in1 hu) (B7p I.hok eb) hd dd ?_;have q:=(rel.val k).isSome_eq;rw [Option.isSome_map] at q;rw [<-q,<-l];exact h _ (I.tok _)
theorem B1z {h':Heap} {t':Nat} {ob:HO} (I:Inv X pins σ H s) (mu:Mut (H a)) (hs:Heap.SameBut a s.heap h') (he:∃q,h'.get? a=some q) (new:A1c X.prog X.w (upd H a ob) h' a ob) :
  Inv X pins σ (upd H a ob) { s with heap:=h',toks:=t' } :=
 I.write (x:=a) (e:=a) mu (.inl rfl) (λb q hb z=>(hs.2 b hb).trans z) he new
theorem B9o {P:Program} {w:World} {H':Hp} {h':Heap} {kvs:List (Key×V)} {vs:List (Key×Value)} (z:kvs.length<=sizeLine) (hd:(a == sysModules)=false) (rel:KV kvs vs) (dd:h'.DictOf (A0l P w) a vs) :
  A1c P w H' h' a (.dK kvs):=⟨z,hd,vs,rel,dd⟩
theorem C1r {H':Hp} {Q:Unit->Shared->Prop} (hu:A.units+1<cLine) (I:Inv X pins σ H s) (g:B0z H a y v H') (ry:A2a y u) (rv:A2a v r) (h:∀s',Inv X pins σ H' s'->Q () s') :
  wpAny (model X.prog X.w) A (setItem (.ref a) u r) Q E s:=by
 rcases g with ⟨kvs,k,e,ey,l,eH⟩ | ⟨kvs,k,b,e,ey,eb,l,eH⟩
 ·subst ey eH;obtain ⟨z,hd,vs,rel,dd⟩:=B8p I.hok e;have hz:vs.length<=sizeLine:=by rw [<-rel.length];exact z
  have hl:(A6x kvs k v).length<=sizeLine:=by have:=A6b kvs k v;omega
  refine wpAny_setItem_pairs (hsz:=hz) (B5j ry) dd λh' dd' hs=>h _ ?_;have he:∃q,h'.get? a=some q:=let ⟨q,_,_,hq,_⟩:=dd';⟨q,hq⟩;exact B1z I (by rw [e];exact True.intro) hs he (B9o hl hd (rel.put k rv) dd')
 ·subst ey eH;cases (show u=Value.ref b from ry);obtain ⟨z,hd,xs,rel,dd⟩:=D3m I.hok e;have hz:xs.length<=sizeLine:=by rw [<-Paired.length rel];exact z
  have hl:(A6x kvs k v).length<=sizeLine:=by have:=A6b kvs k v;omega
  refine wpAny_setItem_heap (hsz:=hz) (tupleKind_room_in1 hu) (B7p I.hok eb) dd λh' dd' hs=>h _ ?_;obtain ⟨q,es,ep,hq,h2,h3,h4,_,h5⟩:=dd';refine B1z I (by rw [e];exact True.intro) hs ⟨q,hq⟩ ⟨hl,hd,_,(rel.put k eb rv).keeps λc ys ec=> ?_,q,es,ep,hq,h2,h3,h4,h5⟩;rw [A0e (A0z ec e (λz=>nomatch z))];exact ec
end
section
variable {X:Cx} {pins:List (Addr×Obj)} {σ:St} {H:Hp} {s:Shared} {a:Addr} {kvs:List (Key×V)} {k:Key} {u:Value} {A:Around} {E:Value->Shared->Prop}
theorem D2u {v:V} {more:List Value} {Q:Value->Shared->Prop} (I:Inv X pins σ H s) (e:H a=some (.dK kvs)) (ry:A2a (kV k) u) (l:A3q kvs k=some v) (hm:more=[]\/∃x,more=[x])
  (h:∀w' s',Inv X pins σ (upd H a (.dK (A8j kvs k))) s'->A2a v w'->Q w' s'):wpAny (model X.prog X.w) A (call (.builtin "dict.pop") (.ref a::u::more)) Q E s:=by
 obtain ⟨z,hd,vs,rel,dd⟩:=B8p I.hok e;obtain ⟨w',hw,rw'⟩:=B4h.some_of (v:=v) (o:=valueAt vs k) (by rw [<-l];exact rel.val k)
 have hp:(keyPart u).isSome=true:=by
  cases k with
  | inl i=>obtain ⟨t,q⟩:=(show∃t,u=Value.int i t from ry);subst q;rfl
  | inr x=>obtain ⟨t,q⟩:=(show∃t,u=Value.str x t from ry);subst q;rfl
 have ha:argsOk "dict.pop" ⟨.ref a::u::more,[]⟩:=by
  rcases hm with q | ⟨x,q⟩
  ·subst q;exact PySem.F.args_dict_pop_2 _ _
  ·subst q;exact PySem.F.args_dict_pop_3 _ _ _
 refine call_meetsIn PySem.F.slot_dict_pop dd.typeIs PySem.F.entry_dict_pop ha (meets_dict_pop_there (A0l X.prog X.w) a (B5j ry) more hm hp)
  ⟨vs,w',dd,by rw [<-rel.length];exact z,hw,λh' dd' hs=>h w' _ ?_ rw'⟩
 have he:∃q,h'.get? a=some q:=let ⟨q,_,_,hq,_⟩:=dd';⟨q,hq⟩;exact B1z I (by rw [e];exact True.intro) hs he (B9o (Z1n (C3g kvs k) z) hd (rel.drop k) dd')
theorem C9a {Q:Value->Shared->Prop} (I:Inv X pins σ H s) (e:H a=some (.dK kvs)) (h:∀s',Inv X pins σ (upd H a (.dK [])) s'->Q .none s'):wpAny (model X.prog X.w) A (call (.builtin "dict.clear") [.ref a]) Q E s:=by
 obtain ⟨z,hd,vs,rel,dd⟩:=B8p I.hok e;refine call_meetsIn PySem.F.slot_dict_clear dd.typeIs PySem.F.entry_dict_clear (PySem.F.args_dict_clear_1 _) (meets_dict_clear (A0l X.prog X.w) a) ⟨vs,dd,by rw [<-rel.length];exact z,λh' dd' hs=>h _ ?_⟩;have he:∃q,h'.get? a=some q:=let ⟨q,_,_,hq,_⟩:=dd';⟨q,hq⟩;exact B1z (t':=s.toks) I (by rw [e];exact True.intro) hs he (B9o (Z1e _) hd .nil dd')
theorem D2i {Q:Value->Shared->Prop} (I:Inv X pins σ H s) (e:Rd H a (.dK kvs)) (h:∀t s',Inv X pins σ H s'->Q (.int kvs.length t) s'):wpAny (model X.prog X.w) A (call (.builtin "len") [.ref a]) Q E s:=by
 obtain ⟨z,hd,vs,rel,dd⟩:=A9i I.hok e;refine call_len_dict hd dd (by rw [<-rel.length];rw [sizeLine_eq] at z;omega) ?_;rw [<-rel.length];exact h _ _ (I.tok _)
end
def D4c (i:Expr):Prop:=∀ov iv,subscripted i false ov iv=operate [ov,iv] (getItem ov iv)
theorem C7h {prog:Program} {w:World} {A:Around} {E:Value->Shared->Prop} {s:Shared} {env:Env} {value slice:Expr} {pos:Pos} {T id:String} {Q:Value->Shared->Prop}
  (hl:typeLookup (.type T) "__getitem__"=pure (some (.builtin id))) (hs:D4c slice)
  (h:wpAny (model prog w) A (eval value env) (λo s₁=>wpAny (model prog w) A (eval slice env) (λi s₂=>s₂.TypeIs o T/\wpAny (model prog w) A (getItem o i) Q E s₂) E s₁) E s) :
  wpAny (model prog w) A (eval (.Subscript value slice pos) env) Q E s:=by
 refine Subscript_ (Z10 h (λo s₁ h₁=>Z10 h₁ (λi s₂ h₂=> ?_) λ_ _ x=>x) λ_ _ x=>x);obtain ⟨hT,h₂⟩:=h₂;unfold subscriptTail;refine Z00 ?_;rw [getitemInPython_of_ne hT.not_modules];refine Z00 (wpAny_specialOf hT hl ?_)
 have fin:wpAny (model prog w) A (subscripted slice false o i) (λr s₃=>wpAny (model prog w) A (letTemporaryGo value o r >>= λ_=>pure r) Q E s₃) E s₂:=by
  rw [hs o i];exact wpAny_operating (Z10 h₂ (λr s₃ h₃=>Z00 (wpAny_letTemporaryGo (Z04 h₃))) λ_ _ x=>x)
 first
  | exact Z04 (Z00 fin)
  | exact Z00 (Z04 (Z00 fin))
  | exact Z00 fin
theorem B5n {X:Cx} {pins:List (Addr×Obj)} {σ:St} {H:Hp} {s:Shared} {a:Addr} {y:V} {o:Option V} (I:Inv X pins σ H s) (g:A7i H a y o):s.TypeIs (.ref a) "dict":=by
 rcases g with ⟨kvs,k,e,_,_⟩ | ⟨kvs,k,b,e,_,_,_⟩
 ·obtain ⟨_,_,vs,_,dd⟩:=A9i I.hok e;exact dd.typeIs
 ·obtain ⟨_,_,xs,_,dd⟩:=C3h I.hok e;exact dd.typeIs
def D2w (td ty:TE):TE:=λσ H Q=>td σ H λx H1=>ty σ H1 λy H2=>∃a v,x= .ref a/\A7i H2 a y (some v)/\Q v H2
def C8y (ty td:TE):TE:=λσ H Q=>ty σ H λy H1=>td σ H1 λx H2=>∃a o,x= .ref a/\A7i H2 a y o/\Q (.bl (!o.isSome)) H2
def D3b (td ty tv:TE):TS:=λD σ H=>tv σ H λv H1=>td σ H1 λx H2=>ty σ H2 λy H3=>∃a H4,x= .ref a/\B0z H3 a y v H4/\D.nx σ H4
section
variable {X:Cx} {o i e value:Expr} {pos pos' tpos:Pos} {td ty tv:TE}
theorem A2g (hu:X.A.units+1<cLine) (ho:PE X o td) (hi:PE X i ty) (hs:D4c i):PE X (.Subscript o i pos) (D2w td ty):=by
 intro pins s σ H Q I h;refine C7h PySem.F.slot_dict_getitem.lookup hs (thn (ho pins s σ H _ I h) λu s1 ⟨x,H1,I1,rx,q1⟩=>thn (hi pins s1 σ H1 _ I1 q1) λiv s2 ⟨y,H2,I2,ry,a,v,ex,g,q2⟩=> ?_);subst ex;obtain rfl:u=Value.ref a:=rx;exact ⟨B5n I2 g,C1n hu I2 g ry λw' s3 I3 rw'=>⟨v,H2,I3,rw',q2⟩⟩
theorem B3y (hu:X.A.units+1<cLine) (hi:PE X i ty) (ho:PE X o td):PC X .NotIn i o (C8y ty td):=by
 intro pins s σ H Q I h;refine thn (hi pins s σ H _ I h) λiv s1 ⟨y,H1,I1,ry,q1⟩=>thn (ho pins s1 σ H1 _ I1 q1) λu s2 ⟨x,H2,I2,rx,a,ov,ex,g,q2⟩=> ?_;subst ex;obtain rfl:u=Value.ref a:=rx;exact C6p hu I2 g ry λs3 I3=>⟨.bl (!ov.isSome),H2,I3,rfl,q2⟩
theorem A2x (hu:X.A.units+1<cLine) (ho:PE X o td) (hi:PE X i ty) (hv:PE X value tv) (hs:swapsWith value (some (.Subscript o i pos')) pos.line X.env=pure false) :
  PS X (.Assign [.Subscript o i pos'] value pos) (D3b td ty tv):=by
 intro pins s σ H D I h;refine wpAny_Assign_Subscript (thn (hv pins s σ H _ I h) λr s1 ⟨v,H1,I1,rv,q1⟩=>thn (ho pins s1 σ H1 _ I1 q1) λu s2 ⟨x,H2,I2,rx,q2⟩=>thn (hi pins s2 σ H2 _ I2 q2) λiv s3 ⟨y,H3,I3,ry,a,H4,ex,g,q3⟩=> ?_) hs;subst ex;obtain rfl:u=Value.ref a:=rx;exact C1r hu I3 g ry rv λs4 I4=>⟨σ,H4,I4,q3⟩
end
theorem C3e {P:Program} {w:World} {H:Hp} (h:Heap) (hb:sysModules<h.objs.size):A1c P w H (h.push { cls:= .type "dict",data:= .dict #[] }) h.objs.size (.dK []) :=
 ⟨Z1e _,Z22.mpr (Ne.symm (Z0h hb)),[],.nil,Heap.DictOf.new h⟩
theorem C4r {P:Program} {w:World} {H:Hp} (h:Heap) (hb:sysModules<h.objs.size):A1c P w H (h.push { cls:= .type "dict",data:= .dict #[] }) h.objs.size (.dT []) :=
 ⟨Z1e _,Z22.mpr (Ne.symm (Z0h hb)),[],.nil,_,#[],0,Z0c _ rfl,⟨rfl,rfl,rfl⟩,rfl,rfl,List.nodup_nil⟩
def C9u:TE:=λ_ H Q=>∀p,H p=none->Q (.ref p) (upd H p (.dK []))
def C9q:TE:=λ_ H Q=>∀p,H p=none->Q (.ref p) (upd H p (.dT []))
section
variable {X:Cx} {pos:Pos}
theorem A3u:PE X (.Dict [] [] pos) C9u:=λpins s σ H Q I h =>
 wpAny_Dict_empty ⟨.ref s.heap.objs.size,_,I.laid (a:=s.heap.objs.size) (o:= .dK []) (t':=s.toks) (λ_ _ q=>Z01 _ q) (Z09 _) (C3e s.heap I.big),rfl,h _ (I.hok.fresh (Z09 _))⟩
theorem C3x:PE X (.Dict [] [] pos) C9q:=λpins s σ H Q I h =>
 wpAny_Dict_empty ⟨.ref s.heap.objs.size,_,I.laid (a:=s.heap.objs.size) (o:= .dT []) (t':=s.toks) (λ_ _ q=>Z01 _ q) (Z09 _) (C4r s.heap I.big),rfl,h _ (I.hok.fresh (Z09 _))⟩
end
def A3f (kvs more:List (Key×V)):List (Key×V):=more.foldl (λacc kv=>A6x acc kv.1 kv.2) kvs
theorem KV.merge:∀{more:List (Key×V)} {rs:List (Key×Value)} {kvs:List (Key×V)} {vs:List (Key×Value)},KV more rs->KV kvs vs->KV (A3f kvs more) (merged vs rs):=by
 intro more rs kvs vs r;unfold KV at r
 induction r generalizing kvs vs with
 | nil=>intro q;exact q
 | @cons p q ps qs h t ih =>
  intro r0
  have e:KV (A6x kvs p.1 p.2) (stored vs q.1 q.2):=by
   have:=r0.put p.1 h.2;rw [<-h.1];exact this
  exact ih e
theorem A3i:∀(more kvs:List (Key×V)),(A3f kvs more).length<=kvs.length+more.length
 | [],kvs=>by show kvs.length<=kvs.length+0;omega
 | p::r,kvs=>by
  have h1:=A3i r (A6x kvs p.1 p.2);have h2:=A6b kvs p.1 p.2;show (A3f (A6x kvs p.1 p.2) r).length<=_;rw [Z0y];omega
section
variable {X:Cx} {pins:List (Addr×Obj)} {σ:St} {H:Hp} {s:Shared} {a:Addr} {y d:V} {u r:Value} {o:Option V} {A:Around} {E:Value->Shared->Prop}
end
section
variable {X:Cx} {o e f:Expr} {apos cpos:Pos} {td ty tx:TE}
end
section
variable {X:Cx} {pins:List (Addr×Obj)} {σ:St} {H:Hp} {s:Shared} {a:Addr} {kvs:List (Key×V)} {A:Around} {E:Value->Shared->Prop}
end
section
variable {X:Cx} {pins:List (Addr×Obj)} {σ:St} {H:Hp} {s:Shared} {a:Addr} {y:V} {u:Value} {A:Around} {E:Value->Shared->Prop}
end
end L2
namespace Att
open PySem PySem.W PySem.Calls PyProof.Rows
theorem A9u {P:Params} {h:Heap}:∀(ns:List Int) (vs:List Value),WellAll P h vs (ns.map WData.int)->IntsAre vs ns:=by
 intro ns
 induction ns with
 | nil =>
  intro vs w;rw [List.map_nil] at w;cases w;exact .nil
 | cons n ns ih =>
  intro vs w;rw [Z0p] at w
  cases w with
  | cons a b =>
   cases a
   exact .cons _ _ (ih _ b)
theorem C2l {l:OpenLaw} {n:Nat} (hn:l.most=some n) {P:Params} {h:Heap} {args:List WData} {vals:List Value}
  (hpre:l.row.toRowW.claim.pre args=true) (hwl:WellAll P h vals args) :
  ∃a vs ns,vals=[Value.ref a]/\args=[WData.list (ns.map WData.int)]/\h.get? a=some { cls:= .type "list",data:= .seq vs.toArray }/\IntsAre vs ns/\ns.length<=n:=by
 have hsh:WShape.hasAll [] args [.list .int]=true:=(pre_splitW hpre).1;have hc:l.pre.holds [] { args:=args }=true:=(pre_splitW hpre).2;obtain ⟨d,r,rfl,h1,h2⟩:=hasAllW_cons hsh;obtain rfl:=hasAllW_nil h2;obtain ⟨xs,rfl,h3⟩:=hasW_list h1;obtain ⟨ns,rfl⟩:=items_int h3
 have hlen:ns.length<=n:=by
  unfold OpenLaw.pre at hc
  have h4:(WTm.not (.lt (.lit (.int (n:Int))) (.len (.arg 0)))).holds [] { args:=[.list (ns.map .int)] }=true:=by
   have h4:=(holds_andW hc).1;rw [hn] at h4;exact h4
  have h5:=condW_of h4 (w_not (w_lt w_lit (w_len_list (w_arg rfl))));rw [Z08] at h5;refine Nat.le_of_not_lt λq=> ?_;have q':(n:Int)<((ns.length:Nat):Int):=by omega
  first
   | (rw [Z20 q'] at h5;exact absurd h5 (by decide))
   | (simp at h5;omega)
 cases hwl with
 | cons w1 w2 =>
  cases w2
  cases w1 with
  | list ho hall=>exact ⟨_,_,ns,rfl,rfl,ho,A9u ns _ hall,hlen⟩
theorem C0z (l:OpenLaw) (args:List WData):l.row.toRowW.claim.post args (.bool true) args=true :=
 postW_of (r:=l.row.toRowW) (X:=(true == true))
  (show WShape.has [] (.bool true) .bool=true by first | rfl | decide | simp [WShape.has,WShape.arms,WShape.armsAll])
  (show (WTm.eq .res (.lit (.bool true))).value [] { args:=args,res:=some (.bool true),after:=args }=some (.bool (true == true)) from w_eq_bool (w_res rfl) w_lit) rfl
theorem attach_call {l:OpenLaw} {n:Nat} {q:Program} {loose:List Str} {XP:(Str->Option Value)->Heap->Prop} {YP:World->Heap->Prop} {d:DefRec}
  (hn:l.most=some n) (hdf:d.params.defaults=[])
  (call:∀(w:World) (s₀ s₁:Shared) (mg mb:Str->Option Value) (fa:Addr) (o:Obj) (pm cd doc:Value) (a:Addr) (vs:List Value) (ns:List Int),
   Ground q loose [] XP w s₀ mg mb s₁.heap->YP w s₁.heap->
   s₁.heap.get? fa=some o->o.data= .func (docDef d.name d.params d.body d.scope pm cd doc)->s₁.heap.CodeRec cd d.name->mg d.name=some (.ref fa)->
   s₁.heap.get? a=some { cls:= .type "list",data:= .seq vs.toArray }->IntsAre vs ns->ns.length<=n->s₁.gens= #[]->
   codeAny (model l.prog w) callerA (.call (.ref fa) ⟨[.ref a],[]⟩) (λr s'=>r= .ok (.ret (.bool true))/\OldK s₁.heap s'.heap/\s'.os=s₁.os/\AllBare s'.gens) s₁) :
  WalkO q loose XP YP l.row.toRowW d [] (λf vs=>PySem.call f vs):=by
 intro w s₀ s₁ mg mb G Y fa o pm cd doc dV kV ho hd hcd hD hmg hg args vals as hpre hlay hrd hwl hlo;obtain rfl:dV= .none:=Dflts.none hD hdf;obtain rfl:kV= .none:=Dflts.noKw hD;obtain ⟨a,vs,ns,rfl,rfl,hobj,hints,hlen⟩:=C2l hn hpre hwl;refine enter_call (codeAny_mono (call w s₀ s₁ mg mb fa o pm cd doc a vs ns G Y ho (fd_plain hd) hcd hmg hobj hints hlen hg) λr s' hq=> ?_);obtain ⟨rfl,h2,h3,h4⟩:=hq;exact ⟨.inl ⟨.bool true,.bool true,[],rfl,λ_=>rfl,.bool true,C0z l _,λ_=>⟨List.Pairwise.nil,λ_ hm=>(nomatch hm)⟩⟩,h2,h3,h4⟩
section
variable {prog:Program} {w:World} {A:Around} {E:Value->Shared->Prop} {s:Shared} {K:Frag}
end
end Att
namespace L2
open PySem PySem.Spec PyProof.Rows
theorem B3s:∀{vs:List Value} {ns:List Int},IntsAre vs ns->A1v (ns.map V.int) vs
 | _,_,.nil=> .nil
 | _,_,.cons n t h=> .cons ⟨t,rfl⟩ (B3s h)
def D2t (H:Hp):Prop:=∀b,H b=none\/∃o xs,H b=some (.frz o (.lst xs))
theorem C4n {P:Program} {w:World} {K:PySem.W.Frag} {mg mb:Str->Option Value} {CX:CXT} {k:Nat} {fa a:Addr} {fd:FuncData} {x:Str} {sp:Sp} {s₁:Shared} {vs:List Value} {ns:List Int}
  (KX:K.In s₁.heap) (hns:s₁.heap.Ns mainGlobals mg) (hb:s₁.heap.Ns builtinsNs mb) (hbb:∀x:Str,x≠"__name__"->mb x=bootBuiltins x) (hlim:s₁.heap.NoLimit) (hg:s₁.gens= #[])
  (ha:s₁.heap.get? a=some { cls:= .type "list",data:= .seq vs.toArray }) (hi:IntsAre vs ns) (hl:ns.length<=sizeLine) (hr:A7e k callerA)
  (F:∀base:Heap,K.In base->base.Ns mainGlobals mg->A1m P w K mg base CX k fa fd [x] sp) (hbind:∀(s:Shared) (u:Value),BindsTo s fd ⟨[u],[]⟩ [(x,u)])
  (hsp:∀H:Hp,D2t H->SqL K H a (ns.map V.int)->sp [.ref a] H (λv _=>v= .bl true) λ_ _ _=>False)
  (hCX:∀H e s',CX [] H s₁ (λ_ _ _=>False) e s'->False) :
  codeAny (model P w) callerA (.call (.ref fa) ⟨[.ref a],[]⟩) (λr s'=>r= .ok (.ret (.bool true))/\OldK s₁.heap s'.heap/\s'.os=s₁.os/\AllBare s'.gens) s₁:=by
 have rv:=B3s hi;have lenV:=hi.length
 have core:∀H:Hp,D2t H->SqL K H a (ns.map V.int)->HOk P w H s₁.heap->(∀b,H b≠none->b=a)->(H a≠none->K.lookup a=none)->
   codeAny (model P w) callerA (.call (.ref fa) ⟨[.ref a],[]⟩) (λr s'=>r= .ok (.ret (.bool true))/\OldK s₁.heap s'.heap/\s'.os=s₁.os/\AllBare s'.gens) s₁:=by
  intro H hO hS hok hA hK;have base_of:∀{b:Addr} {o:Obj},s₁.heap.get? b=some o->H b=none->(C4t s₁.heap H).get? b=some o:=λe n=>C4v e n
  have noA:∀{b:Addr} {o:Obj} {es:Array DictEntry} {ep:Nat},s₁.heap.get? b=some o->o.data= .dict es ep->H b=none:=λ{b o es ep} e d=>by
   cases q:H b with
   | none=>rfl
   | some u =>
    have e':b=a:=hA b (by rw [q];simp);subst e';rw [ha] at e;cases e;have d':Data.seq vs.toArray _=Data.dict es ep:=d;cases d'
  have nsK:∀{b:Addr} {m:Str->Option Value},s₁.heap.Ns b m->(C4t s₁.heap H).Ns b m:=λ{b m} ⟨o,es,ep,e,d,r⟩=>⟨o,es,ep,base_of e (noA e d),d,r⟩
  have hKb:K.In (C4t s₁.heap H):=λb o e=>base_of (KX b o e) (by
   cases q:H b with
   | none=>rfl
   | some u =>
    have e':b=a:=hA b (by rw [q];simp);subst e'
    rw [hK (by rw [q];simp)] at e;cases e)
  have hM:Mod K mg (C4t s₁.heap H):=⟨hKb,nsK hns,⟨mb,nsK hb,hbb⟩,let ⟨mc,h1,h2⟩:=hlim;⟨mc,nsK h1,h2⟩⟩;have e0:C6s P w K mg (C4t s₁.heap H) callerA [] s₁ H:=⟨rfl,hM,λb o e=>C8w e,Nat.le_of_eq (C0q _ _),trivial,λb hb=>absurd (show b∈([]:List Addr) from hb) (by simp),hok,.of_eq hg⟩;refine codeAny_mono ((F _ hKb (nsK hns)).run callerA [] s₁ H ⟨[.ref a],[]⟩ [.ref a] [.ref a] _ _ hr e0 (hbind s₁ (.ref a)) (.cons rfl .nil) (hsp H hO hS)) λr s' h=> ?_
  cases r with
  | error e=>exact (hCX H e s' h).elim
  | ok fl =>
   cases fl with
   | next=>exact False.elim h
   | brk=>exact False.elim h
   | cont=>exact False.elim h
   | ret u =>
    obtain ⟨v,H',os,bare,un,hok',r',q⟩:=h;have q':v= .bl true:=q;subst q';obtain rfl:u=Value.bool true:=r';refine ⟨rfl,OldK.of_keep λb o e=> ?_,os,bare⟩
    cases q:H b with
    | none=>exact un.keep b o e q (by intro z;exact absurd (show b∈([]:List Addr) from z) (by simp)) (by simp)
    | some u =>
     rcases hO b with z | ⟨ob,xs,z⟩
     ·rw [q] at z;cases z
     ·have z2:=un.frzs b ob _ z;obtain ⟨e1,_⟩:=hok b _ z;obtain ⟨e2,_⟩:=hok' b _ z2;rw [e] at e1;cases e1;exact e2
 cases hk:K.lookup a with
 | some o =>
  have e:=KX a o hk;rw [ha] at e;cases e;refine core (λ_=>none) (λ_=> .inl rfl) (.inr ⟨_,vs.toArray,_,hk,rfl,rfl,rfl,by rw [Z0g,lenV];exact hl,by simpa using rv⟩) (λb u z=>by have z':(none:Option HO)=some u:=z;cases z') (λb z=>absurd rfl z) λz=>absurd rfl z
 | none =>
  refine core (λb=>if b=a then some (.frz { cls:= .type "list",data:= .seq vs.toArray } (.lst (ns.map V.int))) else none) (λb=> ?_) (.inl (.inr ⟨{ cls:= .type "list",data:= .seq vs.toArray },Z12 rfl⟩)) (λb u z=> ?_) (λb z=> ?_) λ_=>hk
  ·by_cases hb:b=a
   ·exact .inr ⟨_,_,Z12 hb⟩
   ·exact .inl (Z0t hb)
  ·by_cases hb:b=a
   ·have z':=(Z12 hb).symm.trans z;cases z';subst hb;exact ⟨ha,by rw [Z08];exact hl,vs,_,rv,ha⟩
   ·have z':=(Z0t hb).symm.trans z;cases z'
  ·by_cases hb:b=a
   ·exact hb
   ·exact absurd (Z0t hb) z
theorem C8o {l:PySem.W.OpenLaw} {n k:Nat} {q:Program} {loose:List Str} {XP:(Str->Option Value)->Heap->Prop} {YP:World->Heap->Prop} {d:DefRec} {K:Params->PySem.W.Frag} {CX:World->CXT} {sp:World->Sp} {x:Str}
  (hn:l.most=some n) (hn2:n<=sizeLine) (hdf:d.params.defaults=[]) (hr:A7e k callerA)
  (hY:∀(w:World) (h:Heap),YP w h->(K w.params).In h)
  (F:∀(w:World) (mg:Str->Option Value) (fa:Addr) (h:Heap),(K w.params).In h->h.Ns mainGlobals mg->mg d.name=some (.ref fa)->
   ∃fd:FuncData,(∀(s:Shared) (u:Value),BindsTo s fd ⟨[u],[]⟩ [(x,u)])/\
    ∀base:Heap,(K w.params).In base->base.Ns mainGlobals mg->A1m l.prog w (K w.params) mg base (CX w) k fa fd [x] (sp w))
  (hsp:∀(w:World) (H:Hp) (a:Addr) (ns:List Int),ns.length<=n->D2t H->SqL (K w.params) H a (ns.map V.int)->sp w [.ref a] H (λv _=>v= .bl true) λ_ _ _=>False)
  (hCX:∀(w:World) (H:Hp) (s:Shared) (e:Value) (s':Shared),CX w [] H s (λ_ _ _=>False) e s'->False) :
  PySem.W.WalkO q loose XP YP l.row.toRowW d [] (λf vs=>PySem.call f vs):=by
 refine Att.attach_call hn hdf λw s₀ s₁ mg mb fa o pm cd doc a vs ns G Y ho hd hcd hmg hobj hints hlen hg=> ?_;have KX:=hY w _ Y;obtain ⟨fd,hb,hF⟩:=F w mg fa _ KX G.T.g hmg;exact C4n KX G.T.g G.T.b G.T.builtins G.T.nolimit hg hobj hints (Z1n hlen hn2) hr hF hb (λH hO hS=>hsp w H a ns hlen hO hS) λH e s'=>hCX w H s₁ e s'
def A4w (s:Stmt) (j:Nat):Stmt:=match s with
 | .ClassDef _ _ _ body _ _ _ _ _ _ _=>body.getD j (.Pass ⟨0,0,0,0⟩)
 | _=> .Pass ⟨0,0,0,0⟩
def A6h (s:Stmt):Arguments:=match s with
 | .FunctionDef _ a _ _ _ _ _ _ _ _=>a
 | _=>{ posonlyargs:=[],args:=[],vararg:=none,kwonlyargs:=[],kw_defaults:=[],kwarg:=none,defaults:=[] }
def A4m (s:Stmt):List Stmt:=match s with
 | .FunctionDef _ _ b _ _ _ _ _ _ _=>b
 | _=>[]
def A0j (s:Stmt):Scope:=match s with
 | .FunctionDef _ _ _ _ _ _ sc _ _ _=>sc
 | _=>{ kind:= .function,names:=[],isGenerator:=false,isCoroutine:=false }
abbrev CX0:CXT:=λ_ _ _ _ _ _=>False
abbrev E0:XK:=λ_ _ _=>False
theorem A0s {X:Cx}:A7y CX0 X E0:=λ_ _ _ _ _ _ _ h=>h.elim
structure Fun (K:PySem.W.Frag) (x qual:Str) (st:Stmt) (f:Addr) (fd:FuncData):Prop where
 ex:∃(oc:Value) (od:Option Addr) (kV doc pm:Value) (an:Option Addr) (cdv ct:Value) (osl:Array (Option Value)),
  fd=PySem.W.fnOf x qual (A6h st) (A4m st) (A0j st) .none kV doc pm an cdv ct/\K.lookup f=some ⟨oc,od,.func fd,osl⟩/\PySem.W.codeIn K cdv qual=true
 kp:PySem.W.keepIn K (.ref f)=true
section
variable {P:Program} {w:World} {K:PySem.W.Frag} {mg:Str->Option Value} {base:Heap}
theorem Fun.ok {x qual:Str} {st:Stmt} {f:Addr} {fd:FuncData} {N ps:List Str} {k:Nat} {sp:Sp} (F:Fun K x qual st f fd) (S:A0t N ps (A0j st)) (len:∀vs H Q E,sp vs H Q E->vs.length=ps.length)
  (hbody:∀(cdv:Value) (A:Around) (outer:List Env) (s:Shared) (H:Hp) (vs:List V) (Q:VK) (E:XK),A7e k (A.deeper (envOfC qual (A0j st) s.heap.objs.size f cdv))->sp vs H Q E->
   ∃t,PSs (C2p CX0 P w K mg base N qual (A0j st) f cdv A outer s H E).nox (A4m st) t/\t { nx:=λ_ H'=>Q .non H',rt:=Q } (B1j N vs) H):A1m P w K mg base CX0 (k+1) f fd ps sp:=by
 obtain ⟨oc,od,kV,doc,pm,an,cdv,ct,osl,rfl,lk,hcd⟩:=F.ex;refine D0o lk hcd S len λA outer s H vs Q E hr hsp=> ?_;obtain ⟨t,h,q⟩:=hbody cdv A outer s H vs Q E hr hsp;exact ⟨t,h.nox,q⟩
theorem Fun.binds {x qual:Str} {st:Stmt} {f:Addr} {fd:FuncData} {ps:List Str} (F:Fun K x qual st f fd)
  (h:∀(kV doc pm:Value) (an:Option Addr) (cdv ct:Value) (us:List Value),us.length=ps.length->bindArgs (PySem.W.fnOf x qual (A6h st) (A4m st) (A0j st) .none kV doc pm an cdv ct) ⟨us,[]⟩=pure (ps.zip us)):A1i K fd ps []:=by
 obtain ⟨oc,od,kV,doc,pm,an,cdv,ct,osl,rfl,lk,hcd⟩:=F.ex;exact .all (h kV doc pm an cdv ct)
theorem C6b {x qual:Str} {st:Stmt} {f:Addr} {oc:Value} {od an:Option Addr} {osl:Array (Option Value)} {kV doc pm cdv ct:Value} (l:K.lookup f=some ⟨oc,od,.func (PySem.W.fnOf x qual (A6h st) (A4m st) (A0j st) .none kV doc pm an cdv ct),osl⟩)
  (c:PySem.W.codeIn K cdv qual=true) (k:PySem.W.keepIn K (.ref f)=true):Fun K x qual st f (PySem.W.fnOf x qual (A6h st) (A4m st) (A0j st) .none kV doc pm an cdv ct):=⟨⟨oc,od,kV,doc,pm,an,cdv,ct,osl,rfl,l,c⟩,k⟩
end
theorem A7u {A:Around} {k:Nat} (hr:A7e k A):A.units+1<cLine:=Nat.lt_of_le_of_lt (Nat.add_le_add_left (by decide:1<=64) _) hr.units
section
variable {X:Cx}
theorem pv (i:Nat) {x:Str} {pos:Pos} (hN:X.N[i]? =some x:=by rfl) (hv:Vis X.env.scope x:=by first | exact Or.inl rfl | exact Or.inr (Or.inl rfl) | exact Or.inr (Or.inr rfl)) (hd:(x == ("__debug__":Str))=false:=by decide)
  (hcd:(x == ("__classdict__":Str))=false:=by decide):PE X (.Name x pos) (D4g i):=D0q hN hv hd hcd
theorem A6z:A5y X (.builtin "len") (λxs H Q=>∃a kvs,xs=[V.ref a]/\H a=some (.dK kvs)/\Q (.int kvs.length) H):=by
 intro pins s σ H xs us Q I r h;obtain ⟨a,kvs,rfl,ha,q⟩:=h;obtain ⟨u,rfl,ru⟩:=B3d r;cases ru;exact D2i I (.inl ha) λt s' I'=>⟨.int kvs.length,H,I',⟨t,rfl⟩,q⟩
end
theorem A5c {A B:Prop} (h:B):if false=true then A else B:=by
 rw [Z0t Z0v];exact h
theorem B9u {A B:Prop} (h:A):if true=true then A else B:=by
 rw [Z12 rfl];exact h
theorem C9i {c A B:Prop} [Decidable c] (h1:c->A) (h2:¬c->B):if c then A else B:=by
 by_cases h:c
 ·rw [Z12 h];exact h1 h
 ·rw [Z0t h];exact h2 h
theorem C7v {c A B:Prop} [Decidable c] (hc:c) (h:B):if (!decide c)=true then A else B:=by
 rw [Z20 hc];exact A5c h
def A0r (H H':Hp):Prop:=∀b o,H b=some o->H' b=some o
theorem A0r.refl (H:Hp):A0r H H:=λ_ _ h=>h
theorem A0r.trans {H H1 H2:Hp} (a:A0r H H1) (b:A0r H1 H2):A0r H H2:=λc o h=>b c o (a c o h)
theorem A0r.free {H H':Hp} (e:A0r H H') {l:Addr} (h:H' l=Option.none):H l=Option.none:=by
 cases q:H l with
 | none=>rfl
 | some o =>
  rw [e l o q] at h;cases h
section
variable {κ:Type} [DecidableEq κ]
theorem C3u {kvs:List (κ×V)} {k:κ} (h:A3q kvs k=none):¬k∈kvs.map (·.1):=by
 intro m;obtain ⟨p,hp,e⟩:=Z2c.mp m;have q:(kvs.any λkv=>decide (kv.1=k))=true:=List.any_eq_true.mpr ⟨p,hp,Z20 e⟩;rw [B2e,h] at q;exact absurd q (by simp)
end
section
variable {X:Cx}
def tCut (t u:TS):TS:=λD σ H=>∃M:St->Hp->Prop,t { D with nx:=M } σ H/\∀σ' H',M σ' H'->u D σ' H'
theorem A3y {st:Stmt} {rest:List Stmt} {t u:TS} (h1:PS X st t) (h2:PSs X rest u):PSs X (st::rest) (tCut t u):=by
 intro pins s σ H D I h;obtain ⟨M,h,hm⟩:=h;refine wpAny_execs_cons (thn (h1 pins s σ H { D with nx:=M } I h) λf s1 q=> ?_)
 cases f with
 | next =>
  obtain ⟨σ',H',I',q⟩:=q;exact h2 pins s1 σ' H' D I' (hm _ _ q)
 | ret v=>exact q
 | brk=>exact q
 | cont=>exact q
def rIsi (K:PySem.W.Frag):List V->Hp->VK->Prop:=λxs H Q=>∃x c t b,xs=[x,c]/\B6y K H x t/\(∀u,A2a c u->PySem.W.kitOne K t u=some b)/\Q (.bl b) H
theorem A0x:A5y X (.builtin "isinstance") (rIsi X.K):=by
 intro pins s σ H xs us Q I r h;obtain ⟨x,c,t,b,rfl,ty,e,q⟩:=h;obtain ⟨u,w',rfl,ru,rw'⟩:=B8z r;exact C0c I ru ty (e w' rw') λtk=>⟨.bl b,H,I.tok tk,rfl,q⟩
theorem A4v {K:PySem.W.Frag} (T:String):∀u,A2a (.ty T) u->PySem.W.kitOne K (.type T) u=some true:=by
 intro u h;cases (show u=Value.type T from h);unfold PySem.W.kitOne;rw [Z12 (beq_self_eq_true _)]
theorem B0r {K:PySem.W.Frag} {T U:String} {b:Bool} (h:(Value.type T == Value.type U)=false) (hm:PySem.W.kitMeta U=true) (hs:(PySem.fastBuiltinMro T).map (·.contains (Value.type U))=some b) :
  ∀u,A2a (.ty U) u->PySem.W.kitOne K (.type T) u=some b:=by
 intro u z;cases (show u=Value.type U from z);unfold PySem.W.kitOne;rw [Z0t (by rw [h];exact Z0v)];show (if PySem.W.kitMeta U=true then PySem.W.subIn K (.type T) (.type U) else none)=some b;rw [Z12 hm];exact hs
def D0r (K:PySem.W.Frag):R2:=λx y H Q=>∃a b xs ys,x= .ref a/\y= .ref b/\SqT K H a xs/\SqT K H b ys/\ys≠[]/\xs.length+ys.length<=sizeLine/\
 (xs=[]->Q (.ref b) H)/\(xs≠[]->∀p,H p=none->Q (.ref p) (upd H p (.tup (xs++ys))))
theorem C3d:OpR X (binaryOp .Add) (D0r X.K):=by
 intro pins s σ H x y v u Q I rx ry h;obtain ⟨a,b,xs,ys,rfl,rfl,ha,hb,hy,hz,q1,q2⟩:=h;by_cases hx:xs=[]
 ·subst hx;cases rx;cases ry;obtain ⟨its,r1,p1,_⟩:=I.tuple ha;obtain ⟨its2,r2,p2,_⟩:=I.tuple hb;have e1:its=[]:=r1.nil_iff.mpr rfl;obtain ⟨⟨cls,dd,data,sl⟩,ho,hc,n,hd⟩:=id p1;obtain ⟨⟨cls2,dd2,data2,sl2⟩,ho2,hc2,n2,hd2⟩:=id p2;simp only at hc hd hc2 hd2;subst hc hd hc2 hd2
  exact concat_meets ⟨_,ho,rfl⟩ ⟨_,ho2,rfl⟩ noFill_tuple_add seq_tuple_add PySem.F.slot_tuple_add PySem.F.entry_tuple_add (PySem.F.args_tuple_add_2 _ _)
   (tuple_addW0 a b its.toArray its2.toArray n n2 dd dd2 sl sl2 (by simp [e1])) ⟨ho,ho2,⟨.ref b,H,I,rfl,q1 rfl⟩⟩
 ·exact C6l pins s σ H _ _ v u Q I rx ry ⟨a,b,xs,ys,rfl,rfl,ha,hb,hx,hz,λz=>absurd z hy,λ_=>q2 hx⟩
end
structure Nx (it l:Addr) (st:Nat->Heap->Prop) (src:Array Value->Heap->Prop):Prop where
 item:∀{prog:Program} {w:World} {A:Around} {E:Value->Shared->Prop} {s:Shared} {k:Nat} {xs:Array Value} {x:Value} {Q:Value->Shared->Prop},st k s.heap->src xs s.heap->xs[k]? =some x->
  (∀h',st (k+1) h'->Heap.SameBut it s.heap h'->Q x { s with heap:=h' })->wpAny (model prog w) A (Builtin.SmallTypes.nextOf (.ref it)) Q E s
 fin:∀{prog:Program} {w:World} {A:Around} {E:Value->Shared->Prop} {s:Shared} {k:Nat} {xs:Array Value} {Q:Value->Shared->Prop},A.handled=none->st k s.heap->src xs s.heap->xs[k]? =none->
  (∀h' e,Heap.ExtBut it s.heap h'->(∃o,h'.get? e=some o/\o.cls= .type "StopIteration")->E (.ref e) { s with heap:=h' })->wpAny (model prog w) A (Builtin.SmallTypes.nextOf (.ref it)) Q E s
 mv:∀{k:Nat} {h h':Heap},st k h->(∀o,h.get? it=some o->h'.get? it=some o)->st k h'
 mvS:∀{xs:Array Value} {h h':Heap},src xs h->(∀o,h.get? l=some o->h'.get? l=some o)->src xs h'
 ob:∀{k:Nat} {h:Heap},st k h->∃o,h.get? it=some o/\∀v,o.data≠.cell v
theorem A1p (it l:Addr):Nx it l (λk h=>h.IsListIter it l k) (λxs h=>h.IsList l xs) where
 item:=wpAny_nextOf_list_item
 fin:=wpAny_nextOf_list_end
 mv:=λx e=>x.at e
 mvS:=λx e=>x.at e
 ob:=λ⟨o,e,_,d⟩=>⟨o,e,λv z=>by rw [d] at z;cases z⟩
section
variable {prog:Program} {w:World} {A:Around} {E:Value->Shared->Prop} {s:Shared}
theorem A7j {it l:Addr} {k:Nat} {xs:Array Value} {x:Value} {Q:Value->Shared->Prop} (hi:s.heap.IsTupleIter it l k) (hl:s.heap.IsTuple l xs) (hx:xs[k]? =some x)
  (hQ:∀h',h'.IsTupleIter it l (k+1)->Heap.SameBut it s.heap h'->Q x { s with heap:=h' }):wpAny (model prog w) A (Builtin.SmallTypes.nextOf (.ref it)) Q E s:=by
 obtain ⟨o,ho,hc,hd⟩:=id hi;obtain ⟨ol,hol,_,nl,hdl⟩:=hl;unfold Builtin.SmallTypes.nextOf;refine Z00 (Z1b (name:=Str.ofString "__next__") hi.typeIs F.slot_tuple_iterator_next (Z1g F.slot_tuple_iterator_next hi.typeIs F.entry_tuple_iterator_next ?_ (F.args_tuple_iterator_next_1 _)));show wpAny _ _ (field (.ref it) 0 >>= _) _ _ s;refine Z00 (Z11 ho hd (x:= .ref l) rfl ?_);show wpAny _ _ (if (Value.ref l == Value.none)=true then _ else _) _ _ s;rw [Z0t (show¬((Value.ref l == Value.none)=true) from Z0v)];show wpAny _ _ (field (.ref it) 1 >>= _) _ _ s;refine Z00 (Z11 ho hd (x:= .int k 0) rfl ?_);show wpAny _ _ (seqItems? (.ref l) >>= _) _ _ s;refine Z00 (Z21 hol hdl ?_);simp only [Int.toNat_natCast,hx];refine Z00 (Z1t ho hd (by simp) (Z04 ⟨x,rfl,Z04 (hQ _ ?_ (Heap.SameBut.update ..))⟩));exact ⟨_,Z1r _ ho (Obj.isFreed_of_fields (Obj.data_mapFields hd _)),(Obj.cls_mapFields ..).trans hc,by rw [Obj.data_mapFields hd];simp [rawInt]⟩
theorem A8n {it l:Addr} {k:Nat} {xs:Array Value} {Q:Value->Shared->Prop} (hh:A.handled=none) (hi:s.heap.IsTupleIter it l k) (hl:s.heap.IsTuple l xs) (hx:xs[k]? =none)
  (hE:∀h' e,Heap.ExtBut it s.heap h'->(∃o,h'.get? e=some o/\o.cls= .type "StopIteration")->E (.ref e) { s with heap:=h' }):wpAny (model prog w) A (Builtin.SmallTypes.nextOf (.ref it)) Q E s:=by
 obtain ⟨o,ho,hc,hd⟩:=id hi;obtain ⟨ol,hol,_,nl,hdl⟩:=hl;unfold Builtin.SmallTypes.nextOf;refine Z00 (Z1b (name:=Str.ofString "__next__") hi.typeIs F.slot_tuple_iterator_next (Z1g F.slot_tuple_iterator_next hi.typeIs F.entry_tuple_iterator_next ?_ (F.args_tuple_iterator_next_1 _)));show wpAny _ _ (field (.ref it) 0 >>= _) _ _ s;refine Z00 (Z11 ho hd (x:= .ref l) rfl ?_);show wpAny _ _ (if (Value.ref l == Value.none)=true then _ else _) _ _ s;rw [Z0t (show¬((Value.ref l == Value.none)=true) from Z0v)];show wpAny _ _ (field (.ref it) 1 >>= _) _ _ s;refine Z00 (Z11 ho hd (x:= .int k 0) rfl ?_);show wpAny _ _ (seqItems? (.ref l) >>= _) _ _ s;refine Z00 (Z21 hol hdl ?_);simp only [Int.toNat_natCast,hx];refine Z00 (wpAny_rule (Z00 (Z1t ho hd (by simp) ?_)));show wpAny _ _ (newExc (.type "StopIteration") [] >>= _) _ _ _;refine Z00 ?_;simp only [newExc,newTuple];refine Z00 (Z16 ?_ (by size_fits));refine Z00 (m:=firstArgMember _ _) (wpAny_of_eq (a:=Value.none) (by first | rfl | (simp only [firstArgMember];rfl)) ?_);refine Z16 ?_ (by size_fits);simp only [raiseNew];refine Z00 (wpAny_handled ?_)
 first | rw [show A.in1.handled=none from hh] | rw [hh]
 refine Z00 (Z04 (wpAny_throw ?_));exact hE _ _ (((Heap.SameBut.update ..).extBut.push _).push _) ⟨_,Z0c _ rfl,rfl⟩
end
theorem A4z (it l:Addr):Nx it l (λk h=>h.IsTupleIter it l k) (λxs h=>h.IsTuple l xs) where
 item:=A7j
 fin:=A8n
 mv:=λ⟨o,e,r⟩ f=>⟨o,f _ e,r⟩
 mvS:=λ⟨o,e,r⟩ f=>⟨o,f _ e,r⟩
 ob:=λ⟨o,e,_,d⟩=>⟨o,e,λv z=>by rw [d] at z;cases z⟩
section
variable {z TI TO i1 i2 l1 l2:Addr} {st1 st2:Nat->Heap->Prop} {src1 src2:Array Value->Heap->Prop} {prog:Program} {w:World} {A:Around} {E:Value->Shared->Prop} {s:Shared}
theorem B7j (N1:Nx i1 l1 st1 src1) (N2:Nx i2 l2 st2 src2) {k1 k2:Nat} {xs ys:Array Value} {x y a b:Value} {Q:Option Value->Shared->Prop} (D:ZipApart z TI TO i1 i2 l1 l2)
  (hz:IsZip s.heap z TI TO .none) (hTI:IsPair s.heap TI (.ref i1) (.ref i2)) (hTO:IsPair s.heap TO a b) (h1:st1 k1 s.heap) (h2:st2 k2 s.heap) (hl1:src1 xs s.heap) (hl2:src2 ys s.heap) (hx:xs[k1]? =some x) (hy:ys[k2]? =some y)
  (hQ:∀h',IsZip h' z TI TO (rawInt s.heap.objs.size)->IsPair h' TO x y->st1 (k1+1) h'->st2 (k2+1) h'->IsPair h' s.heap.objs.size x y->
   (∀c o,c≠z->c≠TO->c≠i1->c≠i2->s.heap.get? c=some o->h'.get? c=some o)->Q (some (.ref s.heap.objs.size)) { s with heap:=h' }):wpAny (model prog w) A (pyNext (.ref z)) Q E s:=by
 have hT:s.TypeIs (.ref z) "zip":=⟨_,hz,rfl⟩;unfold pyNext;refine Z00 (wpAny_attempt (Z1b (name:=Str.ofString "__next__") hT F.slot_zip_next (Z1g F.slot_zip_next hT F.entry_zip_next ?_ (F.args_zip_next_1 _))));show wpAny _ _ (field (.ref z) 2 >>= _) _ _ _;refine Z00 (Z11 hz rfl (x:= .bool false) rfl ?_);show wpAny _ _ (field (.ref z) 3 >>= _) _ _ _;refine Z00 (Z11 hz rfl (x:= .ref TI) rfl ?_);refine Z00 (Z21 hTI rfl ?_);show wpAny _ _ (Builtin.SmallTypes.ownedTupleIsFree (.ref z) >>= _) _ _ _;refine Z00 ?_;unfold Builtin.SmallTypes.ownedTupleIsFree;refine Z00 (Z11 hz rfl (x:= .none) rfl (Z04 ?_));simp only [if_true];refine Z00 (wpAny_rule ?_);refine Z00 (Z11 hz rfl (x:= .ref TO) rfl ?_);refine Z00 (Z1h hz (by simp) λg1 z1 b1=> ?_)
 replace z1:IsZip g1 z TI TO .ellipsis:=z1
 refine Z00 ?_;simp only [List.zipIdx_cons,List.zipIdx_nil,List.forIn_cons,List.forIn_nil];refine Z00 (Z00 (wpAny_onRaise ?_));show wpAny _ _ (Builtin.SmallTypes.nextOf (.ref i1) >>= _) _ _ _;refine Z00 (N1.item (N1.mv h1 λo e=>b1.extBut _ _ D.i1z e) (N1.mvS hl1 λo e=>b1.extBut _ _ D.l1z e) hx λg2 t2 b2=>Z04 ?_);have p2:IsPair g2 TO a b:=b2.extBut _ _ D.TOi1 (b1.extBut _ _ D.TOz hTO);refine Z00 (Z21 p2 rfl ?_);refine Z00 (wpAny_updateSeq_pair p2 λg3 p3 b3=> ?_)
 replace p3:IsPair g3 TO x b:=p3
 refine Z00 (wpAny_letGo (Z04 ?_));refine Z00 (Z00 (wpAny_onRaise ?_));show wpAny _ _ (Builtin.SmallTypes.nextOf (.ref i2) >>= _) _ _ _;refine Z00 (N2.item (N2.mv h2 λo e=>b3.extBut _ _ D.TOi2.symm (b2.extBut _ _ D.i12.symm (b1.extBut _ _ D.i2z e))) (N2.mvS hl2 λo e=>b3.extBut _ _ D.l2TO (b2.extBut _ _ D.l2i1 (b1.extBut _ _ D.l2z e))) hy λg4 t4 b4=>Z04 ?_);have p4:IsPair g4 TO x b:=b4.extBut _ _ D.TOi2 p3;refine Z00 (Z21 p4 rfl ?_);refine Z00 (wpAny_updateSeq_pair p4 λg5 p5 b5=> ?_)
 replace p5:IsPair g5 TO x y:=p5
 refine Z00 (wpAny_letGo (Z04 (Z04 ?_)));refine Z00 (Z21 p5 rfl ?_);refine Z00 (wpAny_newTuple ?_);have hsz:g5.objs.size=s.heap.objs.size:=by rw [b5.1,b4.1,b3.1,b2.1,b1.1]
 have z5:IsZip g5 z TI TO .ellipsis:=b5.extBut _ _ D.TOz.symm (b4.extBut _ _ D.i2z.symm (b3.extBut _ _ D.TOz.symm (b2.extBut _ _ D.i1z.symm z1)));have k5:∀c o,c≠z->c≠TO->c≠i1->c≠i2->s.heap.get? c=some o->g5.get? c=some o:=λc o c1 c2 c3 c4 e=>b5.extBut _ _ c2 (b4.extBut _ _ c4 (b3.extBut _ _ c2 (b2.extBut _ _ c3 (b1.extBut _ _ c1 e))));have s1:st1 (k1+1) g5:=N1.mv t2 λo e=>b5.extBut _ _ D.TOi1.symm (b4.extBut _ _ D.i12 (b3.extBut _ _ D.TOi1.symm e));have s2:st2 (k2+1) g5:=N2.mv t4 λo e=>b5.extBut _ _ D.TOi2.symm e;have zlt:z<g5.objs.size:=Z0a z5;show wpAny _ _ (Builtin.SmallTypes.ownedTupleHandOut (.ref z) (.ref g5.objs.size) >>= _) _ _ _;refine Z00 ?_;unfold Builtin.SmallTypes.ownedTupleHandOut;have z6:IsZip (g5.push { cls:= .type "tuple",data:= .seq #[x,y] }) z TI TO .ellipsis:=Z01 _ z5;refine Z00 (Z1h z6 (by simp) λg7 z7 b7=> ?_)
 replace z7:IsZip g7 z TI TO (rawInt g5.objs.size):=z7
 refine Z1h z7 (by simp) λg8 z8 b8=> ?_
 replace z8:IsZip g8 z TI TO (rawInt g5.objs.size):=z8
 have up:∀c o,c≠z->g5.get? c=some o->g8.get? c=some o:=λc o c1 e=>b8.extBut _ _ c1 (b7.extBut _ _ c1 (Z01 _ e));have p8:IsPair g8 g5.objs.size x y:=b8.extBut _ _ (Z1q zlt) (b7.extBut _ _ (Z1q zlt) (Z0c _ rfl));rw [hsz] at z8 p8;refine Z04 ⟨_,rfl,Z04 ?_⟩;show Q (some (.ref g5.objs.size)) _;rw [hsz];exact hQ g8 z8 (up _ _ D.TOz p5) (N1.mv s1 λo e=>up _ o D.i1z e) (N2.mv s2 λo e=>up _ o D.i2z e) p8 λc o c1 c2 c3 c4 e=>up c o c1 (k5 c o c1 c2 c3 c4 e)
theorem B9n (N1:Nx i1 l1 st1 src1) (N2:Nx i2 l2 st2 src2) {k1 k2:Nat} {xs ys:Array Value} {a b:Value} {Q:Option Value->Shared->Prop} (hh:A.handled=none) (D:ZipApart z TI TO i1 i2 l1 l2)
  (hz:IsZip s.heap z TI TO .none) (hTI:IsPair s.heap TI (.ref i1) (.ref i2)) (hTO:IsPair s.heap TO a b) (h1:st1 k1 s.heap) (h2:st2 k2 s.heap) (hl1:src1 xs s.heap) (hl2:src2 ys s.heap) (hend:xs[k1]? =none\/ys[k2]? =none)
  (hQ:∀h',(∀c o,c≠z->c≠TO->c≠i1->c≠i2->s.heap.get? c=some o->h'.get? c=some o)->Q none { s with heap:=h' }):wpAny (model prog w) A (pyNext (.ref z)) Q E s:=by
 have hT:s.TypeIs (.ref z) "zip":=⟨_,hz,rfl⟩;unfold pyNext
 have fin:∀(h':Heap) (e:Addr),(∀c o,c≠z->c≠TO->c≠i1->c≠i2->s.heap.get? c=some o->h'.get? c=some o)->(∃o,h'.get? e=some o/\o.cls= .type "StopIteration")->
   wpAny (model prog w) A (isInstance (.ref e) (.type "StopIteration") >>= λb=>if b=true then pure none else throw (.ref e)) Q E { s with heap:=h' }:=λh' e hk ⟨o,ho,hc⟩ =>
  Z00 (wpAny_isInstance (T:="StopIteration") (b:=true) ⟨o,ho,hc⟩ isSubtype_stop (Z04 (hQ _ hk)))
 refine Z00 (wpAny_attempt (Z1b (name:=Str.ofString "__next__") hT F.slot_zip_next (Z1g F.slot_zip_next hT F.entry_zip_next ?_ (F.args_zip_next_1 _))));show wpAny _ _ (field (.ref z) 2 >>= _) _ _ _;refine Z00 (Z11 hz rfl (x:= .bool false) rfl ?_);show wpAny _ _ (field (.ref z) 3 >>= _) _ _ _;refine Z00 (Z11 hz rfl (x:= .ref TI) rfl ?_);refine Z00 (Z21 hTI rfl ?_);show wpAny _ _ (Builtin.SmallTypes.ownedTupleIsFree (.ref z) >>= _) _ _ _;refine Z00 ?_;unfold Builtin.SmallTypes.ownedTupleIsFree;refine Z00 (Z11 hz rfl (x:= .none) rfl (Z04 ?_));simp only [if_true];refine Z00 (wpAny_rule ?_);refine Z00 (Z11 hz rfl (x:= .ref TO) rfl ?_);refine Z00 (Z1h hz (by simp) λg1 z1 b1=> ?_)
 replace z1:IsZip g1 z TI TO .ellipsis:=z1
 refine Z00 ?_;simp only [List.zipIdx_cons,List.zipIdx_nil,List.forIn_cons,List.forIn_nil];refine Z00 (Z00 (wpAny_onRaise ?_));show wpAny _ _ (Builtin.SmallTypes.nextOf (.ref i1) >>= _) _ _ _;have u1:=N1.mv h1 λo e=>b1.extBut _ _ D.i1z e;have v1:=N1.mvS hl1 λo e=>b1.extBut _ _ D.l1z e
 cases hx:xs[k1]? with
 | none =>
  refine Z00 (N1.fin hh u1 v1 hx λg2 e b2 he=> ?_);obtain ⟨oe,hoe,hce⟩:=he;have z2:IsZip g2 z TI TO .ellipsis:=b2 _ _ D.i1z.symm z1;have ez:e≠z:=λx=>by subst x;rw [z2] at hoe;cases hoe;simp at hce
  exact Z1h z2 (by simp) λg3 _ b3=>fin g3 e (λc o c1 _ c3 _ x=>b3.extBut _ _ c1 (b2 _ _ c3 (b1.extBut _ _ c1 x))) ⟨oe,b3.extBut _ _ ez hoe,hce⟩
 | some x =>
  have hy:ys[k2]? =none:=by
   rcases hend with h | h
   ·rw [hx] at h;cases h
   ·exact h
  refine Z00 (N1.item u1 v1 hx λg2 t2 b2=>Z04 ?_);have p2:IsPair g2 TO a b:=b2.extBut _ _ D.TOi1 (b1.extBut _ _ D.TOz hTO);refine Z00 (Z21 p2 rfl ?_);refine Z00 (wpAny_updateSeq_pair p2 λg3 p3 b3=> ?_);refine Z00 (wpAny_letGo (Z04 ?_));refine Z00 (Z00 (wpAny_onRaise ?_));show wpAny _ _ (Builtin.SmallTypes.nextOf (.ref i2) >>= _) _ _ _;refine Z00 (N2.fin hh (N2.mv h2 λo e=>b3.extBut _ _ D.TOi2.symm (b2.extBut _ _ D.i12.symm (b1.extBut _ _ D.i2z e))) (N2.mvS hl2 λo e=>b3.extBut _ _ D.l2TO (b2.extBut _ _ D.l2i1 (b1.extBut _ _ D.l2z e))) hy λg4 e b4 he=> ?_);obtain ⟨oe,hoe,hce⟩:=he;have z4:IsZip g4 z TI TO .ellipsis:=b4 _ _ D.i2z.symm (b3.extBut _ _ D.TOz.symm (b2.extBut _ _ D.i1z.symm z1));have ez:e≠z:=λx=>by subst x;rw [z4] at hoe;cases hoe;simp at hce
  exact Z1h z4 (by simp) λg5 _ b5=>fin g5 e (λc o c1 c2 c3 c4 x=>b5.extBut _ _ c1 (b4 _ _ c4 (b3.extBut _ _ c2 (b2.extBut _ _ c3 (b1.extBut _ _ c1 x))))) ⟨oe,b5.extBut _ _ ez hoe,hce⟩
end
section
variable {X:Cx} {pins:List (Addr×Obj)} {σ:St} {H:Hp} {s:Shared} {h':Heap}
theorem Inv.turnedNew {t':Nat} {ts:List Addr} {a:Addr} {o:HO} (I:Inv X pins σ H s) (k:∀b u,b∉ts->s.heap.get? b=some u->h'.get? b=some u) (f:∀b∈ts,B4i X pins H b) (hp:s.heap.objs.size<=a)
  (new:A1c X.prog X.w (upd H a o) h' a o):Inv X pins σ (upd H a o) { s with heap:=h',toks:=t' }:=by
 have nt:∀b u,H b=some u->b∉ts:=λb u e z=>by have:=(f b z).1;rw [e] at this;cases this
 have na:∀b u,s.heap.get? b=some u->b≠a:=λb u e=>Z0h (Z0q (Z0a e) hp);have ha:H a=none:=I.hok.fresh hp
 refine I.step (g':=s.gens) (d':=s.drawn) (ch:=ts) (λb hb=>⟨(f b hb).2.2.2.1,(f b hb).2.1,(f b hb).2.2.2.2.1,(f b hb).2.2.2.2.2⟩) (λb u _ _ hc e _=>k b u hc e) (λb u _ _ hc e _=>⟨u.slots,k b u hc e⟩)
  (λb u _ e n=>by rw [A0e (na b u e)];exact n) (λb u hc e=>⟨u,k b u hc e⟩) (λb xs e=>by rw [A0e (A0i e ha)];exact e) (λb u xs e=>by rw [A0e (A0i e ha)];exact e)
  (λb ps e=>⟨#[],by rw [A0e (A0i e ha),e];simp⟩) (λm hm=> ?_) (λb u e=> ?_) I.bare
 ·obtain ⟨ob,es,ep,ho,r⟩:=hm;exact ⟨ob,es,ep,k _ ob (λz=>(f _ z).2.1 rfl) ho,r⟩
 ·by_cases hb:b=a
  ·subst hb;rw [A0b] at e;cases e;exact new
  ·rw [A0e hb] at e;refine (I.hok b u e).stay (λc v hc q=>k c v ?_ q) (λc q=>by rw [A0e (A0i q ha)];exact q) λc xs q=>by rw [A0e (A0i q ha)];exact q
   rcases hc with rfl | hc
   ·exact nt _ _ e
   ·exact nt _ _ hc
theorem Inv.turnedL {t':Nat} {ts:List Addr} (I:Inv X pins σ H s) (k:∀b u,b∉ts->s.heap.get? b=some u->h'.get? b=some u) (f:∀b∈ts,B4i X pins H b):Inv X pins σ H { s with heap:=h',toks:=t' }:=by
 have nt:∀b u,H b=some u->b∉ts:=λb u e z=>by have:=(f b z).1;rw [e] at this;cases this
 refine I.step (g':=s.gens) (d':=s.drawn) (ch:=ts) (λb hb=>⟨(f b hb).2.2.2.1,(f b hb).2.1,(f b hb).2.2.2.2.1,(f b hb).2.2.2.2.2⟩) (λb u _ _ hc e _=>k b u hc e) (λb u _ _ hc e _=>⟨u.slots,k b u hc e⟩)
  (λb u _ e n=>n) (λb u hc e=>⟨u,k b u hc e⟩) (λb xs e=>e) (λb u xs e=>e) (λb ps e=>⟨#[],by rw [e];simp⟩) (λm hm=> ?_) (λb u e=> ?_) I.bare
 ·obtain ⟨ob,es,ep,ho,r⟩:=hm;exact ⟨ob,es,ep,k _ ob (λz=>(f _ z).2.1 rfl) ho,r⟩
 ·refine (I.hok b u e).stay (λc v hc q=>k c v ?_ q) (λc q=>q) λc xs q=>q;rcases hc with rfl | hc
  ·exact nt _ _ e
  ·exact nt _ _ hc
end
def D3a (z TI TO i1 i2 a b:Addr) (i:Nat) (h:Heap):Prop:=IsZip h z TI TO .none/\IsPair h TI (.ref i1) (.ref i2)/\(∃u v,IsPair h TO u v)/\h.IsListIter i1 a i/\h.IsTupleIter i2 b i
abbrev D2d (h:Heap) (l1 l2:Addr):Heap:=(zipH1 h l1).push { cls:= .type "tuple_iterator",data:= .fields #[.ref l2,.int 0 0] }
abbrev D2b (h:Heap) (l1 l2:Addr):Heap:=(D2d h l1 l2).push { cls:= .type "tuple",data:= .seq #[.ref h.objs.size,.ref (zipH1 h l1).objs.size] }
abbrev D1w (h:Heap) (l1 l2:Addr):Heap:=(D2b h l1 l2).push { cls:= .type "tuple",data:= .seq #[.none,.none] }
abbrev C9g (h:Heap) (l1 l2:Addr):Heap:=(D1w h l1 l2).push { cls:= .type "zip",data:= .fields #[.none,.bool false,.bool false,.ref (D2d h l1 l2).objs.size,.ref (D2b h l1 l2).objs.size] }
theorem B3q (l1 l2:Addr) (xs ys:Array Value):Meets (Builtin.«zip.__new__» ⟨[.type "zip",.ref l1,.ref l2],[]⟩) (λ_ R s=>s.heap.IsList l1 xs/\s.heap.IsTuple l2 ys/\
  R (.ok (.ret (.ref (D1w s.heap l1 l2).objs.size))) { s with heap:=C9g s.heap l1 l2 }) :=
 .of_wp λprog w A R s h=>by
  obtain ⟨hp,g,d,tk,os⟩:=s;obtain ⟨hl1,hl2,h⟩:=h;have hsub:=sub_zip;have hL1:Heap.IsList (Shared.heap ⟨hp,g,d,tk,os⟩) l1 xs:=hl1;have hL2:Heap.IsTuple (Shared.heap ⟨hp.push { cls:= .type "list_iterator",data:= .fields #[.ref l1,.int 0 0] },g,d,tk,os⟩) l2 ys:=Heap.IsTuple.push hl2 _
  wp_walk using wpAny_pyIter_list hL1,wpAny_pyIter_tuple hL2
  exact ⟨_,rfl,h⟩
theorem B5t {prog:Program} {w:World} {A:Around} {E:Value->Shared->Prop} {s:Shared} {l1 l2:Addr} {xs ys:Array Value} {Q:Value->Shared->Prop} (hl1:s.heap.IsList l1 xs) (hl2:s.heap.IsTuple l2 ys)
  (h:∀h',D3a (s.heap.objs.size+4) (s.heap.objs.size+2) (s.heap.objs.size+3) s.heap.objs.size (s.heap.objs.size+1) l1 l2 0 h'->(∀c o,s.heap.get? c=some o->h'.get? c=some o)->Q (.ref (s.heap.objs.size+4)) { s with heap:=h' }) :
  wpAny (model prog w) A (call (.type "zip") [.ref l1,.ref l2]) Q E s:=by
 refine callType_new F.called_zip (by decide) (F.typeCall_zip_2 _ _) (F.newCall_zip_2 _ _) (λobj=>F.args_object_init_3 obj _ _) F.entry_zip_new (B3q l1 l2 xs ys) ⟨hl1,hl2,?_⟩;have z1:(zipH1 s.heap l1).objs.size=s.heap.objs.size+1:=Z1s ..;have z2:(D2d s.heap l1 l2).objs.size=s.heap.objs.size+2:=by rw [Z1s,z1]
 have z3:(D2b s.heap l1 l2).objs.size=s.heap.objs.size+3:=by rw [Z1s,z2]
 have z4:(D1w s.heap l1 l2).objs.size=s.heap.objs.size+4:=by rw [Z1s,z3]
 have q5:(C9g s.heap l1 l2).get? (D1w s.heap l1 l2).objs.size=some _:=Z0c _ rfl;have q4:(C9g s.heap l1 l2).get? (D2b s.heap l1 l2).objs.size=some _:=Z01 _ (Z0c _ rfl);have q3:(C9g s.heap l1 l2).get? (D2d s.heap l1 l2).objs.size=some _:=Z01 _ (Z01 _ (Z0c _ rfl));have q2:(C9g s.heap l1 l2).get? (zipH1 s.heap l1).objs.size=some _:=Z01 _ (Z01 _ (Z01 _ (Z0c _ rfl)));have q1:(C9g s.heap l1 l2).get? s.heap.objs.size=some _:=Z01 _ (Z01 _ (Z01 _ (Z01 _ (Z0c _ rfl))));show _/\_;rw [z2,z3,z4] at q5;rw [z1,z2] at q3;rw [z3] at q4;rw [z1] at q2;rw [z4];exact ⟨⟨_,q5,rfl⟩,h _ ⟨q5,q3,⟨_,_,q4⟩,⟨_,q1,rfl,rfl⟩,⟨_,q2,rfl,rfl⟩⟩ λc o x=>Z01 _ (Z01 _ (Z01 _ (Z01 _ (Z01 _ x))))⟩
def Itv (K:PySem.W.Frag) (a:Addr) (n:Nat):It :=
 ⟨λi H=>∃xs x,SqL K H a xs/\xs.length=n/\i<n/\xs[n-1-i]? =some x,λi H x H'=>H'=H/\∀xs,SqL K H a xs->xs[n-1-i]? =some x,λi _=>i=n⟩
theorem C3r {P:Program} {w:World} {K:PySem.W.Frag} {tg:Expr} (a it:Addr) (n:Nat):C6c P w K tg (Itv K a n) [it] it (λi h=>h.IsRevIter it a ((n:Int)-1-(i:Int))) where
 mem:=by simp
 obj:=λi h st b hb=>by
  have e:b=it:=by simpa using hb
  subst e;obtain ⟨o,e,c,d⟩:=st;exact ⟨o,e,λv z=>by rw [d] at z;cases z⟩
 keep:=λi h h' st k=>st.at λo e=>k it (by simp) o e
 item:=by
  intro X hP hw hK hc i pins s σ H E I hf st hg;subst hP hw hK;obtain ⟨xs,x,hq,hn,hi,hx⟩:=hg;obtain ⟨its,rv,p,hz⟩:=I.list hq;obtain ⟨u,hu,ru⟩:=rv.get hx;obtain ⟨f0,f1,f2,f3,f4,f5⟩:=hf it (by simp);have e1:(n:Int)-1-(i:Int)=((n-1-i:Nat):Int):=by omega
  rw [e1] at st;refine wpAny_pyNext_rev_item st p.isList (x:=u) (by simpa using hu) λh' st' sb=> ?_;have I1:Inv X pins σ H { s with heap:=h' }:=I.turned (t':=s.toks) (λb o hb e=>(sb.2 b hb).trans e) f0 f1 f3 f4 f5
  have e2:((n-1-i:Nat):Int)-1=(n:Int)-1-((i+1:Nat):Int):=by omega
  rw [e2] at st';obtain ⟨o,e,c,d⟩:=id st';exact ⟨u,rfl,C0y (s:={ s with heap:=h' }) e c d (by decide) ⟨x,H,I1,ru,⟨rfl,λys hy=>by rw [I.list_inj hy hq];exact hx⟩,st',λb hb=>(hf b hb).1⟩⟩
 done:=by
  intro X hP hw hK hc i pins s σ H E I hf st hg;subst hP hw hK;have hi:i=n:=hg;subst hi;obtain ⟨f0,f1,f2,f3,f4,f5⟩:=hf it (by simp);have e1:(i:Int)-1-(i:Int)= -1:=by omega
  rw [e1] at st;exact wpAny_pyNext_rev_end (I.ok.hd hc) st λh' eb=>⟨rfl,I.turned (t':=s.toks) (λb o hb e=>eb b o hb e) f0 f1 f3 f4 f5⟩
 self:=λ_ _ _ _ _ st h=>wpAny_pyIter_revIter st h
def iRev (K:PySem.W.Frag) (ta:TA):TI:=λσ H R=>ta σ H λvs H1=>∃a xs,vs=[.ref a]/\SqL K H1 a xs/\R (Itv K a xs.length) H1
theorem D1f {X:Cx} {tg:Expr} {a:Expr} {ta:TA} {p pos:Pos} (hg:Gl X "reversed") (hm:X.mg "reversed"=none) (ha:PA X [a] ta) (hs:starEach [a] X.env=[(false,eval a X.env)]:=by rfl) :
  PI X tg (.Call (.Name "reversed" p) [a] [] pos) (iRev X.K ta):=by
 intro pins s σ H R I h;refine Call_ (A7x I hg hm boot_reversed (PyProof.Rows.callWith_type1 (thn (ha pos pins s σ H _ I h) λus s1 ⟨vs,H1,I1,r1,q1⟩=> ?_) hs rfl));obtain ⟨l,xs,e,hq,q⟩:=q1;subst e;obtain ⟨u,rfl,ru⟩:=B3d r1;cases ru;obtain ⟨its,rv,p1,_⟩:=I1.list hq;have en:(its.toArray.size:Int)-1=(xs.length:Int)-1-((0:Nat):Int):=by rw [Z0g,<-rv.length];omega
 refine call_reversed_list p1.isList ?_;rw [en];have st:(s1.heap.push (revObj l ((xs.length:Int)-1-((0:Nat):Int)))).IsRevIter s1.heap.objs.size l ((xs.length:Int)-1-((0:Nat):Int)):=⟨_,Z0c _ rfl,rfl,rfl⟩;refine wpAny_pyIter_revIter (s:={ s1 with heap:=s1.heap.push (revObj l ((xs.length:Int)-1-((0:Nat):Int))) }) st ?_;refine ⟨_,[s1.heap.objs.size],_,_,H1,rfl,I1.kept (t':=s1.toks) λb o e=>Z01 _ e,C3r l _ xs.length,st,λb hb=> ?_,q⟩
 have e:b=s1.heap.objs.size:=by simpa using hb
 subst e;exact I1.fpOk (Z09 _) (I1.hok.fresh (Z09 _))
structure C6i (X:Cx) (scope:Scope) (cl:List (Str×Addr)):Prop where
 eq:closureFor scope X.env=pure cl
 sub:∀x c,cl.lookup x=some c->X.env.cells.lookup x=some c
 has:∀x,((relabel scope X.env).names.lookup x=some .cell\/(relabel scope X.env).names.lookup x=some .free)->∃c,cl.lookup x=some c
 kind:scope.kind= .function
 ncell:∀y∈scope.names,y.2≠.cell
 names:∀y∈scope.names,y.2= .local->scope.names.lookup y.1=some .local
def blk (X:Cx) (N':List Str) (scope:Scope) (cl:List (Str×Addr)) (C:Addr) (s₀:Shared) (H₀:Hp) (fp:List Addr):Cx :=
 { X with N:=N',s₀:=s₀,H₀:=H₀,env:=compEnvC scope cl C X.env,outer:=X.stack,ex:=fp,fn:=λ_=>false,pn:=[],xe:=λ_ _=>False }
def A6e (ix:List (Option Nat)) (σ:St):St:=ix.map λo=>o.bind λj=>(σ[j]?).bind id
section
variable {X:Cx} {pins:List (Addr×Obj)} {σ:St} {H:Hp} {s:Shared} {N':List Str} {scope:Scope} {cl:List (Str×Addr)} {fp:List Addr} {ix:List (Option Nat)}
def C8i (X:Cx) (N':List Str) (scope:Scope) (ix:List (Option Nat)):Prop :=
 ix.length=N'.length/\∀i j:Nat,ix[i]? =some (some j)->∃x,N'[i]? =some x/\X.N[j]? =some x/\(X.env.scope.names.lookup x=some .cell\/X.env.scope.names.lookup x=some .free)/\
  ((relabel scope X.env).names.lookup x=some .cell\/(relabel scope X.env).names.lookup x=some .free)
theorem D0j (I:Inv X pins σ H s) (ck:C6i X scope cl) (f:∀b∈fp,B4i X pins H b) (hlt:∀b∈fp,b<s.heap.objs.size):(blk X N' scope cl s.heap.objs.size s H fp).Ok where
 mod:=I.ok.mod
 kind:=ck.kind
 glob:=I.ok.glob
 blt:=I.ok.blt
 above:=Z09 _
 inj:=λx y c h1 h2=>I.ok.inj x y c (ck.sub x c h1) (ck.sub y c h2)
 has:=λx h=>ck.has x h
 cab:=λx c h=>by cases h
 hd:=I.ok.hd
 frames:=I.ok.frames
 stk:= .inl rfl
 exf:=λb hb=>⟨Z0h (hlt b hb),λx c h=>(f b hb).2.2.2.2.1 x c (ck.sub x c h)⟩
 bs:=I.bs
 bsz:=Z1n I.ok.bsz I.sz
 noex:=λb o e hb=>by
  rcases (f b hb).2.2.2.1 with z | z
  ·exact I.ok.noex b o e z
  ·exact absurd (Z0q (Z0a (I.ok.bs b o e).1) z) (Nat.lt_irrefl _)
 exfs:=λb hb hs=>by
  rcases Z0e.mp (I.stkSub b hs) with z | z
  ·exact (f b hb).2.1 z
  ·exact (f b hb).2.2.1 z
 funs:=I.stack
 frf:=I.stkFree
theorem B4d (I:Inv X pins σ H s) (ck:C6i X scope cl) (io:C8i X N' scope ix) (f:∀b∈fp,B4i X pins H b) (hlt:∀b∈fp,b<s.heap.objs.size) {h':Heap} {m:Str->Option Value} {t':Nat}
  (hn:h'.Ns s.heap.objs.size m) (k:∀b o,s.heap.get? b=some o->h'.get? b=some o):Inv (blk X N' scope cl s.heap.objs.size s H fp) [] (A6e ix σ) H { s with heap:=h',toks:=t' }:=by
 have cl':∀x c,cl.lookup x=some c->∃v,s.heap.IsCell c v:=λx c h=>I.cell x c (ck.sub x c h);refine ⟨D0j I ck f hlt,rfl,I.bare,Un.kept k,⟨m,hn,λi x v e1 e2 e3=> ?_⟩,λx c e=> ?_,I.hok.fresh (Z09 _),λx c e=>I.freeC x c (ck.sub x c e),(λp hp=>by cases hp),I.hok.kept k,?_⟩
 ·unfold A6e at e2;rw [Z1z] at e2
  cases hi:ix[i]? with
  | none=>rw [hi] at e2;cases e2
  | some o =>
   rw [hi] at e2
   cases o with
   | none=>cases Z1a e2
   | some j =>
    have e2':(σ[j]?).bind id=some v:=Z1a e2;obtain ⟨x',n1,n2,k1,k2⟩:=io.2 i j hi;have ex:x'=x:=Z1a (n1.symm.trans e1);subst ex
    have es:σ[j]? =some (some v):=by
     cases q:σ[j]? with
     | none=>rw [q] at e2';cases e2'
     | some w =>
      rw [q] at e2';exact congrArg some e2'
    obtain ⟨m0,_,hl⟩:=I.loc;obtain ⟨u,ru,lo⟩:=hl j x' v n2 es (k1.elim (λz=> .inr (.inl z)) λz=> .inr (.inr z));refine ⟨u,ru,.inr ⟨k2,?_⟩⟩;obtain ⟨c,hc⟩:=ck.has x' k2;refine ⟨c,hc,?_⟩;rcases lo with ⟨z,_⟩ | ⟨_,c',hc',ic⟩
    ·exfalso;have z':X.env.scope.names.lookup x'=some .local:=z;rcases k1 with k1 | k1 <;> (rw [z'] at k1;cases k1)
    ·have ec:c'=c:=Z1a (hc'.symm.trans (ck.sub x' c hc));subst ec;obtain ⟨o,ho,hd⟩:=ic;exact ⟨o,k _ _ ho,hd⟩
 ·obtain ⟨v,o,ho,hd⟩:=cl' x c e;exact ⟨v,o,k _ _ ho,hd⟩
 ·unfold A6e;rw [Z08];exact io.1
theorem C1z (I:Inv X pins σ H s) (f:∀b∈fp,B4i X pins H b) {σ':St} {H':Hp} {s':Shared} {pl:List (Addr×Obj)} (J:Inv (blk X N' scope cl s.heap.objs.size s H fp) pl σ' H' s') {h':Heap} (sb:Heap.SameBut s.heap.objs.size s'.heap h') :
  Inv X pins σ H' { s' with heap:=h' }:=by
 have nC:∀b o,s.heap.get? b=some o->b≠s.heap.objs.size:=λb o e=>Z0h (Z0a e);have hC:H' s.heap.objs.size=none:=J.free;have u:Un (frs X.stack) fp H H' s.heap s'.heap:=J.base
 refine I.call' (ch:=fp) (s':={ s' with heap:=h' }) J.os ⟨λb o e n hb hx=>(sb.2 b (nC b o e)).trans (u.keep b o e n hb hx),λb o e n hb hx=> ?_,u.free,λb o e hx=> ?_,u.tups,u.frzs,u.tbls⟩ (λb o e=> ?_) J.bare
  (λb hb=>⟨(f b hb).2.2.2.1,(f b hb).2.1,(f b hb).2.2.2.2.1,(f b hb).2.2.2.2.2⟩)
 ·obtain ⟨sl,q⟩:=u.slot b o e n hb hx;exact ⟨sl,(sb.2 b (nC b o e)).trans q⟩
 ·obtain ⟨o',q⟩:=u.there b o e hx;exact ⟨o',(sb.2 b (nC b o e)).trans q⟩
 ·refine (J.hok b o e).stay (λc v hc q=>(sb.2 c ?_).trans q) (λc q=>q) λc xs q=>q;rcases hc with rfl | hc
  ·exact A0i e hC
  ·exact A0i hc hC
end
def A2m:St->St->Prop
 | [],_=>True
 | none::r,_::r'=>A2m r r'
 | none::r,[]=>A2m r []
 | some v::r,w::r'=>w=some v/\A2m r r'
 | some _::_,[]=>False
theorem A2m.get:∀{a b:St},A2m a b->∀(j:Nat) v,a[j]? =some (some v)->b[j]? =some (some v)
 | [],_,_,_,_,e=>by simp at e
 | none::r,_::r',h,0,v,e=>by simp at e
 | none::r,_::r',h,j+1,v,e=>by simpa using A2m.get (a:=r) (b:=r') h j v (by simpa using e)
 | none::r,[],h,0,v,e=>by simp at e
 | none::r,[],h,j+1,v,e=>by have:=A2m.get (a:=r) (b:=[]) h j v (by simpa using e);simp at this
 | some w::r,_::r',h,0,v,e=>by
  have e':w=v:=by simpa using e
  subst e'
  simpa using h.1
 | some _::r,_::r',h,j+1,v,e=>by simpa using A2m.get (a:=r) (b:=r') h.2 j v (by simpa using e)
section
variable {X:Cx}
def D1a (ix:List (Option Nat)) (wi:TI) (g:TG) (te:TE):TE:=λσ H Q=>wi σ H λJ H1=>∀D,H1 D=none->∃W:Nat->Nat->Hp->Prop,(∃m,W 0 m (upd H1 D (.lst [])))/\∀i m H2,W i m H2->
 (J.stop i H2/\Q (.ref D) H2)\/(J.go i H2/\∃N:VK,(∀y H5,N y H5->∃xs,H5 D=some (.lst xs)/\xs.length<sizeLine/\∃m',m'<m/\W (i+1) m' (upd H5 D (.lst (xs++[y]))))/\∀x H3,J.yld i H2 x H3->g x (A6e ix σ) H3 λσ4 H4=>A2m (A6e ix σ) σ4/\te σ4 H4 N)
theorem A1y {elt iter tg:Expr} {scope:Scope} {pos:Pos} {N':List Str} {ix:List (Option Nat)} {cl:List (Str×Addr)} {wi:TI} {g:TG} {te:TE} (hc:X.calm=true) (ck:C6i X scope cl) (io:C8i X N' scope ix) (hi:PI X tg iter wi)
  (hg:∀C s₀ H₀ fp,PG (blk X N' scope cl C s₀ H₀ fp) tg g) (he:∀C s₀ H₀ fp,PE (blk X N' scope cl C s₀ H₀ fp) elt te) (hs:∀x,foldedSetIterable iter X.env x=pure x:=by intro _;rfl) :
  PE X (.ListComp elt [⟨tg,iter,[],0⟩] scope pos) (D1a ix wi g te):=by
 intro pins s σ H Q I h;rw [eval_ListComp];refine wpAny_comprehension_free (use:=none) rfl hs ck.eq ck.kind ck.names (thn (hi pins s σ H _ I h) λxv s1 h1=>thn h1 λitv s2 h2=> ?_);obtain ⟨it,fp,tn,J,H1,rfl,I1,T,st1,f1,R⟩:=h2;refine Z16 ?_;have hD:H1 s2.heap.objs.size=none:=I1.hok.fresh (Z09 _);obtain ⟨W,⟨m0,w0⟩,turn⟩:=R _ hD;have hfD:∀b∈fp,b<s2.heap.objs.size:=λb hb=>let ⟨o,e,_⟩:=T.obj _ _ st1 b hb;Z0a e;have I2:Inv X pins σ (upd H1 s2.heap.objs.size (.lst [])) { s2 with heap:=s2.heap.push { cls:= .type "list",data:= .seq ([]:List Value).toArray },toks:=s2.toks }:=I1.lnew (its:=[]) .nil (Z1e _);have f2:∀b∈fp,B4i X pins (upd H1 s2.heap.objs.size (.lst [])) b:=λb hb=>⟨by rw [A0e (Z0h (hfD b hb))];exact (f1 b hb).1,(f1 b hb).2⟩
 have lt2:∀b∈fp,b<(s2.heap.push { cls:= .type "list",data:= .seq ([]:List Value).toArray }).objs.size:=λb hb=>by rw [Z1s];exact Nat.lt_succ_of_lt (hfD b hb)
 refine wpAny_newFunctionEnv ck.ncell (by intro y hy;simp at hy) (λh3 hns sb3=> ?_) ck.kind;dsimp only at hns sb3⊢;have k3:∀b o,(s2.heap.push { cls:= .type "list",data:= .seq ([]:List Value).toArray }).get? b=some o->h3.get? b=some o:=λb o e=>(sb3.2 b (Z0h (Z0a e))).trans (Z01 _ e);generalize hs2:({ s2 with heap:=s2.heap.push { cls:= .type "list",data:= .seq ([]:List Value).toArray },toks:=s2.toks }:Shared)=s3 at I2;have e3:s2.heap.push { cls:= .type "list",data:= .seq ([]:List Value).toArray }=s3.heap:=by rw [<-hs2]
 rw [e3] at hns k3 lt2;have I3:=B4d (N':=N') (ix:=ix) I2 ck io f2 lt2 (h':=h3) (t':=s2.toks+([]:List (Str×Value)).length) hns k3;have e4:({ s3 with heap:=h3,toks:=s2.toks+([]:List (Str×Value)).length }:Shared)={ s2 with heap:=h3,toks:=s2.toks+([]:List (Str×Value)).length }:=by rw [<-hs2]
 rw [e4] at I3;have st3:tn 0 h3:=T.keep _ _ _ st1 λb hb o e=>k3 b o (by rw [<-e3];exact Z01 _ e)
 have loop:∀s4:Shared,s4={ s2 with heap:=h3,toks:=s2.toks+([]:List (Str×Value)).length }->
   codeAny (model X.prog X.w) X.A (.compLoop (.ListComp elt [⟨tg,iter,[],0⟩] scope pos) 0 (.ref it) (.ref s2.heap.objs.size) (compEnvC scope cl s3.heap.objs.size X.env))
    (compPost (model X.prog X.w) X.A X.xe none (EP X pins σ Q) (.ref s2.heap.objs.size) s3.heap.objs.size) s4:=by
  rintro s4 rfl
  have stat:∀{H':Hp},(∀b∈fp,H' b=none)->∀b∈fp,B4i (blk X N' scope cl s3.heap.objs.size s3 (upd H1 s2.heap.objs.size (.lst [])) fp) [] H' b:=λhn b hb =>
   ⟨hn b hb,Z0h (lt2 b hb),λhs=>I3.ok.exfs b hb hs,.inl hb,λx c e=>(f2 b hb).2.2.2.2.1 x c (ck.sub x c e),(λp hp=>by cases hp)⟩
  refine codeAny_loop rfl (λn s'=>∃i σ' H',Inv (blk X N' scope cl s3.heap.objs.size s3 (upd H1 s2.heap.objs.size (.lst [])) fp) [] σ' H' s'/\(∀(j:Nat) v,(A6e ix σ)[j]? =some (some v)->σ'[j]? =some (some v))/\tn i s'.heap/\(∀b∈fp,H' b=none)/\W i n H')
   (λn s' hI=> ?_) m0 ⟨0,_,_,I3,λ_ _ z=>z,st3,λb hb=>(f2 b hb).1,w0⟩
  obtain ⟨i,σ5,H5,I5,wk,st5,fr5,w5⟩:=hI;show wpAny _ _ ((compTurn (.ListComp elt [⟨tg,iter,[],0⟩] scope pos) 0 (.ref it) (.ref s2.heap.objs.size) (compEnvC scope cl s3.heap.objs.size X.env)).onRaise (λx=>do noteFrame x (compEnvC scope cl s3.heap.objs.size X.env);theTreesLotGoes x)) _ _ s';refine wpAny_noted ?_;rw [compTurn_list1];refine Z00 (Z1y ?_);rcases turn i n H5 w5 with ⟨stop,qn⟩ | ⟨go,NN,hNN,step⟩
  ·refine Z00 (Z10 (T.done (blk X N' scope cl s3.heap.objs.size s3 (upd H1 s2.heap.objs.size (.lst [])) fp) rfl rfl rfl hc i [] s' σ5 H5 (λ_ _=>False) I5 (stat fr5) st5 stop) (λr s6 h6=> ?_) λ_ _ z=>z.elim);obtain ⟨rfl,I6⟩:=h6;refine Z04 ?_;obtain ⟨mm,hm,_⟩:=id I6.loc;exact ⟨mm,hm,λh' sb=>⟨.ref s2.heap.objs.size,H5,C1z I2 f2 I6 sb,rfl,qn⟩⟩
  ·refine Z00 (Z10 (T.item (blk X N' scope cl s3.heap.objs.size s3 (upd H1 s2.heap.objs.size (.lst [])) fp) rfl rfl rfl hc i [] s' σ5 H5 (λ_ _=>False) I5 (stat fr5) st5 go) (λr s6 h6=> ?_) λ_ _ z=>z.elim);obtain ⟨u,rfl,h6⟩:=h6;refine Z00 (Z10 h6 (λ_ s7 h7=> ?_) λ_ _ z=>z.elim);obtain ⟨x,H7,I7,r7,y7,st7,fr7⟩:=h7;have I7w:Inv (blk X N' scope cl s3.heap.objs.size s3 (upd H1 s2.heap.objs.size (.lst [])) fp) [] (A6e ix σ) H7 s7:=I7.weak (by rw [I7.len];unfold A6e;rw [Z08];exact io.1) wk;have I7p:=I7w.pinned (stat fr7) (T.obj _ _ st7);refine Z00 (Z10 (hg _ _ _ _ _ s7 _ H7 x u _ I7p r7 (step x H7 y7)) (λ_ s8 h8=> ?_) λ_ _ z=>z.elim);obtain ⟨σ8,H8,I8,kp8,q8⟩:=h8;refine Z00 (Z00 (Z10 (he _ _ _ _ _ s8 σ8 H8 _ I8 q8) (λyv s9 h9=> ?_) λ_ _ z=>z.elim));obtain ⟨y,H9,I9,r9,n9⟩:=h9;obtain ⟨xs,hx9,hz9,m',hm',w9⟩:=hNN _ _ n9;refine Z00 (Z10 (A7b (X:=blk X N' scope cl s3.heap.objs.size s3 (upd H1 s2.heap.objs.size (.lst [])) fp) _ s9 σ8 H9 (.ref s2.heap.objs.size) [y] (.ref s2.heap.objs.size) [yv] (λ_ H'=>W (i+1) m' H') I9 rfl (.cons r9 .nil) ⟨_,xs,y,rfl,rfl,hx9,hz9,w9⟩) (λ_ s10 h10=> ?_) λ_ _ z=>z.elim);obtain ⟨_,H10,I10,_,w10⟩:=h10;refine Z04 (Z04 ⟨rfl,m',hm',i+1,σ8,H10,I10.unpinned,?_,T.keep _ _ _ st7 λb hb o e=>(I10.pin (b,o) (Z02 _ (Z02 _ (A3j hb e)))).1,λb hb=> ?_,w10⟩)
   ·exact kp8.get
   ·obtain ⟨o,e,d⟩:=T.obj _ _ st7 b hb;exact (I10.pin (b,o) (Z02 _ (Z02 _ (A3j hb e)))).2.1
 have e5:s3.heap.objs.size=(s2.heap.push { cls:= .type "list",data:= .seq ([]:List Value).toArray }).objs.size:=by rw [e3]
 rw [e5] at loop;exact codeAny_compStart_list (loop _ rfl) (T.self X.A 0 _ _ _ st3 (loop _ rfl))
end
section
variable {X:Cx} {m:Str} {pos apos:Pos} {e o:Expr} {es:List Expr} {ta:TE} {t:TA}
def D0i (X:Cx) (m:Str) (ta:TE) (t:TA):TE:=λσ H Q=>ta σ H λx H1=>∃(a C dx:Addr) (fs:List (Str×V)) (k:Nat) (f:Addr) (fd:FuncData) (ps:List Str) (sp:Sp),x= .ref a/\H1 a=some (.ins C dx fs)/\Cls X.K C/\C5s X.K C m f/\fs.lookup m=none/\
 A1m X.prog X.w X.K X.mg X.base CX0 k f fd ps sp/\A7e k X.A/\A1i X.K fd ps []/\t σ H1 λvs H2=>sp (x::vs) H2 Q E0
theorem C4u {pl:Sem Bool} (he:PE X o ta) (ha:PA X (e::es) t)
  (hst:starEach (e::es) X.env=(false,eval e X.env)::starEach es X.env:=by rfl) (hpl:(backTo pos (starEach es X.env)).any (·.1)=false:=by rfl)
  (ht:eval (.Call (.Attribute o m apos) (e::es) [] pos) X.env=(do
   let ov<-eval o X.env
   standAt apos.atName
   let (f,first)<-holding [ov] (getMethod ov m pl)
   callWith pos f first (backTo pos (starEach (e::es) X.env)) (backToKw pos (keywordEach [] X.env))):=by rfl) :
  PE X (.Call (.Attribute o m apos) (e::es) [] pos) (D0i X m ta t):=by
 intro pins s σ H Q I h;refine PySem.W.methodCall_KW (pl:=pl) (thn (he pins s σ H _ I h) λu s1 ⟨x,H1,I1,rx,a,C,dx,fs,k,f,fd,ps,sp,ex,ea,c,hm,l,F,hr,hb,q⟩=> ?_) ht;subst ex;obtain rfl:u=Value.ref a:=rx;refine B0o I1 ea c hm l ?_;refine PySem.W.callWith_K (first:=[.ref a]) (h₀:=X.base) I.ok.mod.kin hm.kp (thn (ha pos pins s1 σ H1 _ I1 q) λus s2 ⟨vs,H2,I2,r,q2⟩=>⟨I2.kIn,?_⟩) hst hpl;exact B9s (us:= .ref a::us) (vs:= .ref a::vs) (dvs:=[]) F hr hb .nil A0s I2 (.cons rfl r) (by rw [Z0u];exact q2)
end
mutual
inductive Rep (H:Hp):V->PyData->Prop
 | non:Rep H .non .none
 | bl (b:Bool):Rep H (.bl b) (.bool b)
 | int (i:Int):Rep H (.int i) (.int i)
 | str (x:Str):Rep H (.str x) (.str x)
 | lst {p:Addr} {xs:List V} {ds:List PyData}:H p=some (.lst xs)->A2u H xs ds->Rep H (.ref p) (.list ds)
 | tup {p:Addr} {xs:List V} {ds:List PyData}:H p=some (.tup xs)->A2u H xs ds->Rep H (.ref p) (.tuple ds)
inductive A2u (H:Hp):List V->List PyData->Prop
 | nil:A2u H [] []
 | cons {v:V} {vs:List V} {d:PyData} {ds:List PyData}:Rep H v d->A2u H vs ds->A2u H (v::vs) (d::ds)
end
mutual
theorem Rep.imp {H H':Hp} (f:∀p o,H p=some o->H' p=some o):∀{v:V} {d:PyData},Rep H v d->Rep H' v d
 | _,_,.non=> .non
 | _,_,.bl b=> .bl b
 | _,_,.int i=> .int i
 | _,_,.str x=> .str x
 | _,_,.lst e r=> .lst (f _ _ e) (A2u.imp f r)
 | _,_,.tup e r=> .tup (f _ _ e) (A2u.imp f r)
theorem A2u.imp {H H':Hp} (f:∀p o,H p=some o->H' p=some o):∀{vs:List V} {ds:List PyData},A2u H vs ds->A2u H' vs ds
 | _,_,.nil=> .nil
 | _,_,.cons a r=> .cons (Rep.imp f a) (A2u.imp f r)
end
theorem Rep.same {H H':Hp} {v:V} {d:PyData} (h:Rep H v d) (s:A0r H H'):Rep H' v d:=h.imp s
theorem A2u.same {H H':Hp} {v:List V} {d:List PyData} (h:A2u H v d) (s:A0r H H'):A2u H' v d:=h.imp s
theorem A2u.len {H:Hp}:∀{vs:List V} {ds:List PyData},A2u H vs ds->vs.length=ds.length
 | _,_,.nil=>rfl
 | _,_,.cons _ r=>by rw [Z0y,Z0y,A2u.len r]
theorem A2u.snoc {H:Hp} {v:V} {d:PyData} (a:Rep H v d):∀{vs:List V} {ds:List PyData},A2u H vs ds->A2u H (vs++[v]) (ds++[d])
 | _,_,.nil=> .cons a .nil
 | _,_,.cons b r=> .cons b (A2u.snoc a r)
theorem A2u.strs {H:Hp}:∀xs:List Str,A2u H (xs.map V.str) (xs.map PyData.str)
 | []=> .nil
 | x::r=> .cons (.str x) (A2u.strs r)
section
variable {X:Cx} {pins:List (Addr×Obj)} {σ:St} {H:Hp} {s:Shared}
mutual
theorem A9m (I:Inv X pins σ H s):∀{v:V} {d:PyData} {u:Value},Rep H v d->A2a v u->∃as,Reads s.heap u d as
 | _,_,u,.non,r=>by cases (show u=Value.none from r);exact ⟨_,.none⟩
 | _,_,u,.bl b,r=>by cases (show u=Value.bool b from r);exact ⟨_,.bool b⟩
 | _,_,u,.int i,r=>by obtain ⟨t,q⟩:=(show∃t,u=Value.int i t from r);cases q;exact ⟨_,.int i t⟩
 | _,_,u,.str x,r=>by obtain ⟨t,q⟩:=(show∃t,u=Value.str x t from r);cases q;exact ⟨_,.str x t⟩
 | _,_,u,@Rep.lst _ p xs ds e q,r=>by
  cases (show u=Value.ref p from r)
  obtain ⟨_,its,n,rv,ho⟩:=(show A1c X.prog X.w H s.heap p (.lst xs) from I.hok p _ e);obtain ⟨as,z⟩:=A7l I q rv;exact ⟨_,Reads.list ho rfl rfl (by simpa using z)⟩
 | _,_,u,@Rep.tup _ p xs ds e q,r=>by
  cases (show u=Value.ref p from r)
  obtain ⟨_,its,rv,o,ho,hc,n,hd⟩:=(show A1c X.prog X.w H s.heap p (.tup xs) from I.hok p _ e);obtain ⟨as,z⟩:=A7l I q rv;exact ⟨_,Reads.tuple ho hc hd (by simpa using z)⟩
theorem A7l (I:Inv X pins σ H s):∀{vs:List V} {ds:List PyData} {us:List Value},A2u H vs ds->A1v vs us->∃as,ReadsAll s.heap us ds as
 | _,_,_,.nil,.nil=>⟨_,.nil⟩
 | _,_,_,.cons a r,.cons q rv=>by
  obtain ⟨as,z⟩:=A9m I a q;obtain ⟨bs,y⟩:=A7l I r rv;exact ⟨_,.cons z y⟩
end
end
section
variable {X:Cx}
end
theorem A1s {X:Cx} {scope:Scope} (hk:scope.kind= .function) (hn:∀y∈scope.names,y.2≠.free/\y.2≠.cell) (hl:∀y∈scope.names,y.2= .local->scope.names.lookup y.1=some .local):C6i X scope [] where
 eq:=closureFor_none λy hy=>(hn y hy).1
 sub:=λx c h=>by cases h
 has:=λx h=>by
  exfalso
  have e:(relabel scope X.env).names=scope.names:=map_eq_self λy hy=>by
   obtain ⟨n,k⟩:=y;have z:=(hn _ hy).1;have z':(k == NameKind.free)=false:=by simpa using z
   simp [z']
  rw [e] at h
  have mem:∀{k:NameKind},scope.names.lookup x=some k->(x,k)∈scope.names:=λ{k} q=>by
   generalize scope.names=l at q
   induction l with
   | nil=>cases q
   | cons a r ih =>
    obtain ⟨n,k'⟩:=a;rw [Z28] at q;split at q
    ·rename_i hb;have hb':x=n:=by simpa using hb
     cases q
     subst hb';exact .head _
    ·exact .tail _ (ih q)
  rcases h with h | h
  ·exact (hn _ (mem h)).2 rfl
  ·exact (hn _ (mem h)).1 rfl
 kind:=hk
 ncell:=λy hy=>(hn y hy).2
 names:=hl
theorem A1r {X:Cx} {N':List Str} {scope:Scope} {n:Nat} (h:n=N'.length):C8i X N' scope (List.replicate n none):=⟨by rw [List.length_replicate];exact h,λi j e=>by
 rw [List.getElem?_replicate] at e
 split at e <;> cases e⟩
section
variable {K:PySem.W.Frag} {a D:Addr} {xs:List V} {g:TG} {te:TE} {Q:VK} {σ₀:St} {H:Hp}
theorem C0x (Pv:Nat->List V->Hp->Prop) (h0:Pv 0 [] (upd H D (.lst []))) (hl:∀i ys H,Pv i ys H->SqL K H a xs)
  (hs:∀i x ys H,xs[i]? =some x->Pv i ys H->g x σ₀ H λσ4 H4=>A2m σ₀ σ4/\te σ4 H4 λy H5=>H5 D=some (.lst ys)/\ys.length<sizeLine/\Pv (i+1) (ys++[y]) (upd H5 D (.lst (ys++[y])))) (hd:∀ys H,Pv xs.length ys H->Q (.ref D) H) :
  ∃W:Nat->Nat->Hp->Prop,(∃m,W 0 m (upd H D (.lst [])))/\∀i m H2,W i m H2->
   ((Itl K a).stop i H2/\Q (.ref D) H2)\/((Itl K a).go i H2/\∃N:VK,(∀y H5,N y H5->∃xs,H5 D=some (.lst xs)/\xs.length<sizeLine/\∃m',m'<m/\W (i+1) m' (upd H5 D (.lst (xs++[y]))))/\
    ∀x H3,(Itl K a).yld i H2 x H3->g x σ₀ H3 λσ4 H4=>A2m σ₀ σ4/\te σ4 H4 N):=by
 refine ⟨λi m H=>m=xs.length-i/\i<=xs.length/\∃ys,Pv i ys H,⟨xs.length,by simp,Z1e _,[],h0⟩,?_⟩;rintro i m H2 ⟨rfl,hi,ys,p⟩;have q:=hl i ys H2 p;by_cases hlt:i<xs.length
 ·refine .inr ⟨⟨xs,xs[i],q,by simp [hlt]⟩,λy H5=>H5 D=some (.lst ys)/\ys.length<sizeLine/\Pv (i+1) (ys++[y]) (upd H5 D (.lst (ys++[y]))),λy H5 n=>⟨ys,n.1,n.2.1,xs.length-(i+1),by omega,rfl,hlt,_,n.2.2⟩,λx H3 z=> ?_⟩;obtain ⟨e,z⟩:=z;subst e;exact hs i x ys _ (z xs q) p
 ·have e:i=xs.length:=by omega
  subst e;exact .inl ⟨⟨xs,q,Z09 _⟩,hd ys H2 p⟩
theorem C5c (Pv:Nat->List V->Hp->Prop) (h0:Pv 0 [] (upd H D (.lst []))) (hl:∀i ys H,Pv i ys H->SqT K H a xs)
  (hs:∀i x ys H,xs[i]? =some x->Pv i ys H->g x σ₀ H λσ4 H4=>A2m σ₀ σ4/\te σ4 H4 λy H5=>H5 D=some (.lst ys)/\ys.length<sizeLine/\Pv (i+1) (ys++[y]) (upd H5 D (.lst (ys++[y])))) (hd:∀ys H,Pv xs.length ys H->Q (.ref D) H) :
  ∃W:Nat->Nat->Hp->Prop,(∃m,W 0 m (upd H D (.lst [])))/\∀i m H2,W i m H2->
   ((Itt K a).stop i H2/\Q (.ref D) H2)\/((Itt K a).go i H2/\∃N:VK,(∀y H5,N y H5->∃xs,H5 D=some (.lst xs)/\xs.length<sizeLine/\∃m',m'<m/\W (i+1) m' (upd H5 D (.lst (xs++[y]))))/\
    ∀x H3,(Itt K a).yld i H2 x H3->g x σ₀ H3 λσ4 H4=>A2m σ₀ σ4/\te σ4 H4 N):=by
 refine ⟨λi m H=>m=xs.length-i/\i<=xs.length/\∃ys,Pv i ys H,⟨xs.length,by simp,Z1e _,[],h0⟩,?_⟩;rintro i m H2 ⟨rfl,hi,ys,p⟩;have q:=hl i ys H2 p;by_cases hlt:i<xs.length
 ·refine .inr ⟨⟨xs,xs[i],q,by simp [hlt]⟩,λy H5=>H5 D=some (.lst ys)/\ys.length<sizeLine/\Pv (i+1) (ys++[y]) (upd H5 D (.lst (ys++[y]))),λy H5 n=>⟨ys,n.1,n.2.1,xs.length-(i+1),by omega,rfl,hlt,_,n.2.2⟩,λx H3 z=> ?_⟩;obtain ⟨e,z⟩:=z;subst e;exact hs i x ys _ (z xs q) p
 ·have e:i=xs.length:=by omega
  subst e;exact .inl ⟨⟨xs,q,Z09 _⟩,hd ys H2 p⟩
end
abbrev TJ:=St->Hp->Str->(Str->Hp->Prop)->Prop
def PJ (X:Cx) (es:List Expr) (t:TJ):Prop :=
 ∀(pins:List (Addr×Obj)) (s:Shared) (σ:St) (H:Hp) (out:Str) (Q:Str->Hp->Prop),Inv X pins σ H s->t σ H out Q->wpAny (model X.prog X.w) X.A (joinParts out (evalEach es X.env)) (EP X pins σ λv H'=>∃z,v= .str z/\Q z H') X.xe s
def D3g:TJ:=λ_ H out Q=>out.length<=sizeLine/\Q out H
def D3d (x:Str) (tr:TJ):TJ:=λσ H out Q=>(out++x).length<=sizeLine/\tr σ H (out++x) Q
section
variable {X:Cx} {e:Expr} {es:List Expr} {te:TE} {tr:TJ} {pos p2:Pos}
theorem D0u:PJ X [] D3g:=λpins s σ H out Q I h=>joinParts_nil ⟨.str out,H,I.tok _,⟨_,rfl⟩,out,rfl,h.2⟩ h.1
theorem C5v {x:Str} {j:Nat} (hr:PJ X es tr) (hs:evalEach (.Constant (.str x) j pos::es) X.env=eval (.Constant (.str x) j pos) X.env::evalEach es X.env:=by rfl):PJ X (.Constant (.str x) j pos::es) (D3d x tr):=by
 intro pins s σ H out Q I h;rw [hs];refine joinParts_cons (thn (A2n pins s σ H (λv H'=>v= .str x/\H'=H) I ⟨rfl,rfl⟩) λv s1 ⟨y,H1,I1,rx,ey,eH⟩=> ?_);subst ey eH;obtain ⟨t,rfl⟩:=(show∃t,v=Value.str x t from rx);exact ⟨h.1,hr pins s1 σ H1 _ Q I1 h.2⟩
def D3h (tj:TJ):TE:=λσ H Q=>tj σ H Str.empty λz H'=>Q (.str z) H'
theorem C8f {a b:Expr} {tj:TJ} (h:PJ X (a::b::es) tj) (hs:evalEach (a::b::es) X.env=eval a X.env::eval b X.env::evalEach es X.env:=by rfl):PE X (.JoinedStr (a::b::es) pos) (D3h tj):=by
 intro pins s σ H Q I hq;refine JoinedStr_many ?_;rw [<-hs];exact thn (h pins s σ H _ _ I hq) λu s1 ⟨v,H1,I1,rv,z,ez,q⟩=>by subst ez;exact ⟨.str z,H1,I1,rv,q⟩
end
theorem A4j {x:Str} {k:NameKind}:∀{l:List (Str×NameKind)},l.lookup x=some k->(x,k)∈l
 | [],q=>by cases q
 | (n,k')::r,q=>by
  rw [Z28] at q;split at q
  ·rename_i hb;have hb':x=n:=by simpa using hb
   cases q
   subst hb';exact .head _
  ·exact .tail _ (A4j q)
theorem A8q {X:Cx} {scope:Scope} {x:Str} {c:Addr} (he:closureFor scope X.env=pure [(x,c)]) (hc:X.env.cells.lookup x=some c) (hk:scope.kind= .function) (hn:∀y∈scope.names,y.2≠.cell/\(y.2= .free->y.1=x))
  (hl:∀y∈scope.names,y.2= .local->scope.names.lookup y.1=some .local):C6i X scope [(x,c)] where
 eq:=he
 sub:=λy d h=>by
  rw [Z28] at h;split at h
  ·rename_i hb;have hb':y=x:=by simpa using hb
   cases h
   subst hb';exact hc
  ·cases h
 has:=λy h=>by
  have key:y=x:=by
   have m:∃k,(y,k)∈(relabel scope X.env).names/\(k= .cell\/k= .free):=h.elim (λz=>⟨_,A4j z,.inl rfl⟩) λz=>⟨_,A4j z,.inr rfl⟩;obtain ⟨k,hm,hk⟩:=m;obtain ⟨⟨n,k0⟩,h0,e⟩:=Z2c.mp hm;dsimp only at e;by_cases hf:k0= .free
   ·have en:n=y:=by
     split at e
     ·exact congrArg Prod.fst e
     ·exact congrArg Prod.fst e
    rw [<-en];exact (hn _ h0).2 hf
   ·have hb:(k0 == NameKind.free)=false:=by simpa using hf
    simp only [hb,Bool.false_and,Bool.false_eq_true,if_false] at e;have e2:k0=k:=congrArg Prod.snd e;subst e2;rcases hk with hk | hk
    ·exact absurd hk (hn _ h0).1
    ·exact absurd hk hf
  subst key;exact ⟨c,by simp [Z28]⟩
 kind:=hk
 ncell:=λy hy=>(hn y hy).1
 names:=hl
theorem A7h {X:Cx} {N0:List Str} {x:Str} {scope:Scope} {j:Nat} (hN:X.N[j]? =some x) (h1:X.env.scope.names.lookup x=some .cell\/X.env.scope.names.lookup x=some .free)
  (h2:(relabel scope X.env).names.lookup x=some .cell\/(relabel scope X.env).names.lookup x=some .free):C8i X (N0++[x]) scope (List.replicate N0.length none++[some j]):=by
 refine ⟨by simp,λi k e=> ?_⟩;by_cases hi:i<N0.length
 ·rw [Z26 (by simpa using hi),List.getElem?_replicate] at e;split at e <;> cases e
 ·have hi':i=N0.length:=by
   have:=(Z03.mp e).1;simp at this;omega
  subst hi';rw [Z1l (by simp)] at e;have ek:j=k:=by simpa using e
  subst ek;exact ⟨x,by simp,hN,h1,h2⟩
theorem A0k {H H':Hp} {l:Addr} {o:HO} (s:A0r H H') (hl:H l=none):A0r H (upd H' l o):=λb u e=>by
 rw [A0e (A0i e hl)];exact s b u e
theorem A0g {H:Hp} {l:Addr} {o:HO} (hl:H l=none):A0r H (upd H l o):=A0k (A0r.refl H) hl
theorem A1h {n:Nat} (h:n<=1000000):n<=sizeLine:=by rw [sizeLine_eq];omega
theorem A0y {n:Nat} (h:n<=1000000):n<sizeLine:=by rw [sizeLine_eq];omega
noncomputable def A3p (S:Addr->Prop) (H:Hp):Hp:=λa=> @ite _ (S a) (Classical.propDecidable _) (H a) none
theorem B6t {S:Addr->Prop} {H:Hp} {a:Addr} (h:S a):A3p S H a=H a:=by unfold A3p;rw [Z12 h]
theorem C0e {S:Addr->Prop} {H:Hp} {a:Addr} (h:¬S a):A3p S H a=none:=by unfold A3p;rw [Z0t h]
theorem A2b {S:Addr->Prop} {H:Hp} {a:Addr} {o:HO} (h:A3p S H a=some o):S a/\H a=some o:=by
 by_cases hs:S a
 ·rw [B6t hs] at h;exact ⟨hs,h⟩
 ·rw [C0e hs] at h;cases h
theorem A6n {S:Addr->Prop} {H:Hp} {a:Addr} {o:HO} (hs:S a) (h:H a=some o):A3p S H a=some o:=by rw [B6t hs];exact h
theorem A8u {S:Addr->Prop} {H:Hp}:A0r (A3p S H) H:=λ_ _ e=>(A2b e).2
theorem A5w {S:Addr->Prop} {H H':Hp} (s:A0r H H'):A0r (A3p S H) (A3p S H'):=λb o e=>A6n (A2b e).1 (s _ _ (A2b e).2)
theorem A4f {S S':Addr->Prop} {H H':Hp} (s:A0r H H') (h:∀a o,H a=some o->S a->S' a):A0r (A3p S H) (A3p S' H'):=λb o e=>A6n (h _ _ (A2b e).2 (A2b e).1) (s _ _ (A2b e).2)
theorem A3l {S:Addr->Prop} {H H':Hp} {l:Addr} {o:HO} (s:A0r (A3p S H) (A3p S H')) (h:¬S l):A0r (A3p S H) (A3p S (upd H' l o)):=λb u e=>by
 have q:=A2b (s _ _ e);have hne:b≠l:=λz=>h (by rw [<-z];exact q.1);exact A6n q.1 (by rw [A0e hne];exact q.2)
mutual
theorem Rep.imp2 {H H':Hp} (f:∀p xs,H p=some (.lst xs)->H' p=some (.lst xs)) (g:∀p xs,H p=some (.tup xs)->H' p=some (.tup xs)):∀{v:V} {d:PyData},Rep H v d->Rep H' v d
 | _,_,.non=> .non
 | _,_,.bl b=> .bl b
 | _,_,.int i=> .int i
 | _,_,.str x=> .str x
 | _,_,.lst e r=> .lst (f _ _ e) (A2u.imp2 f g r)
 | _,_,.tup e r=> .tup (g _ _ e) (A2u.imp2 f g r)
theorem A2u.imp2 {H H':Hp} (f:∀p xs,H p=some (.lst xs)->H' p=some (.lst xs)) (g:∀p xs,H p=some (.tup xs)->H' p=some (.tup xs)):∀{vs:List V} {ds:List PyData},A2u H vs ds->A2u H' vs ds
 | _,_,.nil=> .nil
 | _,_,.cons a r=> .cons (Rep.imp2 f g a) (A2u.imp2 f g r)
end
theorem Rep.ins {H:Hp} {v:V} {d:PyData} {p C dx:Addr} {fs:List (Str×V)} {o:HO} (h:Rep H v d) (e:H p=some (.ins C dx fs)):Rep (upd H p o) v d :=
 h.imp2 (λq xs z=>by rw [A0e (A0z z e (by intro w;cases w))];exact z) (λq xs z=>by rw [A0e (A0z z e (by intro w;cases w))];exact z)
section
variable {G:Hp} {v:V} {vs:List V} {d:PyData} {ds:List PyData}
theorem C8z (h:Rep G v (.tuple ds)):∃p xs,v= .ref p/\G p=some (.tup xs)/\A2u G xs ds:=by
 cases h with
 | tup e r=>exact ⟨_,_,rfl,e,r⟩
theorem A5a (h:Rep G v (.list ds)):∃p xs,v= .ref p/\G p=some (.lst xs)/\A2u G xs ds:=by
 cases h with
 | lst e r=>exact ⟨_,_,rfl,e,r⟩
theorem C8m {x:Str} (h:Rep G v (.str x)):v= .str x:=by cases h;rfl
theorem C0l {x:Int} (h:Rep G v (.int x)):v= .int x:=by cases h;rfl
theorem B3i (h:A2u G vs (d::ds)):∃u r,vs=u::r/\Rep G u d/\A2u G r ds:=by
 cases h with
 | cons a r=>exact ⟨_,_,rfl,a,r⟩
theorem C4c (h:A2u G vs []):vs=[]:=by cases h;rfl
end
mutual
def cnt:PyData->Nat
 | .none=>1
 | .bool _=>1
 | .int _=>1
 | .str _=>1
 | .list xs=>A2s xs+1
 | .tuple xs=>A2s xs+1
 | .dict _=>1
def A2s:List PyData->Nat
 | []=>0
 | x::xs=>cnt x+A2s xs
end
theorem C7k (d:PyData):1<=cnt d:=by cases d <;> simp [cnt]
theorem B4s:∀ds:List PyData,ds.length<=A2s ds
 | []=>by simp [A2s]
 | d::r=>by
  have:=B4s r;have:=C7k d;simp only [A2s,Z0y];omega
theorem C2c:∀{ds:List PyData} {i:Nat} {d:PyData},ds[i]? =some d->cnt d<=A2s ds/\PyData.depth d<=PyData.depthAll ds
 | [],_,_,e=>by simp at e
 | d::r,0,_,e=>by
  simp at e;subst e;simp only [A2s,PyData.depthAll];omega
 | x::r,i+1,d,e=>by
  have:=C2c (ds:=r) (i:=i) (d:=d) (by simpa using e);simp only [A2s,PyData.depthAll];omega
theorem A2u.get2 {H:Hp}:∀{vs:List V} {ds:List PyData} {i:Nat} {v:V},A2u H vs ds->vs[i]? =some v->∃d,ds[i]? =some d/\Rep H v d
 | _,_,_,_,.nil,e=>by simp at e
 | _,_,0,_,.cons a _,e=>by simp at e;subst e;exact ⟨_,rfl,a⟩
 | _,_,i+1,v,.cons _ r,e=>by
  obtain ⟨d,h1,h2⟩:=A2u.get2 (i:=i) (v:=v) r (by simpa using e);exact ⟨d,by simpa using h1,h2⟩
theorem lk0 {k:Str} {v:V} {r:List (Str×V)}:List.lookup k ((k,v)::r)=some v:=by simp [Z28]
theorem lk1 {k j:Str} {v:V} {r:List (Str×V)} {o:Option V} (h:(k == j)=false) (e:List.lookup k r=o):List.lookup k ((j,v)::r)=o:=by
 rw [Z28,h];exact e
theorem A2c {f:Str} {v:V}:A5t f v []=[(f,v)]:=rfl
theorem A1x {f g:Str} {v x:V} {r:List (Str×V)} (h:¬g=f):A5t f v ((g,x)::r)=(g,x)::A5t f v r:=by rw [A5t,Z0t h]
theorem B8h {c A B:Prop} [Decidable c] (h1:c->A) (h2:¬c->B):if decide c=true then A else B :=
 C9i (λh=>h1 (of_decide_eq_true h)) (λh=>h2 λhc=>h (Z20 hc))
theorem D0s {c A B:Prop} [Decidable c] (h1:¬c->A) (h2:c->B):if (!decide c)=true then A else B :=
 C9i (λh=>h1 λhc=>by rw [Z20 hc] at h;cases h) (λh=>h2 (by
  by_cases hc:c
  ·exact hc
  ·rw [Z1j hc] at h;exact absurd rfl h))
section
variable {X:Cx}
theorem A8b {tg l:Expr} {tl:TE} (hl:PE X l tl):PI X tg l (λσ H R=>D0p X.K tl σ H R\/D4e X.K tl σ H R):=λpins s σ H R I h=>h.elim (A2d hl pins s σ H R I) (D1m hl pins s σ H R I)
end
theorem C6h {α:Type} {xs:List α} {i:Int} (h0:0<=i) (h1:i<xs.length):∃v,xs[i.toNat]? =some v/\atI xs i=some v:=by
 obtain ⟨n,rfl⟩:=Int.eq_ofNat_of_zero_le h0;have hn:n<xs.length:=by omega
 exact ⟨xs[n],by simp [hn],A9o (by simp [hn])⟩
theorem A9a {α:Type} {f:α->V} {xs:List α} {i:Int} (h0:0<=i) (h1:i<xs.length):∃x,xs[i.toNat]? =some x/\atI (xs.map f) i=some (f x):=by
 obtain ⟨n,rfl⟩:=Int.eq_ofNat_of_zero_le h0;have hn:n<xs.length:=by omega
 exact ⟨xs[n],by simp [hn],A9o (by simp [hn])⟩
section
variable {K:PySem.W.Frag} {a D:Addr} {xs:List V} {g:TG} {te:TE} {QD:Hp->Prop} {σ₀:St} {H:Hp}
theorem A2l (Pv:Nat->List V->Hp->Prop) (h0:Pv 0 [] (upd H D (.lst []))) (hl:∀i ys H,Pv i ys H->SqL K H a xs)
  (hs:∀i x ys H,xs[i]? =some x->Pv i ys H->g x σ₀ H λσ4 H4=>A2m σ₀ σ4/\te σ4 H4 λy H5=>H5 D=some (.lst ys)/\ys.length<sizeLine/\Pv (i+1) (ys++[y]) (upd H5 D (.lst (ys++[y])))) (hd:∀ys H,Pv xs.length ys H->QD H) :
  ∃W:Nat->Nat->Hp->Prop,(∃m,W 0 m (upd H D (.lst [])))/\∀i m H2,W i m H2->
   ((Itl K a).stop i H2/\QD H2)\/((Itl K a).go i H2/\∃N:VK,(∀y H5,N y H5->∃xs,H5 D=some (.lst xs)/\xs.length<sizeLine/\∃m',m'<m/\W (i+1) m' (upd H5 D (.lst (xs++[y]))))/\
    ∀x H3,(Itl K a).yld i H2 x H3->g x σ₀ H3 λσ4 H4=>A2m σ₀ σ4/\te σ4 H4 N):=C0x (Q:=λ_ H=>QD H) Pv h0 hl hs hd
theorem B9j (Pv:Nat->List V->Hp->Prop) (h0:Pv 0 [] (upd H D (.lst []))) (hl:∀i ys H,Pv i ys H->SqT K H a xs)
  (hs:∀i x ys H,xs[i]? =some x->Pv i ys H->g x σ₀ H λσ4 H4=>A2m σ₀ σ4/\te σ4 H4 λy H5=>H5 D=some (.lst ys)/\ys.length<sizeLine/\Pv (i+1) (ys++[y]) (upd H5 D (.lst (ys++[y])))) (hd:∀ys H,Pv xs.length ys H->QD H) :
  ∃W:Nat->Nat->Hp->Prop,(∃m,W 0 m (upd H D (.lst [])))/\∀i m H2,W i m H2->
   ((Itt K a).stop i H2/\QD H2)\/((Itt K a).go i H2/\∃N:VK,(∀y H5,N y H5->∃xs,H5 D=some (.lst xs)/\xs.length<sizeLine/\∃m',m'<m/\W (i+1) m' (upd H5 D (.lst (xs++[y]))))/\
    ∀x H3,(Itt K a).yld i H2 x H3->g x σ₀ H3 λσ4 H4=>A2m σ₀ σ4/\te σ4 H4 N):=C5c (Q:=λ_ H=>QD H) Pv h0 hl hs hd
end
theorem C2s {K:PySem.W.Frag} {C D:Addr} (h1:PySem.W.isClsIn K D=true) (h2:PySem.W.typeIn K (.ref D)=some (.type "type")) (h3:PySem.W.mroIn K C (.ref D)=some true):PySem.W.kitOne K (.ref C) (.ref D)=some true:=by
 unfold PySem.W.kitOne;split
 ·rfl
 ·show (if ((PySem.W.clsIn K D).isSome&&PySem.W.typeIn K (.ref D) == some (.type "type"))=true then PySem.W.subIn K (.ref C) (.ref D) else none)=some true;have h1':(PySem.W.clsIn K D).isSome=true:=h1;rw [Z12 (by rw [h1',h2];rfl)];exact h3
theorem A8y {K:PySem.W.Frag} {C D:Addr} (h0:(Value.ref C == Value.ref D)=false) (h1:PySem.W.isClsIn K D=true) (h2:PySem.W.typeIn K (.ref D)=some (.type "type")) (h3:PySem.W.mroIn K C (.ref D)=some false):PySem.W.kitOne K (.ref C) (.ref D)=some false:=by
 unfold PySem.W.kitOne;rw [Z0t (by rw [h0];exact Z0v)];show (if ((PySem.W.clsIn K D).isSome&&PySem.W.typeIn K (.ref D) == some (.type "type"))=true then PySem.W.subIn K (.ref C) (.ref D) else none)=some false;have h1':(PySem.W.clsIn K D).isSome=true:=h1;rw [Z12 (by rw [h1',h2];rfl)];exact h3
section
variable {X:Cx}
theorem Inv.frozen {pins:List (Addr×Obj)} {σ:St} {H:Hp} {s:Shared} {a:Addr} {o:Obj} {kvs:List (Key×V)} (I:Inv X pins σ H s) (ha:H a=some (.dK kvs)) (ho:s.heap.get? a=some o):Inv X pins σ (upd H a (.frz o (.dK kvs))) s :=
 I.write (t':=s.toks) (h':=s.heap) (e:=a) (by rw [ha];trivial) (.inl rfl) (λ_ _ _ e=>e) ⟨o,ho⟩ ⟨ho,(show A1c X.prog X.w H s.heap a (.dK kvs) from I.hok a _ ha)⟩
theorem Inv.thaw {pins:List (Addr×Obj)} {σ:St} {H:Hp} {s:Shared} {a:Addr} {o:Obj} {u:HO} (I:Inv X pins σ H s) (ha:H a=some (.frz o u)) (hu:∃kvs,u= .dK kvs) (h0:∀o' u',X.H₀ a≠some (.frz o' u')):Inv X pins σ (upd H a u) s:=by
 have nf:∀b,H b=none->upd H a u b=none:=λb e=>by rw [A0e (λz=>by subst z;rw [ha] at e;cases e)];exact e
 obtain ⟨kvs,rfl⟩:=hu
 refine ⟨I.ok,I.os,I.bare,⟨I.base.keep,I.base.slot,λb ob e n hx=>nf b (I.base.free b ob e n hx),I.base.there,λb xs e=> ?_,λb ob u' e=> ?_,λb ps e=> ?_⟩,I.loc,I.cell,nf _ I.free,λx c e=>nf _ (I.freeC x c e),
  λp hp=>⟨(I.pin p hp).1,nf _ (I.pin p hp).2.1,(I.pin p hp).2.2⟩,λb v e=> ?_,I.len⟩
 ·have q:=I.base.tups b xs e;rw [A0e (A0z q ha (by intro z;cases z))];exact q
 ·have q:=I.base.frzs b ob u' e;rw [A0e (λz=>by subst z;exact h0 _ _ e)];exact q
 ·obtain ⟨more,q⟩:=I.base.tbls b ps e;exact ⟨more,by rw [A0e (A0z q ha (by intro z;cases z))];exact q⟩
 ·by_cases hb:b=a
  ·subst hb;rw [A0b] at e;cases e;obtain ⟨_,q⟩:=(show A1c X.prog X.w H s.heap b (.frz o (.dK kvs)) from I.hok b _ ha);exact q
  ·rw [A0e hb] at e;exact (I.hok b v e).stay (λ_ _ _ q=>q) (λc q=>by rw [A0e (A0z q ha (by intro z;cases z))];exact q) λc xs q=>by rw [A0e (A0z q ha (by intro z;cases z))];exact q
def D3p (X:Cx) (t:TS):TS:=λD σ H=>∃a o kvs,H a=some (.frz o (.dK kvs))/\(∀o' u',X.H₀ a≠some (.frz o' u'))/\t D σ (upd H a (.dK kvs))
theorem B1r {sts:List Stmt} {t:TS} (h:PSs X sts t):PSs X sts (D3p X t):=by
 intro pins s σ H D I hw;obtain ⟨a,o,kvs,ha,h0,q⟩:=hw;exact h pins s σ _ D (I.thaw ha ⟨kvs,rfl⟩ h0) q
def Itd (a:Addr) (o:Obj) (kvs:List (Key×V)):It :=
 ⟨λi H=>H a=some (.frz o (.dK kvs))/\i<kvs.length,λi H x H'=>H'=H/\∃k v,kvs[i]? =some (k,v)/\x=kV k,λi H=>H a=some (.frz o (.dK kvs))/\i=kvs.length⟩
theorem D0x {P:Program} {w:World} {k:Key} {u:Value} (h:(A0l P w).is k u=true):A2a (kV k) u:=by
 rcases A1k (show B5c k u=true from h) with ⟨i,t,rfl,rfl⟩ | ⟨x,t,rfl,rfl⟩
 ·exact ⟨t,rfl⟩
 ·exact ⟨t,rfl⟩
theorem KV.at {kvs:List (Key×V)} {vs:List (Key×Value)}:KV kvs vs->∀{i:Nat} {k:Key} {v:V},kvs[i]? =some (k,v)->∃u,vs[i]? =some (k,u)/\A2a v u:=by
 intro r;unfold KV at r
 induction r with
 | nil=>intro i k v e;simp at e
 | @cons p q ps qs h t ih =>
  intro i k v e
  cases i with
  | zero =>
   simp at e;subst e;obtain ⟨h1,h2⟩:=h;obtain ⟨q1,q2⟩:=q;cases h1;exact ⟨q2,rfl,h2⟩
  | succ j =>
   obtain ⟨u,e1,e2⟩:=ih (i:=j) (by simpa using e);exact ⟨u,by simpa using e1,e2⟩
end
theorem C1p {P:Program} {w:World} {H:Hp} {h:Heap} {a:Addr} {o:Obj} {kvs:List (Key×V)} {es:Array DictEntry} {ep:Nat} (ok:HOk P w H h) (ha:H a=some (.frz o (.dK kvs))) (ho:o.data= .dict es ep) :
  (a == sysModules)=false/\∃vs,KV kvs vs/\h.DictAt (A0l P w) a vs ep:=by
 obtain ⟨e1,hz,hs,vs,rel,o',es',ep',e2,c,d,r⟩:=(show A1c P w H h a (.frz o (.dK kvs)) from ok a _ ha);rw [e1] at e2;cases e2;rw [ho] at d;cases d;exact ⟨hs,vs,rel,o,es,e1,c,ho,r⟩
theorem C0k {P:Program} {w:World} {K:PySem.W.Frag} {tg:Expr} (it a:Addr) (o:Obj) (kvs:List (Key×V)) (es:Array DictEntry) (ep:Nat) (ho:o.data= .dict es ep) :
  C6c P w K tg (Itd a o kvs) [it] it (λi h=>h.IsKeyIter it a i kvs.length ep) where
 mem:=by simp
 obj:=λi h st b hb=>by
  have e:b=it:=by simpa using hb
  subst e;obtain ⟨ob,e,_,d⟩:=st;exact ⟨ob,e,λv z=>by rw [d] at z;cases z⟩
 keep:=λi h h' st k=>st.at λob e=>k it (by simp) ob e
 item:=by
  intro X hP hw hK hc i pins s σ H E I hf st hg;subst hP hw hK;obtain ⟨ha,hi⟩:=hg;obtain ⟨f0,f1,f2,f3,f4,f5⟩:=hf it (by simp);obtain ⟨_,vs,rel,dd⟩:=C1p I.hok ha ho;have hl:=rel.length;obtain ⟨⟨k,v⟩,hkv⟩:∃p,kvs[i]? =some p:=⟨kvs[i],by simp [hi]⟩;obtain ⟨u,hu,_⟩:=rel.at hkv;rw [hl] at st;refine wpAny_pyNext_dict_item st dd hu λkey h' hk hit sb=> ?_;have I1:Inv X pins σ H { s with heap:=h',toks:=s.toks }:=I.turned (t':=s.toks) (λb ob hb e=>(sb.2 b hb).trans e) f0 f1 f3 f4 f5
  obtain ⟨ob,e,c,d⟩:=id hit;exact ⟨key,rfl,C0y (s:={ s with heap:=h' }) e c d (by decide) ⟨kV k,H,I1,D0x hk,⟨rfl,k,v,hkv,rfl⟩,by rw [hl];exact hit,λb hb=>(hf b hb).1⟩⟩
 done:=by
  intro X hP hw hK hc i pins s σ H E I hf st hg;subst hP hw hK;obtain ⟨ha,hi⟩:=hg;obtain ⟨f0,f1,f2,f3,f4,f5⟩:=hf it (by simp);obtain ⟨_,vs,rel,dd⟩:=C1p I.hok ha ho;have hl:=rel.length;rw [hl] at st;exact wpAny_pyNext_dict_end (I.ok.hd hc) st dd (by simp;omega) λh' eb=>⟨rfl,I.turned (t':=s.toks) (λb ob hb e=>eb b ob hb e) f0 f1 f3 f4 f5⟩
 self:=λ_ _ _ _ _ st h=>wpAny_pyIter_keyiter st h
def D3l (tl:TE):TI:=λσ H R=>tl σ H λx H1=>∃a kvs,x= .ref a/\H1 a=some (.dK kvs)/\∀o,R (Itd a o kvs) (upd H1 a (.frz o (.dK kvs)))
theorem B2a {X:Cx} {tg l:Expr} {tl:TE} (hl:PE X l tl):PI X tg l (D3l tl):=by
 intro pins s σ H R I h;refine thn (hl pins s σ H _ I h) λu s1 ⟨x,H1,I1,rx,a,kvs,ex,ha,q⟩=> ?_;subst ex;cases rx;obtain ⟨hz,hs,vs,rel,o,es,ep,ho,hx,hd,r⟩:=B8p I1.hok ha;have dd:s1.heap.DictAt (A0l X.prog X.w) a vs ep:=⟨o,es,ho,hx,hd,r⟩;refine wpAny_pyIter_dict hs dd ?_;have I2:Inv X pins σ H1 { s1 with heap:=s1.heap.push { cls:= .type "dict_keyiterator",data:= .fields #[.ref a,.int 0 0,.int vs.length 0,.int ep 0] },toks:=s1.toks }:=I1.kept λb ob e=>Z01 _ e
 have I3:=I2.frozen ha (Z01 _ ho);refine ⟨_,[s1.heap.objs.size],_,_,_,rfl,I3,C0k _ a o kvs es ep hd,?_,λb hb=> ?_,q o⟩
 ·rw [rel.length];exact ⟨_,Z0c _ rfl,rfl,rfl⟩
 ·have e:b=s1.heap.objs.size:=by simpa using hb
  subst e;refine I1.fpOk (Z09 _) ?_;rw [A0e (Z1q (I1.hok.lt ha))];exact I1.hok.fresh (Z09 _)
theorem B2i {a:Addr} {o:Obj} {kvs:List (Key×V)} {g:TG} {tb:TS} {D:B7o} {σ:St} {H:Hp} (Pv:Nat->St->Hp->Prop) (h0:Pv 0 σ H) (hl:∀i σ H,Pv i σ H->H a=some (.frz o (.dK kvs)))
  (hs:∀i k v σ H,kvs[i]? =some (k,v)->Pv i σ H->g (kV k) σ H λσ2 H2=>tb { D with nx:=Pv (i+1),ct:=Pv (i+1),bk:=D.nx } σ2 H2) (hd:∀σ H,Pv kvs.length σ H->D.nx σ H) :
  ∃W:Nat->Nat->St->Hp->Prop,(∃m,W 0 m σ H)/\∀i m σ H,W i m σ H->
   ((Itd a o kvs).stop i H/\D.nx σ H)\/((Itd a o kvs).go i H/\∃N:St->Hp->Prop,(∀σ' H',N σ' H'->∃m',m'<m/\W (i+1) m' σ' H')/\∀x H',(Itd a o kvs).yld i H x H'->g x σ H' λσ2 H2=>tb { D with nx:=N,ct:=N,bk:=D.nx } σ2 H2):=by
 refine ⟨λi m σ H=>m=kvs.length-i/\i<=kvs.length/\Pv i σ H,⟨kvs.length,by simp,Z1e _,h0⟩,?_⟩;rintro i m σ H ⟨rfl,hi,p⟩;by_cases hlt:i<kvs.length
 ·refine .inr ⟨⟨hl i σ H p,hlt⟩,Pv (i+1),λσ' H' p'=>⟨kvs.length-(i+1),by omega,rfl,hlt,p'⟩,λx H' y=> ?_⟩;obtain ⟨e,k,v,e1,rfl⟩:=y;subst e;exact hs i k v σ _ e1 p
 ·have e:i=kvs.length:=by omega
  subst e;exact .inl ⟨⟨hl _ σ H p,rfl⟩,hd σ H p⟩
theorem A4k {H H2:Hp} {a:Addr} {o:Obj} {u:HO} (ha:H a=some u) (s:A0r (upd H a (.frz o u)) H2):A0r H (upd H2 a u):=λb v e=>by
 by_cases hb:b=a
 ·subst hb;rw [ha] at e;cases e;exact A0b
 ·rw [A0e hb];exact s b v (by rw [A0e hb];exact e)
section
variable {X:Cx}
end
section
variable {prog:Program} {w:World} {A:Around} {E:Value->Shared->Prop} {s:Shared}
theorem B8x {v d:Addr} {od:Obj} {es:Array DictEntry} {ep:Nat} {Q:Value->Shared->Prop} (h1:s.heap.IsItemsView v d) (h2:s.heap.get? d=some od) (h3:od.data= .dict es ep)
  (q:Q (.ref s.heap.objs.size) { s with heap:=s.heap.push { cls:= .type "dict_itemiterator",data:= .fields #[.none,.bool false,.ref d,.int 0 0,.int es.size 0,.int ep 0,.none,.none] } }) :
  wpAny (model prog w) A (pyIter (.ref v)) Q E s:=by
 obtain ⟨ov,g1,g2,g3⟩:=id h1;refine wpAny_pyIter_slot h1.typeIs F.slot_dict_items_iter (Z1g F.slot_dict_items_iter h1.typeIs F.entry_dict_items_iter ?_ (F.args_dict_items_iter_1 _));unfold Builtin.«dict_items.__iter__»;refine Z00 (Z04 (Z00 ?_));unfold Builtin.Dict_items.dictOf;refine Z00 (Z11 g1 g3 (x:= .ref d) rfl (Z04 (Z00 ?_)));unfold Builtin.Dict_items.newIterator;refine Z00 (wpAny_dictEntries h2 h3 (Z00 (wpAny_dictEpoch h2 h3 ?_)));simp only [show Builtin.Dict_items.ownsTuple "dict_itemiterator"=true by decide,if_true]
 refine Z16 (Z04 ⟨_,rfl,"dict_itemiterator",_,⟨_,Z0c _ rfl,rfl⟩,F.slot_dict_itemiterator_next.lookup,?_⟩) (by
  simp only [sizeOk,Builtin.Dict_items.ownedTupleFields,Z0g,Z06,Z0y,List.length_nil,sizeLine_eq]
  omega)
 simpa [rawInt,Builtin.Dict_items.ownedTupleFields] using q
theorem B8l {it d:Addr} {i n ep:Nat} {od:Obj} {es:Array DictEntry} {e:DictEntry} {x y:Value} {Q:Option Value->Shared->Prop}
  (h1:IsItemIter s.heap it d i n ep x y) (h2:s.heap.get? d=some od) (h3:od.data= .dict es ep) (h4:es.size=n) (h5:es[i]? =some e)
  (q:∀h',IsItemIterOut h' it d (i+1) n ep e.key e.val s.heap.objs.size->h'.get? s.heap.objs.size=some { cls:= .type "tuple",data:= .seq #[e.key,e.val] }->
   (∀c u,c≠it->s.heap.get? c=some u->h'.get? c=some u)->Q (some (.ref s.heap.objs.size)) { s with heap:=h' }) :
  wpAny (model prog w) A (pyNext (.ref it)) Q E s:=by
 obtain ⟨hp,g,dr,tk,os⟩:=s;have ty:Shared.TypeIs ⟨hp,g,dr,tk,os⟩ (.ref it) "dict_itemiterator":=⟨_,h1,rfl⟩;unfold pyNext;refine Z00 (wpAny_attempt (Z1b (name:=Str.ofString "__next__") ty F.slot_dict_itemiterator_next (Z1g F.slot_dict_itemiterator_next ty F.entry_dict_itemiterator_next ?_ (F.args_dict_itemiterator_next_1 _))));refine Z00 (Z04 (Z00 (Z00 ?_)));refine Z00 (wpAny_typeNameOfWhole_itemiter ty (Z04 (Z00 (wpAny_fieldsOf h1 rfl ?_))));simp only [show Builtin.Dict_items.ownsTuple "dict_itemiterator"=true by decide,if_true];show wpAny _ _ (ite ((Value.ref d == Value.none)=true) _ _) _ _ _;rw [Z0t (show¬((Value.ref d == Value.none)=true) from Z0v)];refine Z00 (Z04 (Z00 (wpAny_dictEntries h2 h3 ?_)));rw [Z0t (by rw [h4];simp)];refine Z00 (Z04 (Z00 (wpAny_dictEpoch h2 h3 ?_)));rw [Z0t (by simp)];obtain ⟨lt,ee⟩:=Array.getElem?_eq_some_iff.mp h5;refine Z04 ?_;simp only [show¬((i:Int)<0) from by omega,if_false,Int.toNat_natCast,h5];refine Z00 (Z00 (wpAny_typeNameOfWhole_itemiter ty (Z04 (Z00 (wpAny_isOneOf_itemiter ty ?_)))));show wpAny _ _ (setField (.ref it) 3 (rawInt ((i:Int)+1)) >>= _) _ _ (⟨hp,g,dr,tk,os⟩:Shared);refine Z00 (Z1h h1 (by simp) λk1 e1 s1=> ?_)
 replace s1:Heap.SameBut it hp k1:=s1
 replace e1:IsItemIter k1 it d (i+1) n ep x y:=by
  have z:((i+1:Nat):Int)=(i:Int)+1:=by omega
  unfold IsItemIter;rw [z]
  simpa [rawInt] using e1
 have ty1:Shared.TypeIs ⟨k1,g,dr,tk,os⟩ (.ref it) "dict_itemiterator":=⟨_,e1,rfl⟩;refine Z00 (Z1w (Z00 (wpAny_isOneOf_itemiter ty1 (Z00 (wpAny_isOneOf_itemiter ty1 ?_)))));show wpAny _ _ (Builtin.Dict_items.pairFromOwner (.ref it) 6 e.key e.val) _ _ (⟨k1,g,dr,tk,os⟩:Shared);unfold Builtin.Dict_items.pairFromOwner;refine Z00 (wpAny_newTuple ?_);have z1:k1.objs.size=hp.objs.size:=s1.1;have li:it<hp.objs.size:=Z0a h1;have e2:IsItemIter (k1.push { cls:= .type "tuple",data:= .seq #[e.key,e.val] }) it d (i+1) n ep x y:=Z01 _ e1;have t2:(k1.push { cls:= .type "tuple",data:= .seq #[e.key,e.val] }).get? hp.objs.size=some { cls:= .type "tuple",data:= .seq #[e.key,e.val] }:=by rw [<-z1];exact Z0c _ rfl
 have m2:∀b o,b≠it->hp.get? b=some o->(k1.push { cls:= .type "tuple",data:= .seq #[e.key,e.val] }).get? b=some o:=λb o hb z=>Z01 _ (s1.extBut b o hb z);generalize k1.push { cls:= .type "tuple",data:= .seq #[e.key,e.val] }=k2 at e2 t2 m2;show wpAny _ _ (Builtin.Dict_items.ownedTupleIsFree (.ref it) >>= _) _ _ (⟨k2,g,dr,tk,os⟩:Shared);rw [z1];clear e1 s1 ty1 z1 k1;refine Z00 ?_;unfold Builtin.Dict_items.ownedTupleIsFree;refine Z00 (Z11 e2 rfl (x:= .none) rfl (Z04 ?_));simp only [if_true];refine Z00 (Z11 e2 rfl (x:=x) rfl (Z00 (Z11 e2 rfl (x:=y) rfl (Z00 (Z1h e2 (by simp) λk3 e3 s3=> ?_)))))
 replace s3:Heap.SameBut it k2 k3:=s3
 replace e3:IsItemIter k3 it d (i+1) n ep e.key y:=e3
 refine Z00 (Z1h e3 (by simp) λk4 e4 s4=> ?_)
 replace s4:Heap.SameBut it k3 k4:=s4
 replace e4:IsItemIter k4 it d (i+1) n ep e.key e.val:=e4
 refine Z00 (Z1h e4 (by simp) λk5 e5 s5=> ?_)
 replace s5:Heap.SameBut it k4 k5:=s5
 replace e5:IsItemIterOut k5 it d (i+1) n ep e.key e.val hp.objs.size:=e5
 refine Z00 (Z1h e5 (by simp) λk6 e6 s6=> ?_)
 replace s6:Heap.SameBut it k5 k6:=s6
 replace e6:IsItemIterOut k6 it d (i+1) n ep e.key e.val hp.objs.size:=e6
 have all:∀b o,b≠it->k2.get? b=some o->k6.get? b=some o:=λb o hb z=>s6.extBut b o hb (s5.extBut b o hb (s4.extBut b o hb (s3.extBut b o hb z)));exact Z00 (wpAny_letGo (Z04 (Z04 ⟨_,rfl,Z04 (q k6 e6 (all _ _ (Z1q li) t2) λb o hb z=>all b o hb (m2 b o hb z))⟩)))
theorem B9m {it d:Addr} {i n ep:Nat} {od:Obj} {es:Array DictEntry} {x y:Value} {Q:Option Value->Shared->Prop} (hh:A.handled=none)
  (h1:IsItemIter s.heap it d i n ep x y) (h2:s.heap.get? d=some od) (h3:od.data= .dict es ep) (h4:es.size=n) (h5:n<=i)
  (q:∀h',Heap.ExtBut it s.heap h'->Q none { s with heap:=h' }):wpAny (model prog w) A (pyNext (.ref it)) Q E s:=by
 have ty:s.TypeIs (.ref it) "dict_itemiterator":=⟨_,h1,rfl⟩;unfold pyNext;refine Z00 (wpAny_attempt (Z1b (name:=Str.ofString "__next__") ty F.slot_dict_itemiterator_next (Z1g F.slot_dict_itemiterator_next ty F.entry_dict_itemiterator_next ?_ (F.args_dict_itemiterator_next_1 _))));refine Z00 (Z04 (Z00 (Z00 ?_)));refine Z00 (wpAny_typeNameOfWhole_itemiter ty (Z04 (Z00 (wpAny_fieldsOf h1 rfl ?_))));simp only [show Builtin.Dict_items.ownsTuple "dict_itemiterator"=true by decide,if_true];show wpAny _ _ (ite ((Value.ref d == Value.none)=true) _ _) _ _ _;rw [Z0t (show¬((Value.ref d == Value.none)=true) from Z0v)];refine Z00 (Z04 (Z00 (wpAny_dictEntries h2 h3 ?_)));rw [Z0t (by rw [h4];simp)];refine Z00 (Z04 (Z00 (wpAny_dictEpoch h2 h3 ?_)));rw [Z0t (by simp)];refine Z04 ?_;simp only [show¬((i:Int)<0) from by omega,if_false,Int.toNat_natCast,Array.getElem?_eq_none (show es.size<=i by omega)];refine Z00 (Z00 (wpAny_typeNameOfWhole_itemiter ty (Z04 ?_)));show wpAny _ _ (setField (.ref it) 2 .none >>= _) _ _ _;refine Z00 (Z1t h1 rfl (by simp) ?_);show wpAny _ _ (newExc (.type "StopIteration") [] >>= _) _ _ (_:Shared);refine Z00 ?_;simp only [newExc,newTuple];refine Z00 (Z16 (Z00 (m:=firstArgMember _ _) (wpAny_of_eq (a:=Value.none) (by first | rfl | (simp only [firstArgMember];rfl)) (Z16 ?_ (by size_fits)))) (by size_fits));simp only [raiseNew];refine Z00 (wpAny_handled ?_);rw [show A.in1.handled=none from hh];refine Z00 (Z04 (wpAny_throw ?_));refine Z00 (wpAny_isInstance (T:="StopIteration") (b:=true) ⟨_,Z0c _ rfl,rfl⟩ isSubtype_stop (Z04 ?_));exact q _ (((Heap.SameBut.update ..).extBut.push _).push _)
theorem B5r:entryFor table "dict_itemiterator.__iter__"=some Builtin.«dict_keyiterator.__iter__»:=entryFor_alias (id':="dict_keyiterator.__iter__") (by kernel_rfl) rfl (by decide +kernel) (by kernel_rfl)
theorem B8y {it d:Addr} {i n ep:Nat} {x y:Value} {Q:Value->Shared->Prop} (st:IsItemIter s.heap it d i n ep x y) (h:Q (.ref it) s):wpAny (model prog w) A (pyIter (.ref it)) Q E s:=by
 have ty:s.TypeIs (.ref it) "dict_itemiterator":=⟨_,st,rfl⟩;refine wpAny_pyIter_slot ty F.slot_dict_itemiterator_iter (Z1g F.slot_dict_itemiterator_iter ty B5r ?_ (F.args_dict_itemiterator_iter_1 _));show wpAny _ _ (ret (.ref it)) _ _ s;exact Z04 ⟨_,rfl,"dict_itemiterator",_,ty,F.slot_dict_itemiterator_next.lookup,h⟩
theorem B9f (d:Addr) (hd:(d == sysModules)=false) :
  MeetsIn prog w (Builtin.«dict.items» ⟨[.ref d],[]⟩) (λ_ R s=>s.TypeIs (.ref d) "dict"/\R (.ok (.ret (.ref s.heap.objs.size))) { s with heap:=s.heap.push { cls:= .type "dict_items",data:= .fields #[.ref d] } }) :=
 .of_wp λA R s ⟨ty,q⟩=>by
  unfold Builtin.«dict.items»;refine Z00 ?_;unfold Builtin.Dict.noArgs;refine Z00 (wpAny_notOrdered_dict ty ?_);show wpAny _ _ (pure d) _ _ s;refine Z04 ?_;show wpAny _ _ (Builtin.Dict.showsAll d >>= _) _ _ s;unfold Builtin.Dict.showsAll;rw [Z0t (by rw [hd];exact Z0v)];exact Z00 (Z04 (Z00 (Z16 (Z04 ⟨_,rfl,q⟩))))
end
section
variable {X:Cx}
def isD (u:HO):Prop:=(∃kvs,u= .dK kvs)\/∃kvs,u= .dT kvs
def B2t (v d:Addr):HO:= .ext λh=>h.IsItemsView v d
theorem C3b {P:Program} {w:World} {H:Hp} {h:Heap} {v d:Addr} (e:h.IsItemsView v d):A1c P w H h v (B2t v d) :=
 ⟨e,let ⟨o,e1,_⟩:=e;⟨o,e1⟩,λh1 h2 ⟨o,e1,e2⟩ k=>⟨o,k o e1,e2⟩⟩
theorem C6k {P:Program} {w:World} {H:Hp} {h:Heap} {a:Addr} {u:HO} (hu:isD u) (x:A1c P w H h a u):(a == sysModules)=false/\∃o es ep,h.get? a=some o/\o.ExactDict/\o.data= .dict es ep:=by
 rcases hu with ⟨kvs,rfl⟩ | ⟨kvs,rfl⟩
 ·obtain ⟨hz,hs,vs,rel,o,es,ep,ho,hx,hd,r⟩:=x;exact ⟨hs,o,es,ep,ho,hx,hd⟩
 ·obtain ⟨hz,hs,vs,rel,o,es,ep,ho,hx,hd,r⟩:=x;exact ⟨hs,o,es,ep,ho,hx,hd⟩
def C9v:V->List V->Hp->VK->Prop:=λx vs H Q=>∃a u,x= .ref a/\vs=[]/\H a=some u/\isD u/\∀p,H p=none->Q (.ref p) (upd H p (B2t p a))
theorem B7f:MtR X "dict.items" C9v:=by
 intro pins s σ H x xs v us Q I rx rv h;obtain ⟨a,u,rfl,rfl,ha,hu,q⟩:=h;cases rx;cases rv;obtain ⟨hs,o,es,ep,ho,hx,hd⟩:=C6k hu (I.hok a u ha);have ty:s.TypeIs (.ref a) "dict":=⟨o,ho,hx.1⟩;refine call_meetsIn PySem.F.slot_dict_items ty PySem.F.entry_dict_items (PySem.F.args_dict_items_1 _) (B9f a hs) ⟨ty,?_⟩;exact ⟨.ref s.heap.objs.size,_,I.laid (t':=s.toks) (o:=B2t s.heap.objs.size a) (λb u e=>Z01 _ e) (Z09 _) (C3b ⟨_,Z0c _ rfl,rfl,rfl⟩),rfl,q _ (I.hok.fresh (Z09 _))⟩
theorem Inv.frozenD {pins:List (Addr×Obj)} {σ:St} {H:Hp} {s:Shared} {a:Addr} {o:Obj} {u:HO} (I:Inv X pins σ H s) (ha:H a=some u) (hu:isD u) (ho:s.heap.get? a=some o):Inv X pins σ (upd H a (.frz o u)) s:=by
 have nt:∀b xs,H b=some (.tup xs)->upd H a (.frz o u) b=some (.tup xs):=λb xs q=>by
  rw [A0e (A0z q ha (by rcases hu with ⟨_,rfl⟩ | ⟨_,rfl⟩ <;> intro z <;> cases z))];exact q
 have no:∀b,H b=some (.own a)->upd H a (.frz o u) b=some (.own a):=λb q=>by
  rw [A0e (A0z q ha (by rcases hu with ⟨_,rfl⟩ | ⟨_,rfl⟩ <;> intro z <;> cases z))];exact q
 have new:A1c X.prog X.w (upd H a (.frz o u)) s.heap a (.frz o u):=⟨ho,(I.hok a u ha).stay (λ_ _ _ q=>q) no nt⟩;exact I.write (t':=s.toks) (h':=s.heap) (e:=a) (by rw [ha];rcases hu with ⟨_,rfl⟩ | ⟨_,rfl⟩ <;> trivial) (.inl rfl) (λ_ _ _ e=>e) ⟨o,ho⟩ new
theorem Inv.thawD {pins:List (Addr×Obj)} {σ:St} {H:Hp} {s:Shared} {a:Addr} {o:Obj} {u:HO} (I:Inv X pins σ H s) (ha:H a=some (.frz o u)) (hu:isD u) (h0:∀o' u',X.H₀ a≠some (.frz o' u')):Inv X pins σ (upd H a u) s:=by
 have nf:∀b,H b=none->upd H a u b=none:=λb e=>by rw [A0e (λz=>by subst z;rw [ha] at e;cases e)];exact e
 have nt:∀b xs,H b=some (.tup xs)->upd H a u b=some (.tup xs):=λb xs q=>by rw [A0e (A0z q ha (by intro z;cases z))];exact q
 have no:∀b c,H b=some (.own c)->upd H a u b=some (.own c):=λb c q=>by rw [A0e (A0z q ha (by intro z;cases z))];exact q
 refine ⟨I.ok,I.os,I.bare,⟨I.base.keep,I.base.slot,λb ob e n hx=>nf b (I.base.free b ob e n hx),I.base.there,λb xs e=>nt b xs (I.base.tups b xs e),λb ob u' e=> ?_,λb ps e=> ?_⟩,I.loc,I.cell,nf _ I.free,λx c e=>nf _ (I.freeC x c e),
  λp hp=>⟨(I.pin p hp).1,nf _ (I.pin p hp).2.1,(I.pin p hp).2.2⟩,λb v e=> ?_,I.len⟩
 ·have q:=I.base.frzs b ob u' e;rw [A0e (λz=>by subst z;exact h0 _ _ e)];exact q
 ·obtain ⟨more,q⟩:=I.base.tbls b ps e;exact ⟨more,by rw [A0e (A0z q ha (by intro z;cases z))];exact q⟩
 ·by_cases hb:b=a
  ·subst hb;rw [A0b] at e;cases e;obtain ⟨_,q⟩:=(show A1c X.prog X.w H s.heap b (.frz o u) from I.hok b _ ha);exact q.stay (λ_ _ _ q=>q) (λc q=>no c b q) λc xs q=>nt c xs q
  ·rw [A0e hb] at e;exact (I.hok b v e).stay (λ_ _ _ q=>q) (λc q=>no c b q) λc xs q=>nt c xs q
def D1l (X:Cx) (t:TS):TS:=λD σ H=>∃a o u,H a=some (.frz o u)/\isD u/\(∀o' u',X.H₀ a≠some (.frz o' u'))/\t D σ (upd H a u)
theorem B3p {sts:List Stmt} {t:TS} (h:PSs X sts t):PSs X sts (D1l X t):=by
 intro pins s σ H D I hw;obtain ⟨a,o,u,ha,hu,h0,q⟩:=hw;exact h pins s σ _ D (I.thawD ha hu h0) q
abbrev D1y (es:Array DictEntry) (L:List (V×V)):Prop:=Paired (λ(e:DictEntry) (p:V×V)=>A2a p.1 e.key/\A2a p.2 e.val) es.toList L
def Iti (a:Addr) (o:Obj) (u:HO) (L:List (V×V)):It :=
 ⟨λi H=>H a=some (.frz o u)/\i<L.length,λi H x H'=>∃k v p,L[i]? =some (k,v)/\H p=none/\x= .ref p/\H'=upd H p (.tup [k,v]),λi H=>H a=some (.frz o u)/\i=L.length⟩
theorem A7q {α β:Type} {F:α->β->Prop}:∀{l:List α} {m:List β},Paired F l m->l.length=m.length
 | _,_,.nil=>rfl
 | _,_,.cons _ t=>by simp [A7q t]
theorem A4l {α β:Type} {F:α->β->Prop}:∀{l:List α} {m:List β},Paired F l m->∀{i:Nat} {y:β},m[i]? =some y->∃x,l[i]? =some x/\F x y
 | _,_,.nil,i,y,e=>by simp at e
 | _,_,.cons r t,0,y,e=>by simp at e;subst e;exact ⟨_,rfl,r⟩
 | _,_,.cons r t,i+1,y,e=>by
  obtain ⟨x,e1,e2⟩:=A4l t (i:=i) (by simpa using e);exact ⟨x,by simpa using e1,e2⟩
theorem B8k {P:Program} {w:World} {K:PySem.W.Frag} {elts:List Expr} {kk:Nat} {pos:Pos} (it a:Addr) (o:Obj) (u:HO) (L:List (V×V)) (es:Array DictEntry) (ep:Nat) (ho:o.data= .dict es ep) (rl:D1y es L) :
  C6c P w K (.Tuple elts kk pos) (Iti a o u L) [it] it (λi h=>∃x y,IsItemIter h it a i es.size ep x y) where
 mem:=by simp
 obj:=λi h st b hb=>by
  have e:b=it:=by simpa using hb
  subst e;obtain ⟨x,y,e⟩:=st;exact ⟨_,e,λv z=>by cases (show Data.fields _=Data.cell v from z)⟩
 keep:=λi h h' st k=>let ⟨x,y,e⟩:=st;⟨x,y,k it (by simp) _ e⟩
 item:=by
  intro X hP hw hK hc i pins s σ H E I hf st hg;subst hP hw hK;obtain ⟨ha,hi⟩:=hg;obtain ⟨x,y,st⟩:=st;have hl:es.size=L.length:=by have:=A7q rl;simpa using this
  obtain ⟨⟨k,v⟩,hkv⟩:∃p,L[i]? =some p:=⟨L[i],by simp [hi]⟩;obtain ⟨e,he,r1,r2⟩:=A4l rl hkv;obtain ⟨hob,_⟩:=(show A1c X.prog X.w H s.heap a (.frz o u) from I.hok a _ ha);refine B8l st hob ho rfl (e:=e) (by simpa using he) λh' z1 z2 kp=> ?_;refine ⟨_,rfl,wpAny_letOwnedTupleGo_items (s:={ s with heap:=h' }) z1 λg zg sb=> ?_⟩
  have nz:s.heap.objs.size≠it:=Z1q (Z0a st)
  have I1:Inv X pins σ (upd H s.heap.objs.size (.tup [k,v])) { s with heap:=g,toks:=s.toks }:=I.turnedNew (ts:=[it]) (λc o hc e=>by
   have hc':c≠it:=by simpa using hc
   exact sb.extBut _ _ hc' (kp c o hc' e)) hf (Z09 _) ⟨by show 2<=sizeLine;decide,[e.key,e.val],.cons r1 (.cons r2 .nil),⟨_,sb.extBut _ _ nz z2,rfl,_,rfl⟩⟩
  refine ⟨.ref s.heap.objs.size,_,I1,rfl,⟨k,v,_,hkv,I.hok.fresh (Z09 _),rfl,rfl⟩,⟨_,_,zg⟩,λc hc=> ?_⟩;have hcn:c=it:=by simpa using hc
  subst hcn;rw [A0e nz.symm];exact (hf c hc).1
 done:=by
  intro X hP hw hK hc i pins s σ H E I hf st hg;subst hP hw hK;obtain ⟨ha,hi⟩:=hg;obtain ⟨x,y,st⟩:=st;have hl:es.size=L.length:=by have:=A7q rl;simpa using this
  obtain ⟨hob,_⟩:=(show A1c X.prog X.w H s.heap a (.frz o u) from I.hok a _ ha);obtain ⟨f0,f1,f2,f3,f4,f5⟩:=hf it (by simp);exact B9m (I.ok.hd hc) st hob ho rfl (by omega) λh' eb=>⟨rfl,I.turned (t':=s.toks) (λb ob hb e=>eb b ob hb e) f0 f1 f3 f4 f5⟩
 self:=λ_ _ s _ _ st h=>by
  obtain ⟨x,y,st⟩:=st;exact B8y st h
end
section
abbrev KL (H:Hp) (kvs:List (List Key×V)) (L:List (V×V)):Prop:=Paired (λ(p:List Key×V) (q:V×V)=>∃b,q.1= .ref b/\H b=some (.tup (p.1.map kV))/\q.2=p.2) kvs L
theorem B3t {α β:Type} {F:α->β->Prop}:∀{l:List α} {m:List β},l.length=m.length->(∀(i:Nat) (x:α) (y:β),l[i]? =some x->m[i]? =some y->F x y)->Paired F l m
 | [],[],_,_=> .nil
 | [],_::_,e,_=>by simp at e
 | _::_,[],e,_=>by simp at e
 | x::l,y::m,e,h=> .cons (h 0 x y rfl rfl) (B3t (by simpa using e) λi a b p q=>h (i+1) a b (by simpa using p) (by simpa using q))
theorem C9p {P:Program} {w:World} {kvs:List (Key×V)} {vs:List (Key×Value)} {es:Array DictEntry} (r:KV kvs vs) (p:Pairs (A0l P w) es.toList vs):D1y es (kvs.map λq=>(kV q.1,q.2)):=by
 refine B3t (by rw [p.length,Z08];exact r.length.symm) λi e y he hy=> ?_;rw [Z1z] at hy;obtain ⟨⟨k,v⟩,hk,rfl⟩:=Z0i.mp hy;obtain ⟨u,hu,ru⟩:=r.at hk;obtain ⟨h1,h2⟩:=p.get? he hu;subst h2;exact ⟨D0x h1,ru⟩
theorem C6j {P:Program} {w:World} {H:Hp}:∀{kvs:List (List Key×V)} {xs:List (List Key×Addr×Value)},KT H kvs xs->
  ∃L,Paired (λ(e:DictEntry) (p:V×V)=>A2a p.1 e.key/\A2a p.2 e.val) (xs.map (entryOfKey (tupleKind (A0l P w)))) L/\KL H kvs L
 | _,_,.nil=>⟨[],.nil,.nil⟩
 | _,_,@Paired.cons _ _ _ p q _ _ h t=>by
  obtain ⟨L,h1,h2⟩:=C6j (P:=P) (w:=w) t;exact ⟨(.ref q.2.1,p.2)::L,.cons ⟨rfl,h.2.2⟩ h1,.cons ⟨q.2.1,rfl,h.2.1,rfl⟩ h2⟩
def D1r (tl:TE):TI:=λσ H R=>tl σ H λx H1=>∃v a u,x= .ref v/\H1 v=some (B2t v a)/\H1 a=some u/\
 ((∃kvs,u= .dK kvs/\∀o,R (Iti a o u (kvs.map λq=>(kV q.1,q.2))) (upd H1 a (.frz o u)))\/∃kvs,u= .dT kvs/\∀o L,KL H1 kvs L->R (Iti a o u L) (upd H1 a (.frz o u)))
theorem B7r {X:Cx} {l:Expr} {tl:TE} {elts:List Expr} {kk:Nat} {pos:Pos} (hl:PE X l tl):PI X (.Tuple elts kk pos) l (D1r tl):=by
 intro pins s σ H R I h;refine thn (hl pins s σ H _ I h) λy s1 ⟨x,H1,I1,rx,v,a,u,ex,hv,ha,q⟩=> ?_;subst ex;cases rx;obtain ⟨vw,_⟩:=(show A1c X.prog X.w H1 s1.heap v (B2t v a) from I1.hok v _ hv)
 have go:∀(o:Obj) (es:Array DictEntry) (ep:Nat) (L:List (V×V)),s1.heap.get? a=some o->o.data= .dict es ep->isD u->D1y es L->R (Iti a o u L) (upd H1 a (.frz o u))->
   wpAny (model X.prog X.w) X.A (pyIter (.ref v)) (PIE X pins σ (.Tuple elts kk pos) R) X.xe s1:=by
  intro o es ep L ho hd hu rl qq;refine B8x vw ho hd ?_;have I2:Inv X pins σ H1 { s1 with heap:=s1.heap.push { cls:= .type "dict_itemiterator",data:= .fields #[.none,.bool false,.ref a,.int 0 0,.int es.size 0,.int ep 0,.none,.none] },toks:=s1.toks }:=I1.kept λb ob e=>Z01 _ e
  have I3:=I2.frozenD ha hu (Z01 _ ho);refine ⟨_,[s1.heap.objs.size],_,_,_,rfl,I3,B8k _ a o u L es ep hd rl,⟨.none,.none,Z0c _ rfl⟩,λb hb=> ?_,qq⟩;have e:b=s1.heap.objs.size:=by simpa using hb
  subst e;refine I1.fpOk (Z09 _) ?_;rw [A0e (Z1q (I1.hok.lt ha))];exact I1.hok.fresh (Z09 _)
 rcases q with ⟨kvs,rfl,q⟩ | ⟨kvs,rfl,q⟩
 ·obtain ⟨hz,hs,vs,rel,o,es,ep,ho,hx,hd,_,r,_⟩:=B8p I1.hok ha;exact go o es ep _ ho hd (.inl ⟨_,rfl⟩) (C9p rel r) (q o)
 ·obtain ⟨hz,hs,xs,rel,o,es,ep,ho,hx,hd,he,_⟩:=(show A1c X.prog X.w H1 s1.heap a (.dT kvs) from I1.hok a _ ha);obtain ⟨L,h1,h2⟩:=C6j (P:=X.prog) (w:=X.w) rel;exact go o es ep L ho hd (.inr ⟨_,rfl⟩) (by unfold D1y;rw [he];exact h1) (q o L h2)
theorem B3a {a:Addr} {o:Obj} {u:HO} {L:List (V×V)} {g:TG} {tb:TS} {D:B7o} {σ:St} {H:Hp} (Pv:Nat->St->Hp->Prop) (h0:Pv 0 σ H) (hl:∀i σ H,Pv i σ H->H a=some (.frz o u))
  (hs:∀i k v p σ H,L[i]? =some (k,v)->H p=none->Pv i σ H->g (.ref p) σ (upd H p (.tup [k,v])) λσ2 H2=>tb { D with nx:=Pv (i+1),ct:=Pv (i+1),bk:=D.nx } σ2 H2) (hd:∀σ H,Pv L.length σ H->D.nx σ H) :
  ∃W:Nat->Nat->St->Hp->Prop,(∃m,W 0 m σ H)/\∀i m σ H,W i m σ H->
   ((Iti a o u L).stop i H/\D.nx σ H)\/((Iti a o u L).go i H/\∃N:St->Hp->Prop,(∀σ' H',N σ' H'->∃m',m'<m/\W (i+1) m' σ' H')/\∀x H',(Iti a o u L).yld i H x H'->g x σ H' λσ2 H2=>tb { D with nx:=N,ct:=N,bk:=D.nx } σ2 H2):=by
 refine ⟨λi m σ H=>m=L.length-i/\i<=L.length/\Pv i σ H,⟨L.length,by simp,Z1e _,h0⟩,?_⟩;rintro i m σ H ⟨rfl,hi,p⟩;by_cases hlt:i<L.length
 ·refine .inr ⟨⟨hl i σ H p,hlt⟩,Pv (i+1),λσ' H' p'=>⟨L.length-(i+1),by omega,rfl,hlt,p'⟩,λx H' y=> ?_⟩;obtain ⟨k,v,q,e1,e2,rfl,rfl⟩:=y;exact hs i k v q σ _ e1 e2 p
 ·have e:i=L.length:=by omega
  subst e;exact .inl ⟨⟨hl _ σ H p,rfl⟩,hd σ H p⟩
end
section
variable {X:Cx}
def D1o (H:Hp):Prop:=(∀a kvs,H a=some (.dK kvs)->(kvs.map (·.1)).Nodup)/\∀a kvs,H a=some (.dT kvs)->(kvs.map (·.1)).Nodup
theorem C8r {kvs:List (Key×V)} {vs:List (Key×Value)} (r:KV kvs vs):kvs.map (·.1)=vs.map (·.1):=by
 unfold KV at r
 induction r with
 | nil=>rfl
 | cons h t ih=>rw [Z0p,Z0p,ih,h.1]
theorem C8b {H:Hp} {kvs:List (List Key×V)} {xs:List (List Key×Addr×Value)} (r:KT H kvs xs):kvs.map (·.1)=xs.map (·.1):=by
 induction r with
 | nil=>rfl
 | cons h t ih=>rw [Z0p,Z0p,ih,h.1]
theorem Inv.apart {pins:List (Addr×Obj)} {σ:St} {H:Hp} {s:Shared} (I:Inv X pins σ H s):D1o H:=by
 refine ⟨λa kvs e=> ?_,λa kvs e=> ?_⟩
 ·obtain ⟨_,_,vs,rel,o,es,ep,_,_,_,_,_,n⟩:=B8p I.hok e;rw [C8r rel];exact n
 ·obtain ⟨_,_,xs,rel,o,es,ep,_,_,_,_,n⟩:=(show A1c X.prog X.w H s.heap a (.dT kvs) from I.hok a _ e);rw [C8b rel];exact n
theorem C2r {sts:List Stmt} {t:TS} (h:PSs X sts t):PSs X sts (λD σ H=>D1o H->t D σ H):=λpins s σ H D I q=>h pins s σ H D I (q I.apart)
theorem B2d {κ:Type} [DecidableEq κ] {kvs:List (κ×V)} {i:Nat} {k:κ} {v:V} (n:(kvs.map (·.1)).Nodup) (h:kvs[i]? =some (k,v)) (ws:List (κ×V)) (e:ws.map (·.1)=(kvs.take i).map (·.1)) (u:V):A6x ws k u=ws++[(k,u)]:=by
 unfold A6x;rw [Z0t];intro a;obtain ⟨p,hp,ek⟩:=List.any_eq_true.mp a;have ek:p.1=k:=by simpa using ek
 have hm:k∈ws.map (·.1):=Z2c.mpr ⟨p,hp,ek⟩;rw [e] at hm;obtain ⟨q,hq,eq⟩:=Z2c.mp hm;obtain ⟨j,hj,ej⟩:=List.mem_iff_getElem.mp hq;have hji:j<i:=by have:=List.length_take_le i kvs;omega
 rw [List.getElem_take] at ej;obtain ⟨hi,ei⟩:=Z03.mp h;have hjl:j<kvs.length:=by omega
 have h1:(kvs.map λx=>x.1)[j]? =some k:=by rw [Z1z,Z0b hjl,ej];exact congrArg some eq
 have h2:(kvs.map λx=>x.1)[i]? =some k:=by rw [Z1z,h];rfl
 obtain ⟨l1,e1⟩:=Z03.mp h1;obtain ⟨l2,e2⟩:=Z03.mp h2;have:j=i:=(List.getElem_inj n).mp (e1.trans e2.symm);omega
end
theorem C1w:typeLookup (.type "list") "keys"=pure none:=by rw [typeLookup_type,builtinLookup_eq_fast];kernel_rfl
theorem A3c:entryFor table "dict.update.loop"=some Builtin.«dict.update.loop»:=entryFor_of_tree (by kernel_rfl)
theorem A1g:plainId "dict.update.loop"=true:=by decide +kernel
theorem C1y {prog:Program} {w:World} {A:Around} {E:Value->Shared->Prop} {s:Shared} {a:Addr} {o:Obj} {xs:Array Value} {k:Nat} {Q:Option Value->Shared->Prop}
  (hx:s.heap.get? a=some o) (hc:o.cls= .type "list") (hdat:o.data= .seq xs k) (hd:o.dict=none) (hA:A.handled=none)
  (h:∀h' tk,(∀b ob,s.heap.get? b=some ob->h'.get? b=some ob)->Q none { s with heap:=h',toks:=tk }):wpAny (model prog w) A (getAttr? (.ref a) "keys") Q E s:=by
 obtain ⟨c,dct,dat,sl⟩:=o;simp only at hc hdat hd;subst hc hdat hd;obtain ⟨hp,g,d,tk,os⟩:=s;have hT:∀tk',(⟨hp,g,d,tk',os⟩:Shared).TypeIs (.ref a) "list":=λ_=>⟨_,hx,rfl⟩;have f1:=sub_AttributeError;have f3:=F.slot_list_getattribute.lookup;have f4:=F.slot_list_getattribute.bind (.ref a);have f5:=am_list_getattr_none;unfold getAttr? getAttrBy? getAttrBy
 repeat (any_goals (first | assumption | exact hT _ | ((with_reducible show wpAny _ _ (call (Value.builtin "list.__getattribute__") _ _) _ _ _);refine call_meets F.slot_list_getattribute (hT _) am_entry_list_getattribute (F.args_list_getattribute_2 _ _) (meets_getattribute_miss_list a xs k sl "keys" _ C1w (by decide) (by decide)) ⟨hx,hA,λh' tk' e hx'=> ?_⟩) | wp_step))
 obtain ⟨t',u',he⟩:=hx'.there;show wpAny _ _ (getattributeRaised _ _ _ _ _ _ _) _ _ _;unfold getattributeRaised
 repeat (any_goals (first | assumption | wp_step))
 all_goals exact h _ _ hx'.1
section
variable {prog:Program} {w:World} {K:Type} [DecidableEq K] {knd:KeyKind prog w K} {A:Around} {R:Result->Shared->Prop} {I l d:Addr} {items:Array Value} {rs:List (K×Value)} {h₀:Heap} {g:Array GenState} {dr:Drawn} {os:OsState}
def C9c (knd:KeyKind prog w K) (h:Heap) (I d:Addr) (items:Array Value) (rs:List (K×Value)):Prop:=items.size=rs.length/\∀(i:Nat) (v:Value) (k:K) (u:Value),items[i]? =some v->rs[i]? =some (k,u)->
 ∃(b:Addr) (o:Obj) (n:Nat) (kv:Value),v= .ref b/\b≠I/\b≠d/\h.get? b=some o/\o.cls= .type "tuple"/\o.data= .seq #[kv,u] n/\knd.is k kv=true
theorem C4q (hh:A.handled=none) (hne:l≠I) (hdI:d≠I) (hdl:d≠l) (hsz:rs.length<=sizeLine) (pa:C9c knd h₀ I d items rs) (hl:h₀.IsList l items)
  (fin:∀h' tk,h'.DictOf knd d (merged [] rs)->(∀b o,b≠I->b≠d->h₀.get? b=some o->h'.get? b=some o)->R (.ok (.ret .none)) ⟨h',g,dr,tk,os⟩) :
  ∀(k i:Nat) (h:Heap) (tk:Nat),rs.length-i=k->i<=rs.length->h.IsListIter I l i->(∀b o,b≠I->b≠d->h₀.get? b=some o->h.get? b=some o)->h.DictOf knd d (merged [] (rs.take i))->
   codeAny (model prog w) A (.builtin "dict.update.loop" ⟨[.ref d,.ref I,rawInt i,.none],[]⟩) R ⟨h,g,dr,tk,os⟩:=by
 have W:=Walks.list (prog:=prog) (w:=w) (A:=A.in1) hh I l hne items;intro k
 induction k with
 | zero =>
  intro i h tk hk hi hit kp hD;have hin:i=items.size:=by have:=pa.1;omega
  have hin':i=rs.length:=by omega
  refine codeAny_builtin A3c ?_;rw [Around.under_plainId A1g _];show wpAny _ A.in1 (pyNext (.ref I) >>= _) _ _ _;refine Z00 (W.done ⟨h,g,dr,tk,os⟩ _ _ (by rw [<-hin];exact ⟨hit,hl.at λo e=>kp l o hne (Ne.symm hdl) e⟩) λh' tk' kp'=> ?_);show wpAny _ A.in1 (Builtin.Dict.addKeywords d [] >>= λ_=>ret Value.none) _ _ _;rw [hin',Z18] at hD;obtain ⟨od,es,ep,ho,r⟩:=hD;refine Z00 (Z04 (Z04 (fin h' tk' ⟨od,es,ep,kp' d od (by simpa using hdI) ho,r⟩ λb o h1 h2 e=>kp' b o (by simpa using h1) (kp b o h1 h2 e))))
 | succ k ih =>
  intro i h tk hk hi hit kp hD;have hlt:i<items.size:=by have:=pa.1;omega
  refine codeAny_builtin A3c ?_;rw [Around.under_plainId A1g _];show wpAny _ A.in1 (pyNext (.ref I) >>= _) _ _ _;refine Z00 (W.item i ⟨h,g,dr,tk,os⟩ _ _ hlt ⟨hit,hl.at λo e=>kp l o hne (Ne.symm hdl) e⟩ λv h' tk' hv hst' kp'=> ?_);obtain ⟨⟨k',u⟩,hku⟩:∃p,rs[i]? =some p:=⟨rs[i]'(by have:=pa.1;omega),Z0b _⟩;obtain ⟨b,o,n,kv,rfl,hbI,hbd,hb,hcl,hdat,his⟩:=pa.2 i v k' u hv hku;have hb':h'.get? b=some o:=kp' b o (by simpa using hbI) (kp b o hbI hbd hb);have hT:(⟨h',g,dr,tk',os⟩:Shared).TypeIs (.ref b) "tuple":=⟨_,hb',hcl⟩;show wpAny _ A.in1 (holding [Value.ref b] _ >>= _) _ _ _;refine Z00 (Z1w (Z00 (wpAny_tryCatch ?_)));unfold Builtin.Dict.pairItems;refine Z00 (wpAny_typeOf hT ?_);rw [Z12 (by decide)];refine Z00 (Z21 hb' hdat (Z04 ?_));show wpAny _ A.in1 (holding [kv,u] (dictSet d kv u)) _ _ _
  have hD':h'.DictOf knd d (merged [] (rs.take i)):=by
   obtain ⟨od,es,ep,ho,r⟩:=hD;exact ⟨od,es,ep,kp' d od (by simpa using hdI) ho,r⟩
  have hlen:(merged [] (rs.take i)).length<=sizeLine:=by
   have e1:=merged_length_le ([]:List (K×Value)) (rs.take i);have e2:(rs.take i).length<=rs.length:=by rw [Z0x];omega
   simp only [List.length_nil,Nat.zero_add] at e1;omega
  refine Z1w (wpAny_dictSet_pairs (hsz:=hlen) (s:=⟨h',g,dr,tk',os⟩) his hD' λh2 hD2 sb=> ?_);rw [<-merged_take_succ [] rs i (k',u) hku] at hD2;refine Z04 ⟨plainId_quiet A1g _,ih (i+1) h2 _ (by omega) (by have:=pa.1;omega) ?_ ?_ hD2⟩
  ·exact hst'.1.at λo e=>(sb.2 I (Ne.symm hdI)).trans e
  ·intro c oc h1 h2' e;exact (sb.2 c h2').trans (kp' c oc (by simpa using h1) (kp c oc h1 h2' e))
end
def A9l (env:Env):List (Str×Addr)->Prop
 | []=>True
 | p::r=>env.cells.lookup p.1=some p.2/\A9l env r
theorem A9l.get {env:Env}:∀{cl:List (Str×Addr)},A9l env cl->∀{x:Str} {c:Addr},cl.lookup x=some c->env.cells.lookup x=some c
 | [],_,_,_,h=>by cases h
 | (y,d)::r,h,x,c,e=>by
  rw [Z28] at e;split at e
  ·rename_i hb;have hb':x=y:=by simpa using hb
   cases e
   subst hb';exact h.1
  ·exact A9l.get h.2 e
theorem A6o {x:Str}:∀{cl:List (Str×Addr)},x∈cl.map (·.1)->∃c,cl.lookup x=some c
 | [],h=>by cases h
 | (y,d)::r,h=>by
  rw [Z28]
  cases hb:(x == y) with
  | true=>exact ⟨d,rfl⟩
  | false =>
   have hne:x≠y:=by simpa using hb
   rcases Z0e.mp h with e | e
   ·exact absurd e hne
   ·exact A6o e
theorem A6w {X:Cx} {scope:Scope} {cl:List (Str×Addr)} {xs:List Str} (he:closureFor scope X.env=pure cl) (hc:A9l X.env cl) (hx:cl.map (·.1)=xs) (hk:scope.kind= .function) (hn:∀y∈scope.names,y.2≠.cell/\(y.2= .free->y.1∈xs))
  (hl:∀y∈scope.names,y.2= .local->scope.names.lookup y.1=some .local):C6i X scope cl where
 eq:=he
 sub:=λy d h=>hc.get h
 has:=λy h=>by
  have key:y∈xs:=by
   have m:∃k,(y,k)∈(relabel scope X.env).names/\(k= .cell\/k= .free):=h.elim (λz=>⟨_,A4j z,.inl rfl⟩) λz=>⟨_,A4j z,.inr rfl⟩;obtain ⟨k,hm,hk⟩:=m;obtain ⟨⟨n,k0⟩,h0,e⟩:=Z2c.mp hm;dsimp only at e;by_cases hf:k0= .free
   ·have en:n=y:=by
     split at e
     ·exact congrArg Prod.fst e
     ·exact congrArg Prod.fst e
    rw [<-en];exact (hn _ h0).2 hf
   ·have hb:(k0 == NameKind.free)=false:=by simpa using hf
    simp only [hb,Bool.false_and,Bool.false_eq_true,if_false] at e;have e2:k0=k:=congrArg Prod.snd e;subst e2;rcases hk with hk | hk
    ·exact absurd hk (hn _ h0).1
    ·exact absurd hk hf
  rw [<-hx] at key;exact A6o key
 kind:=hk
 ncell:=λy hy=>(hn y hy).1
 names:=hl
def B2x (X:Cx) (scope:Scope):List Str->List Nat->Prop
 | [],[]=>True
 | x::xs,j::js=>(X.N[j]? =some x/\(X.env.scope.names.lookup x=some .cell\/X.env.scope.names.lookup x=some .free)/\((relabel scope X.env).names.lookup x=some .cell\/(relabel scope X.env).names.lookup x=some .free))/\B2x X scope xs js
 | _,_=>False
theorem B2x.get {X:Cx} {scope:Scope}:∀{xs:List Str} {js:List Nat},B2x X scope xs js->xs.length=js.length/\∀(i j:Nat),js[i]? =some j->∃x,xs[i]? =some x/\X.N[j]? =some x/\(X.env.scope.names.lookup x=some .cell\/X.env.scope.names.lookup x=some .free)/\((relabel scope X.env).names.lookup x=some .cell\/(relabel scope X.env).names.lookup x=some .free)
 | [],[],_=>⟨rfl,λi j e=>by simp at e⟩
 | x::xs,j::js,h=>by
  obtain ⟨e,f⟩:=B2x.get h.2;refine ⟨by simp [e],λi k ek=> ?_⟩
  cases i with
  | zero=>simp at ek;subst ek;exact ⟨x,rfl,h.1⟩
  | succ i=>exact f i k (by simpa using ek)
 | [],_::_,h=>h.elim
 | _::_,[],h=>h.elim
theorem A6p {X:Cx} {N0 xs:List Str} {js:List Nat} {scope:Scope} (h:B2x X scope xs js):C8i X (N0++xs) scope (List.replicate N0.length none++js.map some):=by
 obtain ⟨hl,hf⟩:=h.get;refine ⟨by simp [hl],λi k e=> ?_⟩;by_cases hi:i<N0.length
 ·rw [Z26 (by simpa using hi),List.getElem?_replicate] at e;split at e <;> cases e
 ·rw [Z1l (by simpa using hi),List.length_replicate,Z1z] at e;obtain ⟨j,ej,ek⟩:=Z0i.mp e;cases ek;obtain ⟨x,h1,h2,h3,h4⟩:=hf _ _ ej;exact ⟨x,by rw [Z1l (by omega)];exact h1,h2,h3,h4⟩
abbrev PL (H:Hp) (xs:List V) (kvs:List (Key×V)):Prop:=Paired (λ(x:V) (p:Key×V)=>∃b,x= .ref b/\H b=some (.tup [kV p.1,p.2])) xs kvs
section
variable {X:Cx}
theorem C5y {pins:List (Addr×Obj)} {σ:St} {H:Hp} {s:Shared} (I:Inv X pins σ H s):∀{xs:List V} {kvs:List (Key×V)} {its:List Value},PL H xs kvs->A1v xs its->
  ∃rs,KV kvs rs/\Paired (λ(v:Value) (p:Key×Value)=>∃(b:Addr) (o:Obj) (n:Nat) (kv:Value),v= .ref b/\s.heap.get? b=some o/\o.cls= .type "tuple"/\o.data= .seq #[kv,p.2] n/\(A0l X.prog X.w).is p.1 kv=true) its rs
 | _,_,_,.nil,.nil=>⟨[],.nil,.nil⟩
 | _,_,_,@Paired.cons _ _ _ x p _ _ ⟨b,e,hb⟩ t,.cons rv vs=>by
  obtain ⟨rs,h1,h2⟩:=C5y I t vs;subst e;cases rv;obtain ⟨_,its,r,o,g1,g2,n,g3⟩:=(show A1c X.prog X.w H s.heap b (.tup [kV p.1,p.2]) from I.hok b _ hb)
  cases r with
  | cons r1 r =>
   cases r with
   | cons r2 r =>
    cases r
    exact ⟨(p.1,_)::rs,.cons ⟨rfl,r2⟩ h1,.cons ⟨b,o,n,_,rfl,g1,g2,g3,B5j r1⟩ h2⟩
theorem B7x (hc:X.calm=true):A5y X (.type "dict") (λvs H Q=>∃a xs kvs,vs=[V.ref a]/\H a=some (.lst xs)/\PL H xs kvs/\∀p,H p=none->Q (.ref p) (upd H p (.dK (A3f [] kvs)))):=by
 intro pins s σ H vs us Q I r h;obtain ⟨a,xs,kvs,rfl,ha,pl,q⟩:=h;obtain ⟨u,rfl,ru⟩:=B3d r;cases ru;obtain ⟨z,its,n,rv,hl,e⟩:=I.lstM ha;obtain ⟨rs,kv,rp⟩:=C5y I pl rv;have hh:X.A.handled=none:=I.ok.hd hc;have lk:kvs.length=xs.length:=(Paired.length pl).symm;have lr:rs.length=kvs.length:=kv.length.symm;have hn:=I.hok.fresh (Z09 s.heap.objs.size);refine callType_codes (Q₁:=λobj s₁=>obj= .ref s.heap.objs.size/\s₁={ s with heap:=s.heap.push { cls:= .type "dict",data:= .dict #[] } }) F.kt_called_dict (F.kt_typeCall_dict_1 _) F.entry_dict_init (kt_code_dict_new _ ⟨rfl,rfl⟩) ?_;rintro obj s₁ ⟨rfl,rfl⟩;have hnew:(s.heap.push { cls:= .type "dict",data:= .dict #[] }).DictOf (A0l X.prog X.w) s.heap.objs.size []:=Heap.DictOf.new s.heap;have e1:(s.heap.push { cls:= .type "dict",data:= .dict #[] }).get? a=some { cls:= .type "list",data:= .seq its.toArray n }:=Z01 _ e;have hTl:Shared.TypeIs { s with heap:=s.heap.push { cls:= .type "dict",data:= .dict #[] } } (.ref a) "list":=⟨_,e1,rfl⟩;refine ⟨hnew.typeIs,F.args_dict_init_2 _ _,?_⟩;unfold Builtin.«dict.__init__»;refine Z00 ?_;unfold Builtin.Dict.selfAndRest;refine Z00 (wpAny_notOrdered_dict hnew.typeIs ?_);show wpAny _ _ (pure (s.heap.objs.size,[Value.ref a])) _ _ _;refine Z04 ?_;show wpAny _ _ (Builtin.Dict.updateFrom "dict.__init__" s.heap.objs.size (.ref a) [] .none) _ _ _;unfold Builtin.Dict.updateFrom;refine Z00 (wpAny_typeOf hTl ?_);rw [Z12 (by decide)];refine Z00 (C1y (o:={ cls:= .type "list",data:= .seq its.toArray n }) e1 rfl rfl rfl (by simpa using hh) λh1 tk1 kp1=> ?_)
 rw [Z12 (show (none:Option Value).isNone=true from rfl)];refine Z00 (wpAny_rule ?_);have hl1:h1.IsList a its.toArray:=⟨_,kp1 _ _ e1,rfl,n,rfl⟩;refine Z00 (wpAny_pyIter_list (s:={ s with heap:=h1,toks:=tk1 }) hl1 ?_);have la:a<h1.objs.size:=Z0a (kp1 _ _ e1);have ld:s.heap.objs.size<h1.objs.size:=let ⟨_,_,_,g,_⟩:=hnew;Z0a (kp1 _ _ g);have las:a<s.heap.objs.size:=Z0a e;refine Z04 ⟨plainId_quiet A1g _,C4q (knd:=A0l X.prog X.w) (rs:=rs) (l:=a) (items:=its.toArray) (h₀:=h1.push { cls:= .type "list_iterator",data:= .fields #[.ref a,.int 0 0] }) (by simpa using hh) (Z0h la) (Z0h ld) (Z1q las) (by omega) ?_ (hl1.push _) ?_ rs.length 0 _ _ (by omega) (Z1e _) ⟨_,Z0c _ rfl,rfl,rfl⟩ (λ_ _ _ _ z=>z) ?_⟩
 ·refine ⟨by simp;omega,λi v k u hv hku=> ?_⟩;obtain ⟨x,hx,b,o,m,kv,ev,g1,g2,g3,g4⟩:=A4l rp hku
  have ex:x=v:=by
   have hv:its[i]? =some v:=by simpa using hv
   rw [hx] at hv;exact Z1a hv
  subst ex;have lb:=Z0a g1;exact ⟨b,o,m,kv,ev,Z0h (Nat.lt_trans lb ld),Z0h lb,Z01 _ (kp1 _ _ (Z01 _ g1)),g2,g3,g4⟩
 ·intro h' tk dd kp;refine ⟨rfl,.ref s.heap.objs.size,_,I.laid (t':=tk) (o:= .dK (A3f [] kvs)) (λb u eb=>kp b u (Z0h (Nat.lt_trans (Z0a eb) ld)) (Z0h (Z0a eb)) (Z01 _ (kp1 _ _ (Z01 _ eb)))) (Z09 _) ⟨?_,?_,_,KV.merge kv .nil,dd⟩,rfl,q _ hn⟩
  ·have:=A3i kvs [];simp only [List.length_nil] at this;omega
  ·have:=I.big;have hne:s.heap.objs.size≠sysModules:=Z1q this
   simpa using hne
 ·obtain ⟨od,es,ep,g,r⟩:=hnew;exact ⟨od,es,ep,Z01 _ (kp1 _ _ g),r⟩
end
def C9r (K:PySem.W.Frag) (a b:Addr):It :=
 ⟨λi H=>∃xs ys x y,SqL K H a xs/\SqL K H b ys/\xs[i]? =some x/\ys[i]? =some y,
  λi H v H'=>∃p,H p=none/\v= .ref p/\∃x y,(∀xs,SqL K H a xs->xs[i]? =some x)/\(∀ys,SqL K H b ys->ys[i]? =some y)/\H'=upd H p (.tup [x,y]),
  λi H=>∃xs ys,SqL K H a xs/\SqL K H b ys/\(xs.length<=i\/ys.length<=i)⟩
def C5h (z TI TO i1 i2 a b:Addr) (i:Nat) (h:Heap):Prop:=IsZip h z TI TO .none/\IsPair h TI (.ref i1) (.ref i2)/\(∃u v,IsPair h TO u v)/\h.IsListIter i1 a i/\h.IsListIter i2 b i
theorem B9w {P:Program} {w:World} {K:PySem.W.Frag} {elts:List Expr} {kk:Nat} {pos:Pos} {z TI TO i1 i2 a b:Addr} (D:ZipApart z TI TO i1 i2 a b) :
  C6c P w K (.Tuple elts kk pos) (C9r K a b) [z,TI,TO,i1,i2] z (C5h z TI TO i1 i2 a b) where
 mem:=by simp
 obj:=λi h st c hc=>by
  obtain ⟨h1,h2,⟨u,v,h3⟩,h4,h5⟩:=st;simp only [Z0e,Z1i,or_false] at hc;rcases hc with rfl | rfl | rfl | rfl | rfl
  ·exact ⟨_,h1,λv z=>by cases (show Data.fields _=Data.cell v from z)⟩
  ·exact ⟨_,h2,λv z=>by cases (show Data.seq _ _=Data.cell v from z)⟩
  ·exact ⟨_,h3,λv z=>by cases (show Data.seq _ _=Data.cell v from z)⟩
  ·exact (A1p _ a).ob h4
  ·exact (A1p _ b).ob h5
 keep:=λi h h' st k=>by
  obtain ⟨h1,h2,⟨u,v,h3⟩,h4,h5⟩:=st;exact ⟨k z (by simp) _ h1,k TI (by simp) _ h2,⟨u,v,k TO (by simp) _ h3⟩,(A1p i1 a).mv h4 λo e=>k i1 (by simp) o e,(A1p i2 b).mv h5 λo e=>k i2 (by simp) o e⟩
 item:=by
  intro X hP hw hK hc i pins s σ H E I hf st hg;subst hP hw hK;obtain ⟨xs,ys,x,y,hq1,hq2,hx,hy⟩:=hg;obtain ⟨its,rv,p1,_⟩:=I.list hq1;obtain ⟨its2,rv2,p2,_⟩:=I.list hq2;obtain ⟨u,hu,ru⟩:=rv.get hx;obtain ⟨u2,hu2,ru2⟩:=rv2.get hy;obtain ⟨h1,h2,⟨o1,o2,h3⟩,h4,h5⟩:=st;refine B7j (A1p i1 a) (A1p i2 b) D h1 h2 h3 h4 h5 p1.isList p2.isList (x:=u) (by simpa using hu) (y:=u2) (by simpa using hu2) λh' z1 z2 z3 z4 z5 kp=> ?_;refine ⟨_,rfl,wpAny_letOwnedTupleGo_zip (s:={ s with heap:=h' }) z1 λg zg sb=> ?_⟩
  have nz:s.heap.objs.size≠z:=Z1q (Z0a h1);have n2:TI<s.heap.objs.size:=Z0a h2;have n3:TO<s.heap.objs.size:=Z0a h3;have n4:i1<s.heap.objs.size:=let ⟨_,e,_⟩:=(A1p i1 a).ob h4;Z0a e;have n5:i2<s.heap.objs.size:=let ⟨_,e,_⟩:=(A1p i2 b).ob h5;Z0a e;have zq:IsPair g s.heap.objs.size u u2:=sb.extBut _ _ nz z5
  have I1:Inv X pins σ (upd H s.heap.objs.size (.tup [x,y])) { s with heap:=g,toks:=s.toks }:=I.turnedNew (ts:=[z,TI,TO,i1,i2]) (λc o hc e=>by
   simp only [Z0e,Z1i,or_false,not_or] at hc
   exact sb.extBut _ _ hc.1 (kp c o hc.1 hc.2.2.1 hc.2.2.2.1 hc.2.2.2.2 e)) hf (Z09 _) ⟨by show 2<=sizeLine;decide,[u,u2],.cons ru (.cons ru2 .nil),⟨_,zq,rfl,_,rfl⟩⟩
  refine ⟨.ref s.heap.objs.size,_,I1,rfl,⟨_,I.hok.fresh (Z09 _),rfl,x,y,λzs hz=>by rw [I.list_inj hz hq1];exact hx,λzs hz=>by rw [I.list_inj hz hq2];exact hy,rfl⟩,
   ⟨zg,sb.extBut _ _ D.TIz (kp _ _ D.TIz D.TITO D.TIi1 D.TIi2 h2),⟨_,_,sb.extBut _ _ D.TOz z2⟩,(A1p i1 a).mv z3 λo e=>sb.extBut _ _ D.i1z e,(A1p i2 b).mv z4 λo e=>sb.extBut _ _ D.i2z e⟩,λc hc=> ?_⟩
  have hcn:c≠s.heap.objs.size:=by
   simp only [Z0e,Z1i,or_false] at hc;rcases hc with rfl | rfl | rfl | rfl | rfl
   ·exact nz.symm
   ·exact Z0h n2
   ·exact Z0h n3
   ·exact Z0h n4
   ·exact Z0h n5
  rw [A0e hcn];exact (hf c hc).1
 done:=by
  intro X hP hw hK hc i pins s σ H E I hf st hg;subst hP hw hK;obtain ⟨xs,ys,hq1,hq2,hx⟩:=hg;obtain ⟨its,rv,p1,_⟩:=I.list hq1;obtain ⟨its2,rv2,p2,_⟩:=I.list hq2;have e1:=rv.length;have e2:=rv2.length;obtain ⟨h1,h2,⟨o1,o2,h3⟩,h4,h5⟩:=st;refine B9n (A1p i1 a) (A1p i2 b) (I.ok.hd hc) D h1 h2 h3 h4 h5 p1.isList p2.isList (by simp;omega) λh' kp=>⟨rfl,?_⟩
  exact I.turnedL (t':=s.toks) (ts:=[z,TI,TO,i1,i2]) (λc o hc e=>by
   simp only [Z0e,Z1i,or_false,not_or] at hc
   exact kp c o hc.1 hc.2.2.1 hc.2.2.2.1 hc.2.2.2.2 e) hf
 self:=λ_ _ _ _ _ st h=>wpAny_pyIter_zip st.1 h
abbrev C3q (h:Heap) (l1 l2:Addr):Heap:=(zipH1 h l1).push { cls:= .type "list_iterator",data:= .fields #[.ref l2,.int 0 0] }
abbrev C3f (h:Heap) (l1 l2:Addr):Heap:=(C3q h l1 l2).push { cls:= .type "tuple",data:= .seq #[.ref h.objs.size,.ref (zipH1 h l1).objs.size] }
abbrev C3y (h:Heap) (l1 l2:Addr):Heap:=(C3f h l1 l2).push { cls:= .type "tuple",data:= .seq #[.none,.none] }
abbrev B8r (h:Heap) (l1 l2:Addr):Heap:=(C3y h l1 l2).push { cls:= .type "zip",data:= .fields #[.none,.bool false,.bool false,.ref (C3q h l1 l2).objs.size,.ref (C3f h l1 l2).objs.size] }
theorem B2c (l1 l2:Addr) (xs ys:Array Value):Meets (Builtin.«zip.__new__» ⟨[.type "zip",.ref l1,.ref l2],[]⟩) (λ_ R s=>s.heap.IsList l1 xs/\s.heap.IsList l2 ys/\
  R (.ok (.ret (.ref (C3y s.heap l1 l2).objs.size))) { s with heap:=B8r s.heap l1 l2 }) :=
 .of_wp λprog w A R s h=>by
  obtain ⟨hp,g,d,tk,os⟩:=s;obtain ⟨hl1,hl2,h⟩:=h;have hsub:=sub_zip;have hL1:Heap.IsList (Shared.heap ⟨hp,g,d,tk,os⟩) l1 xs:=hl1;have hL2:Heap.IsList (Shared.heap ⟨hp.push { cls:= .type "list_iterator",data:= .fields #[.ref l1,.int 0 0] },g,d,tk,os⟩) l2 ys:=Heap.IsList.push hl2 _
  wp_walk using wpAny_pyIter_list hL1,wpAny_pyIter_list hL2
  exact ⟨_,rfl,h⟩
theorem B3z {prog:Program} {w:World} {A:Around} {E:Value->Shared->Prop} {s:Shared} {l1 l2:Addr} {xs ys:Array Value} {Q:Value->Shared->Prop} (hl1:s.heap.IsList l1 xs) (hl2:s.heap.IsList l2 ys)
  (h:∀h',C5h (s.heap.objs.size+4) (s.heap.objs.size+2) (s.heap.objs.size+3) s.heap.objs.size (s.heap.objs.size+1) l1 l2 0 h'->(∀c o,s.heap.get? c=some o->h'.get? c=some o)->Q (.ref (s.heap.objs.size+4)) { s with heap:=h' }) :
  wpAny (model prog w) A (call (.type "zip") [.ref l1,.ref l2]) Q E s:=by
 refine callType_new F.called_zip (by decide) (F.typeCall_zip_2 _ _) (F.newCall_zip_2 _ _) (λobj=>F.args_object_init_3 obj _ _) F.entry_zip_new (B2c l1 l2 xs ys) ⟨hl1,hl2,?_⟩;have z1:(zipH1 s.heap l1).objs.size=s.heap.objs.size+1:=Z1s ..;have z2:(C3q s.heap l1 l2).objs.size=s.heap.objs.size+2:=by rw [Z1s,z1]
 have z3:(C3f s.heap l1 l2).objs.size=s.heap.objs.size+3:=by rw [Z1s,z2]
 have z4:(C3y s.heap l1 l2).objs.size=s.heap.objs.size+4:=by rw [Z1s,z3]
 have q5:(B8r s.heap l1 l2).get? (C3y s.heap l1 l2).objs.size=some _:=Z0c _ rfl;have q4:(B8r s.heap l1 l2).get? (C3f s.heap l1 l2).objs.size=some _:=Z01 _ (Z0c _ rfl);have q3:(B8r s.heap l1 l2).get? (C3q s.heap l1 l2).objs.size=some _:=Z01 _ (Z01 _ (Z0c _ rfl));have q2:(B8r s.heap l1 l2).get? (zipH1 s.heap l1).objs.size=some _:=Z01 _ (Z01 _ (Z01 _ (Z0c _ rfl)));have q1:(B8r s.heap l1 l2).get? s.heap.objs.size=some _:=Z01 _ (Z01 _ (Z01 _ (Z01 _ (Z0c _ rfl))));show _/\_;rw [z2,z3,z4] at q5;rw [z1,z2] at q3;rw [z3] at q4;rw [z1] at q2;rw [z4];exact ⟨⟨_,q5,rfl⟩,h _ ⟨q5,q3,⟨_,_,q4⟩,⟨_,q1,rfl,rfl⟩,⟨_,q2,rfl,rfl⟩⟩ λc o x=>Z01 _ (Z01 _ (Z01 _ (Z01 _ (Z01 _ x))))⟩
def D3u (K:PySem.W.Frag) (ta:TA):TI:=λσ H R=>ta σ H λvs H1=>∃a b xs ys,vs=[.ref a,.ref b]/\SqL K H1 a xs/\SqL K H1 b ys/\R (C9r K a b) H1
theorem B7n {X:Cx} {elts:List Expr} {kk:Nat} {tpos:Pos} {a b:Expr} {ta:TA} {p pos:Pos} (hg:Gl X "zip") (hm:X.mg "zip"=none) (ha:PA X [a,b] ta) (hs:starEach [a,b] X.env=[(false,eval a X.env),(false,eval b X.env)]:=by rfl) (hs2:starEach [b] X.env=[(false,eval b X.env)]:=by rfl) :
  PI X (.Tuple elts kk tpos) (.Call (.Name "zip" p) [a,b] [] pos) (D3u X.K ta):=by
 intro pins s σ H R I h;refine Call_ (A7x I hg hm boot_zip (PyProof.Rows.callWith_type1 (thn (ha pos pins s σ H _ I h) λus s1 ⟨vs,H1,I1,r1,q1⟩=> ?_) (by rw [hs,hs2]) (by rw [hs2];rfl)));obtain ⟨l1,l2,xs,ys,e,hq1,hq2,q⟩:=q1;subst e;obtain ⟨u,u2,rfl,ru,ru2⟩:=B8z r1;cases ru;cases ru2;obtain ⟨its,rv,p1,_⟩:=I1.list hq1;obtain ⟨its2,rv2,p2,_⟩:=I1.list hq2;have t1:l1<s1.heap.objs.size:=let ⟨_,e,_⟩:=p1.isList;Z0a e;have t2:l2<s1.heap.objs.size:=let ⟨_,e,_⟩:=p2.isList;Z0a e;refine B3z p1.isList p2.isList λh' zs kp=>wpAny_pyIter_zip zs.1 ?_;have I2:Inv X pins σ H1 { s1 with heap:=h' }:=I1.kept (t':=s1.toks) kp;refine ⟨_,[s1.heap.objs.size+4,s1.heap.objs.size+2,s1.heap.objs.size+3,s1.heap.objs.size,s1.heap.objs.size+1],_,_,H1,rfl,I2,B9w (zipApart_new t1 t2),zs,λc hc=> ?_,q⟩
 have hle:s1.heap.objs.size<=c:=by
  simp only [Z0e,Z1i,or_false] at hc;rcases hc with rfl | rfl | rfl | rfl | rfl
  ·exact Nat.le_add_right _ _
  ·exact Nat.le_add_right _ _
  ·exact Nat.le_add_right _ _
  ·exact Z09 _
  ·exact Nat.le_add_right _ _
 exact I1.fpOk hle (I1.hok.fresh hle)
theorem B6r {K:PySem.W.Frag} {a b:Addr} {xs ys:List V} {g:TG} {tb:TS} {D:B7o} {σ:St} {H:Hp} (Pv:Nat->St->Hp->Prop) (h0:Pv 0 σ H) (hl:∀i σ H,Pv i σ H->SqL K H a xs/\SqL K H b ys) (hlen:xs.length=ys.length)
  (hs:∀i x y σ H p,xs[i]? =some x->ys[i]? =some y->Pv i σ H->H p=none->g (.ref p) σ (upd H p (.tup [x,y])) λσ2 H2=>tb { D with nx:=Pv (i+1),ct:=Pv (i+1),bk:=D.nx } σ2 H2) (hd:∀σ H,Pv xs.length σ H->D.nx σ H) :
  ∃W:Nat->Nat->St->Hp->Prop,(∃m,W 0 m σ H)/\∀i m σ H,W i m σ H->
   ((C9r K a b).stop i H/\D.nx σ H)\/((C9r K a b).go i H/\∃N:St->Hp->Prop,(∀σ' H',N σ' H'->∃m',m'<m/\W (i+1) m' σ' H')/\∀x H',(C9r K a b).yld i H x H'->g x σ H' λσ2 H2=>tb { D with nx:=N,ct:=N,bk:=D.nx } σ2 H2):=by
 refine ⟨λi m σ H=>m=xs.length-i/\i<=xs.length/\Pv i σ H,⟨xs.length,by simp,Z1e _,h0⟩,?_⟩;rintro i m σ H ⟨rfl,hi,p⟩;obtain ⟨q1,q2⟩:=hl i σ H p;by_cases hlt:i<xs.length
 ·have e1:xs[i]? =some xs[i]:=Z0b hlt;have e2:ys[i]? =some (ys[i]'(by omega)):=Z0b _;refine .inr ⟨⟨xs,ys,_,_,q1,q2,e1,e2⟩,Pv (i+1),λσ' H' p'=>⟨xs.length-(i+1),by omega,rfl,hlt,p'⟩,λv H' y=> ?_⟩;obtain ⟨c,hc,rfl,x,z,f1,f2,rfl⟩:=y;exact hs i x z σ H c (f1 xs q1) (f2 ys q2) p hc
 ·have e:i=xs.length:=by omega
  subst e;exact .inl ⟨⟨xs,ys,q1,q2,.inl (Z09 _)⟩,hd σ H p⟩
section
variable {D:Addr} {g:TG} {te:TE} {QD:Hp->Prop} {σ₀:St} {H:Hp}
theorem A4h {J:It} (n:Nat) (Pv:Nat->List V->Hp->Prop) (h0:Pv 0 [] (upd H D (.lst []))) (hgo:∀i ys H,i<n->Pv i ys H->J.go i H) (hst:∀ys H,Pv n ys H->J.stop n H)
  (hs:∀i ys H,i<n->Pv i ys H->∀x H3,J.yld i H x H3->g x σ₀ H3 λσ4 H4=>A2m σ₀ σ4/\te σ4 H4 λy H5=>H5 D=some (.lst ys)/\ys.length<sizeLine/\Pv (i+1) (ys++[y]) (upd H5 D (.lst (ys++[y])))) (hd:∀ys H,Pv n ys H->QD H) :
  ∃W:Nat->Nat->Hp->Prop,(∃m,W 0 m (upd H D (.lst [])))/\∀i m H2,W i m H2->
   (J.stop i H2/\QD H2)\/(J.go i H2/\∃N:VK,(∀y H5,N y H5->∃xs,H5 D=some (.lst xs)/\xs.length<sizeLine/\∃m',m'<m/\W (i+1) m' (upd H5 D (.lst (xs++[y]))))/\
    ∀x H3,J.yld i H2 x H3->g x σ₀ H3 λσ4 H4=>A2m σ₀ σ4/\te σ4 H4 N):=by
 refine ⟨λi m H=>m=n-i/\i<=n/\∃ys,Pv i ys H,⟨n,by simp,Z1e _,[],h0⟩,?_⟩;rintro i m H2 ⟨rfl,hi,ys,p⟩;by_cases hlt:i<n
 ·exact .inr ⟨hgo i ys H2 hlt p,λy H5=>H5 D=some (.lst ys)/\ys.length<sizeLine/\Pv (i+1) (ys++[y]) (upd H5 D (.lst (ys++[y]))),λy H5 z=>⟨ys,z.1,z.2.1,n-(i+1),by omega,rfl,hlt,_,z.2.2⟩,λx H3 z=>hs i ys H2 hlt p x H3 z⟩
 ·have e:i=n:=by omega
  subst e;exact .inl ⟨hst ys H2 p,hd ys H2 p⟩
end
theorem C4p {X:Cx} {K:PySem.W.Frag} (h:X.K=K):IxR X (D3z K):=h▸A4u
theorem B6u {K:PySem.W.Frag} {C:Addr} {U:String} {b:Bool} (h:PySem.W.mroIn K C (.type U)=some b) (hm:PySem.W.kitMeta U=true):∀u,A2a (.ty U) u->PySem.W.kitOne K (.ref C) u=some b:=by
 intro u z;cases (show u=Value.type U from z);unfold PySem.W.kitOne;rw [Z0t (show¬(Value.ref C == Value.type U)=true from Z0v)];show (if PySem.W.kitMeta U=true then PySem.W.subIn K (.ref C) (.type U) else none)=some b;rw [Z12 hm];exact h
theorem A1m.or {P:Program} {w:World} {K:PySem.W.Frag} {mg:Str->Option Value} {base:Heap} {CX:CXT} {k:Nat} {f:Addr} {fd:FuncData} {ps:List Str} {sp sp':Sp} (F:A1m P w K mg base CX k f fd ps sp) (F':A1m P w K mg base CX k f fd ps sp') :
  A1m P w K mg base CX k f fd ps (λvs H Q E=>sp vs H Q E\/sp' vs H Q E) :=
 ⟨λvs H Q E q=>q.elim (F.len vs H Q E) (F'.len vs H Q E),λA outer s H args us vs Q E hr he hb hv q=>q.elim (F.run A outer s H args us vs Q E hr he hb hv) (F'.run A outer s H args us vs Q E hr he hb hv)⟩
theorem B6j (acc ws:List (Key×V)) (w:Key×V):A3f acc (ws++[w])=A6x (A3f acc ws) w.1 w.2:=by unfold A3f;rw [List.foldl_append];rfl
section
variable {X:Cx}
def PTs (X:Cx) (cs:List Expr) (t:TT):Prop :=
 ∀(pins:List (Addr×Obj)) (s:Shared) (σ:St) (H:Hp) (Q:Bool->Hp->Prop),Inv X pins σ H s->t σ H Q->wpAny (model X.prog X.w) X.A (forIn cs true λc r=>if r=true then do let ok<-isTrue c X.env (eval c X.env);pure (ForInStep.yield ok) else pure (ForInStep.yield r)) (TP X pins σ Q) X.xe s
theorem C3n {i₀:Nat} {x₀:Str} {pos₀ spos:Pos} {elt iter tg:Expr} {cs:List Expr} {scope:Scope} {pos:Pos} {N':List Str} {ix:List (Option Nat)} {cl:List (Str×Addr)} {wi:TI} {g:TG} {tc:TT} {te:TE} (hN₀:X.N.Nodup) (hi₀:X.N[i₀]? =some x₀) (hx₀:Loc X.env.scope x₀) (hc:X.calm=true) (ck:C6i X scope cl) (io:C8i X N' scope ix) (hi:PI X tg iter wi)
  (hg:∀C s₀ H₀ fp,PG (blk X N' scope cl C s₀ H₀ fp) tg g) (ht:∀C s₀ H₀ fp,PTs (blk X N' scope cl C s₀ H₀ fp) cs tc) (he:∀C s₀ H₀ fp,PE (blk X N' scope cl C s₀ H₀ fp) elt te) (R:B7o->St->It->Hp->Prop) (hR:∀D σ J H1,R D σ J H1->∀D2,H1 D2=none->∃W:Nat->Nat->Hp->Prop,(∃m,W 0 m (upd H1 D2 (.lst [])))/\∀i m H2,W i m H2->
   (J.stop i H2/\D.nx (σ.set i₀ (some (.ref D2))) H2)\/(J.go i H2/\∃(N:VK) (M:Hp->Prop),(∀y H5,N y H5->∃xs,H5 D2=some (.lst xs)/\xs.length<sizeLine/\∃m',m'<m/\W (i+1) m' (upd H5 D2 (.lst (xs++[y]))))/\(∀H5,M H5->∃m',m'<m/\W (i+1) m' H5)/\∀x H3,J.yld i H2 x H3->g x (A6e ix σ) H3 λσ4 H4=>A2m (A6e ix σ) σ4/\tc σ4 H4 λb H5=>if b=true then te σ4 H5 N else M H5)) (hs:∀x,foldedSetIterable iter X.env x=pure x:=by intro _;rfl)
  (hsw:swapsWith (.ListComp elt [⟨tg,iter,cs,0⟩] scope pos) (some (.Name x₀ pos₀)) spos.line X.env=pure true:=by rfl) (hf₀:X.fn x₀=true\/X.env.scope.names.lookup x₀=some .local:=by first | exact .inl rfl | exact .inr rfl | assumption) :
  PS X (.Assign [.Name x₀ pos₀] (.ListComp elt [⟨tg,iter,cs,0⟩] scope pos) spos) (λD σ H=>wi σ H (R D σ)):=by
 intro pins s σ H D₀ I h;rw [exec_Assign_Name_used _ _ _ _ hsw];refine Z00 (Z1y (Z00 ?_));show wpAny _ X.A (do let _<-comprehension (.ListComp elt [⟨tg,iter,cs,0⟩] scope pos) scope X.env _ (newList []) false (eval iter X.env) (some (assign (.Name x₀ pos₀) X.env))) _ _ s;refine Z00 (Z10 (wpAny_comprehension_free (use:=some (assign (.Name x₀ pos₀) X.env)) (Q:=λ_ s'=>∃σ' H',Inv X pins σ' H' s'/\D₀.nx σ' H') rfl hs ck.eq ck.kind ck.names (thn (hi pins s σ H _ I h) λxv s1 h1=>thn h1 λitv s2 h2=> ?_)) (λ_ s' hq=>Z04 (Z04 hq)) λ_ _ e=>e);obtain ⟨it,fp,tn,J,H1,rfl,I1,T,st1,f1,R1⟩:=h2;refine Z16 ?_;have hD:H1 s2.heap.objs.size=none:=I1.hok.fresh (Z09 _);obtain ⟨W,⟨m0,w0⟩,turn⟩:=hR _ _ _ _ R1 _ hD;have hfD:∀b∈fp,b<s2.heap.objs.size:=λb hb=>let ⟨o,e,_⟩:=T.obj _ _ st1 b hb;Z0a e;have I2:Inv X pins σ (upd H1 s2.heap.objs.size (.lst [])) { s2 with heap:=s2.heap.push { cls:= .type "list",data:= .seq ([]:List Value).toArray },toks:=s2.toks }:=I1.lnew (its:=[]) .nil (Z1e _);have f2:∀b∈fp,B4i X pins (upd H1 s2.heap.objs.size (.lst [])) b:=λb hb=>⟨by rw [A0e (Z0h (hfD b hb))];exact (f1 b hb).1,(f1 b hb).2⟩
 have lt2:∀b∈fp,b<(s2.heap.push { cls:= .type "list",data:= .seq ([]:List Value).toArray }).objs.size:=λb hb=>by rw [Z1s];exact Nat.lt_succ_of_lt (hfD b hb)
 refine wpAny_newFunctionEnv ck.ncell (by intro y hy;simp at hy) (λh3 hns sb3=> ?_) ck.kind;dsimp only at hns sb3⊢;have k3:∀b o,(s2.heap.push { cls:= .type "list",data:= .seq ([]:List Value).toArray }).get? b=some o->h3.get? b=some o:=λb o e=>(sb3.2 b (Z0h (Z0a e))).trans (Z01 _ e);generalize hs2:({ s2 with heap:=s2.heap.push { cls:= .type "list",data:= .seq ([]:List Value).toArray },toks:=s2.toks }:Shared)=s3 at I2;have e3:s2.heap.push { cls:= .type "list",data:= .seq ([]:List Value).toArray }=s3.heap:=by rw [<-hs2]
 rw [e3] at hns k3 lt2;have I3:=B4d (N':=N') (ix:=ix) I2 ck io f2 lt2 (h':=h3) (t':=s2.toks+([]:List (Str×Value)).length) hns k3;have e4:({ s3 with heap:=h3,toks:=s2.toks+([]:List (Str×Value)).length }:Shared)={ s2 with heap:=h3,toks:=s2.toks+([]:List (Str×Value)).length }:=by rw [<-hs2]
 rw [e4] at I3;have st3:tn 0 h3:=T.keep _ _ _ st1 λb hb o e=>k3 b o (by rw [<-e3];exact Z01 _ e)
 have loop:∀s4:Shared,s4={ s2 with heap:=h3,toks:=s2.toks+([]:List (Str×Value)).length }->
   codeAny (model X.prog X.w) X.A (.compLoop (.ListComp elt [⟨tg,iter,cs,0⟩] scope pos) 0 (.ref it) (.ref s2.heap.objs.size) (compEnvC scope cl s3.heap.objs.size X.env))
    (compPost (model X.prog X.w) X.A X.xe (some (assign (.Name x₀ pos₀) X.env)) (λ_ s'=>∃σ' H',Inv X pins σ' H' s'/\D₀.nx σ' H') (.ref s2.heap.objs.size) s3.heap.objs.size) s4:=by
  rintro s4 rfl
  have stat:∀{H':Hp},(∀b∈fp,H' b=none)->∀b∈fp,B4i (blk X N' scope cl s3.heap.objs.size s3 (upd H1 s2.heap.objs.size (.lst [])) fp) [] H' b:=λhn b hb =>
   ⟨hn b hb,Z0h (lt2 b hb),λhs=>I3.ok.exfs b hb hs,.inl hb,λx c e=>(f2 b hb).2.2.2.2.1 x c (ck.sub x c e),(λp hp=>by cases hp)⟩
  refine codeAny_loop rfl (λn s'=>∃i σ' H',Inv (blk X N' scope cl s3.heap.objs.size s3 (upd H1 s2.heap.objs.size (.lst [])) fp) [] σ' H' s'/\(∀(j:Nat) v,(A6e ix σ)[j]? =some (some v)->σ'[j]? =some (some v))/\tn i s'.heap/\(∀b∈fp,H' b=none)/\W i n H')
   (λn s' hI=> ?_) m0 ⟨0,_,_,I3,λ_ _ z=>z,st3,λb hb=>(f2 b hb).1,w0⟩
  obtain ⟨i,σ5,H5,I5,wk,st5,fr5,w5⟩:=hI;show wpAny _ _ ((compTurn (.ListComp elt [⟨tg,iter,cs,0⟩] scope pos) 0 (.ref it) (.ref s2.heap.objs.size) (compEnvC scope cl s3.heap.objs.size X.env)).onRaise (λx=>do noteFrame x (compEnvC scope cl s3.heap.objs.size X.env);theTreesLotGoes x)) _ _ s';refine wpAny_noted ?_;rw [compTurn_list];refine Z00 (Z1y ?_);rcases turn i n H5 w5 with ⟨stop,qn⟩ | ⟨go,NN,MM,hNN,hMM,step⟩
  ·refine Z00 (Z10 (T.done (blk X N' scope cl s3.heap.objs.size s3 (upd H1 s2.heap.objs.size (.lst [])) fp) rfl rfl rfl hc i [] s' σ5 H5 (λ_ _=>False) I5 (stat fr5) st5 stop) (λr s6 h6=> ?_) λ_ _ z=>z.elim);obtain ⟨rfl,I6⟩:=h6;refine Z04 ?_;obtain ⟨mm,hm,_⟩:=id I6.loc;have fC:B4i X pins H5 s3.heap.objs.size:=I2.fpOk (Z09 _) I6.free;have Io:Inv X pins σ H5 s6:=C1z I2 f2 I6 (Heap.SameBut.refl _ _);show wpAny _ X.A (assign (.Name x₀ pos₀) X.env (.ref s2.heap.objs.size)) _ _ s6;refine wpAny_assign_Name (B4f Io hN₀ hi₀ hx₀ (v:= .ref s2.heap.objs.size) rfl (λs7 I7 sb7=> ?_) hf₀);obtain ⟨a,sb,ha⟩:=sb7
   have ca:s3.heap.objs.size≠a:=by
    rcases ha with ha | ha
    ·rw [ha];exact fC.2.1
    ·exact λz=>fC.2.2.2.2.1 _ _ ha z.symm
   obtain ⟨oC,es,ep,ho,r⟩:=hm;exact ⟨mm,⟨oC,es,ep,(sb.2 _ ca).trans ho,r⟩,λh' sb'=>⟨_,H5,I7.turned (t':=s7.toks) (λb o hb e=>(sb'.2 b hb).trans e) fC.1 fC.2.1 fC.2.2.2.1 fC.2.2.2.2.1 fC.2.2.2.2.2,qn⟩⟩
  ·refine Z00 (Z10 (T.item (blk X N' scope cl s3.heap.objs.size s3 (upd H1 s2.heap.objs.size (.lst [])) fp) rfl rfl rfl hc i [] s' σ5 H5 (λ_ _=>False) I5 (stat fr5) st5 go) (λr s6 h6=> ?_) λ_ _ z=>z.elim);obtain ⟨u,rfl,h6⟩:=h6;refine Z00 (Z10 h6 (λ_ s7 h7=> ?_) λ_ _ z=>z.elim);obtain ⟨x,H7,I7,r7,y7,st7,fr7⟩:=h7;have I7w:Inv (blk X N' scope cl s3.heap.objs.size s3 (upd H1 s2.heap.objs.size (.lst [])) fp) [] (A6e ix σ) H7 s7:=I7.weak (by rw [I7.len];unfold A6e;rw [Z08];exact io.1) wk;have I7p:=I7w.pinned (stat fr7) (T.obj _ _ st7);refine Z00 (Z10 (hg _ _ _ _ _ s7 _ H7 x u _ I7p r7 (step x H7 y7)) (λ_ s8 h8=> ?_) λ_ _ z=>z.elim);obtain ⟨σ8,H8,I8,kp8,q8⟩:=h8
   have back:∀{s10:Shared} {σ10:St} {H10:Hp} {m':Nat},Inv (blk X N' scope cl s3.heap.objs.size s3 (upd H1 s2.heap.objs.size (.lst [])) fp) ([]++B3o fp s7.heap) σ10 H10 s10->(∀(j:Nat) v,(A6e ix σ)[j]? =some (some v)->σ10[j]? =some (some v))->W (i+1) m' H10->
     ∃i σ' H',Inv (blk X N' scope cl s3.heap.objs.size s3 (upd H1 s2.heap.objs.size (.lst [])) fp) [] σ' H' s10/\(∀(j:Nat) v,(A6e ix σ)[j]? =some (some v)->σ'[j]? =some (some v))/\tn i s10.heap/\(∀b∈fp,H' b=none)/\W i m' H':=by
    intro s10 σ10 H10 m' I10 kk w10;refine ⟨i+1,σ10,H10,I10.unpinned,kk,T.keep _ _ _ st7 λb hb o e=>(I10.pin (b,o) (Z02 _ (Z02 _ (A3j hb e)))).1,λb hb=> ?_,w10⟩;obtain ⟨o,e,d⟩:=T.obj _ _ st7 b hb;exact (I10.pin (b,o) (Z02 _ (Z02 _ (A3j hb e)))).2.1
   refine Z00 (Z10 (ht _ _ _ _ _ s8 σ8 H8 _ I8 q8) (λok s9' h9'=> ?_) λ_ _ z=>z.elim);obtain ⟨H9',I9',q9'⟩:=h9'
   cases ok with
   | false =>
    have q9'':MM H9':=by simpa using q9'
    obtain ⟨m',hm',w9⟩:=hMM _ q9'';exact Z00 (Z04 (Z04 ⟨rfl,m',hm',back I9' kp8.get w9⟩))
   | true =>
    have q9'':te σ8 H9' NN:=by simpa using q9'
    refine Z00 (Z00 (Z10 (he _ _ _ _ _ s9' σ8 H9' _ I9' q9'') (λyv s9 h9=> ?_) λ_ _ z=>z.elim));obtain ⟨y,H9,I9,r9,n9⟩:=h9;obtain ⟨xs,hx9,hz9,m',hm',w9⟩:=hNN _ _ n9;refine Z00 (Z10 (A7b (X:=blk X N' scope cl s3.heap.objs.size s3 (upd H1 s2.heap.objs.size (.lst [])) fp) _ s9 σ8 H9 (.ref s2.heap.objs.size) [y] (.ref s2.heap.objs.size) [yv] (λ_ H'=>W (i+1) m' H') I9 rfl (.cons r9 .nil) ⟨_,xs,y,rfl,rfl,hx9,hz9,w9⟩) (λ_ s10 h10=> ?_) λ_ _ z=>z.elim);obtain ⟨_,H10,I10,_,w10⟩:=h10;exact Z04 (Z04 ⟨rfl,m',hm',back I10 kp8.get w10⟩)
 have e5:s3.heap.objs.size=(s2.heap.push { cls:= .type "list",data:= .seq ([]:List Value).toArray }).objs.size:=by rw [e3]
 rw [e5] at loop;exact codeAny_compStart_list (loop _ rfl) (T.self X.A 0 _ _ _ st3 (loop _ rfl))
theorem B6f {i₀:Nat} {x₀:Str} {pos₀ spos:Pos} {elt iter tg:Expr} {scope:Scope} {pos:Pos} {N':List Str} {ix:List (Option Nat)} {cl:List (Str×Addr)} {wi:TI} {g:TG} {te:TE} (hN₀:X.N.Nodup) (hi₀:X.N[i₀]? =some x₀) (hx₀:Loc X.env.scope x₀) (hc:X.calm=true) (ck:C6i X scope cl) (io:C8i X N' scope ix) (hi:PI X tg iter wi)
  (hg:∀C s₀ H₀ fp,PG (blk X N' scope cl C s₀ H₀ fp) tg g) (he:∀C s₀ H₀ fp,PE (blk X N' scope cl C s₀ H₀ fp) elt te) (hs:∀x,foldedSetIterable iter X.env x=pure x:=by intro _;rfl)
  (hsw:swapsWith (.ListComp elt [⟨tg,iter,[],0⟩] scope pos) (some (.Name x₀ pos₀)) spos.line X.env=pure true:=by rfl) (hf₀:X.fn x₀=true\/X.env.scope.names.lookup x₀=some .local:=by first | exact .inl rfl | exact .inr rfl | assumption) :
  PS X (.Assign [.Name x₀ pos₀] (.ListComp elt [⟨tg,iter,[],0⟩] scope pos) spos) (D3y (D1a ix wi g te) (B5z i₀)) :=
 C3n (tc:=λ_ H Q=>Q true H) hN₀ hi₀ hx₀ hc ck io hi hg (λ_ _ _ _ _ _ _ _ _ I h=>wpAny_tests_nil ⟨_,I,h⟩) he _ (λ_ _ _ _ R D2 hD=>by
  obtain ⟨W,w0,turn⟩:=R D2 hD;refine ⟨W,w0,λi m H2 w=>(turn i m H2 w).imp id λ⟨go,N,hN,step⟩=>⟨go,N,λ_=>False,hN,λ_ z=>z.elim,?_⟩⟩
  simpa using step) hs hsw hf₀
end
def CXF (P:Program) (w:World):CXT:=λouter H s E e s' =>
 ∃(ea C:Addr) (a0:Value) (H':Hp) (B:Heap),e= .ref ea/\s'.os=s.os/\AllBare s'.gens/\Un (frs outer) [] H H' s.heap s'.heap/\HOk P w H' s'.heap/\
  (∀b o,s.heap.get? b=some o->b∉frs outer->∃o',B.get? b=some o')/\(∀b o,H' b=some o->∃o',B.get? b=some o')/\
  Heap.FlyingW B outer ea (.ref C) a0 s'.heap/\E (.ref C) none H'
theorem A1c.at18 {P:Program} {w:World} {H:Hp} {h:Heap} {a:Addr} {o:HO} (x:A1c P w H h a o):∃u,h.get? a=some u:=by
 cases o with
 | lst xs=>obtain ⟨_,_,_,_,e⟩:=x;exact ⟨_,e⟩
 | tup xs=>obtain ⟨_,_,_,o,e,_⟩:=x;exact ⟨_,e⟩
 | dK kvs=>obtain ⟨_,_,_,_,o,_,_,e,_⟩:=x;exact ⟨_,e⟩
 | dT kvs=>obtain ⟨_,_,_,_,o,_,_,e,_⟩:=x;exact ⟨_,e⟩
 | set S n=>obtain ⟨o,_,_,_,e,_⟩:=x;exact ⟨_,e⟩
 | ins C dx fs=>obtain ⟨_,_,_,e,_⟩:=x;exact ⟨_,e⟩
 | own y=>obtain ⟨_,e⟩:=x;exact ⟨_,e⟩
 | xd fs=>obtain ⟨_,⟨_,_,_,e,_⟩,_⟩:=x;exact ⟨_,e⟩
 | rng lo hi=>obtain ⟨_,_,_,e⟩:=x;exact ⟨_,e⟩
 | frz ob u=>obtain ⟨e,_⟩:=x;exact ⟨_,e⟩
 | tbl ps=>exact ⟨_,(show h.get? a=some _ from x)⟩
 | met f y=>exact ⟨_,(show h.get? a=some _ from x)⟩
 | ext φ=>obtain ⟨_,⟨_,e⟩,_⟩:=x;exact ⟨_,e⟩
section
variable {X:Cx} {pins:List (Addr×Obj)} {σ:St} {H1 H':Hp} {s1:Shared} {B h1 h':Heap}
theorem C5t (I:Inv X pins σ H1 s1) (hx:X.ex=[]) (u:Un (frs X.stack) [] H1 H' s1.heap h1) (hb1:∀b o,s1.heap.get? b=some o->b∉frs X.stack->∃o',B.get? b=some o') (hst:B.StaysIn h1) (hst':B.StaysIn h') (up:h1.UpToSlots h') :
  Un X.fs [] X.H₀ H' X.s₀.heap h'/\∀b o,X.s₀.heap.get? b=some o->b∉X.fs->∃o',B.get? b=some o':=by
 have a:Un X.fs [] X.H₀ H1 X.s₀.heap s1.heap:=by
  have z:=I.base;rw [hx] at z;exact z
 have no:∀b:Addr,b∉([]:List Addr):=λb=>by simp
 have nst:∀b o,X.s₀.heap.get? b=some o->b∉X.fs->b∉frs X.stack:=λb o e hb m =>
  (Z0e.mp (I.stkSub b m)).elim (Z0h (Z0q (Z0a e) I.ok.above)) hb
 have B1:∀b o,X.s₀.heap.get? b=some o->b∉X.fs->∃o',B.get? b=some o':=λb o e hb=>by
  obtain ⟨o1,e1⟩:=a.there b o e (no b);exact hb1 b o1 e1 (nst b o e hb)
 have slot:∀b o,X.s₀.heap.get? b=some o->X.H₀ b=none->b∈X.fs->∃sl,h'.get? b=some { o with slots:=sl }:=λb o e n hb=>by
  obtain ⟨sl,e1⟩:=a.slot b o e n hb (no b);obtain ⟨sl2,e2⟩:=u.any e1 (a.free b o e n (no b)) (no b);obtain ⟨_,of,ho,hd⟩:=I.ok.funs.mem hb;rw [e] at ho;cases ho;obtain ⟨sl3,e3⟩:=up b _ e2 hd;exact ⟨sl3,e3⟩
 refine ⟨⟨λb o e n hb _=> ?_,λb o e n hb _=>slot b o e n hb,λb o e n _=> ?_,λb o e _=> ?_,λb xs e=>u.tups b xs (a.tups b xs e),λb o v e=>u.frzs b o v (a.frzs b o v e),λb ps e=> ?_⟩,B1⟩
 ·have e2:=u.keep b o (a.keep b o e n hb (no b)) (a.free b o e n (no b)) (nst b o e hb) (no b);obtain ⟨o',eB⟩:=B1 b o e hb;have e3:=hst b o' eB;rw [e2] at e3;cases e3;exact hst' b o eB
 ·obtain ⟨o1,e1⟩:=a.there b o e (no b);exact u.free b o1 e1 (a.free b o e n (no b)) (no b)
 ·by_cases hb:b∈X.fs
  ·obtain ⟨sl,q⟩:=slot b o e (I.ok.frf b hb) hb;exact ⟨_,q⟩
  ·obtain ⟨o',eB⟩:=B1 b o e hb;exact ⟨o',hst' b o' eB⟩
 ·obtain ⟨m1,e1⟩:=a.tbls b ps e;obtain ⟨m2,e2⟩:=u.tbls b _ e1;exact ⟨m1++m2,by rw [e2,Array.append_assoc]⟩
theorem C0u {P:Program} {w:World} (ok:HOk P w H' h1) (b2:∀b o,H' b=some o->∃o',B.get? b=some o') (hst:B.StaysIn h1) (hst':B.StaysIn h'):HOk P w H' h':=λa o e =>
 (ok a o e).stay (λb u hb q=>by
  have:∃o',B.get? b=some o':=by
   rcases hb with rfl | hb
   ·exact b2 _ _ e
   ·exact b2 _ _ hb
  obtain ⟨o',eB⟩:=this;have z:=hst b o' eB;rw [q] at z;cases z
  exact hst' b u eB) (λ_ q=>q) λ_ _ q=>q
end
section
variable {P:Program} {w:World} {K:PySem.W.Frag} {mg:Str->Option Value} {base:Heap} {N:List Str} {qual:Str} {scope:Scope} {f:Addr} {cd:Value} {A:Around} {outer:List Env} {s:Shared} {H:Hp} {E:XK}
theorem C9t:A7y (CXF P w) (C2p (CXF P w) P w K mg base N qual scope f cd A outer s H E) E:=by
 intro pins σ H1 s1 e s' I hcx;obtain ⟨ea,C,a0,H',B,rfl,os,bare,un,hok,b1,b2,fl,q⟩:=hcx;refine wpAny_leaves_onW I.ok.frames rfl fl λh' fl' up=> ?_;obtain ⟨un',b1'⟩:=C5t I rfl un b1 fl.1 fl'.1 up;exact ⟨ea,C,a0,H',B,rfl,os.trans I.os,bare,un',C0u hok b2 fl.1 fl'.1,b1',b2,fl',q⟩
def C5g (X:Cx) (C:Addr) (E:XK):Prop:=∀(pins:List (Addr×Obj)) (σ:St) (H:Hp) (s:Shared) (h':Heap) (e:Addr) (vs:List Value),Inv X pins σ H s->Heap.MadeExcOf s.heap h' e (.ref C) vs->E (.ref C) none H->X.xe (.ref e) { s with heap:=h' }
theorem C5l {C:Addr}:C5g (C2p (CXF P w) P w K mg base N qual scope f cd A outer s H E) C E:=by
 intro pins σ H1 s1 h1 e vs I hx q;have stk:(C2p (CXF P w) P w K mg base N qual scope f cd A outer s H E).stack=envOfC qual scope s.heap.objs.size f cd::outer:=rfl;have kB:∀b o,s1.heap.get? b=some o->b∉frs (envOfC qual scope s.heap.objs.size f cd::outer)->(PySem.W.hideAll s1.heap (frs (envOfC qual scope s.heap.objs.size f cd::outer))).get? b=some o:=λb o e hb=>PySem.W.hideAll_get _ e hb
 refine wpAny_leaves_madeW (base:=PySem.W.hideAll s1.heap (frs (envOfC qual scope s.heap.objs.size f cd::outer))) I.ok.frames rfl (λb o z=>PySem.W.of_hideAll _ z)
  (PySem.W.funFrames_hide I.stack λenv he b hb=>List.mem_filterMap.mpr ⟨env,he,hb⟩) hx λh' t fl _ _ up=> ?_
 have b2:∀b o,H1 b=some o->∃o',(PySem.W.hideAll s1.heap (frs (envOfC qual scope s.heap.objs.size f cd::outer))).get? b=some o':=λb o z=>by
  obtain ⟨u,hu⟩:=(I.hok b o z).at18;refine ⟨u,kB b u hu λm=> ?_⟩;have:=I.stkFree b m;rw [z] at this;cases this
 obtain ⟨un',b1'⟩:=C5t (B:=PySem.W.hideAll s1.heap (frs (envOfC qual scope s.heap.objs.size f cd::outer))) I rfl (Un.kept hx.keeps) (λb o z hb=>⟨o,kB b o z hb⟩) (λb o z=>hx.keeps b o (PySem.W.of_hideAll _ z)) fl.1 up;exact ⟨e,C,.ref t,H1,_,rfl,I.os,I.bare,un',C0u (I.hok.kept hx.keeps) b2 (λb o z=>hx.keeps b o (PySem.W.of_hideAll _ z)) fl.1,b1',b2,fl,q⟩
end
theorem C7p {K:PySem.W.Frag} {h:Heap} {C:Addr} {bmB:List Value} {newId:String} (X:K.In h) (q:PySem.W.excIn K C bmB newId=true) :
  ∃(nm qn:Str) (N:Addr) (bs bm:List Value) (hdct:Bool) (sn:List Str) (sub:List Value) (ab:Bool) (col:Option Bool) (dd:Option Addr) (k0 k1 k2 k3 k5:Option Value) (mN:Str->Option Value),
   h.get? C=some (excClassObj nm qn C N bs bm hdct sn sub ab col dd k0 k1 k2 k3 k5 newId)/\h.Ns N mN/\mN "__init__"=none/\OwnTail h bmB bm:=by
 cases lk:K.lookup C with
 | none=>simp [PySem.W.excIn,lk] at q
 | some ob =>
  have there:=X _ _ lk;unfold PySem.W.excIn at q;rw [lk] at q;split at q
  case h_2=>cases q
  case h_1 dct cls parts same =>
   injection same with same;subst same;split at q
   case h_2=>cases q
   case h_1 own tl p0 p1 p2 p3 made p5 along row =>
    repeat rw [Z1x] at q
    have w1:own=C:=beq_iff_eq.mp q.1.1.1.1.1;have w2:made=newId:=beq_iff_eq.mp q.1.1.1.1.2;have w3:cls.hasDel=false:=by simpa using q.1.1.1.2
    have w4:=beq_iff_eq.mp q.2;subst w1 w2;have sl:parts= #[p0,p1,p2,p3,some (.builtin made),p5]:=Array.toList_inj.mp row;rw [sl] at there;cases cls;dsimp only at along w3 w4 q;rw [along,w3] at there;exact ⟨_,_,_,_,tl,_,_,_,_,_,dct,p0,p1,p2,p3,p5,_,there,Heap.Ns.of_isNs (PySem.W.isNs_of_in X q.1.2),PySem.W.nsMap_none_of_in X q.1.2 w4,PySem.W.tail_of_in X q.1.1.2⟩
abbrev D1x:List Value:=[.type "ValueError",.type "Exception",.type "BaseException",.type "object"]
def D0w (C:Addr) (E:XK) (t:TA):TS:=λ_ σ H=>t σ H λvs H1=>vs.length<=sizeLine/\E (.ref C) none H1
theorem B7h {X:Cx} {C:Addr} {E:XK} {x:Str} {np cpos pos:Pos} {e:Expr} {es:List Expr} {t:TA} (hT:C5g X C E) (q:PySem.W.excIn X.K C D1x "ValueError.__new__"=true) (hg:Gl X x) (hm:X.mg x=some (.ref C)) (hc:X.calm=true)
  (ha:PA X (e::es) t) (hdb:(x == ("__debug__":Str))=false:=by decide) (he:starEach (e::es) X.env=(false,eval e X.env)::starEach es X.env:=by rfl) (hpl:(backTo cpos (starEach es X.env)).any (·.1)=false:=by rfl) :
  PS X (.Raise (some (.Call (.Name x np) (e::es) [] cpos)) none pos) (D0w C E t):=by
 intro pins s σ H D I h;obtain ⟨nm,qn,N,bs,bm,hdct,sn,sub,ab,col,dd,k0,k1,k2,k3,k5,mN,hC,hN,hni,T⟩:=C7p I.mod.kin q;have kb:∀{s2:Shared} {σ2:St} {H2:Hp},Inv X pins σ2 H2 s2->∀b o,X.base.get? b=some o->s2.heap.get? b=some o:=λI2=>I2.bk
 have hpl':(backTo cpos (starEach (e::es) X.env)).any (·.1)=false:=by
  rw [he];exact hpl
 refine wpAny_Raise_call_subU (C:=C) (nm:=nm) (q:=qn) (N:=N) (bs:=bs) (bm:=bm) (hdct:=hdct) (sn:=sn) (sub:=sub) (ab:=ab) (col:=col) (dd:=dd) (k0:=k0) (k1:=k1) (k2:=k2) (k3:=k3) (k5:=k5) (mN:=mN) (bmB:=D1x)
  PySem.F.excBase_ValueError (by decide +kernel) PySem.F.excBase_ValueError (T.hasType (by decide +kernel)) (I.ok.hd hc) hpl' hni ?_
 refine A7v I hg hm ⟨rfl,?_⟩ hdb
 have hA:=thn (ha cpos pins s σ H _ I h) (Q':=λus s2=>us.length<=sizeLine/\s2.heap.get? C=some (excClassObj nm qn C N bs bm hdct sn sub ab col dd k0 k1 k2 k3 k5 "ValueError.__new__")/\s2.heap.Ns N mN/\OwnTail s2.heap D1x bm/\
    ∀h' e,Heap.MadeExcOf s2.heap h' e (.ref C) us->X.xe (.ref e) { s2 with heap:=h' }) λus s2 ⟨vs,H2,I2,r,hl,hE⟩ =>
  ⟨r.length▸hl,kb I2 _ _ hC,hN.keeps (kb I2),T.keeps (kb I2),λh' e hx=>hT pins σ H2 s2 h' e us I2 hx hE⟩
 rw [he] at hA⊢;exact Calls.evalArgs_plain (thn hA λus s2 ⟨a,b,c,d,k⟩=>⟨rfl,a,b,c,d,k⟩)
abbrev Cx.held (X:Cx) (ea:Addr):Cx:={ X with A:=X.A.mark (some (.ref ea)),calm:=false,xe:=λ_ _=>False }
theorem Cx.Ok.held {X:Cx} (ok:X.Ok) (ea:Addr):(X.held ea).Ok :=
 ⟨ok.mod,ok.kind,ok.glob,ok.blt,ok.above,ok.inj,ok.has,ok.cab,λz=>(by cases z),ok.frames,ok.stk,ok.exf,ok.bs,ok.bsz,ok.noex,ok.exfs,ok.funs,ok.frf⟩
section
variable {X:Cx} {pins:List (Addr×Obj)} {σ:St} {H H1:Hp} {s s1:Shared} {ea C:Addr} {a0:Value} {B:Heap}
theorem Inv.held (I:Inv X pins σ H s) (ea:Addr):Inv (X.held ea) pins σ H s:=⟨I.ok.held ea,I.os,I.bare,I.base,I.loc,I.cell,I.free,I.freeC,I.pin,I.hok,I.len⟩
theorem Inv.unheld (I:Inv (X.held ea) pins σ H s) (ok:X.Ok):Inv X pins σ H s:=⟨ok,I.os,I.bare,I.base,I.loc,I.cell,I.free,I.freeC,I.pin,I.hok,I.len⟩
theorem A6r {M:Model} {A:Around} {E:Value->Shared->Prop} {i:Nat} {x:Str} {pos:Pos} {Q:Unit->Shared->Prop} (I:Inv X pins σ H s) (hN:X.N.Nodup) (hi:X.N[i]? =some x) (hx:X.env.scope.names.lookup x=some .local)
  (h:∀s',Inv X pins (σ.set i none) H s'->Q () s'):wpAny M A (do bindName X.env x .none;unbindBehindTheSuite X.env x pos) Q E s:=by
 refine Z00 (wpAny_bindName (A8p (v:= .non) (u:= .none) I hN hi (.inl hx) rfl (λs1 I1=> ?_) (.inr hx)));unfold unbindBehindTheSuite;refine wpAny_onRaise ?_;obtain ⟨m,hn,hl⟩:=id I1.loc;have hcls:(X.env.scope.kind == .class||(X.env.scope.kind == .module&&X.env.locals != X.env.globals))=false:=by rw [I1.ok.kind];rfl
 have hiσ:i<σ.length:=by rw [I.len];exact (Z03.mp hi).1
 have cne:=I1.cne;have hk:X.env.kindOf x=some .local:=hx;obtain ⟨u,ru,hu⟩:=hl i x .non hi (Z23 hiσ) (.inl hx)
 have hm:m x=some u:=by
  rcases hu with ⟨_,e⟩ | ⟨k,_⟩
  ·exact e
  ·rw [hk] at k;rcases k with k | k <;> cases k
 refine wpAny_unbindName_local hk hn hm hcls λh' v hn' hs=> ?_;obtain ⟨oL,_,_,hoL,_⟩:=id hn;refine h _ ⟨I1.ok,I1.os,I1.bare,⟨λb o e n hb hx=> ?_,λb o e n hb hx=> ?_,I1.base.free,λb o e hx=> ?_,I1.base.tups,I1.base.frzs,I1.base.tbls⟩,⟨_,hn',λj y v' e1 e2 e3=> ?_⟩,λy c e=> ?_,I1.free,I1.freeC,λp hp=> ?_,λb ob e=> ?_,by simpa using I.len⟩
 ·exact (hs.2 b (Z0h (Z0q (Z0a e) I1.ok.above))).trans (I1.base.keep b o e n hb hx)
 ·obtain ⟨sl,e1⟩:=I1.base.slot b o e n hb hx;exact ⟨sl,(hs.2 b (Z0h (Z0q (Z0a e) I1.ok.above))).trans e1⟩
 ·obtain ⟨o',e1⟩:=I1.base.there b o e hx;exact ⟨o',(hs.2 b (Z0h (Z0q (Z0a e) I1.ok.above))).trans e1⟩
 ·by_cases hj:j=i
  ·subst hj;rw [Z23 hiσ] at e2;cases e2
  ·rw [Z2a (Ne.symm hj)] at e2;obtain ⟨u',r',q⟩:=hl j y v' e1 (by rw [Z2a (Ne.symm hj)];exact e2) e3;refine ⟨u',r',?_⟩;rcases q with ⟨k,e⟩ | ⟨k,c,e,z⟩
   ·refine .inl ⟨k,?_⟩;have:y≠x:=λe=>hj (B2j hN e1 (e▸hi));simp [this,e]
   ·exact .inr ⟨k,c,e,z.sameBut hs (cne y c e)⟩
 ·obtain ⟨w',z⟩:=I1.cell y c e;exact ⟨w',z.sameBut hs (cne y c e)⟩
 ·obtain ⟨e,n,ne,nf,d⟩:=I1.pin p hp;exact ⟨(hs.2 p.1 ne).trans e,n,ne,nf,d⟩
 ·refine (I1.hok b ob e).stay (λc w' hc q=>(hs.2 c ?_).trans q) (λ_ q=>q) λ_ _ q=>q;rintro rfl;rcases hc with rfl | hc
  ·rw [I1.free] at e;cases e
  ·rw [I1.free] at hc;cases hc
def xcF (ea C:Addr):Heap->Prop:=λh=>∃o vs,h.get? ea=some o/\o.cls= .ref C/\o.data= .fields vs
theorem Inv.track (I1:Inv X pins σ H1 s1) (I:Inv X pins σ H s) (hn:s1.heap.get? ea=none) (hH:H ea=none) (hx:xcF ea C s.heap):Inv X pins σ (upd H ea (.ext (xcF ea C))) s:=by
 have ne1:∀b o,s1.heap.get? b=some o->b≠ea:=λb o e z=>by
  rw [z,hn] at e;cases e
 have up:∀b o,H b=some o->upd H ea (.ext (xcF ea C)) b=some o:=λb o e=>by
  rw [A0e (A0i e hH)];exact e
 refine ⟨I.ok,I.os,I.bare,⟨I.base.keep,I.base.slot,λb o e n hb=> ?_,I.base.there,λb xs e=>up _ _ (I.base.tups b xs e),λb o u e=>up _ _ (I.base.frzs b o u e),λb ps e=> ?_⟩,I.loc,I.cell,?_,λx c e=> ?_,λp hp=> ?_,λb o e=> ?_,I.len⟩
 ·obtain ⟨o1,e1⟩:=I1.base.there b o e hb;rw [A0e (ne1 b o1 e1)];exact I.base.free b o e n hb
 ·obtain ⟨m,q⟩:=I.base.tbls b ps e;exact ⟨m,up _ _ q⟩
 ·obtain ⟨m,⟨o,_,_,ho,_⟩,_⟩:=I1.loc;rw [A0e (ne1 _ o ho)];exact I.free
 ·obtain ⟨v,o,ho,_⟩:=I1.cell x c e;rw [A0e (ne1 _ o ho)];exact I.freeC x c e
 ·obtain ⟨e,n,r⟩:=I.pin p hp;have e1:=(I1.pin p hp).1;exact ⟨e,by rw [A0e (ne1 _ _ e1)];exact n,r⟩
 ·by_cases hb:b=ea
  ·subst hb;rw [A0b] at e;cases e;obtain ⟨o,vs,q⟩:=id hx;exact ⟨hx,⟨o,q.1⟩,λh1 h2 ⟨o,vs,q1,q2⟩ k=>⟨o,vs,k o q1,q2⟩⟩
  ·rw [A0e hb] at e;exact (I.hok b o e).stay (λ_ _ _ q=>q) (λc q=>up _ _ q) λc xs q=>up _ _ q
structure A6k (X:Cx) (pins:List (Addr×Obj)) (σ:St) (H1:Hp) (s1:Shared) (H:Hp) (B:Heap) (ea C:Addr) (a0:Value) (s:Shared):Prop where
 i1:Inv X pins σ H1 s1
 os:s.os=s1.os
 bare:AllBare s.gens
 un:Un (frs X.stack) [] H1 H s1.heap s.heap
 hok:HOk X.prog X.w H s.heap
 b1:∀b o,s1.heap.get? b=some o->b∉frs X.stack->∃o',B.get? b=some o'
 b2:∀b o,H b=some o->∃o',B.get? b=some o'
 fl:Heap.FlyingW B X.stack ea (.ref C) a0 s.heap
theorem A6k.inv (F:A6k X pins σ H1 s1 H B ea C a0 s):Inv X pins σ H s:=F.i1.call' F.os F.un F.hok F.bare (ch:=[]) (λb z=>absurd z (by simp))
theorem A6k.step (F:A6k X pins σ H1 s1 H B ea C a0 s) {h':Heap} (fl':Heap.FlyingW B X.stack ea (.ref C) a0 h') (up:s.heap.UpToSlots h'):A6k X pins σ H1 s1 H B ea C a0 { s with heap:=h' }:=by
 have no:∀b:Addr,b∉([]:List Addr):=λb=>by simp
 have u:=F.un
 have slot:∀b o,s1.heap.get? b=some o->H1 b=none->b∈frs X.stack->∃sl,h'.get? b=some { o with slots:=sl }:=λb o e n hb=>by
  obtain ⟨sl,e1⟩:=u.slot b o e n hb (no b);obtain ⟨_,of,ho,hd⟩:=F.i1.stack.mem hb;rw [e] at ho;cases ho;obtain ⟨sl3,e3⟩:=up b _ e1 hd;exact ⟨sl3,e3⟩
 refine ⟨F.i1,F.os,F.bare,⟨λb o e n hb _=> ?_,λb o e n hb _=>slot b o e n hb,u.free,λb o e _=> ?_,u.tups,u.frzs,u.tbls⟩,C0u F.hok F.b2 F.fl.1 fl'.1,F.b1,F.b2,fl'⟩
 ·have e2:=u.keep b o e n hb (no b);obtain ⟨o',eB⟩:=F.b1 b o e hb;have e3:=F.fl.1 b o' eB;rw [e2] at e3;cases e3;exact fl'.1 b o eB
 ·by_cases hb:b∈frs X.stack
  ·obtain ⟨sl,q⟩:=slot b o e (F.i1.stkFree b hb) hb;exact ⟨_,q⟩
  ·obtain ⟨o',eB⟩:=F.b1 b o e hb;exact ⟨o',fl'.1 b o' eB⟩
theorem A6k.new (F:A6k X pins σ H1 s1 H B ea C a0 s):s1.heap.get? ea=none:=by
 cases q:s1.heap.get? ea with
 | none=>rfl
 | some o =>
  by_cases hb:ea∈frs X.stack
  ·obtain ⟨sl,e1⟩:=F.un.slot ea o q (F.i1.stkFree ea hb) hb (by simp);obtain ⟨_,of,ho,hd⟩:=F.i1.stack.mem hb;rw [q] at ho;cases ho;obtain ⟨oe,vs,e2,_,e3,_⟩:=F.fl.first;rw [e1] at e2;cases e2;exact absurd e3 (hd vs)
  ·obtain ⟨o',eB⟩:=F.b1 ea o q hb;rw [F.fl.2.1] at eB;cases eB
theorem A6k.no (F:A6k X pins σ H1 s1 H B ea C a0 s):H ea=none:=by
 cases q:H ea with
 | none=>rfl
 | some o =>
  obtain ⟨o',eB⟩:=F.b2 ea o q;rw [F.fl.2.1] at eB;cases eB
theorem A6k.cls (F:A6k X pins σ H1 s1 H B ea C a0 s):xcF ea C s.heap:=by
 obtain ⟨oe,vs,e,c,d,_⟩:=F.fl.first;exact ⟨oe,vs,e,c,d⟩
theorem A6k.tracked (F:A6k X pins σ H1 s1 H B ea C a0 s):Inv X pins σ (upd H ea (.ext (xcF ea C))) s:=F.i1.track F.inv F.new F.no F.cls
end
def PH (X:Cx) (hs:List ExceptHandler) (C:Addr) (th:Addr->TS):Prop :=
 ∀(pins:List (Addr×Obj)) (σ:St) (H1:Hp) (s1:Shared) (H:Hp) (B:Heap) (ea:Addr) (a0:Value) (s:Shared) (D:B7o),A6k X pins σ H1 s1 H B ea C a0 s->th ea D σ H->wpAny (model X.prog X.w) X.A (handleBy (.ref ea) X.env hs) (SP X pins D) X.xe s
section
variable {X:Cx} {C C':Addr} {y n:Str} {yp hpos:Pos} {b₀:Stmt} {suite:List Stmt} {rest:List ExceptHandler} {th:Addr->TS} {i:Nat}
theorem D0n {M:Model} {K:PySem.W.Frag} {h:Heap} {ea:Addr} {c:Value} {b:Bool} (X:K.In h) (hx:xcF ea C h) (e:PySem.W.exmOne K (.ref C) c=some b):PySem.W.Looks M h (excMatches (.ref ea) c) b:=by
 obtain ⟨o,vs,ho,hc,_⟩:=hx
 have LT:PySem.W.Looks M h (typeOf (.ref ea)) (.ref C):=by
  have z:PySem.W.Looks M h (typeOf (.ref ea)) o.cls:=(PySem.W.Looks.ld ho).andThen .now;rw [hc] at z;exact z
 exact PySem.W.exm_one X LT e
def tHit (i:Nat) (C:Addr) (ts:TS):Addr->TS:=λea D σ H=>ts { nx:=λσ' H'=>D.nx (σ'.set i none) H',rt:=D.rt,bk:=λσ' H'=>D.bk (σ'.set i none) H',ct:=λσ' H'=>D.ct (σ'.set i none) H' } (σ.set i (some (.ref ea))) (upd H ea (.ext (xcF ea C)))
theorem C5m {ts:TS} (hg:Gl X y) (hm:X.mg y=some (.ref C')) (q:PySem.W.exmOne X.K (.ref C) (.ref C')=some true) (hN:X.N.Nodup) (hi:X.N[i]? =some n) (hx:X.env.scope.names.lookup n=some .local)
  (hs:∀ea,PSs (X.held ea) (b₀::suite) ts) (hd:(y == ("__debug__":Str))=false:=by decide) :
  PH X (.ExceptHandler (some (.Name y yp)) (some n) (b₀::suite) hpos::rest) C (tHit i C ts):=by
 intro pins σ H1 s1 H B ea a0 s D F h;refine wpAny_handleBy_cons (codeAny_handlers_test ?_) (by intro q;cases q);refine A7v (X:=X.held ea) (F.inv.held ea) hg hm ?_ hd;refine (D0n F.inv.kIn F.cls q).here (codeAny_handlers_suite_as ?_);refine lands_againW F.fl λh' fl' up=> ?_;have F':=F.step fl' up;refine A8p (X:=X.held ea) (v:= .ref ea) (F'.tracked.held ea) hN hi (.inl hx) rfl (λs2 I2=> ?_) (.inr hx);refine Z10 (hs ea pins s2 _ _ _ I2 h) (λf s3 hf=> ?_) λ_ _ z=>False.elim z;dsimp only
 cases f with
 | next =>
  obtain ⟨σ',H',I',r⟩:=hf;exact A6r (I'.unheld F.i1.ok) hN hi hx λs4 I4=>⟨_,H',I4,r⟩
 | brk =>
  obtain ⟨σ',H',I',r⟩:=hf;exact A6r (I'.unheld F.i1.ok) hN hi hx λs4 I4=>⟨_,H',I4,r⟩
 | cont =>
  obtain ⟨σ',H',I',r⟩:=hf;exact A6r (I'.unheld F.i1.ok) hN hi hx λs4 I4=>⟨_,H',I4,r⟩
 | ret u =>
  obtain ⟨v,σ',H',I',rv,r⟩:=hf;exact A6r (I'.unheld F.i1.ok) hN hi hx λs4 I4=>⟨v,_,H',I4,rv,r⟩
end
abbrev TX:=St->Hp->VK->XK->Prop
def PX (X:Cx) (e:Expr) (t:TX):Prop :=
 ∀(pins:List (Addr×Obj)) (s:Shared) (σ:St) (H:Hp) (Q:VK) (E:XK),Inv X pins σ H s->t σ H Q E->
  wpAny (model X.prog X.w) X.A (eval e X.env) (EP X pins σ Q) (λe s'=>∃H1 s1,Inv X pins σ H1 s1/\CXF X.prog X.w X.stack H1 s1 E e s') s
def D0k (sp:Sp) (t:TA):TX:=λσ H Q E=>t σ H λvs H1=>sp vs H1 Q E
section
variable {X:Cx} {k:Nat} {f:Addr} {fd:FuncData} {ps:List Str} {sp:Sp} {x:Str} {p pos:Pos} {e:Expr} {es:List Expr} {t:TA}
theorem B9y (F:A1m X.prog X.w X.K X.mg X.base (CXF X.prog X.w) k f fd ps sp) (hr:A7e k X.A) (hg:Gl X x) (hm:X.mg x=some (.ref f)) (hk:PySem.W.keepIn X.K (.ref f)=true) (hb:A1i X.K fd ps [])
  (ha:PA X.nox (e::es) t) (hdb:(x == ("__debug__":Str))=false:=by decide) (he:starEach (e::es) X.env=(false,eval e X.env)::starEach es X.env:=by rfl) (hpl:(backTo pos (starEach es X.env)).any (·.1)=false:=by rfl) :
  PX X (.Call (.Name x p) (e::es) [] pos) (D0k sp t):=by
 intro pins s σ H Q E I h;refine wpAny_Call_Name_kw (A7v I hg hm ?_ hdb)
 have hA:wpAny (model X.prog X.w) X.A (spliced (backTo pos (starEach (e::es) X.env))) (AP X pins σ λvs H1=>sp vs H1 Q E) (λe s'=>∃H1 s1,Inv X pins σ H1 s1/\CXF X.prog X.w X.stack H1 s1 E e s') s :=
  Z10 (ha pos pins s σ H _ (I.wish _) h) (λus s1 ⟨vs,H1,I1,r,q⟩=>⟨vs,H1,I1.unwish,r,q⟩) λ_ _ z=>False.elim z
 refine PySem.W.callWith_K (h₀:=X.base) I.ok.mod.kin hk (thn hA λus s1 ⟨vs,H1,I1,r,q⟩=>⟨I1.kIn,?_⟩) he hpl;have hl:us.length=ps.length:=by rw [<-r.length];exact F.len _ _ _ _ q
 have hb':=hb s1 us I1.kIn (by simpa using hl);rw [Z0u] at hb';refine wpAny_call (codeAny_mono (F.run X.A X.stack s1 H1 ⟨us,[]⟩ us vs Q E hr I1.env0 hb' r q) λr s' hq=> ?_)
 cases r with
 | error e=>exact ⟨H1,s1,I1,hq⟩
 | ok fl =>
  cases fl with
  | ret u=>exact I1.after hq
  | next=>exact False.elim hq
  | brk=>exact False.elim hq
  | cont=>exact False.elim hq
end
section
variable {X:Cx} {hs:List ExceptHandler} {h₀:ExceptHandler} {e:Expr} {tx:TX} {pos epos npos:Pos} {i:Nat} {n:Str}
def D3k (X:Cx) (hs:List ExceptHandler) (D:B7o) (σ:St):XK:=λc _ H2=>∃(C:Addr) (th:Addr->TS),c= .ref C/\PH X hs C th/\∀ea,H2 ea=none->th ea D σ H2
theorem B8t {pins:List (Addr×Obj)} {σ:St} {D:B7o} {H1:Hp} {s1 s':Shared} {ev:Value} (hst:X.stack=X.env::X.outer/\X.env.frame=some X.env.locals) (I1:Inv X pins σ H1 s1)
  (hc:CXF X.prog X.w X.stack H1 s1 (D3k X (h₀::hs) D σ) ev s') :
  wpAny (model X.prog X.w) X.A (noteFrame ev X.env) (λ_ s₂=>wpAny (model X.prog X.w) X.A (setFlight ev none) (λ_ s₃=>wpAny (model X.prog X.w) X.A (handleBy ev X.env (h₀::hs)) (SP X pins D) X.xe s₃) X.xe s₂) X.xe s':=by
 obtain ⟨ea,C,a0,H',B,rfl,os,bare,un,hok,b1,b2,fl,q⟩:=hc;obtain ⟨C',th,hC,hP,q⟩:=q;cases hC;have F:A6k X pins σ H1 s1 H' B ea C a0 s':=⟨I1,os,bare,un,hok,b1,b2,fl⟩
 have hfr:X.A.frames=some (X.env::X.outer):=by
  rw [<-hst.1];exact I1.ok.frames
 have fl0:Heap.FlyingW B (X.env::X.outer) ea (.ref C) a0 s'.heap:=by
  rw [<-hst.1];exact fl
 refine wpAny_looks_onW hfr hst.2 fl0 λh4 held up4=> ?_;refine wpAny_landsW held λh5 fl5 up5=> ?_
 have fl5':Heap.FlyingW B X.stack ea (.ref C) a0 h5:=by
  rw [hst.1];exact fl5
 exact hP pins σ H1 s1 H' B ea a0 _ D (F.step fl5' (up4.trans up5)) (q ea F.no)
def D2g (X:Cx) (hs:List ExceptHandler) (tx:TX):TS:=λD σ H=>tx σ H (λ_ H1=>D.nx σ H1) (D3k X hs D σ)
theorem C0j (hst:X.stack=X.env::X.outer/\X.env.frame=some X.env.locals) (he:PX X e tx) (hs':swapsWith e none epos.line X.env=pure false:=by rfl) :
  PS X (.Try [.Expr e epos] (h₀::hs) [] [] pos) (D2g X (h₀::hs) tx):=by
 intro pins s σ H D I h;refine wpAny_Try_except (Z10 (Q:=λf s1=>f= .next/\∃σ' H',Inv X pins σ' H' s1/\D.nx σ' H') (E:=λe s'=>∃H1 s1,Inv X pins σ H1 s1/\CXF X.prog X.w X.stack H1 s1 (D3k X (h₀::hs) D σ) e s') ?_ (λf s1 q=> ?_) λev s1 ⟨H1,s2,I1,hc⟩=>B8t hst I1 hc)
 ·exact wpAny_execs_cons (wpAny_Expr_any (thn (he pins s σ H _ _ I h) λv s1 ⟨y,H1,I1,r1,q1⟩=>Z2b ⟨rfl,σ,H1,I1,q1⟩) I.quiet hs')
 ·obtain ⟨rfl,q⟩:=q;exact Z2b q
end
section
variable {P:Program} {w:World} {K:PySem.W.Frag} {mg:Str->Option Value} {base:Heap}
theorem Fun.okF {x qual:Str} {st:Stmt} {f:Addr} {fd:FuncData} {N ps:List Str} {k:Nat} {sp:Sp} (F:Fun K x qual st f fd) (S:A0t N ps (A0j st)) (len:∀vs H Q E,sp vs H Q E->vs.length=ps.length)
  (hbody:∀(cdv:Value) (A:Around) (outer:List Env) (s:Shared) (H:Hp) (vs:List V) (Q:VK) (E:XK),A7e k (A.deeper (envOfC qual (A0j st) s.heap.objs.size f cdv))->sp vs H Q E->
   ∃t,PSs (C2p (CXF P w) P w K mg base N qual (A0j st) f cdv A outer s H E) (A4m st) t/\t { nx:=λ_ H'=>Q .non H',rt:=Q } (B1j N vs) H):A1m P w K mg base (CXF P w) (k+1) f fd ps sp:=by
 obtain ⟨oc,od,kV,doc,pm,an,cdv,ct,osl,rfl,lk,hcd⟩:=F.ex;exact D0o lk hcd S len λA outer s H vs Q E hr hsp=>hbody cdv A outer s H vs Q E hr hsp
end
theorem C6e {K:PySem.W.Frag} {C D:Addr} {b:Bool} (hb:PySem.W.mroIn K D (.type "BaseException")=some true) (h1:PySem.W.isClsIn K D=true) (h2:PySem.W.typeIn K (.ref D)=some (.type "type")) (h3:PySem.W.mroIn K C (.ref D)=some b) :
  PySem.W.exmOne K (.ref C) (.ref D)=some b:=by
 unfold PySem.W.exmOne;have e:PySem.W.subIn K (.ref D) (.type "BaseException")=some true:=hb;have h1':(PySem.W.clsIn K D).isSome=true:=h1;rw [Z12 (by rw [e];rfl)];show (if ((PySem.W.clsIn K D).isSome&&PySem.W.typeIn K (.ref D) == some (.type "type"))=true then PySem.W.subIn K (.ref C) (.ref D) else none)=some b;rw [Z12 (by rw [h1',h2];rfl)];exact h3
theorem B3w {K:PySem.W.Frag} {t:Value}:∀{cs:List Addr},(∀c∈cs,PySem.W.kitOne K t (.ref c)=some false)->∀us,A1v (cs.map V.ref) us->PySem.W.kitAny K t us=some false
 | [],_,_,r=>by
  cases r
  rfl
 | c::cs,h,_,r=>by
  rw [Z0p] at r
  cases r with
  | cons a r =>
   cases a
   unfold PySem.W.kitAny;rw [h c (.head _)];exact B3w (λd hd=>h d (.tail _ hd)) _ r
end L2
namespace PySem.W
open PySem PySem.Spec PySem.Calls PyProof.Rows PySem.Builtin.ObjectAttr
structure XcIn (K:Frag) (C:Addr):Prop where
 ga:findIn K (.ref C) "__getattribute__"=some (some (.builtin "BaseException.__getattribute__"))
 gt:findIn K (.ref C) "__getattr__"=some none
 mB:mroIn K C (.type "BaseException")=some true
 mO:mroIn K C (.type "object")=some true
 cl:findIn K (.ref C) "__class__"=some (some (.builtin "object.__class__"))
 sp:specialIn K (.builtin "object.__class__") "__get__"=some (some (.builtin "getset_descriptor.__get__"))
 tk:takesIn K (.builtin "object.__class__")=some true
def KitE (a C:Addr) (h:Heap):Prop:=∃o,h.get? a=some o/\o.cls= .ref C
section
variable {prog:Program} {w:World} {A:Around} {E:Value->Shared->Prop} {h:Heap} {g:Array GenState} {d:Drawn} {t:Nat} {os:OsState} {a C:Addr} {o:Obj} {K:Frag} {name:Str}
theorem XcIn.cls (c:XcIn K C):∃cd,clsIn K C=some cd:=by
 obtain ⟨cd,h,_⟩:=Option.bind_eq_some_iff.mp c.mB;exact ⟨cd,h⟩
theorem KitE.type {M:Model} (p:KitE a C h):Looks M h (typeOf (.ref a)) (.ref C):=by
 obtain ⟨o,ho,hc⟩:=p;have z:Looks M h (typeOf (.ref a)) o.cls:=(Looks.ld ho).andThen .now
 rwa [hc] at z
theorem C3k {M:Model} {nv:Value} {Q:Unit->Shared->Prop} (X:K.In h) (c:XcIn K C) (ho:h.get? a=some o) (ok:o.cls= .ref C) (hq:Q () ⟨h,g,d,t,os⟩) :
  wpAny M A (checkBuiltinCall "BaseException.__getattribute__" ⟨[.ref a,nv],[]⟩) Q E ⟨h,g,d,t,os⟩:=by
 have sub:=looks_mroIn (M:=M) X c.mB;have ar:=F.args_bexc_ga (.ref a) nv;simp only [checkBuiltinCall,(by decide +kernel:builtinKind "BaseException.__getattribute__"=some .slot),(by decide +kernel:splitId "BaseException.__getattribute__"=some ("BaseException","__getattribute__"))];refine Z00 ?_;unfold isInstance
 repeat (first | (with_reducible refine Z1k ho ?_;rw [ok]) | (with_reducible refine sub.at ?_) | wp_step)
 exact hq
theorem C7m {M:Model} (X:K.In h) (c:XcIn K C):Looks M h (find (.ref a) (.ref C) "__class__") (.bind (.builtin "getset_descriptor.__get__") (.builtin "object.__class__")) :=
 (looks_findIn X c.cl).andThen ((show Looks M h (getOf (some (.builtin "object.__class__"))) (some (.builtin "getset_descriptor.__get__")) from looks_specialIn X c.sp).andThen
  ((show Looks M h (dataDescriptor? (some (.builtin "object.__class__")) (some (.builtin "getset_descriptor.__get__"))) (some (.builtin "getset_descriptor.__get__",.builtin "object.__class__")) from (looks_takesIn X c.tk).andThen .now).andThen (Looks.tag .now)))
theorem C9x {R:Result->Shared->Prop} (X:K.In h) (c:XcIn K C) (ho:h.get? a=some o) (ok:o.cls= .ref C) (hq:R (.ok (.ret (.ref C))) ⟨h,g,d,t,os⟩) :
  codeAny (model prog w) A (.call (.builtin "getset_descriptor.__get__") ⟨[.builtin "object.__class__",.ref a,.ref C],[]⟩) R ⟨h,g,d,t,os⟩:=by
 have ty:(⟨h,g,d,t,os⟩:Shared).TypeIs (.builtin "object.__class__") "getset_descriptor":=F.typeOf_object_class
 have sub:Looks (model prog w) h (isSubtype (.ref C) (.type (".".intercalate ("object.__class__".cutAt '.').dropLast))) true:=by
  rw [F.owner_object_class];exact looks_mroIn X c.mO
 refine codeAny_call_builtin F.slot_gs_get.plain F.entry_gs_get (F.slot_gs_get.check _ _ _ _ _ _ _ _ ty (F.args_gs_get _ _ _) ?_)
 repeat (any_goals (first | assumption | (with_reducible refine Z1k ho ?_;rw [ok]) | (with_reducible refine sub.at ?_) | wp_step))
 refine ⟨Code.quiet_builtin _ (by decide +kernel),codeAny_builtin F.entry_object_class ?_⟩
 repeat (any_goals (first | assumption | (with_reducible refine Z1k ho ?_;rw [ok]) | wp_step))
theorem C4i {tk:Tok} {Q:Fin->Shared->Prop} (X:K.In h) (c:XcIn K C) (ho:h.get? a=some o) (ok:o.cls= .ref C) (hq:Q (.done (.ret (.ref C))) ⟨h,g,d,t,os⟩) :
  wpAny (model prog w) A (Builtin.«object.__getattribute__» ⟨[.ref a,.str "__class__" tk],[]⟩) Q E ⟨h,g,d,t,os⟩:=by
 have L:=C7m (M:=model prog w) (a:=a) X c;unfold Builtin.«object.__getattribute__»
 repeat (any_goals (first | assumption | (with_reducible refine L.at ?_) | (with_reducible refine Z1k ho ?_;rw [ok]) | wp_step))
 refine C9x X c ho ok ?_
 repeat (any_goals (first | assumption | wp_step))
theorem D2j {tk:Tok} {fill expr:Bool} {v:Value} {Q:Value->Shared->Prop} (X:K.In h) (c:XcIn K C) (ho:h.get? a=some o) (ok:o.cls= .ref C)
  (hq:∀(A:Around) (R:Result->Shared->Prop),R (.ok (.ret v)) ⟨h,g,d,t,os⟩->codeAny (model prog w) A (.call (.builtin "BaseException.__getattribute__") ⟨[.ref a,.str name tk],[]⟩) R ⟨h,g,d,t,os⟩) (hh:handedIn v=true) (hQ:Q v ⟨h,g,d,t,os⟩) :
  wpAny (model prog w) A (getAttrBy (.ref a) (.str name tk) fill expr) Q E ⟨h,g,d,t,os⟩:=by
 have b:=F.attr_ValueError.ga.bind (.ref a);have L1:=looks_findIn (M:=model prog w) X c.ga;have L2:=looks_findIn (M:=model prog w) X c.gt;have n1:(Value.builtin "BaseException.__getattribute__" == Value.builtin "object.__getattribute__")=false:=by decide +kernel
 have n2:(onTheHeap (Value.ref C)&&Value.builtin "BaseException.__getattribute__" == Value.builtin "object.__getattribute__")=false:=by simp [n1]
 have n3:(expr&&onTheHeap (Value.builtin "BaseException.__getattribute__"))=false:=Bool.and_eq_false_iff.mpr (.inr rfl)
 repeat (any_goals (first | assumption | (with_reducible refine Z1k ho ?_;rw [ok]) | (with_reducible refine L1.at ?_) | (with_reducible refine L2.at ?_) | wp_step))
 refine hq _ _ ?_
 repeat (any_goals (first | assumption | wp_step))
 show wpAny _ _ (handedOut v) _ _ _;rw [handedOut_of hh];exact Z04 hQ
theorem C4z {Q:Option Value->Shared->Prop} {s:Shared} (X:K.In s.heap) (c:XcIn K C) (p:KitE a C s.heap) (hq:Q (some (.ref C)) { s with toks:=s.toks+1 }):wpAny (model prog w) A (getAttr? (.ref a) "__class__") Q E s:=by
 obtain ⟨o,ho,ok⟩:=p;obtain ⟨h,g,d,t,os⟩:=s;unfold getAttr? getAttrBy?
 have B:∀{A:Around} {E:Value->Shared->Prop} {Q:Value->Shared->Prop},Q (.ref C) ⟨h,g,d,t+1,os⟩->wpAny (model prog w) A (getAttrBy (.ref a) (.str "__class__" t) false) Q E ⟨h,g,d,t+1,os⟩:=λ{A E Q} hQ =>
  D2j X c ho ok (λA R hR=>codeAny_call_builtin F.attr_ValueError.ga.plain F.entry_bexc_ga (C3k X c ho ok (C4i X c ho ok hR))) rfl hQ
 repeat (any_goals (first | assumption | with_reducible apply B | wp_step))
theorem kitx_exc (c:XcIn K C):KitX K (.ref a) (.ref C) (KitE a C) where
 ty:=λ_ _ _ p=>p.type
 it:=λ_ _ X _=>by
  obtain ⟨cd,e⟩:=c.cls;intro A Q E s k q;unfold clsIn at e;split at e
  case h_1 there=>exact Z00 (wpAny_loadPart (k _ _ (X _ _ there)) (Z04 q))
  case h_2=>cases e
 ne:=λh tp dd its n sl X htp=>by
  obtain ⟨cd,e⟩:=c.cls;rw [Bool.eq_false_iff];intro q;cases beq_iff_eq.mp q;unfold clsIn at e;split at e
  case h_1 there=>cases (X _ _ there).symm.trans htp
  case h_2=>cases e
 ca:=λX p k=>C4z X c p k
end
end PySem.W
namespace L2
open PySem PySem.Spec PyProof.Rows
section
variable {X:Cx}
theorem xcF.kit {ea C:Addr} {h:Heap} (p:xcF ea C h):PySem.W.KitE ea C h:=by
 obtain ⟨o,vs,ho,hc,_⟩:=p;exact ⟨o,ho,hc⟩
def D1t (K:PySem.W.Frag):List V->Hp->VK->Prop:=λxs H Q=>∃ea C c b,xs=[.ref ea,c]/\H ea=some (.ext (xcF ea C))/\PySem.W.XcIn K C/\(∀u,A2a c u->PySem.W.kitOne K (.ref C) u=some b)/\Q (.bl b) H
theorem C1b:A5y X (.builtin "isinstance") (D1t X.K):=by
 intro pins s σ H xs us Q I r h;obtain ⟨ea,C,c,b,rfl,he,xc,k,q⟩:=h;obtain ⟨u,w',rfl,ru,rw'⟩:=B8z r;cases ru;exact PySem.W.kia_one (PySem.W.kitx_exc xc) I.kIn (xcF.kit (I.hok ea _ he).1) (k w' rw') (λz=>nomatch z) λtk=>⟨.bl b,H,I.tok tk,rfl,q⟩
def C5j (K:PySem.W.Frag):List V->Hp->VK->Prop:=λxs H Q=>∃ea C tp cs b,xs=[.ref ea,.ref tp]/\H ea=some (.ext (xcF ea C))/\PySem.W.XcIn K C/\H tp=some (.tup cs)/\(∀us,A1v cs us->PySem.W.kitAny K (.ref C) us=some b)/\Q (.bl b) H
theorem B9c:A5y X (.builtin "isinstance") (C5j X.K):=by
 intro pins s σ H xs us Q I r h;obtain ⟨ea,C,tp,cs,b,rfl,he,xc,ht,k,q⟩:=h;obtain ⟨u,w',rfl,ru,rw'⟩:=B8z r;cases ru;cases rw';obtain ⟨_,its,rv,ob,hob,hc,n,hd⟩:=(show A1c X.prog X.w H s.heap tp (.tup cs) from I.hok tp _ ht);obtain ⟨oc,od,oda,osl⟩:=ob;dsimp only at hc hd;subst hc hd;exact PySem.W.kia_tup (PySem.W.kitx_exc xc) I.kIn (xcF.kit (I.hok ea _ he).1) hob (k its rv) (λz=>nomatch z) λtk=>⟨.bl b,H,I.tok tk,rfl,q⟩
end
def B1k (v d:Addr):HO:= .ext λh=>h.IsValuesView v d
theorem C3c {P:Program} {w:World} {H:Hp} {h:Heap} {v d:Addr} (e:h.IsValuesView v d):A1c P w H h v (B1k v d) :=
 ⟨e,let ⟨o,e1,_⟩:=e;⟨o,e1⟩,λh1 h2 ⟨o,e1,e2⟩ k=>⟨o,k o e1,e2⟩⟩
section
variable {X:Cx}
def D1h (X:Cx) (t:TE):TE:=λσ H Q=>t σ H λv H1=>∃a o kvs,H1 a=some (.frz o (.dK kvs))/\(∀o' u',X.H₀ a≠some (.frz o' u'))/\Q v (upd H1 a (.dK kvs))
theorem C4g {e:Expr} {t:TE} (h:PE X e t):PE X e (D1h X t):=λpins s σ H Q I q =>
 thn (h pins s σ H _ I q) λu s1 ⟨v,H1,I1,rv,a,o,kvs,ha,h0,q1⟩=>⟨v,_,I1.thaw ha ⟨kvs,rfl⟩ h0,rv,q1⟩
def C7u:V->List V->Hp->VK->Prop:=λx vs H Q=>∃a kvs,x= .ref a/\vs=[]/\H a=some (.dK kvs)/\Q .non (upd H a (.dK []))
theorem C1f:MtR X "dict.clear" C7u:=by
 intro pins s σ H x vs v us Q I rx rv h;obtain ⟨a,kvs,rfl,rfl,ha,q⟩:=h;cases rx;have hus:=rv.zero;subst hus;exact C9a I ha λs' I'=>⟨.non,_,I',rfl,q⟩
end
def C0s (h:Heap) (d:Addr) (es:Array DictEntry) (ep:Nat):Prop:=∃o,h.get? d=some o/\o.ExactDict/\o.data= .dict es ep
theorem C0s.at {h h':Heap} {d:Addr} {es:Array DictEntry} {ep:Nat} (x:C0s h d es ep) (f:∀o,h.get? d=some o->h'.get? d=some o):C0s h' d es ep:=let ⟨o,e,r⟩:=x;⟨o,f o e,r⟩
theorem C0s.lt {h:Heap} {d:Addr} {es:Array DictEntry} {ep:Nat} (x:C0s h d es ep):d<h.objs.size:=let ⟨_,e,_⟩:=x;Z0a e
section
variable {prog:Program} {w:World} {A:Around} {E:Value->Shared->Prop} {s:Shared}
theorem B5d (d:Addr) (hd:(d == sysModules)=false) :
  MeetsIn prog w (Builtin.«dict.values» ⟨[.ref d],[]⟩) (λ_ R s=>s.TypeIs (.ref d) "dict"/\R (.ok (.ret (.ref s.heap.objs.size))) { s with heap:=s.heap.push { cls:= .type "dict_values",data:= .fields #[.ref d] } }) :=
 .of_wp λA R s ⟨ty,q⟩=>by
  unfold Builtin.«dict.values»;refine Z00 ?_;unfold Builtin.Dict.noArgs;refine Z00 (wpAny_notOrdered_dict ty ?_);show wpAny _ _ (pure d) _ _ s;refine Z04 ?_;show wpAny _ _ (Builtin.Dict.showsAll d >>= _) _ _ s;unfold Builtin.Dict.showsAll;rw [Z0t (by rw [hd];exact Z0v)];exact Z00 (Z04 (Z00 (Z16 (Z04 ⟨_,rfl,q⟩))))
theorem B6a {v d:Addr} {es:Array DictEntry} {ep:Nat} {Q:Value->Shared->Prop} (h1:s.heap.IsValuesView v d) (h2:C0s s.heap d es ep)
  (q:Q (.ref s.heap.objs.size) { s with heap:=s.heap.push { cls:= .type "dict_valueiterator",data:= .fields #[.ref d,.int 0 0,.int es.size 0,.int ep 0] } }):wpAny (model prog w) A (pyIter (.ref v)) Q E s:=by
 obtain ⟨ov,g1,g2,g3⟩:=id h1;obtain ⟨od,k1,_,k3⟩:=h2;refine wpAny_pyIter_slot h1.typeIs F.slot_dict_values_iter (Z1g F.slot_dict_values_iter h1.typeIs F.entry_dict_values_iter ?_ (F.args_dict_values_iter_1 _));unfold Builtin.«dict_values.__iter__»;refine Z00 (Z04 (Z00 ?_));unfold Builtin.Dict_items.dictOf;refine Z00 (Z11 g1 g3 (x:= .ref d) rfl (Z04 (Z00 ?_)));unfold Builtin.Dict_items.newIterator;refine Z00 (wpAny_dictEntries k1 k3 (Z00 (wpAny_dictEpoch k1 k3 ?_)));simp only [show Builtin.Dict_items.ownsTuple "dict_valueiterator"=false by decide,Bool.false_eq_true,if_false];refine Z16 (Z04 ⟨_,rfl,"dict_valueiterator",_,⟨_,Z0c _ rfl,rfl⟩,F.slot_dict_valueiterator_next.lookup,?_⟩)
 simpa [rawInt] using q
theorem B6c {it d:Addr} {i ep:Nat} {es:Array DictEntry} {e:DictEntry} {Q:Option Value->Shared->Prop} (h1:s.heap.IsValIter it d i es.size ep) (h2:C0s s.heap d es ep) (h5:es[i]? =some e)
  (q:∀h',h'.IsValIter it d (i+1) es.size ep->Heap.SameBut it s.heap h'->Q (some e.val) { s with heap:=h' }):wpAny (model prog w) A (pyNext (.ref it)) Q E s:=by
 obtain ⟨o,g1,g2,g3⟩:=id h1;obtain ⟨od,k1,_,k3⟩:=h2;have ty:=h1.typeIs;unfold pyNext;refine Z00 (wpAny_attempt (Z1b (name:=Str.ofString "__next__") ty F.slot_dict_valueiterator_next (Z1g F.slot_dict_valueiterator_next ty F.entry_dict_valueiterator_next ?_ (F.args_dict_valueiterator_next_1 _))));refine Z00 (Z04 (Z00 (Z00 ?_)));refine Z00 (wpAny_typeNameOfWhole_valiter ty (Z04 (Z00 (wpAny_fieldsOf g1 g3 ?_))));simp only [show Builtin.Dict_items.ownsTuple "dict_valueiterator"=false by decide,Bool.false_eq_true,if_false];show wpAny _ _ (ite ((Value.ref d == Value.none)=true) _ _) _ _ _;rw [Z0t (show¬((Value.ref d == Value.none)=true) from Z0v)];refine Z00 (Z04 (Z00 (wpAny_dictEntries k1 k3 ?_)));rw [Z0t (by simp)];refine Z00 (Z04 (Z00 (wpAny_dictEpoch k1 k3 ?_)));rw [Z0t (by simp)];refine Z04 ?_;simp only [show¬((i:Int)<0) from by omega,if_false,Int.toNat_natCast,h5];refine Z00 (Z00 (wpAny_typeNameOfWhole_valiter ty (Z04 (Z00 (wpAny_isOneOf_valiter ty ?_)))));show wpAny _ _ (setField (.ref it) 1 (rawInt ((i:Int)+1)) >>= _) _ _ s;refine Z00 (Z1t g1 g3 (by simp) ?_)
 have hit':(s.heap.update it (Obj.mapFields (·.setIfInBounds 1 (rawInt ((i:Int)+1))))).IsValIter it d (i+1) es.size ep :=
  ⟨_,Z1r _ g1 (Obj.isFreed_of_fields (Obj.data_mapFields g3 _)),(Obj.cls_mapFields ..).trans g2,by rw [Obj.data_mapFields g3];simp [rawInt]⟩
 have ty1:Shared.TypeIs { s with heap:=s.heap.update it (Obj.mapFields (·.setIfInBounds 1 (rawInt ((i:Int)+1)))) } (.ref it) "dict_valueiterator":=hit'.typeIs;refine Z00 (Z1w (Z00 (wpAny_isOneOf_valiter ty1 (Z00 (wpAny_isOneOf_valiter ty1 ?_)))));show wpAny _ _ (pure e.val) _ _ _;exact Z04 (Z04 ⟨_,rfl,Z04 (q _ hit' (Heap.SameBut.update ..))⟩)
theorem B8c {it d:Addr} {i ep:Nat} {es:Array DictEntry} {Q:Option Value->Shared->Prop} (hh:A.handled=none) (h1:s.heap.IsValIter it d i es.size ep) (h2:C0s s.heap d es ep) (h5:es.size<=i)
  (q:∀h',Heap.ExtBut it s.heap h'->Q none { s with heap:=h' }):wpAny (model prog w) A (pyNext (.ref it)) Q E s:=by
 obtain ⟨o,g1,g2,g3⟩:=id h1;obtain ⟨od,k1,_,k3⟩:=h2;have ty:=h1.typeIs;unfold pyNext;refine Z00 (wpAny_attempt (Z1b (name:=Str.ofString "__next__") ty F.slot_dict_valueiterator_next (Z1g F.slot_dict_valueiterator_next ty F.entry_dict_valueiterator_next ?_ (F.args_dict_valueiterator_next_1 _))));refine Z00 (Z04 (Z00 (Z00 ?_)));refine Z00 (wpAny_typeNameOfWhole_valiter ty (Z04 (Z00 (wpAny_fieldsOf g1 g3 ?_))));simp only [show Builtin.Dict_items.ownsTuple "dict_valueiterator"=false by decide,Bool.false_eq_true,if_false];show wpAny _ _ (ite ((Value.ref d == Value.none)=true) _ _) _ _ _;rw [Z0t (show¬((Value.ref d == Value.none)=true) from Z0v)];refine Z00 (Z04 (Z00 (wpAny_dictEntries k1 k3 ?_)));rw [Z0t (by simp)];refine Z00 (Z04 (Z00 (wpAny_dictEpoch k1 k3 ?_)));rw [Z0t (by simp)];refine Z04 ?_;simp only [show¬((i:Int)<0) from by omega,if_false,Int.toNat_natCast,Array.getElem?_eq_none h5];refine Z00 (Z00 (wpAny_typeNameOfWhole_valiter ty (Z04 ?_)));show wpAny _ _ (setField (.ref it) 0 .none >>= _) _ _ _;refine Z00 (Z1t g1 g3 (by simp) ?_);show wpAny _ _ (newExc (.type "StopIteration") [] >>= _) _ _ (_:Shared);refine Z00 ?_;simp only [newExc,newTuple];refine Z00 (Z16 (Z00 (m:=firstArgMember _ _) (wpAny_of_eq (a:=Value.none) (by first | rfl | (simp only [firstArgMember];rfl)) (Z16 ?_ (by size_fits)))) (by size_fits));simp only [raiseNew];refine Z00 (wpAny_handled ?_);rw [show A.in1.handled=none from hh];refine Z00 (Z04 (wpAny_throw ?_));refine Z00 (wpAny_isInstance (T:="StopIteration") (b:=true) ⟨_,Z0c _ rfl,rfl⟩ isSubtype_stop (Z04 ?_));exact q _ (((Heap.SameBut.update ..).extBut.push _).push _)
theorem B2r (hh:A.handled=none) (I d:Addr) (hne:d≠I) (es:Array DictEntry) (ep:Nat) :
  Walks prog w A I [I,d] [I] es.size (λi v=>∃e,es[i]? =some e/\v=e.val) (λi h=>h.IsValIter I d i es.size ep/\C0s h d es ep) where
 sub:=λb hb=>by simp at hb;simp [hb]
 frame:=λ_ _ _ st hk=>⟨let ⟨o,e,r⟩:=st.1;⟨o,hk I (by simp) o e,r⟩,st.2.at λo e=>hk d (by simp) o e⟩
 item:=λi s Q E hi st hQ=>by
  have hx:es[i]? =some es[i]:=Array.getElem?_eq_getElem hi;exact B6c st.1 st.2 hx λh' hit' hs'=>hQ _ h' s.toks ⟨_,hx,rfl⟩ ⟨hit',st.2.at λo e=>hs'.extBut _ _ hne e⟩ λb o hb e=>hs'.extBut b o (λh=>hb (by simp [h])) e
 done:=λs Q E st hQ=>B8c hh st.1 st.2 (Z09 _) λh' he'=>hQ h' s.toks λb o hb e=>he' b o (λh=>hb (by simp [h])) e
 self:=λ_ _ _ _ st hQ=>wpAny_pyIter_valiter st.1 hQ
theorem B7y {r d:Addr} {es:Array DictEntry} {ep:Nat}:PySem.W.KdlSrc prog w "dict_values" r d es.size (λi v=>∃e,es[i]? =some e/\v=e.val) (λh=>h.IsValuesView r d/\C0s h d es ep) where
 type:=λ_ hm=>hm.1.typeIs
 there:=λ_ hm=>⟨let ⟨_,ho,_⟩:=hm.1;Z0a ho,hm.2.lt⟩
 keep:=λ_ _ hm hk=>⟨let ⟨o,ho,x⟩:=hm.1;⟨o,hk r (.inl rfl) o ho,x⟩,hm.2.at λo e=>hk d (.inr rfl) o e⟩
 notList:=by decide
 notTuple:=by decide
 hint:=λ_ _ _ _ hm hq=>PySem.W.kdl_hint_values hm.1.typeIs hq
 iter:=λ_ _ hh hm=>⟨_,_,(λ_ _ hq=>B6a hm.1 hm.2 hq),B2r hh _ d (Z0h hm.2.lt) es ep,⟨⟨_,Z0c _ rfl,rfl,rfl⟩,hm.2.at λo e=>Z01 _ e⟩⟩
end
section
variable {X:Cx}
def C8p (H:Hp) (a:Addr) (vs:List V):Prop:=(∃kvs,Rd H a (.dK kvs)/\vs=kvs.map (·.2))\/∃kvs,Rd H a (.dT kvs)/\vs=kvs.map (·.2)
theorem C5z:∀{kvs:List (Key×V)} {ws:List (Key×Value)},KV kvs ws->A1v (kvs.map (·.2)) (ws.map (·.2))
 | _,_,.nil=> .nil
 | _,_,.cons r t=> .cons r.2 (C5z t)
theorem C5u {P:Program} {w:World} {H:Hp}:∀{kvs:List (List Key×V)} {xs:List (List Key×Addr×Value)},Paired (λ(p:List Key×V) (q:List Key×Addr×Value)=>p.1=q.1/\H q.2.1=some (.tup (p.1.map kV))/\A2a p.2 q.2.2) kvs xs->
  A1v (kvs.map (·.2)) (xs.map ((λx:DictEntry=>x.val)∘entryOfKey (tupleKind (A0l P w))))
 | _,_,.nil=> .nil
 | _,_,.cons r t=> .cons r.2.2 (C5u t)
theorem B0s {pins:List (Addr×Obj)} {σ:St} {H:Hp} {s:Shared} {a:Addr} {vs:List V} (I:Inv X pins σ H s) (h:C8p H a vs) :
  vs.length<=sizeLine/\(a == sysModules)=false/\∃es ep,C0s s.heap a es ep/\A1v vs (es.toList.map (·.val)):=by
 rcases h with ⟨kvs,e,rfl⟩ | ⟨kvs,e,rfl⟩
 ·obtain ⟨z,hs,ws,rel,o,es,ep,ho,hx,hd,hk,hp,hn⟩:=A9i I.hok e;refine ⟨by rw [Z08];exact z,hs,es,ep,⟨o,ho,hx,hd⟩,?_⟩
  have:es.toList.map (·.val)=ws.map (·.2):=List.ext_getElem? λi=>by
   rw [Z1z,Z1z];have hl:=hp.length;by_cases hi:i<es.toList.length
   ·have hi2:i<ws.length:=by omega
    have e1:es.toList[i]? =some es.toList[i]:=Z0b hi;have e2:ws[i]? =some ws[i]:=Z0b hi2;rw [e1,e2];have:=(hp.get? (i:=i) (e:=es.toList[i]) e1 (show ws[i]? =some (ws[i].1,ws[i].2) from e2)).2;show some es.toList[i].val=some ws[i].2;rw [this]
   ·rw [List.getElem?_eq_none (by omega),List.getElem?_eq_none (by omega)];rfl
  rw [this];exact C5z rel
 ·obtain ⟨z,hs,xs,rel,o,es,ep,ho,hx,hd,he,_⟩:=(show A1c X.prog X.w H s.heap a (.dT kvs) from C7f I.hok e);refine ⟨by rw [Z08];exact z,hs,es,ep,⟨o,ho,hx,hd⟩,?_⟩;rw [he,List.map_map];exact C5u rel
def C3l:V->List V->Hp->VK->Prop:=λx vs H Q=>∃a us,x= .ref a/\vs=[]/\C8p H a us/\∀p,H p=none->Q (.ref p) (upd H p (B1k p a))
theorem B8a:MtR X "dict.values" C3l:=by
 intro pins s σ H x xs v us Q I rx rv h;obtain ⟨a,ws,rfl,rfl,ha,q⟩:=h;cases rx;cases rv;obtain ⟨_,hs,es,ep,⟨o,ho,hx,hd⟩,_⟩:=B0s I ha;have ty:s.TypeIs (.ref a) "dict":=⟨o,ho,hx.1⟩;refine call_meetsIn PySem.F.slot_dict_values ty PySem.F.entry_dict_values (PySem.F.args_dict_values_1 _) (B5d a hs) ⟨ty,?_⟩;exact ⟨.ref s.heap.objs.size,_,I.laid (t':=s.toks) (o:=B1k s.heap.objs.size a) (λb u e=>Z01 _ e) (Z09 _) (C3c ⟨_,Z0c _ rfl,rfl,rfl⟩),rfl,q _ (I.hok.fresh (Z09 _))⟩
theorem B8j (hc:X.calm=true):A5y X (.type "list") (λxs H Q=>∃v a us,xs=[V.ref v]/\H v=some (B1k v a)/\C8p H a us/\∀l,H l=none->Q (.ref l) (upd H l (.lst us))):=by
 intro pins s σ H xs us Q I r h;obtain ⟨v,a,ws,rfl,hv,ha,q⟩:=h;obtain ⟨u,rfl,ru⟩:=B3d r;cases ru;obtain ⟨vw,_⟩:=(show A1c X.prog X.w H s.heap v (B1k v a) from I.hok v _ hv);obtain ⟨hz,hs,es,ep,bare,rv⟩:=B0s I ha;have ll:=rv.length;rw [Z08] at ll;have ll:ws.length=es.size:=by rw [ll];exact Array.length_toList
 refine PySem.W.kdl_call (B7y (r:=v) (d:=a) (es:=es) (ep:=ep)) (I.ok.hd hc) ⟨vw,bare⟩ (by rw [<-ll];exact hz) λh' tk acc c kp hD hacc=> ?_
 have e:acc.toList=es.toList.map (·.val):=List.ext_getElem? λi=>by
  by_cases hi:i<acc.toList.length
  ·have e1:acc.toList[i]? =some acc.toList[i]:=Z0b hi;obtain ⟨d,e2,e3⟩:=hacc.2 i acc.toList[i] (by rw [<-Array.getElem?_toList];exact e1);rw [e1,Z1z,Array.getElem?_toList,e2,e3];rfl
  ·have:=hacc.1;rw [List.getElem?_eq_none (by omega),List.getElem?_eq_none (by rw [Z08,Array.length_toList];rw [Array.length_toList] at hi;omega)]
 rw [<-e] at rv;exact ⟨.ref s.heap.objs.size,_,I.laid (t':=tk) kp (Z09 _) (show A1c X.prog X.w _ h' _ (.lst _) from ⟨hz,acc.toList,c,rv,by simpa using hD⟩),rfl,q _ (I.hok.fresh (Z09 _))⟩
end
abbrev A9c (h:Heap) (z TI TO:Addr) (f0:Value) (b:Bool):Prop :=
 h.get? z=some { cls:= .type "zip",dict:=none,data:= .fields #[f0,.bool b,.bool false,.ref TI,.ref TO],slots:= #[] }
section
variable {prog:Program} {w:World} {A:Around} {E:Value->Shared->Prop} {s:Shared}
theorem B4r {a:Addr} {Q:Option Obj->Shared->Prop} (h:Q (s.heap.get? a) s):wpAny (model prog w) A (loadIfAlive a) Q E s:=λΓ p _=>by
 show PySem.Sem.wp _ Γ (.loadIfAlive a .pure) _ _ p s;rw [PySem.Sem.wp];exact h
theorem A8t {z TI TO p:Addr} {o:Obj} {b:Bool} {Q:Bool->Shared->Prop} (hz:A9c s.heap z TI TO (rawInt (p:Int)) b) (hp:s.heap.get? p=some o)
  (q:∀h',A9c h' z TI TO (rawInt (p:Int)) true->Heap.SameBut z s.heap h'->Q false { s with heap:=h' }):wpAny (model prog w) A (Builtin.SmallTypes.ownedTupleIsFree (.ref z)) Q E s:=by
 unfold Builtin.SmallTypes.ownedTupleIsFree;refine Z00 (Z11 hz rfl (x:=rawInt (p:Int)) rfl ?_);show wpAny _ _ (loadIfAlive (Int.toNat (p:Int)) >>= _) _ _ _;refine Z00 (B4r ?_);rw [Int.toNat_natCast,hp];show wpAny _ _ (field (.ref z) 1 >>= _) _ _ _;refine Z00 (Z11 hz rfl (x:= .bool b) rfl ?_)
 cases b with
 | true =>
  show wpAny _ _ (pure false) _ _ _;exact Z04 (q s.heap hz ⟨rfl,λ_ _=>rfl⟩)
 | false =>
  show wpAny _ _ (setField (.ref z) 1 (.bool true) >>= _) _ _ _;refine Z00 (Z1h hz (by simp) λg1 z1 b1=> ?_);exact Z04 (q g1 z1 b1)
end
section
variable {z TI TO i1 i2 l1 l2:Addr} {st1 st2:Nat->Heap->Prop} {src1 src2:Array Value->Heap->Prop} {prog:Program} {w:World} {A:Around} {E:Value->Shared->Prop} {s:Shared}
theorem C4y (N1:Nx i1 l1 st1 src1) (N2:Nx i2 l2 st2 src2) {k1 k2:Nat} {xs ys:Array Value} {x y:Value} {p:Addr} {o:Obj} {b:Bool} {Q:Option Value->Shared->Prop} (D:ZipApart z TI TO i1 i2 l1 l2)
  (hz:A9c s.heap z TI TO (rawInt (p:Int)) b) (hp:s.heap.get? p=some o) (hTI:IsPair s.heap TI (.ref i1) (.ref i2)) (h1:st1 k1 s.heap) (h2:st2 k2 s.heap) (hl1:src1 xs s.heap) (hl2:src2 ys s.heap) (hx:xs[k1]? =some x) (hy:ys[k2]? =some y)
  (hQ:∀h',A9c h' z TI TO (rawInt (p:Int)) true->st1 (k1+1) h'->st2 (k2+1) h'->IsPair h' s.heap.objs.size x y->
   (∀c o,c≠z->c≠i1->c≠i2->s.heap.get? c=some o->h'.get? c=some o)->Q (some (.ref s.heap.objs.size)) { s with heap:=h' }):wpAny (model prog w) A (pyNext (.ref z)) Q E s:=by
 have hT:s.TypeIs (.ref z) "zip":=⟨_,hz,rfl⟩;unfold pyNext;refine Z00 (wpAny_attempt (Z1b (name:=Str.ofString "__next__") hT F.slot_zip_next (Z1g F.slot_zip_next hT F.entry_zip_next ?_ (F.args_zip_next_1 _))));show wpAny _ _ (field (.ref z) 2 >>= _) _ _ _;refine Z00 (Z11 hz rfl (x:= .bool false) rfl ?_);show wpAny _ _ (field (.ref z) 3 >>= _) _ _ _;refine Z00 (Z11 hz rfl (x:= .ref TI) rfl ?_);refine Z00 (Z21 hTI rfl ?_);show wpAny _ _ (Builtin.SmallTypes.ownedTupleIsFree (.ref z) >>= _) _ _ _;refine Z00 (A8t hz hp λg1 z1 b1=> ?_);simp only [Bool.false_eq_true,if_false];refine Z00 ?_;simp only [<-Array.forIn_toList,List.forIn_cons,List.forIn_nil];refine Z00 (Z00 (Z1w ?_));show wpAny _ _ (Builtin.SmallTypes.nextOf (.ref i1) >>= _) _ _ _;refine Z00 (N1.item (N1.mv h1 λo e=>b1.extBut _ _ D.i1z e) (N1.mvS hl1 λo e=>b1.extBut _ _ D.l1z e) hx λg2 t2 b2=>Z04 (Z04 ?_));refine Z00 (Z00 (Z1w ?_));show wpAny _ _ (Builtin.SmallTypes.nextOf (.ref i2) >>= _) _ _ _;refine Z00 (N2.item (N2.mv h2 λo e=>b2.extBut _ _ D.i12.symm (b1.extBut _ _ D.i2z e)) (N2.mvS hl2 λo e=>b2.extBut _ _ D.l2i1 (b1.extBut _ _ D.l2z e)) hy λg3 t3 b3=>Z04 (Z04 (Z04 ?_)));have hsz:g3.objs.size=s.heap.objs.size:=by rw [b3.1,b2.1,b1.1]
 have zlt:z<g3.objs.size:=by rw [hsz];exact Z0a hz
 show wpAny _ _ (newTuple [x,y] >>= _) _ _ _;refine Z00 (wpAny_newTuple ?_);have z3:A9c g3 z TI TO (rawInt (p:Int)) true:=b3.extBut _ _ D.i2z.symm (b2.extBut _ _ D.i1z.symm z1);have k3:∀c o,c≠z->c≠i1->c≠i2->s.heap.get? c=some o->g3.get? c=some o:=λc o c1 c3 c4 e=>b3.extBut _ _ c4 (b2.extBut _ _ c3 (b1.extBut _ _ c1 e));have u1:st1 (k1+1) g3:=N1.mv t2 λo e=>b3.extBut _ _ D.i12 e;have pr:IsPair (g3.push { cls:= .type "tuple",data:= .seq #[x,y] }) g3.objs.size x y:=Z0c _ rfl;rw [hsz] at pr;refine Z04 ⟨_,rfl,Z04 ?_⟩;show Q (some (.ref g3.objs.size)) _;rw [hsz];exact hQ _ (Z01 _ z3) (N1.mv u1 λo e=>Z01 _ e) (N2.mv t3 λo e=>Z01 _ e) pr λc o c1 c3 c4 e=>Z01 _ (k3 c o c1 c3 c4 e)
theorem C7q (N1:Nx i1 l1 st1 src1) (N2:Nx i2 l2 st2 src2) {k1 k2:Nat} {xs ys:Array Value} {p:Addr} {o:Obj} {b:Bool} {Q:Option Value->Shared->Prop} (hh:A.handled=none) (D:ZipApart z TI TO i1 i2 l1 l2)
  (hz:A9c s.heap z TI TO (rawInt (p:Int)) b) (hp:s.heap.get? p=some o) (hTI:IsPair s.heap TI (.ref i1) (.ref i2)) (h1:st1 k1 s.heap) (h2:st2 k2 s.heap) (hl1:src1 xs s.heap) (hl2:src2 ys s.heap) (hend:xs[k1]? =none\/ys[k2]? =none)
  (hQ:∀h',(∀c o,c≠z->c≠i1->c≠i2->s.heap.get? c=some o->h'.get? c=some o)->Q none { s with heap:=h' }):wpAny (model prog w) A (pyNext (.ref z)) Q E s:=by
 have hT:s.TypeIs (.ref z) "zip":=⟨_,hz,rfl⟩;unfold pyNext
 have fin:∀(h':Heap) (e:Addr),(∀c o,c≠z->c≠i1->c≠i2->s.heap.get? c=some o->h'.get? c=some o)->(∃o,h'.get? e=some o/\o.cls= .type "StopIteration")->
   wpAny (model prog w) A (isInstance (.ref e) (.type "StopIteration") >>= λb=>if b=true then pure none else throw (.ref e)) Q E { s with heap:=h' }:=λh' e hk ⟨o,ho,hc⟩ =>
  Z00 (wpAny_isInstance (T:="StopIteration") (b:=true) ⟨o,ho,hc⟩ isSubtype_stop (Z04 (hQ _ hk)))
 refine Z00 (wpAny_attempt (Z1b (name:=Str.ofString "__next__") hT F.slot_zip_next (Z1g F.slot_zip_next hT F.entry_zip_next ?_ (F.args_zip_next_1 _))));show wpAny _ _ (field (.ref z) 2 >>= _) _ _ _;refine Z00 (Z11 hz rfl (x:= .bool false) rfl ?_);show wpAny _ _ (field (.ref z) 3 >>= _) _ _ _;refine Z00 (Z11 hz rfl (x:= .ref TI) rfl ?_);refine Z00 (Z21 hTI rfl ?_);show wpAny _ _ (Builtin.SmallTypes.ownedTupleIsFree (.ref z) >>= _) _ _ _;refine Z00 (A8t hz hp λg1 z1 b1=> ?_);simp only [Bool.false_eq_true,if_false];refine Z00 ?_;simp only [<-Array.forIn_toList,List.forIn_cons,List.forIn_nil];refine Z00 (Z00 (Z1w ?_));show wpAny _ _ (Builtin.SmallTypes.nextOf (.ref i1) >>= _) _ _ _;have u1:=N1.mv h1 λo e=>b1.extBut _ _ D.i1z e;have v1:=N1.mvS hl1 λo e=>b1.extBut _ _ D.l1z e
 cases hx:xs[k1]? with
 | none =>
  refine Z00 (N1.fin hh u1 v1 hx λg2 e b2 he=> ?_);exact fin g2 e (λc o c1 c3 _ x=>b2 _ _ c3 (b1.extBut _ _ c1 x)) he
 | some x =>
  have hy:ys[k2]? =none:=by
   rcases hend with h | h
   ·rw [hx] at h;cases h
   ·exact h
  refine Z00 (N1.item u1 v1 hx λg2 t2 b2=>Z04 (Z04 ?_));refine Z00 (Z00 (Z1w ?_));show wpAny _ _ (Builtin.SmallTypes.nextOf (.ref i2) >>= _) _ _ _;refine Z00 (N2.fin hh (N2.mv h2 λo e=>b2.extBut _ _ D.i12.symm (b1.extBut _ _ D.i2z e)) (N2.mvS hl2 λo e=>b2.extBut _ _ D.l2i1 (b1.extBut _ _ D.l2z e)) hy λg4 e b4 he=> ?_);exact fin g4 e (λc o c1 c3 c4 x=>b4 _ _ c4 (b2.extBut _ _ c3 (b1.extBut _ _ c1 x))) he
end
def ZS (z TI TO i1 i2 a b d:Addr) (i:Nat) (h:Heap):Prop:=IsPair h TI (.ref i1) (.ref i2)/\h.IsListIter i1 a i/\h.IsTupleIter i2 b i/\
 ((IsZip h z TI TO .none/\∃u v,IsPair h TO u v)\/∃(p:Addr) (o:Obj) (bb:Bool),A9c h z TI TO (rawInt (p:Int)) bb/\h.get? p=some o/\p≠z/\p≠i1/\p≠i2/\p≠d)
theorem ZS.at {z TI TO i1 i2 a b d:Addr} {i:Nat} {h h':Heap} (x:ZS z TI TO i1 i2 a b d i h) (nz:z≠d) (n1:TI≠d) (n2:TO≠d) (n3:i1≠d) (n4:i2≠d) (f:∀c o,c≠d->h.get? c=some o->h'.get? c=some o):ZS z TI TO i1 i2 a b d i h':=by
 obtain ⟨h1,h2,h3,h4⟩:=x;refine ⟨f _ _ n1 h1,(A1p i1 a).mv h2 λo e=>f _ _ n3 e,(A4z i2 b).mv h3 λo e=>f _ _ n4 e,?_⟩;rcases h4 with ⟨h4,u,v,h5⟩ | ⟨p,o,bb,h4,h5,m1,m2,m3,m4⟩
 ·exact .inl ⟨f _ _ nz h4,u,v,f _ _ n2 h5⟩
 ·exact .inr ⟨p,o,bb,f _ _ nz h4,f _ _ m4 h5,m1,m2,m3,m4⟩
section
variable {z TI TO i1 i2 a b d:Addr} {prog:Program} {w:World} {A:Around} {E:Value->Shared->Prop} {s:Shared}
theorem C6u {i:Nat} {xs ys:Array Value} {x y:Value} {Q:Option Value->Shared->Prop} (D:ZipApart z TI TO i1 i2 a b) (ld:d<s.heap.objs.size) (hz:ZS z TI TO i1 i2 a b d i s.heap) (hl:s.heap.IsList a xs) (ht:s.heap.IsTuple b ys) (hx:xs[i]? =some x) (hy:ys[i]? =some y)
  (hQ:∀h',ZS z TI TO i1 i2 a b d (i+1) h'->IsPair h' s.heap.objs.size x y->(∀c o,c≠z->c≠TO->c≠i1->c≠i2->s.heap.get? c=some o->h'.get? c=some o)->Q (some (.ref s.heap.objs.size)) { s with heap:=h' }) :
  wpAny (model prog w) A (pyNext (.ref z)) Q E s:=by
 obtain ⟨h1,h2,h3,h4⟩:=hz;have n4:i1<s.heap.objs.size:=let ⟨_,e,_⟩:=(A1p i1 a).ob h2;Z0a e;have n5:i2<s.heap.objs.size:=let ⟨_,e,_⟩:=(A4z i2 b).ob h3;Z0a e;rcases h4 with ⟨h4,u,v,h5⟩ | ⟨p,o,bb,h4,h5,m1,m2,m3,m4⟩
 ·have nz:z<s.heap.objs.size:=Z0a h4;refine B7j (A1p i1 a) (A4z i2 b) D h4 h1 h5 h2 h3 hl ht hx hy λh' z1 z2 z3 z4 z5 kp=> ?_;exact hQ h' ⟨kp _ _ D.TIz D.TITO D.TIi1 D.TIi2 h1,z3,z4,.inr ⟨s.heap.objs.size,_,false,z1,z5,Z1q nz,Z1q n4,Z1q n5,Z1q ld⟩⟩ z5 kp
 ·refine C4y (A1p i1 a) (A4z i2 b) D h4 h5 h1 h2 h3 hl ht hx hy λh' z1 z3 z4 z5 kp=> ?_;exact hQ h' ⟨kp _ _ D.TIz D.TIi1 D.TIi2 h1,z3,z4,.inr ⟨p,o,true,z1,kp _ _ m1 m2 m3 h5,m1,m2,m3,m4⟩⟩ z5 λc o c1 _ c3 c4 e=>kp c o c1 c3 c4 e
theorem C9y {i:Nat} {xs ys:Array Value} {Q:Option Value->Shared->Prop} (hh:A.handled=none) (D:ZipApart z TI TO i1 i2 a b) (hz:ZS z TI TO i1 i2 a b d i s.heap) (hl:s.heap.IsList a xs) (ht:s.heap.IsTuple b ys) (he:xs[i]? =none\/ys[i]? =none)
  (hQ:∀h',(∀c o,c≠z->c≠TO->c≠i1->c≠i2->s.heap.get? c=some o->h'.get? c=some o)->Q none { s with heap:=h' }):wpAny (model prog w) A (pyNext (.ref z)) Q E s:=by
 obtain ⟨h1,h2,h3,h4⟩:=hz;rcases h4 with ⟨h4,u,v,h5⟩ | ⟨p,o,bb,h4,h5,m1,m2,m3,m4⟩
 ·exact B9n (A1p i1 a) (A4z i2 b) hh D h4 h1 h5 h2 h3 hl ht he hQ
 ·exact C7q (A1p i1 a) (A4z i2 b) hh D h4 h5 h1 h2 h3 hl ht he λh' kp=>hQ h' λc o c1 _ c3 c4 e=>kp c o c1 c3 c4 e
end
section
variable {prog:Program} {w:World} {K:Type} [DecidableEq K] {knd:KeyKind prog w K} {A:Around} {R:Result->Shared->Prop} {z TI TO i1 i2 a b d:Addr} {xs ys:Array Value} {rs:List (K×Value)} {h₀:Heap} {g:Array GenState} {dr:Drawn} {os:OsState}
theorem C1a (hh:A.handled=none) (D:ZipApart z TI TO i1 i2 a b) (nz:z≠d) (n1:TI≠d) (n2:TO≠d) (n3:i1≠d) (n4:i2≠d) (na:a≠d) (nb:b≠d) (hsz:rs.length<=sizeLine)
  (pa:∀(i:Nat) (k:K) (u:Value),rs[i]? =some (k,u)->∃kv,xs[i]? =some kv/\ys[i]? =some u/\knd.is k kv=true) (he:xs[rs.length]? =none\/ys[rs.length]? =none) (hl:h₀.IsList a xs) (ht:h₀.IsTuple b ys) (aTO:a≠TO) (a1:a≠i1) (a2:a≠i2) (az:a≠z) (bTO:b≠TO) (b1:b≠i1) (b2:b≠i2) (bz:b≠z)
  (fin:∀h' tk,h'.DictOf knd d (merged [] rs)->(∀c o,c≠z->c≠TO->c≠i1->c≠i2->c≠d->h₀.get? c=some o->h'.get? c=some o)->R (.ok (.ret .none)) ⟨h',g,dr,tk,os⟩) :
  ∀(k i:Nat) (h:Heap) (tk:Nat),rs.length-i=k->i<=rs.length->ZS z TI TO i1 i2 a b d i h->(∀c o,c≠z->c≠TO->c≠i1->c≠i2->c≠d->h₀.get? c=some o->h.get? c=some o)->h.DictOf knd d (merged [] (rs.take i))->
   codeAny (model prog w) A (.builtin "dict.update.loop" ⟨[.ref d,.ref z,rawInt i,.none],[]⟩) R ⟨h,g,dr,tk,os⟩:=by
 intro k
 induction k with
 | zero =>
  intro i h tk hk hi hit kp hD;have hin':i=rs.length:=by omega
  refine codeAny_builtin A3c ?_;rw [Around.under_plainId A1g _];show wpAny _ A.in1 (pyNext (.ref z) >>= _) _ _ _;refine Z00 (C9y (s:=⟨h,g,dr,tk,os⟩) (by simpa using hh) D hit (hl.at λo e=>kp a o az aTO a1 a2 na e) (let ⟨o,e,r⟩:=ht;⟨o,kp b o bz bTO b1 b2 nb e,r⟩) (by rw [hin'];exact he) λh' kp'=> ?_);show wpAny _ A.in1 (Builtin.Dict.addKeywords d [] >>= λ_=>ret Value.none) _ _ _;rw [hin',Z18] at hD;obtain ⟨od,es,ep,ho,r⟩:=hD;exact Z00 (Z04 (Z04 (fin h' tk ⟨od,es,ep,kp' d od nz.symm n2.symm n3.symm n4.symm ho,r⟩ λc o c1 c2 c3 c4 c5 e=>kp' c o c1 c2 c3 c4 (kp c o c1 c2 c3 c4 c5 e))))
 | succ k ih =>
  intro i h tk hk hi hit kp hD;have hlt:i<rs.length:=by omega
  obtain ⟨⟨k',u⟩,hku⟩:∃p,rs[i]? =some p:=⟨rs[i],Z0b _⟩;obtain ⟨kv,hx,hy,his⟩:=pa i k' u hku;refine codeAny_builtin A3c ?_;rw [Around.under_plainId A1g _];show wpAny _ A.in1 (pyNext (.ref z) >>= _) _ _ _;have ld:d<h.objs.size:=let ⟨_,_,_,e,_⟩:=hD;Z0a e;refine Z00 (C6u (s:=⟨h,g,dr,tk,os⟩) D ld hit (hl.at λo e=>kp a o az aTO a1 a2 na e) (let ⟨o,e,r⟩:=ht;⟨o,kp b o bz bTO b1 b2 nb e,r⟩) hx hy λh' zs pr kp'=> ?_);have pr:IsPair h' h.objs.size kv u:=pr;have hT:(⟨h',g,dr,tk,os⟩:Shared).TypeIs (.ref h.objs.size) "tuple":=⟨_,pr,rfl⟩;show wpAny _ A.in1 (holding [Value.ref h.objs.size] _ >>= _) _ _ _;refine Z00 (Z1w (Z00 (wpAny_tryCatch ?_)));unfold Builtin.Dict.pairItems;refine Z00 (wpAny_typeOf hT ?_);rw [Z12 (by decide)];refine Z00 (Z21 pr rfl (Z04 ?_));show wpAny _ A.in1 (holding [kv,u] (dictSet d kv u)) _ _ _
  have hD':h'.DictOf knd d (merged [] (rs.take i)):=by
   obtain ⟨od,es,ep,ho,r⟩:=hD;exact ⟨od,es,ep,kp' d od nz.symm n2.symm n3.symm n4.symm ho,r⟩
  have hlen:(merged [] (rs.take i)).length<=sizeLine:=by
   have e1:=merged_length_le ([]:List (K×Value)) (rs.take i);have e2:(rs.take i).length<=rs.length:=by rw [Z0x];omega
   simp only [List.length_nil,Nat.zero_add] at e1;omega
  refine Z1w (wpAny_dictSet_pairs (hsz:=hlen) (s:=⟨h',g,dr,tk,os⟩) his hD' λh2 hD2 sb=> ?_);rw [<-merged_take_succ [] rs i (k',u) hku] at hD2;refine Z04 ⟨plainId_quiet A1g _,ih (i+1) h2 _ (by omega) (by omega) (zs.at nz n1 n2 n3 n4 λc o hc e=>(sb.2 c hc).trans e) ?_ hD2⟩;intro c oc c1 c2 c3 c4 c5 e;exact (sb.2 c c5).trans (kp' c oc c1 c2 c3 c4 (kp c oc c1 c2 c3 c4 c5 e))
end
theorem A5z:typeLookup (.type "zip") "__getattr__"=pure none:=by rw [typeLookup_type,builtinLookup_eq_fast];kernel_rfl
theorem A4b:entryFor table "zip.__getattribute__"=some Builtin.«object.__getattribute__» :=
 entryFor_alias (id':="object.__getattribute__") (by kernel_rfl) (by decide +kernel) (by decide +kernel) (by kernel_rfl)
theorem B9e:typeLookup (.type "zip") "keys"=pure none:=by rw [typeLookup_type,builtinLookup_eq_fast];kernel_rfl
theorem B0m (a:Addr) (fs:Array Value) (sl:Array (Option Value)) (name:Str) (u:Tok) (hmiss:typeLookup (.type "zip") name=pure none) (hname:(["__module__","__name__","__qualname__","__doc__","__annotations__"]:List Str).contains name=false) (hsz:name.length+100<=sizeLine:=by size_fits) :
  Meets (Builtin.«object.__getattribute__» ⟨[.ref a,.str name u],[]⟩) (λA R s=>s.heap.get? a=some { cls:= .type "zip",dict:=none,data:= .fields fs,slots:=sl }/\raisesAttr (.ref a) name A R s) :=
 Meets.of_wp λprog w A R s hs=>by
  obtain ⟨hp,g,d,tk,os⟩:=s;obtain ⟨hx,hs⟩:=hs;have hT:(⟨hp,g,d,tk,os⟩:Shared).TypeIs (.ref a) "zip":=⟨_,hx,rfl⟩;unfold Builtin.«object.__getattribute__»
  repeat (any_goals (first | assumption | wp_step))
  simp only [hname,Bool.false_eq_true,if_false]
  repeat (any_goals (first | assumption | wp_step))
  exact wpAny_raiseAttrError hs.1 hs.2 (attrMsg_fits (by decide +kernel) hsz)
theorem B8u {prog:Program} {w:World} {A:Around} {E:Value->Shared->Prop} {s:Shared} {a:Addr} {fs:Array Value} {sl:Array (Option Value)} {Q:Option Value->Shared->Prop}
  (hx:s.heap.get? a=some { cls:= .type "zip",dict:=none,data:= .fields fs,slots:=sl }) (hA:A.handled=none)
  (h:∀h' tk,(∀b ob,s.heap.get? b=some ob->h'.get? b=some ob)->Q none { s with heap:=h',toks:=tk }):wpAny (model prog w) A (getAttr? (.ref a) "keys") Q E s:=by
 obtain ⟨hp,g,d,tk,os⟩:=s;have hT:∀tk',(⟨hp,g,d,tk',os⟩:Shared).TypeIs (.ref a) "zip":=λ_=>⟨_,hx,rfl⟩;have f1:=sub_AttributeError;have f3:=F.slot_zip_getattribute.lookup;have f4:=F.slot_zip_getattribute.bind (.ref a);have f5:=A5z;unfold getAttr? getAttrBy? getAttrBy
 repeat (any_goals (first | assumption | exact hT _ | ((with_reducible show wpAny _ _ (call (Value.builtin "zip.__getattribute__") _ _) _ _ _);refine call_meets F.slot_zip_getattribute (hT _) A4b (F.args_zip_getattribute_2 _ _) (B0m a fs sl "keys" _ B9e (by decide) (by decide)) ⟨hx,hA,λh' tk' e hx'=> ?_⟩) | wp_step))
 obtain ⟨t',u',he⟩:=hx'.there;show wpAny _ _ (getattributeRaised _ _ _ _ _ _ _) _ _ _;unfold getattributeRaised
 repeat (any_goals (first | assumption | wp_step))
 all_goals exact h _ _ hx'.1
def tDZ (K:PySem.W.Frag) (ta:TA):TE:=λσ H Q=>ta σ H λvs H1=>∃l t ks us,vs=[.ref l,.ref t]/\SqL K H1 l ((ks:List Key).map kV)/\SqT K H1 t us/\ks.length=us.length/\∀p,H1 p=none->Q (.ref p) (upd H1 p (.dK (A3f [] (ks.zip us))))
theorem C5i:∀{ks:List Key} {us:List V} {vs:List Value},ks.length=us.length->A1v us vs->KV (ks.zip us) (ks.zip vs)
 | [],[],_,_,.nil=> .nil
 | k::ks,u::us,_,h,.cons r t=> .cons ⟨rfl,r⟩ (C5i (by simpa using h) t)
theorem B1o {P:Program} {w:World}:∀{ks:List Key} {its:List Value},A1v (ks.map kV) its->∀{i:Nat} {k:Key},ks[i]? =some k->∃v,its[i]? =some v/\(A0l P w).is k v=true
 | [],_,.nil,i,k,h=>by simp at h
 | _::_,_,.cons r t,0,k,h=>by simp at h;subst h;exact ⟨_,rfl,B5j r⟩
 | _::_,_,.cons r t,i+1,k,h=>by
  obtain ⟨v,e1,e2⟩:=B1o (P:=P) (w:=w) t (i:=i) (k:=k) (by simpa using h);exact ⟨v,by simpa using e1,e2⟩
section
variable {X:Cx}
theorem B8i {a b:Expr} {ta:TA} {p1 p2 pos1 pos2:Pos} (hc:X.calm=true) (hgd:Gl X "dict") (hmd:X.mg "dict"=none) (hgz:Gl X "zip") (hmz:X.mg "zip"=none) (ha:PA X [a,b] ta)
  (hs0:starEach [.Call (.Name "zip" p2) [a,b] [] pos2] X.env=(false,eval (.Call (.Name "zip" p2) [a,b] [] pos2) X.env)::starEach [] X.env:=by rfl)
  (hs:starEach [a,b] X.env=[(false,eval a X.env),(false,eval b X.env)]:=by rfl) (hs2:starEach [b] X.env=[(false,eval b X.env)]:=by rfl) :
  PE X (.Call (.Name "dict" p1) [.Call (.Name "zip" p2) [a,b] [] pos2] [] pos1) (tDZ X.K ta):=by
 intro pins s σ H Q I h;have hh:X.A.handled=none:=I.ok.hd hc;refine wpAny_Call_Name_kw (A7x I hgd hmd boot_dict ?_);refine PyProof.Rows.callWith_type1 ?_ hs0 (by rfl);rw [hs0];show wpAny _ _ (spliced ((false,eval _ X.env)::backTo pos1 (starEach [] X.env))) _ _ s;refine Calls.spliced_cons ?_;refine Call_ (A7x I hgz hmz boot_zip (PyProof.Rows.callWith_type1 (thn (ha pos2 pins s σ H _ I h) λus s1 ⟨vs,H1,I1,r1,q1⟩=> ?_) (by rw [hs,hs2]) (by rw [hs2];rfl)));obtain ⟨l1,l2,ks,ws,e,hq1,hq2,hle,q⟩:=q1;subst e;obtain ⟨u,u2,rfl,ru,ru2⟩:=B8z r1;cases ru;cases ru2;obtain ⟨its,rv,p1',zk⟩:=I1.list hq1;obtain ⟨its2,rv2,p2',_⟩:=I1.tuple hq2;have t1:l1<s1.heap.objs.size:=let ⟨_,e,_⟩:=p1'.isList;Z0a e;have t2:l2<s1.heap.objs.size:=p2'.lt;have e1:=rv.length;have e2:=rv2.length;rw [Z08] at e1;have hn:=I1.hok.fresh (Z09 s1.heap.objs.size);refine B5t p1'.isList (show s1.heap.IsTuple l2 its2.toArray from p2') λh' zs kp=>Calls.spliced_nil ?_;obtain ⟨hz,hTI,⟨tu,tv,hTO⟩,hi1,hi2⟩:=zs;have D:=zipApart_new t1 t2;have lz:s1.heap.objs.size+4<h'.objs.size:=Z0a hz;refine callType_codes (Q₁:=λobj s₁=>obj= .ref h'.objs.size/\s₁={ s1 with heap:=h'.push { cls:= .type "dict",data:= .dict #[] } }) F.kt_called_dict (F.kt_typeCall_dict_1 _) F.entry_dict_init (kt_code_dict_new (s:={ s1 with heap:=h' }) _ ⟨rfl,rfl⟩) ?_;rintro obj s₁ ⟨rfl,rfl⟩;have hnew:(h'.push { cls:= .type "dict",data:= .dict #[] }).DictOf (A0l X.prog X.w) h'.objs.size []:=Heap.DictOf.new h';have ez:(h'.push { cls:= .type "dict",data:= .dict #[] }).get? (s1.heap.objs.size+4)=some _:=Z01 _ hz;have hTz:Shared.TypeIs { s1 with heap:=h'.push { cls:= .type "dict",data:= .dict #[] } } (.ref (s1.heap.objs.size+4)) "zip":=⟨_,ez,rfl⟩;refine ⟨hnew.typeIs,F.args_dict_init_2 _ _,?_⟩;unfold Builtin.«dict.__init__»;refine Z00 ?_;unfold Builtin.Dict.selfAndRest;refine Z00 (wpAny_notOrdered_dict hnew.typeIs ?_);show wpAny _ _ (pure (h'.objs.size,[Value.ref (s1.heap.objs.size+4)])) _ _ _;refine Z04 ?_;show wpAny _ _ (Builtin.Dict.updateFrom "dict.__init__" h'.objs.size (.ref (s1.heap.objs.size+4)) [] .none) _ _ _;unfold Builtin.Dict.updateFrom;refine Z00 (wpAny_typeOf hTz ?_);rw [Z12 (by decide)];refine Z00 (B8u ez (by simpa using hh) λh1 tk1 kp1=> ?_)
 rw [Z12 (show (none:Option Value).isNone=true from rfl)];refine Z00 (wpAny_rule ?_);refine Z00 (wpAny_pyIter_zip (s:={ s1 with heap:=h1,toks:=tk1 }) (kp1 _ _ ez) ?_);have up:∀c o,h'.get? c=some o->h1.get? c=some o:=λc o e=>kp1 _ _ (Z01 _ e)
 have lr:(ks.zip its2).length=ks.length:=by rw [List.length_zip];omega
 have q1:∀i:Nat,i<=4->s1.heap.objs.size+i≠h'.objs.size:=λi hi z=>by omega
 have q2:∀c:Nat,c<s1.heap.objs.size->c≠h'.objs.size:=λc hc z=>by omega
 have q3:∀c i:Nat,c<s1.heap.objs.size->c≠s1.heap.objs.size+i:=λc i hc z=>by omega
 have le':s1.heap.objs.size<=h'.objs.size:=by omega
 have z1:ks.length<=sizeLine:=by rw [Z08] at zk;exact zk
 refine Z04 ⟨plainId_quiet A1g _,C1a (knd:=A0l X.prog X.w) (rs:=ks.zip its2) (xs:=its.toArray) (ys:=its2.toArray) (h₀:=h1) (by simpa using hh) D (q1 4 (by decide)) (q1 2 (by decide)) (q1 3 (by decide)) (q1 0 (by decide)) (q1 1 (by decide)) (q2 _ t1) (q2 _ t2) (by rw [lr];exact z1) (λi k u hr=> ?_) ?_ (p1'.isList.at λo e=>up _ _ (kp _ _ e)) (let ⟨o,e,r⟩:=p2';⟨o,up _ _ (kp _ _ e),r⟩) (q3 _ 3 t1) (q3 _ 0 t1) (q3 _ 1 t1) (q3 _ 4 t1) (q3 _ 3 t2) (q3 _ 0 t2) (q3 _ 1 t2) (q3 _ 4 t2) (λh2 tk dd kp2=> ?_) (ks.zip its2).length 0 h1 _ (by omega) (Z1e _) ⟨up _ _ hTI,(A1p _ l1).mv hi1 λo e=>up _ _ e,(A4z _ l2).mv hi2 λo e=>up _ _ e,.inl ⟨up _ _ hz,tu,tv,up _ _ hTO⟩⟩ (λ_ _ _ _ _ _ _ z=>z) ?_⟩
 ·obtain ⟨g1,g2⟩:=List.getElem?_zip_eq_some.mp hr;obtain ⟨kv,g3,g4⟩:=B1o (P:=X.prog) (w:=X.w) rv g1;exact ⟨kv,by simpa using g3,by simpa using g2,g4⟩
 ·left;rw [lr];simp;omega
 ·have kv:=C5i hle rv2;refine ⟨rfl,.ref h'.objs.size,_,I1.laid (t':=tk) (o:= .dK (A3f [] (ks.zip ws))) (λb u eb=> ?_) le' ⟨?_,?_,_,KV.merge kv .nil,dd⟩,rfl,q _ (I1.hok.fresh le')⟩
  ·have lb:=Z0a eb;exact kp2 b u (q3 _ 4 lb) (q3 _ 3 lb) (q3 _ 0 lb) (q3 _ 1 lb) (q2 _ lb) (up _ _ (kp _ _ eb))
  ·have:=A3i (ks.zip ws) [];have lw:(ks.zip ws).length=ks.length:=by rw [List.length_zip];omega
   simp only [List.length_nil] at this;omega
  ·have:=I1.big;have hne:h'.objs.size≠sysModules:=Z1q (Z0q this le')
   simpa using hne
 ·obtain ⟨od,es,ep,g,r⟩:=hnew;exact ⟨od,es,ep,kp1 _ _ g,r⟩
end
theorem B2z:entryFor table "set.__ne__"=some Builtin.«frozenset.__ne__»:=entryFor_alias (id':="frozenset.__ne__") (by kernel_rfl) (by decide +kernel) (by decide +kernel) (by kernel_rfl)
theorem B5s:isSubtype (.type "set") (.type "set")=pure true:=by rw [isSubtype_type];kernel_rfl
theorem B3g:isSubtype (.type "set") (.type "frozenset")=pure false:=by rw [isSubtype_type];kernel_rfl
theorem A4g {prog:Program} {w:World} {A:Around} {E:Value->Shared->Prop} {s:Shared} {a:Addr} {Q:Array (Int×Value)->Shared->Prop} {o:Obj} {es:Array (Int×Value)} {ep:Nat} {t:SetTable} (ho:s.heap.get? a=some o) (hd:o.data= .set es ep t) (hf:t.fits es.size=true) (q:Q es s):wpAny (model prog w) A (setEntries a) Q E s:=by
 unfold setEntries;exact Z00 (wpAny_setState_of ho hd hf (Z04 q))
theorem B3e {prog:Program} {w:World} {A:Around} {E:Value->Shared->Prop} {s:Shared} {a:Addr} {Q:Nat->Shared->Prop} {o:Obj} {es:Array (Int×Value)} {ep:Nat} {t:SetTable} (ho:s.heap.get? a=some o) (hd:o.data= .set es ep t) (hf:t.fits es.size=true) (q:Q ep s):wpAny (model prog w) A (setEpoch a) Q E s:=by
 unfold setEpoch;exact Z00 (wpAny_setState_of ho hd hf (Z04 q))
section
variable {prog:Program} {w:World} {K:Type} [DecidableEq K] {knd:KeyKind prog w K} {A:Around} {E:Value->Shared->Prop} {s:Shared}
theorem C4x {a b:Addr} {Q:List (Int×Value)->Shared->Prop} {o o':Obj} {es es':Array (Int×Value)} {ep ep':Nat} {t t':SetTable} (ho:s.heap.get? a=some o) (hd:o.data= .set es ep t) (hf:t.fits es.size=true) (hel:ElemsOf knd es.toList)
  (ho':s.heap.get? b=some o') (hd':o'.data= .set es' ep' t') (hf':t'.fits es'.size=true) (hel':ElemsOf knd es'.toList) (q:Q es.toList s):wpAny (model prog w) A (Builtin.Frozenset.walkUnseen a b) Q E s:=by
 unfold Builtin.Frozenset.walkUnseen;refine Z00 (A4g ho hd hf ?_);refine Z00 (A4g ho' hd' hf' ?_);refine Z00 (wpAny_forIn_list _ (λrest b s'=>b.1=none/\s'=s/\ElemsOf knd rest) _ ?_ ?_ _ _ ⟨rfl,rfl,?_⟩)
 ·rintro ⟨hh,x⟩ rest bb s' ⟨e1,rfl,el⟩;obtain ⟨⟨k,hk,_⟩,_⟩:=el.head;show wpAny _ _ (Builtin.Dict.quietEq x >>= _) _ _ _;rw [quietEq_of_byValue (knd.byValue k _ hk)];refine Z00 (Z04 ?_);exact Z04 ⟨rfl,rfl,el.tail⟩
 ·rintro ⟨b1,b2⟩ s' ⟨e1,rfl,_⟩;have e1:b1=none:=e1;subst e1;exact Z04 q
 ·intro x hx;rcases Z07.mp hx with hx | hx
  ·exact hel x hx
  ·exact hel' x hx
theorem C7i {a b:Addr} {S S':K->Bool} {n m:Nat} {nm:String} {r:Bool} {Q:Bool->Shared->Prop} (ha:s.heap.SetOf knd a S n) (hb:s.heap.SetOf knd b S' m) (hnm:n<=m) (hr:r=true↔∀k,S k=true->S' k=true) (q:Q r s) :
  wpAny (model prog w) A (Builtin.Frozenset.subsetOf nm a b) Q E s:=by
 obtain ⟨o,es,ep,t,ho,hx,hd,hel,hS,hbnd,hf,hn⟩:=id ha;obtain ⟨o',es',ep',t',ho',hx',hd',hel',hS',hbnd',hf',hm⟩:=id hb;unfold Builtin.Frozenset.subsetOf Builtin.Frozenset.sizeOf;refine Z00 (Z00 (A4g ho hd hf (Z04 ?_)));refine Z00 (Z00 (A4g ho' hd' hf' (Z04 ?_)));rw [Z0t (by omega)];refine Z00 (B3e ho hd hf ?_);refine Z00 (C4x ho hd hf hel ho' hd' hf' hel' ?_);refine Z00 (wpAny_forIn_list _ (λrest bb s'=>bb.1=none/\s'=s/\ElemsOf knd rest/\(∀e∈rest,e∈es.toList)/\((∀e∈rest,∀k,knd.is k e.2=true->S' k=true)->r=true)) _ ?_ ?_ _ _ ⟨rfl,rfl,hel,λe he=>he,λh=>hr.mpr λk hk=> ?_⟩)
 ·rintro ⟨hh,x⟩ rest bb s' ⟨e1,rfl,el,sub,hall⟩;obtain ⟨⟨k,hk,e⟩,hsc⟩:=el.head;have e:hh=knd.hash k:=e;subst e;refine Z00 (Z1w (wpAny_setFind_of hk hsc hb λrr hrr=> ?_))
  cases hSk:S' k with
  | false =>
   rw [hSk] at hrr;have:rr=none:=by cases rr <;> simp_all
   subst this;refine Z04 ?_
   have hr0:r=false:=by
    cases r with
    | false=>rfl
    | true =>
     have:=(hr.mp rfl) k ((hS k).mpr ⟨_,sub _ (.head _),hk⟩);rw [hSk] at this;cases this
   subst hr0;exact Z04 q
  | true =>
   rw [hSk] at hrr;obtain ⟨z,rfl⟩:=Option.isSome_iff_exists.mp hrr;show wpAny _ _ (Builtin.Frozenset.unchanged nm a ep >>= _) _ _ _;unfold Builtin.Frozenset.unchanged;refine Z00 (Z00 (B3e ho hd hf ?_));rw [Z0t (by simp)];refine Z04 (Z04 ⟨rfl,rfl,el.tail,λe he=>sub e (.tail _ he),λh=>hall λe he k' hk'=> ?_⟩);rcases Z0e.mp he with rfl | he
   ·rw [knd.inj _ _ _ hk' hk];exact hSk
   ·exact h e he k' hk'
 ·rintro ⟨b1,b2⟩ s' ⟨e1,rfl,_,_,hall⟩;have e1:b1=none:=e1;subst e1;have:r=true:=hall (λe he=>by cases he);subst this;exact Z04 q
 ·obtain ⟨e,he,hek⟩:=(hS k).mp hk;exact h e he k hek
theorem D1d {a b:Addr} {S S':K->Bool} {n m:Nat} {r:Bool} {Q:Value->Shared->Prop} (ha:s.heap.SetOf knd a S n) (hb:s.heap.SetOf knd b S' m) (hu:A.units<cLine) (hr:r=true↔(n=m/\∀k,S k=true->S' k=true)) (q:Q (.bool (!r)) s) :
  wpAny (model prog w) A (compareOp .NotEq (.ref a) (.ref b)) Q E s:=by
 obtain ⟨o,es,ep,t,ho,hx,hd,hel,hS,hbnd,hfit,hn⟩:=id ha;obtain ⟨o',es',ep',t',ho',hx',hd',hel',hS',hbnd',hfit',hm⟩:=id hb;refine wpAny_richCompare_same_room (op:= .NotEq) ha.typeIs hb.typeIs F.slot_set_ne (Z1g F.slot_set_ne ha.typeIs B2z ?_ (F.args_set_ne_2 _ _)) hu;show wpAny _ _ (Builtin.Frozenset.slot1 "__ne__" ⟨[.ref a,.ref b],[]⟩ >>= _) _ _ s;refine Z00 ?_;unfold Builtin.Frozenset.slot1;show wpAny _ _ (pure (Value.ref a,Value.ref b)) _ _ s;refine Z04 ?_;refine Z00 ?_;unfold Builtin.Frozenset.isAnySet;refine Z00 (wpAny_isInstance (T:="set") hb.typeIs B5s (Z04 ?_));simp only [Bool.not_true,Bool.false_eq_true,if_false];refine Z00 (Z04 (Z00 (Z04 ?_)));unfold Builtin.Frozenset.sizeOf;refine Z00 (Z00 (A4g ho hd hfit (Z04 ?_)));refine Z00 (Z00 (A4g ho' hd' hfit' (Z04 ?_)));by_cases hnm:n=m
 ·refine Z00 ?_;rw [Z0t (by rw [hn,hm,hnm];simp)];refine Z00 (Z00 (wpAny_isInstance (T:="set") ha.typeIs B3g (Z04 ?_)));simp only [Bool.false_eq_true,if_false];refine C7i ha hb (by omega) (r:=r) (by rw [hr];exact ⟨λh=>h.2,λh=>⟨hnm,h⟩⟩) ?_;exact Z04 ⟨_,rfl,(λz=>nomatch z),q⟩
 ·refine Z00 ?_;rw [Z12 (by rw [hn,hm];simpa using hnm)];refine Z04 ?_
  have hr0:r=false:=by
   cases r with
   | false=>rfl
   | true=>exact absurd (hr.mp rfl).1 hnm
  subst hr0;exact Z04 ⟨_,rfl,(λz=>nomatch z),q⟩
end
def B8w (P:Program) (w:World) (a:Addr) (S:Key->Bool) (n:Nat):HO:= .ext λh=>h.SetOf (A0l P w) a S n
theorem C8a {P:Program} {w:World} {H:Hp} {h:Heap} {a:Addr} {S:Key->Bool} {n:Nat} (e:h.SetOf (A0l P w) a S n):A1c P w H h a (B8w P w a S n) :=
 ⟨e,let ⟨o,es,ep,t,e1,_⟩:=e;⟨o,e1⟩,λh1 h2 ⟨o,es,ep,t,e1,r⟩ k=>⟨o,es,ep,t,k o e1,r⟩⟩
def D1j (P:Program) (w:World):R2:=λx y H Q=>∃a b S S' n m r,x= .ref a/\y= .ref b/\H a=some (B8w P w a S n)/\H b=some (B8w P w b S' m)/\(r=true↔(n=m/\∀k,S k=true->S' k=true))/\Q (.bl (!r)) H
theorem C3o {X:Cx} (hu:X.A.units<cLine):OpR X (compareOp .NotEq) (D1j X.prog X.w):=by
 intro pins s σ H x y v u Q I rx ry h;obtain ⟨a,b,S,S',n,m,r,rfl,rfl,ha,hb,hr,q⟩:=h;cases rx;cases ry;obtain ⟨sa,_⟩:=(show A1c X.prog X.w H s.heap a (B8w X.prog X.w a S n) from I.hok a _ ha);obtain ⟨sb,_⟩:=(show A1c X.prog X.w H s.heap b (B8w X.prog X.w b S' m) from I.hok b _ hb);exact D1d sa sb hu hr ⟨.bl (!r),H,I,rfl,q⟩
def A5v (acc:List Key) (k:Key):Bool:=acc.any λx=>decide (x=k)
theorem A6v {acc:List Key} {k:Key}:A5v acc k=true↔k∈acc:=by
 unfold A5v;rw [List.any_eq_true];exact ⟨λ⟨x,hx,e⟩=>by rw [<-of_decide_eq_true e];exact hx,λh=>⟨k,h,Z20 rfl⟩⟩
def C3v (acc:List Key) (k:Key):List Key:=if A5v acc k=true then acc else acc++[k]
def A2v (ks:List Key):List Key:=ks.foldl C3v []
theorem A6s (ks:List Key) (k:Key):A2v (ks++[k])=C3v (A2v ks) k:=by unfold A2v;rw [List.foldl_append];rfl
theorem B7k (acc:List Key) (k x:Key):A5v (C3v acc k) x=(A5v acc x||decide (x=k)):=by
 unfold C3v;by_cases h:A5v acc k=true
 ·rw [Z12 h];by_cases e:x=k
  ·subst e;simp [h]
  ·simp [e]
 ·rw [Z0t h];unfold A5v;rw [List.any_append];congr 1;simp only [List.any_cons,List.any_nil,Bool.or_false];exact decide_eq_decide.mpr ⟨λe=>e.symm,λe=>e.symm⟩
theorem A6l (acc:List Key) (k:Key):(C3v acc k).length=if A5v acc k=true then acc.length else acc.length+1:=by
 unfold C3v;by_cases h:A5v acc k=true
 ·rw [Z12 h,Z12 h]
 ·rw [Z0t h,Z0t h,Z06];rfl
theorem C0i (ks:List Key):(A2v ks).length<=ks.length:=by
 have key:∀n,(A2v (ks.take n)).length<=n:=by
  intro n
  induction n with
  | zero=>simp [A2v]
  | succ n ih =>
   rw [Z14]
   cases h:ks[n]? with
   | none=>simp;omega
   | some k =>
    rw [Option.toList_some,A6s,A6l];split <;> omega
 have:=key ks.length
 rwa [Z18] at this
theorem B0y {ks:List Key} (h:ks.Nodup):A2v ks=ks:=by
 have key:∀n,A2v (ks.take n)=ks.take n:=by
  intro n
  induction n with
  | zero=>rfl
  | succ n ih =>
   rw [Z14]
   cases hk:ks[n]? with
   | none=>simpa using ih
   | some k =>
    rw [Option.toList_some,A6s,ih];unfold C3v;rw [Z0t];intro m;have m:=A6v.mp m
    have n2:(ks.take n++[k]).Nodup:=by
     have:List.Sublist (ks.take (n+1)) ks:=List.take_sublist _ _;rw [Z14,hk,Option.toList_some] at this;exact List.Pairwise.sublist this h
    exact (List.pairwise_append.mp n2).2.2 k m k (.head _) rfl
 have:=key ks.length
 rwa [Z18] at this
theorem B7w {P:Program} {w:World} {k:Key} {v:Value} (h:(A0l P w).is k v=true):v.scannable=true:=by
 have:=(A0l P w).byValue k v h;cases k <;> cases v <;> first | rfl | exact absurd h Z0v
section
variable {prog:Program} {w:World} {A:Around} {R:Result->Shared->Prop} {I l S:Addr} {items:Array Value} {ks:List Key} {h₀:Heap} {g:Array GenState} {dr:Drawn} {os:OsState}
theorem C2q (hh:A.handled=none) (hne:l≠I) (hSI:S≠I) (hSl:S≠l) (hlen:items.size=ks.length) (hk:∀(i:Nat) (k:Key),ks[i]? =some k->∃v,items[i]? =some v/\(A0l prog w).is k v=true) (hb:ks.length+1<scanBound) (hl:h₀.IsList l items)
  (fin:∀h' tk,h'.SetOf (A0l prog w) S (A5v (A2v ks)) (A2v ks).length->(∀b o,b≠I->b≠S->h₀.get? b=some o->h'.get? b=some o)->R (.ok (.ret .none)) ⟨h',g,dr,tk,os⟩) :
  ∀(k i:Nat) (h:Heap) (tk:Nat),ks.length-i=k->i<=ks.length->h.IsListIter I l i->(∀b o,b≠I->b≠S->h₀.get? b=some o->h.get? b=some o)->h.SetOf (A0l prog w) S (A5v (A2v (ks.take i))) (A2v (ks.take i)).length->
   codeAny (model prog w) A (.builtin "set.update.loop" ⟨[.ref S,.ref I],[]⟩) R ⟨h,g,dr,tk,os⟩:=by
 have W:=Walks.list (prog:=prog) (w:=w) (A:=A.in1) hh I l hne items;intro k
 induction k with
 | zero =>
  intro i h tk hk' hi hit kp hS;have hin:i=items.size:=by omega
  refine codeAny_builtin F.entry_set_update_loop ?_;rw [Around.under_plainId F.plain_set_update_loop _];show wpAny _ A.in1 (pyNext (.ref I) >>= _) _ _ _;refine Z00 (W.done ⟨h,g,dr,tk,os⟩ _ _ (by rw [<-hin];exact ⟨hit,hl.at λo e=>kp l o hne (Ne.symm hSl) e⟩) λh' tk' kp'=> ?_);show wpAny _ A.in1 (ret Value.none) _ _ _;rw [show i=ks.length by omega,Z18] at hS;exact Z04 (fin h' tk' (let ⟨o,es,ep,t,e,r⟩:=hS;⟨o,es,ep,t,kp' _ _ (by simpa using hSI) e,r⟩) λb o h1 h2 e=>kp' b o (by simpa using h1) (kp b o h1 h2 e))
 | succ k ih =>
  intro i h tk hk' hi hit kp hS;have hlt:i<items.size:=by omega
  obtain ⟨key,hkey⟩:∃p,ks[i]? =some p:=⟨ks[i],Z0b (by omega)⟩;obtain ⟨v,hv,his⟩:=hk i key hkey;refine codeAny_builtin F.entry_set_update_loop ?_;rw [Around.under_plainId F.plain_set_update_loop _];show wpAny _ A.in1 (pyNext (.ref I) >>= _) _ _ _;refine Z00 (W.item i ⟨h,g,dr,tk,os⟩ _ _ hlt ⟨hit,hl.at λo e=>kp l o hne (Ne.symm hSl) e⟩ λv' h' tk' hv' hst' kp'=> ?_);have ev:v'=v:=by have hv':items[i]? =some v':=hv';rw [hv] at hv';exact (Z1a hv').symm
  subst ev;have hS':h'.SetOf (A0l prog w) S (A5v (A2v (ks.take i))) (A2v (ks.take i)).length:=let ⟨o,es,ep,t,e,r⟩:=hS;⟨o,es,ep,t,kp' _ _ (by simpa using hSI) e,r⟩;show wpAny _ A.in1 (holding [v'] (setAdd S v') >>= _) _ _ _;refine Z00 (Z1w ?_);unfold setAdd;refine Z1w ?_;refine Z00 ((A0l prog w).pyHash (k:=key) his ?_);have hroom:(A2v (ks.take i)).length+1<scanBound:=by have:=C0i (ks.take i);rw [Z0x] at this;omega
  refine wpAny_setAddHashed_of (knd:=A0l prog w) (s:=⟨h',g,dr,tk'+1,os⟩) his (B7w his) hS' hroom λh2 hsb hS2=> ?_;refine Z04 ⟨plainId_quiet F.plain_set_update_loop _,ih (i+1) h2 _ (by omega) (by omega) ?_ ?_ ?_⟩
  ·exact hst'.1.at λo e=>(hsb.2 I (Ne.symm hSI)).trans e
  ·intro c oc h1 h2' e;exact (hsb.2 c h2').trans (kp' c oc (by simpa using h1) (kp c oc h1 h2' e))
  ·rw [Z14,hkey,Option.toList_some,A6s];have e1:A5v (C3v (A2v (ks.take i)) key)=λk'=>A5v (A2v (ks.take i)) k'||decide (k'=key):=funext λx=>B7k _ _ _;rw [e1,A6l];exact hS2
end
section
variable {prog:Program} {w:World} {A:Around} {E:Value->Shared->Prop} {s:Shared}
set_option maxHeartbeats 3200000 in
theorem B5u {l:Addr} {items:Array Value} {ks:List Key} {Q:Value->Shared->Prop} (hh:A.handled=none) (hl:s.heap.IsList l items) (hlen:items.size=ks.length) (hk:∀(i:Nat) (k:Key),ks[i]? =some k->∃v,items[i]? =some v/\(A0l prog w).is k v=true) (hb:ks.length+1<scanBound)
  (h:∀(h':Heap) (tk:Nat),h'.SetOf (A0l prog w) s.heap.objs.size (A5v (A2v ks)) (A2v ks).length->(∀b o,s.heap.get? b=some o->h'.get? b=some o)->Q (.ref s.heap.objs.size) { s with heap:=h',toks:=tk }) :
  wpAny (model prog w) A (call (.type "set") [.ref l]) Q E s:=by
 obtain ⟨c,tl,hmro⟩:=F.called_set.mro;have hmade:=F.called_set.made;have hsub:=F.called_set.sub;refine wpAny_call (codeAny_of_tree ?_);show wpAny _ _ (callAny (.type "set") _) _ _ _;refine Z04 ⟨Code.quiet_builtin _ (by decide +kernel),codeAny_builtin F.entry_type_call ?_⟩;rw [Around.under_plain (weight_type_call_type "set" [.ref l] []) rfl];have h1:=F.called_set.notType;have h2:=F.called_set.canCreate;have hct:=F.typeCall_set_1 (.ref l)
 repeat (any_goals (first | assumption | wp_step))
 refine codeAny_mono (code_set_new_1 (.ref l) (E:=E) (Q₁:=λobj s₁=>∃led:Bool,obj= .ref s.heap.objs.size/\s₁={ s with heap:=s.heap.push { cls:= .type "set",dict:=none,data:= .set #[] 0 (.fresh 0 0 led) } }) λled=>⟨led,rfl,rfl⟩) λr s₁ hr=> ?_
 cases r with
 | error e=>exact hr
 | ok fl =>
  cases fl with
  | ret obj =>
   obtain ⟨led,rfl,rfl⟩:=hr;have hS:(s.heap.push { cls:= .type "set",dict:=none,data:= .set #[] 0 (.fresh 0 0 led) }).get? s.heap.objs.size=some { cls:= .type "set",dict:=none,data:= .set #[] 0 (.fresh 0 0 led) }:=Z0c _ rfl;have hT:Shared.TypeIs { s with heap:=s.heap.push { cls:= .type "set",dict:=none,data:= .set #[] 0 (.fresh 0 0 led) } } (.ref s.heap.objs.size) "set":=⟨_,hS,rfl⟩;have hli:=F.called_set.init.lookup;have hbi:=F.called_set.init.bind (.ref s.heap.objs.size)
   repeat (any_goals (first | assumption | wp_step))
   refine codeAny_mono (codeAny_call_builtin (R:=wants (λr s₂=>r= .none/\∃h' tk,s₂={ s with heap:=h',toks:=tk }/\h'.SetOf (A0l prog w) s.heap.objs.size (A5v (A2v ks)) (A2v ks).length/\(∀b o,s.heap.get? b=some o->h'.get? b=some o)) E) F.called_set.init.plain F.entry_set_init (check_set_init_1 hT ?_)) λr₂ s₂ hr₂=> ?_
   ·obtain ⟨ol,hol,hcl,nl,hdl⟩:=hl;obtain ⟨ocls,odict,odata,oslots⟩:=ol;simp only at hcl hdl;subst hcl;subst hdl;have hol':(s.heap.push { cls:= .type "set",dict:=none,data:= .set #[] 0 (.fresh 0 0 led) }).get? l=some { cls:= .type "list",dict:=odict,data:= .seq items nl,slots:=oslots }:=Z01 _ hol;have hsls:=F.sub_list_set;have hslf:=F.sub_list_frozenset;have hne:(Value.type "list" == Value.type "dict")=false:=by decide
    have hl1:(s.heap.push { cls:= .type "set",dict:=none,data:= .set #[] 0 (.fresh 0 0 led) }).IsList l items:=⟨_,hol',rfl,nl,rfl⟩;unfold Builtin.«set.__init__» noKeywords Builtin.Frozenset.updateFrom;generalize hPI:pyIter=PI
    wp_walk
    subst hPI;refine wpAny_pyIter_list hl1 ?_;refine Z00 (wpAny_runValue ?_);have hlS:l<s.heap.objs.size:=Z0a hol;have hsp:(s.heap.push { cls:= .type "set",dict:=none,data:= .set #[] 0 (.fresh 0 0 led) }).objs.size=s.heap.objs.size+1:=Z1s ..;have hS2:((s.heap.push { cls:= .type "set",dict:=none,data:= .set #[] 0 (.fresh 0 0 led) }).push { cls:= .type "list_iterator",data:= .fields #[.ref l,.int 0 0] }).get? s.heap.objs.size=some { cls:= .type "set",dict:=none,data:= .set #[] 0 (.fresh 0 0 led) }:=Z01 _ hS;refine C2q (ks:=ks) (items:=items) (l:=l) (h₀:=(s.heap.push { cls:= .type "set",dict:=none,data:= .set #[] 0 (.fresh 0 0 led) }).push { cls:= .type "list_iterator",data:= .fields #[.ref l,.int 0 0] }) (by simp [hh]) ?_ ?_ (Z1q hlS) hlen hk hb (hl1.push _) (λh' tk' hS' kp=> ?_) ks.length 0 _ _ (by omega) (Z1e _) ⟨_,Z0c _ rfl,rfl,rfl⟩ (λ_ _ _ _ z=>z) ?_
    ·rw [hsp];exact Z0h (Nat.lt_succ_of_lt hlS)
    ·rw [hsp];exact Z0h (Nat.lt_succ_self _)
    ·refine Z04 ?_;show wpAny _ _ (ret Value.none) _ _ _;refine Z04 ⟨rfl,h',tk',rfl,hS',λb o e=> ?_⟩;have hbl:=Z0a e;exact kp b o (by rw [hsp];exact Z0h (Nat.lt_succ_of_lt hbl)) (Z0h hbl) (Z01 _ (Z01 _ e))
    ·have e0:(λ_:Key=>false)=A5v (A2v (ks.take 0)):=by rw [List.take_zero];rfl
     rw [<-e0];exact ⟨_,#[],0,_,hS2,⟨rfl,rfl,rfl⟩,rfl,(λe he=>by simp at he),(λk=>by simp),(by unfold scanBound;simp),by rfl,by simp [A2v]⟩
   ·cases r₂ with
    | error e=>exact hr₂
    | ok fl₂ =>
     cases fl₂ with
     | ret r =>
      obtain ⟨rfl,h',tk,rfl,hS',hk'⟩:=hr₂
      repeat (any_goals (first | assumption | wp_step))
      exact h _ _ hS' hk'
     | _=>exact hr₂.elim
  | _=>exact hr.elim
end
theorem B8n {n:Nat} (hn:n<=7) (led:Bool):(SetTable.fresh 0 0 led).roomFor n=none\/∃wtd,(SetTable.fresh 0 0 led).roomFor n=some wtd/\SetTable.sizeAbove wtd<=sizeLine/\∃t',(SetTable.fresh 0 0 led).relaid #[] wtd=some (t',#[])/\t'.fits 0=true:=by
 have:n=0\/n=1\/n=2\/n=3\/n=4\/n=5\/n=6\/n=7:=by omega
 rcases this with rfl | rfl | rfl | rfl | rfl | rfl | rfl | rfl
 ·exact .inl rfl
 ·exact .inl rfl
 ·exact .inl rfl
 ·exact .inl rfl
 ·exact .inl rfl
 ·exact .inr ⟨10,rfl,by decide,_,by rfl,by rfl⟩
 ·exact .inr ⟨12,rfl,by decide,_,by rfl,by rfl⟩
 ·exact .inr ⟨14,rfl,by decide,_,by rfl,by rfl⟩
section
variable {prog:Program} {w:World} {A:Around} {E:Value->Shared->Prop} {s:Shared} {S d:Addr}
theorem C4j {led:Bool} {n:Nat} {Q:Unit->Shared->Prop} (hn:n<=7) (hS:s.heap.get? S=some { cls:= .type "set",dict:=none,data:= .set #[] 0 (.fresh 0 0 led) })
  (q:∀h',h'.SetOf (A0l prog w) S (λ_=>false) 0->Heap.SameBut S s.heap h'->Q () { s with heap:=h' }):wpAny (model prog w) A (setRoomFor S n) Q E s:=by
 have ok0:s.heap.SetOf (A0l prog w) S (λ_=>false) 0:=⟨_,#[],0,_,hS,⟨rfl,rfl,rfl⟩,rfl,(λe he=>by simp at he),(λk=>by simp),(by unfold scanBound;simp),by rfl,rfl⟩;unfold setRoomFor;refine Z00 (wpAny_setState_of hS rfl (by rfl) ?_);rcases B8n hn led with e | ⟨wtd,e,hz,t',e2,hf⟩
 ·rw [e];exact Z04 (q s.heap ok0 (Heap.SameBut.refl _ _))
 ·rw [e];show wpAny _ _ (setRelay S wtd) _ _ _;unfold setRelay;refine Z00 (wpAny_setState_of hS rfl (by rfl) ?_);dsimp only;rw [Z0t (by omega)];rw [show (#[]:Array (Int×Value)).map (·.1)= #[] by simp,e2];refine Z00 (Z04 ?_);refine wpAny_storeSet_of hS rfl ?_;exact q _ (SetOf_store hS ⟨rfl,rfl,rfl⟩ rfl (λe he=>by simp at he) (λk=>by simp) (by unfold scanBound;simp) hf).2 (Heap.SameBut.update ..)
theorem C3s {nm:String} {led:Bool} {ws:List (Key×Value)} {ep:Nat} {Q:Unit->Shared->Prop} (hn:ws.length<=7) (hdS:S≠d) (hsys:(d == sysModules)=false) (hd:s.heap.DictAt (A0l prog w) d ws ep)
  (hS:s.heap.get? S=some { cls:= .type "set",dict:=none,data:= .set #[] 0 (.fresh 0 0 led) })
  (q:∀h',h'.SetOf (A0l prog w) S (A5v (A2v (ws.map (·.1)))) (A2v (ws.map (·.1))).length->Heap.SameBut S s.heap h'->Q () { s with heap:=h' }):wpAny (model prog w) A (Builtin.Frozenset.updateFrom nm S (.ref d)) Q E s:=by
 obtain ⟨o,es,ho,hx,hdat,hk,hp,hnd⟩:=id hd;have ty:s.TypeIs (.ref d) "dict":=⟨o,ho,hx.1⟩;have hlen:ws.length=es.size:=by rw [<-hp.length];simp
 unfold Builtin.Frozenset.updateFrom Builtin.Frozenset.isAnySet;refine Z00 (Z00 (wpAny_isInstance (T:="dict") ty F.sub_dict_set ?_));refine wpAny_isInstance (T:="dict") ty F.sub_dict_frozenset ?_;simp only [Bool.false_eq_true,if_false];refine Z00 (wpAny_typeOf ty ?_);rw [Z12 (by decide)];refine Z00 (wpAny_rule (Z00 (Z04 ?_)));rw [Z0t (by rw [hsys];exact Z0v)];refine Z00 (wpAny_dictEpoch ho hdat ?_);refine Z00 (wpAny_dictEntries ho hdat ?_);refine Z00 (C4j (by omega) hS λh1 hS1 sb1=> ?_);have ho1:h1.get? d=some o:=(sb1.2 d (Ne.symm hdS)).trans ho;refine Z00 (wpAny_dictEntries (s:={ s with heap:=h1 }) ho1 hdat ?_);refine Z00 ?_;rw [Std.Legacy.Range.forIn_eq_forIn_range'];simp only [Std.Legacy.Range.size,Nat.sub_zero,Nat.add_sub_cancel,Nat.div_one];refine wpAny_forIn_list _ (λrest _ s'=>∃h' i,s'={ s with heap:=h' }/\rest=List.range' i (es.size-i)/\i<=es.size/\h'.SetOf (A0l prog w) S (A5v (A2v ((ws.map (·.1)).take i))) (A2v ((ws.map (·.1)).take i)).length/\h'.get? d=some o/\Heap.SameBut S s.heap h') _ ?_ ?_ _ _ ⟨h1,0,rfl,by simp,Z1e _,hS1,ho1,sb1⟩
 ·rintro x rest b s' ⟨h',i,rfl,hr,hi,hS',ho',hs'⟩
  have hlt:i<es.size:=by
   rcases Nat.lt_or_ge i es.size with h | h
   ·exact h
   ·rw [Nat.sub_eq_zero_of_le h] at hr;simp at hr
  obtain ⟨rfl,hrest⟩:x=i/\rest=List.range' (i+1) (es.size-(i+1)):=by
   have e:es.size-i=(es.size-(i+1))+1:=by omega
   rw [e,List.range'_succ] at hr;injection hr with h1 h2;exact ⟨h1,h2⟩
  refine Z00 (wpAny_dictEntries ho' hdat ?_);rw [Array.getElem?_eq_getElem hlt];obtain ⟨⟨k,v⟩,hkv⟩:∃kv,ws[x]? =some kv:=⟨ws[x]'(by rw [hlen];exact hlt),Z0b _⟩;obtain ⟨hkey,_⟩:=hp.get? (e:=es[x]) (by simp [hlt]) hkv;obtain ⟨k',hkey',hhash⟩:=hk es[x] (Array.getElem_mem hlt);obtain rfl:k'=k:=(A0l prog w).inj _ _ _ hkey' hkey;show wpAny _ _ (holding [es[x].key] (setAddHashed S es[x].key es[x].hash) >>= _) _ _ _;rw [hhash]
  have hroom:(A2v ((ws.map (·.1)).take x)).length+1<scanBound:=by
   have:=C0i ((ws.map (·.1)).take x);rw [Z0x,Z08] at this;unfold scanBound;omega
  refine Z00 (Z1w (wpAny_setAddHashed_of (knd:=A0l prog w) hkey (B7w hkey) hS' hroom λh2 hsb hS2=> ?_));have ho2:h2.get? d=some o:=(hsb.2 d (Ne.symm hdS)).trans ho';refine Z00 (wpAny_dictEpoch ho2 hdat ?_);rw [Z0t (by simp)];refine Z04 ⟨h2,x+1,rfl,hrest,hlt,?_,ho2,hs'.trans hsb⟩;have e3:(ws.map (·.1))[x]? =some k':=by rw [Z1z,hkv];rfl
  rw [Z14,e3,Option.toList_some,A6s];have e1:A5v (C3v (A2v ((ws.map (·.1)).take x)) k')=λz=>A5v (A2v ((ws.map (·.1)).take x)) z||decide (z=k'):=funext λz=>B7k _ _ _;rw [e1,A6l];exact hS2
 ·rintro b s' ⟨h',i,rfl,hr,hi,hS',ho',hs'⟩
  have hin:i=es.size:=by
   rcases Nat.lt_or_ge i es.size with h | h
   ·have e:es.size-i=(es.size-(i+1))+1:=by omega
    rw [e,List.range'_succ] at hr;cases hr
   ·omega
  rw [hin,List.take_of_length_le (by rw [Z08];omega)] at hS';exact Z04 (q h' hS' hs')
end
section
variable {prog:Program} {w:World} {A:Around} {E:Value->Shared->Prop} {s:Shared}
set_option maxHeartbeats 3200000 in
theorem B6i {d:Addr} {ws:List (Key×Value)} {ep:Nat} {Q:Value->Shared->Prop} (hn:ws.length<=7) (hsys:(d == sysModules)=false) (hd:s.heap.DictAt (A0l prog w) d ws ep)
  (h:∀(h':Heap) (tk:Nat),h'.SetOf (A0l prog w) s.heap.objs.size (A5v (A2v (ws.map (·.1)))) (A2v (ws.map (·.1))).length->(∀b o,s.heap.get? b=some o->h'.get? b=some o)->Q (.ref s.heap.objs.size) { s with heap:=h',toks:=tk }) :
  wpAny (model prog w) A (call (.type "set") [.ref d]) Q E s:=by
 obtain ⟨c,tl,hmro⟩:=F.called_set.mro;have hmade:=F.called_set.made;have hsub:=F.called_set.sub;refine wpAny_call (codeAny_of_tree ?_);show wpAny _ _ (callAny (.type "set") _) _ _ _;refine Z04 ⟨Code.quiet_builtin _ (by decide +kernel),codeAny_builtin F.entry_type_call ?_⟩;rw [Around.under_plain (weight_type_call_type "set" [.ref d] []) rfl];have h1:=F.called_set.notType;have h2:=F.called_set.canCreate;have hct:=F.typeCall_set_1 (.ref d)
 repeat (any_goals (first | assumption | wp_step))
 refine codeAny_mono (code_set_new_1 (.ref d) (E:=E) (Q₁:=λobj s₁=>∃led:Bool,obj= .ref s.heap.objs.size/\s₁={ s with heap:=s.heap.push { cls:= .type "set",dict:=none,data:= .set #[] 0 (.fresh 0 0 led) } }) λled=>⟨led,rfl,rfl⟩) λr s₁ hr=> ?_
 cases r with
 | error e=>exact hr
 | ok fl =>
  cases fl with
  | ret obj =>
   obtain ⟨led,rfl,rfl⟩:=hr;have hS:(s.heap.push { cls:= .type "set",dict:=none,data:= .set #[] 0 (.fresh 0 0 led) }).get? s.heap.objs.size=some { cls:= .type "set",dict:=none,data:= .set #[] 0 (.fresh 0 0 led) }:=Z0c _ rfl;have hT:Shared.TypeIs { s with heap:=s.heap.push { cls:= .type "set",dict:=none,data:= .set #[] 0 (.fresh 0 0 led) } } (.ref s.heap.objs.size) "set":=⟨_,hS,rfl⟩;have hli:=F.called_set.init.lookup;have hbi:=F.called_set.init.bind (.ref s.heap.objs.size)
   repeat (any_goals (first | assumption | wp_step))
   refine codeAny_mono (codeAny_call_builtin (R:=wants (λr s₂=>r= .none/\∃h' tk,s₂={ s with heap:=h',toks:=tk }/\h'.SetOf (A0l prog w) s.heap.objs.size (A5v (A2v (ws.map (·.1)))) (A2v (ws.map (·.1))).length/\(∀b o,s.heap.get? b=some o->h'.get? b=some o)) E) F.called_set.init.plain F.entry_set_init (check_set_init_1 hT ?_)) λr₂ s₂ hr₂=> ?_
   ·have ld:d<s.heap.objs.size:=let ⟨_,_,e,_⟩:=hd;Z0a e;have hd1:(s.heap.push { cls:= .type "set",dict:=none,data:= .set #[] 0 (.fresh 0 0 led) }).DictAt (A0l prog w) d ws ep:=hd.push _;unfold Builtin.«set.__init__» noKeywords;generalize hU:Builtin.Frozenset.updateFrom=U
    wp_walk
    subst hU;refine C3s (led:=led) hn (Z1q ld) hsys hd1 hS λh' hS' sb=> ?_;show wpAny _ _ (ret Value.none) _ _ _;exact Z04 ⟨rfl,h',_,rfl,hS',λb o e=>(sb.2 b (Z0h (Z0a e))).trans (Z01 _ e)⟩
   ·cases r₂ with
    | error e=>exact hr₂
    | ok fl₂ =>
     cases fl₂ with
     | ret r =>
      obtain ⟨rfl,h',tk,rfl,hS',hk'⟩:=hr₂
      repeat (any_goals (first | assumption | wp_step))
      exact h _ _ hS' hk'
     | _=>exact hr₂.elim
  | _=>exact hr.elim
end
section
variable {X:Cx}
def C9w (P:Program) (w:World) (K:PySem.W.Frag):List V->Hp->VK->Prop:=λvs H Q=>∃a ks,vs=[V.ref a]/\((SqL K H a ((ks:List Key).map kV)/\ks.length<=100)\/∃kvs,Rd H a (.dK kvs)/\kvs.length<=7/\ks=kvs.map (·.1))/\∀p,H p=none->Q (.ref p) (upd H p (B8w P w p (A5v (A2v ks)) (A2v ks).length))
theorem B7g (hc:X.calm=true):A5y X (.type "set") (C9w X.prog X.w X.K):=by
 intro pins s σ H vs us Q I r h;obtain ⟨a,ks,rfl,hsrc,q⟩:=h;obtain ⟨u,rfl,ru⟩:=B3d r;cases ru;have hh:X.A.handled=none:=I.ok.hd hc
 have fin:∀(h':Heap) (tk:Nat),h'.SetOf (A0l X.prog X.w) s.heap.objs.size (A5v (A2v ks)) (A2v ks).length->(∀b o,s.heap.get? b=some o->h'.get? b=some o)->EP X pins σ Q (.ref s.heap.objs.size) { s with heap:=h',toks:=tk }:=λh' tk hS kp =>
  ⟨.ref s.heap.objs.size,_,I.laid (t':=tk) (o:=B8w X.prog X.w s.heap.objs.size (A5v (A2v ks)) (A2v ks).length) kp (Z09 _) (C8a hS),rfl,q _ (I.hok.fresh (Z09 _))⟩
 rcases hsrc with ⟨hq,hl⟩ | ⟨kvs,hrd,hl,rfl⟩
 ·obtain ⟨its,rv,pl,_⟩:=I.list hq;have hlen:=rv.length;rw [Z08] at hlen
  exact B5u hh pl.isList (by simpa using hlen.symm) (λi k hk=>by
   obtain ⟨v,e1,e2⟩:=B1o (P:=X.prog) (w:=X.w) rv hk
   exact ⟨v,by simpa using e1,e2⟩) (by unfold scanBound;omega) fin
 ·obtain ⟨z,hs,ws,rel,o,es,ep,ho,hx,hd,hk,hp,hn⟩:=A9i I.hok hrd
  have e:ws.map (·.1)=kvs.map (·.1):=by
   clear hp hn hk hd hx ho
   have:∀{kvs:List (Key×V)} {ws:List (Key×Value)},KV kvs ws->ws.map (·.1)=kvs.map (·.1):=by
    intro kvs ws r;unfold KV at r
    induction r with
    | nil=>rfl
    | cons r t ih=>rw [Z0p,Z0p,ih,r.1]
   exact this rel
  have ll:ws.length=kvs.length:=rel.length.symm;refine B6i (by omega) hs ⟨o,es,ho,hx,hd,hk,hp,hn⟩ ?_;rw [e];exact fin
end
open PySem PySem.Spec PyProof.Rows PyProof.Rows.KTD
section
variable {X:Cx} {pins:List (Addr×Obj)} {σ:St} {H:Hp} {s:Shared} {p:Addr} {D:List (Str×V)} {k:Str} {tk:Tok} {A:Around} {E:Value->Shared->Prop}
end
section
variable {X:Cx}
theorem D3j {P:Program} {w:World}:A7y (CXF P w) X (λ_ _ _=>False):=by
 intro pins σ H s e s' I h;obtain ⟨_,_,_,_,_,_,_,_,_,_,_,_,_,q⟩:=h;exact q.elim
end
theorem C3i {y:Str} (h:PyData.strOk y=true):(reprText y).length<=10*y.length+2:=by
 refine StrLaws.reprText_len y λc hc=> ?_;have h2:∀(i:Nat) (x:i<y.cps.size),y.cps[i]<1114112:=by simpa [PyData.strOk] using h
 obtain ⟨i,hi,e⟩:=List.mem_iff_getElem.mp hc;have:=h2 i (by simpa using hi);rw [<-e];exact Z0q (by simpa using this) (by decide)
def C9n (te:TE) (tr:TJ):TJ:=λσ H out Q=>te σ H λx H1=>∃y:Str,x= .str y/\PyData.strOk y=true/\out.length+10*y.length+2<=sizeLine/\∀z:Str,z.length<=10*y.length+2->tr σ H1 (out++z) Q
section
variable {X:Cx} {e:Expr} {es:List Expr} {te:TE} {tr:TJ} {pos p2:Pos}
theorem C8u (he:PE X e te) (hr:PJ X es tr) (hs:evalEach (.FormattedValue e 114 none pos::es) X.env=eval (.FormattedValue e 114 none pos) X.env::evalEach es X.env:=by rfl):PJ X (.FormattedValue e 114 none pos::es) (C9n te tr):=by
 intro pins s σ H out Q I h;rw [hs];refine joinParts_cons (wpAny_FormattedValue_repr (thn (he pins s σ H _ I h) λv s1 ⟨x,H1,I1,rx,y,ex,oky,hz,q⟩=> ?_));subst ex;obtain ⟨t,rfl⟩:=(show∃t,v=Value.str y t from rx);have hl:=C3i oky;refine pyReprObj_str ?_ (by omega);refine formatField_str (λt' tk=>⟨?_,hr pins _ σ H1 _ Q ((I1.tok _).tok tk) (q _ hl)⟩) (by omega);rw [strLen_append];omega
def C7e:V->List V->Hp->VK->Prop:=λx vs H Q=>∃l xs i y,x= .ref l/\vs=[.int i,y]/\H l=some (.lst xs)/\xs.length<sizeLine/\0<=i/\i<2^63/\Q .non (upd H l (.lst (xs.take i.toNat++y::xs.drop i.toNat)))
theorem C0v:MtM X "list.insert" C7e:=by
 intro pins s σ H x vs v us Q I rx rv h;obtain ⟨l,xs,i,y,rfl,rfl,hH,hz,i0,i1,q⟩:=h;cases rx
 cases rv with
 | cons ri rv =>
  cases rv with
  | cons ry rv =>
   cases rv
   obtain ⟨t,rfl⟩:=(show∃t,_=Value.int i t from ri);rename_i u;obtain ⟨z,its,n,r,hl,e⟩:=I.lstM hH
   refine call_meets F.slot_list_insert ⟨_,e,rfl⟩ F.entry_list_insert (F.args_list_insert_3 _ _ _)
    (PySem.AutoListH.list_insert_list_int_val_1 l its.toArray n i t u (by rw [fitsIndex_both (by omega) i1];simp) (by rw [Z0g];omega)) ⟨e,?_⟩
   refine ⟨.non,_,I.lset (its':=its.take i.toNat++u::its.drop i.toNat) hH e ?_ ((r.take _).append (.cons ry (r.drop _))) ?_,rfl,q⟩
   ·show (its.toArray.extract 0 (if i<0 then _ else min i.toNat its.toArray.size)).push u++its.toArray.extract (if i<0 then _ else min i.toNat its.toArray.size)=_;rw [Z0t (by omega)];apply Array.ext';simp only [Array.toList_append,Array.toList_push,Array.toList_extract,Z0g,List.extract_eq_drop_take];by_cases hc:i.toNat<=its.length
    ·rw [Nat.min_eq_left hc];simp [List.take_of_length_le]
    ·have hc:its.length<=i.toNat:=by omega
     rw [Nat.min_eq_right hc,List.take_of_length_le hc,List.drop_eq_nil_of_le hc];simp
   ·simp only [Z06,Z0y,Z0x,Z19];omega
end
def D3n:V->List V->Hp->VK->Prop:=λx vs H Q=>∃a k v kvs,x= .ref a/\vs=[kV k]/\H a=some (.dK kvs)/\A3q kvs k=some v/\Q v (upd H a (.dK (A8j kvs k)))
theorem C6n {X:Cx}:MtR X "dict.pop" D3n:=by
 intro pins s σ H x xs v us Q I rx rv h;obtain ⟨a,k,y,kvs,rfl,rfl,ha,hv,q⟩:=h;cases rx
 cases rv with
 | cons r1 rv =>
  cases rv
  exact D2u I ha r1 hv (.inl rfl) λw' s' I' r=>⟨y,_,I',r,q⟩
def B6w (ds:List (Key×PyData)) (k:Key):Option PyData:=(ds.find? λp=>decide (p.1=k)).map (·.2)
abbrev C9h (H:Hp) (kvs:List (Key×V)) (ds:List (Key×PyData)):Prop:=Paired (λ(p:Key×V) (q:Key×PyData)=>p.1=q.1/\Rep H p.2 q.2/\q.2.canLay0=true/\q.2.depth<=60) kvs ds
def B7s (db:List (Key×PyData)):List (Key×PyData)->Bool
 | []=>true
 | p::r=>match B6w db p.1 with
  | none=>false
  | some d=>PyData.eqv p.2 d&&B7s db r
def eqM (da db:List (Key×PyData)):Bool:=da.length == db.length&&B7s db da
theorem C4l {H:Hp} {kvs:List (Key×V)} {ds:List (Key×PyData)} (r:C9h H kvs ds) (k:Key):(A3q kvs k=none/\B6w ds k=none)\/∃v d,A3q kvs k=some v/\B6w ds k=some d/\Rep H v d/\d.canLay0=true/\d.depth<=60:=by
 induction r with
 | nil=>exact .inl ⟨rfl,rfl⟩
 | @cons p q ps qs h t ih =>
  obtain ⟨h1,h2,h3,h4⟩:=h;by_cases e:p.1=k
  ·have e':q.1=k:=h1.symm.trans e;refine .inr ⟨p.2,q.2,A2z e,?_,h2,h3,h4⟩;simp [B6w,List.find?_cons,e']
  ·have e':¬q.1=k:=λz=>e (h1.trans z);have b:B6w (q::qs) k=B6w qs k:=by simp [B6w,List.find?_cons,e']
   rw [A3b e,b];exact ih
section
variable {X:Cx}
theorem C6w {pins:List (Addr×Obj)} {σ:St} {H:Hp} {s:Shared} (I:Inv X pins σ H s) {A:Around} (hu:A.units+64<cLine) {kvs':List (Key×V)} {kb:List (Key×Value)} {db:List (Key×PyData)} (rb:KV kvs' kb) (mb:C9h H kvs' db) :
  ∀{kvs:List (Key×V)} {ka:List (Key×Value)} {da:List (Key×PyData)},KV kvs ka->C9h H kvs da->PySem.W.KeqHits A.in1 s kb ka (B7s db da)
 | _,_,_,.nil,.nil=> .nil
 | _,_,_,@Paired.cons _ _ _ p q _ _ h1 t1,@Paired.cons _ _ _ _ d _ ds ⟨e1,r1,sh,dp⟩ t2=>by
  obtain ⟨k,u⟩:=q;have ek:p.1=k:=h1.1;have ed:d.1=k:=e1.symm.trans ek;have rr:=rb.val k;rcases C4l mb k with ⟨n1,n2⟩ | ⟨v',d',n1,n2,r2,sh2,dp2⟩
  ·rw [n1] at rr;have e:B7s db (d::ds)=false:=by rw [B7s,ed,n2]
   cases ev:valueAt kb k with
   | none=>rw [e];exact .miss ev
   | some z=>rw [ev] at rr;exact False.elim rr
  ·rw [n1] at rr
   cases ev:valueAt kb k with
   | none=>rw [ev] at rr;exact False.elim rr
   | some z =>
    rw [ev] at rr;obtain ⟨as,x1⟩:=A9m I r1 h1.2;obtain ⟨bs,x2⟩:=A9m I r2 rr
    have heq:SeqAt.EqAt A.in1 s u z (PyData.eqv d.2 d'):=SeqAt.eqAt_reads d.2 d' A.in1 s u z as bs x1 x2 sh sh2 (by
     have hm:min d.2.depth d'.depth<=d.2.depth:=Nat.min_le_left _ _;show A.units+1+min d.2.depth d'.depth<cLine
     omega)
    have e:B7s db (d::ds)=(PyData.eqv d.2 d'&&B7s db ds):=by rw [B7s,ed,n2]
    rw [e];exact .hit ev heq (C6w I hu rb mb t1 t2)
def C6a (neg:Bool):R2:=λx y H Q=>∃a b kvs kvs' da db,x= .ref a/\y= .ref b/\Rd H a (.dK kvs)/\Rd H b (.dK kvs')/\C9h H kvs da/\C9h H kvs' db/\Q (.bl (if neg=true then !eqM da db else eqM da db)) H
theorem C5n (hu:X.A.units+64<cLine):OpR X (compareOp .Eq) (C6a false):=by
 intro pins s σ H x y v u Q I rx ry h;obtain ⟨a,b,kvs,kvs',da,db,rfl,rfl,ha,hb,ma,mb,q⟩:=h;cases rx;cases ry;obtain ⟨_,sa,ka,ra,dda⟩:=A9i I.hok ha;obtain ⟨_,sb,kb,rb,ddb⟩:=A9i I.hok hb;have la:ka.length=da.length:=by rw [<-ra.length];exact Paired.length ma
 have lb:kb.length=db.length:=by rw [<-rb.length];exact Paired.length mb
 exact PySem.W.keq_eq (knd:=A0l X.prog X.w) (r:=B7s db da) sa sb dda ddb (by omega) (λ_=>C6w I hu rb mb ra ma) ⟨.bl (eqM da db),H,I,by rw [la,lb];rfl,q⟩
theorem C9o (hu:X.A.units+64<cLine):OpR X (compareOp .NotEq) (C6a true):=by
 intro pins s σ H x y v u Q I rx ry h;obtain ⟨a,b,kvs,kvs',da,db,rfl,rfl,ha,hb,ma,mb,q⟩:=h;cases rx;cases ry;obtain ⟨_,sa,ka,ra,dda⟩:=A9i I.hok ha;obtain ⟨_,sb,kb,rb,ddb⟩:=A9i I.hok hb;have la:ka.length=da.length:=by rw [<-ra.length];exact Paired.length ma
 have lb:kb.length=db.length:=by rw [<-rb.length];exact Paired.length mb
 exact PySem.W.keq_ne (knd:=A0l X.prog X.w) (r:=B7s db da) sa sb dda ddb (by omega) (λ_=>C6w I hu rb mb ra ma) ⟨.bl (!eqM da db),H,I,by rw [la,lb];rfl,q⟩
end
end L2
namespace My
open PySem L2
inductive Op3 | plus | minus | times
inductive Tm
 | num (z:Int) | place (x:Str) | read (a:Str) (ix:List (Str×Int)) | sum (x:Str) (b:Tm) | pair (k:Op3) (l r:Tm) | guard (x:Str) (lo hi:Int) (l r:Tm)
def B1w (e:Str×Int):PyData:= .tuple [.str e.1,.int e.2]
def A4i (ix:List (Str×Int)):PyData:= .list (ix.map B1w)
def dep:Tm->Nat
 | .sum _ b=>dep b+1
 | .pair _ l r=>max (dep l) (dep r)+1
 | .guard _ _ _ l r=>max (dep l) (dep r)+1
 | _=>1
def Sm (z:Int):Prop:=z.natAbs<=10^32
def C9l (x:Str):Prop:=x.length<=20/\PyData.strOk x=true
def C4e:Tm->Prop
 | .num z=>Sm z
 | .place x=>C9l x
 | .read a ix=>C9l a/\ix.length<=3/\∀e∈ix,C9l e.1/\Sm e.2
 | .sum x b=>C9l x/\C4e b
 | .pair _ l r=>C4e l/\C4e r
 | .guard x lo hi l r=>C9l x/\Sm lo/\Sm hi/\C4e l/\C4e r
theorem C8d:∀t:Tm,1<=dep t
 | .num z=>by simp [dep]
 | .place x=>by simp [dep]
 | .read a ix=>by simp [dep]
 | .sum x b=>by simp [dep]
 | .pair k l r=>by simp [dep]
 | .guard x lo hi l r=>by simp [dep]
def Axs (A:List Str):Tm->Prop
 | .num _=>True
 | .place x=>x∈A
 | .read _ ix=>∀e∈ix,e.1=""\/e.1∈A
 | .sum x b=>x∈A/\Axs A b
 | .pair _ l r=>Axs A l/\Axs A r
 | .guard x _ _ l r=>x∈A/\Axs A l/\Axs A r
theorem C3t {ix:List (Str×Int)}:PyData.depth (A4i ix)<=2:=by
 have h:∀l:List (Str×Int),PyData.depthAll (l.map B1w)<=1:=by
  intro l
  induction l with
  | nil=>simp [PyData.depthAll]
  | cons e r ih=>simp [B1w,PyData.depthAll,PyData.depth] at *;omega
 have:=h ix;simp only [A4i,PyData.depth];omega
theorem C6g {ix:List (Str×Int)}:cnt (A4i ix)<=1+3*ix.length:=by
 have h:∀l:List (Str×Int),A2s (l.map B1w)<=3*l.length:=by
  intro l
  induction l with
  | nil=>simp [A2s]
  | cons e r ih=>simp only [B1w,A2s,cnt,Z0p,Z0y] at *;omega
 have:=h ix;simp only [A4i,cnt];omega
section
variable {G:Hp} {v:V}
theorem D1e {e:Str×Int} (h:Rep G v (B1w e)):∃p,v= .ref p/\G p=some (.tup [.str e.1,.int e.2]):=by
 obtain ⟨p,xs,rfl,q,r⟩:=C8z (show Rep G v (.tuple [.str e.1,.int e.2]) from h);obtain ⟨a,r1,rfl,ha,r⟩:=B3i r;obtain ⟨b,r2,rfl,hb,r⟩:=B3i r;cases C4c r;cases C8m ha;cases C0l hb;exact ⟨p,rfl,q⟩
end
def B0e (cs:List (List Int)) (n:Int):List (List Int):=cs.flatMap λc=>(List.range n.toNat).map λ(k:Nat)=>c++[(k:Int)]
def A0n (ls:List Int):List (List Int):=ls.foldl B0e [[]]
def A2j (ls:List Int):Int:=ls.foldl (· * ·) 1
theorem A4r (ls:List Int) (n:Int):A0n (ls++[n])=B0e (A0n ls) n:=by
 unfold A0n;rw [List.foldl_append];rfl
theorem B7z (ls:List Int) (n:Int):A2j (ls++[n])=A2j ls*n:=by
 unfold A2j;rw [List.foldl_append];rfl
theorem A9s (cs:List (List Int)) (n:Int):(B0e cs n).length=cs.length*n.toNat:=by
 induction cs with
 | nil=>simp [B0e]
 | cons c r ih =>
  have:B0e (c::r) n=((List.range n.toNat).map λ(k:Nat)=>c++[(k:Int)])++B0e r n:=by simp [B0e]
  rw [this,Z06,ih,Z08,List.length_range,Z0y,Nat.succ_mul];omega
def A8f (xs ys:List Int):Prop:=∃(j:Nat) (x y:Int),xs[j]? =some x/\ys[j]? =some y/\x<y/\∀i:Nat,i<j->xs[i]? =ys[i]?
theorem A8f.snoc {xs ys:List Int} (h:A8f xs ys) (a b:Int):A8f (xs++[a]) (ys++[b]):=by
 obtain ⟨j,x,y,h1,h2,h3,h4⟩:=h;have l1:j<xs.length:=(Z03.mp h1).1;have l2:j<ys.length:=(Z03.mp h2).1;refine ⟨j,x,y,?_,?_,h3,λi hi=> ?_⟩
 ·rw [Z26 l1];exact h1
 ·rw [Z26 l2];exact h2
 ·rw [Z26 (by omega),Z26 (by omega)];exact h4 i hi
theorem A8f.last (xs:List Int) {a b:Int} (h:a<b):A8f (xs++[a]) (xs++[b]):=by
 refine ⟨xs.length,a,b,by simp,by simp,h,λi hi=> ?_⟩;rw [Z26 hi,Z26 hi]
def Within (c ls:List Int):Prop:=c.length=ls.length/\∀(k:Nat) (x n:Int),c[k]? =some x->ls[k]? =some n->0<=x/\x<n
theorem Within.snoc {c ls:List Int} {n:Int} {k:Nat} (h:Within c ls) (hk:(k:Int)<n):Within (c++[(k:Int)]) (ls++[n]):=by
 obtain ⟨hl,hw⟩:=h;refine ⟨by simp [hl],λi x m hx hm=> ?_⟩;by_cases hi:i<c.length
 ·rw [Z26 hi] at hx;rw [Z26 (by omega)] at hm;exact hw i x m hx hm
 ·have:i=c.length:=by
   have:=(Z03.mp hx).1;simp at this;omega
  subst this;rw [Z1l (Z09 _)] at hx;rw [hl,Z1l (Z09 _)] at hm;simp at hx hm;omega
theorem B6n {cs:List (List Int)} {n:Int} {c:List Int} (h:c∈B0e cs n):∃b∈cs,∃k:Nat,k<n.toNat/\c=b++[(k:Int)]:=by
 unfold B0e at h;obtain ⟨b,hb,h2⟩:=List.mem_flatMap.mp h;obtain ⟨k,hk,e⟩:=Z2c.mp h2;exact ⟨b,hb,k,List.mem_range.mp hk,e.symm⟩
theorem A5r:∀(ls:List Int),∀c∈A0n ls,Within c ls:=by
 intro ls
 have key:∀(m:Nat) (ls:List Int),ls.length=m->∀c∈A0n ls,Within c ls:=by
  intro m
  induction m with
  | zero =>
   intro ls hl c hc;have:ls=[]:=List.length_eq_zero_iff.mp hl;subst this;have:c=[]:=by simpa [A0n] using hc
   subst this;exact ⟨rfl,λk x n hx _=>by simp at hx⟩
  | succ m ih =>
   intro ls hl c hc;obtain ⟨init,n,rfl⟩:∃init n,ls=init++[n]:=⟨ls.dropLast,ls.getLast (by intro e;simp [e] at hl),(List.dropLast_concat_getLast _).symm⟩;rw [A4r] at hc;obtain ⟨b,hb,k,hk,rfl⟩:=B6n hc;exact (ih init (by simp at hl;omega) b hb).snoc (by omega)
 exact key _ ls rfl
theorem B4t {cs:List (List Int)} {n:Int} (h:cs.Pairwise A8f):(B0e cs n).Pairwise A8f:=by
 induction cs with
 | nil=>simp [B0e]
 | cons c r ih =>
  have e:B0e (c::r) n=((List.range n.toNat).map λ(k:Nat)=>c++[(k:Int)])++B0e r n:=by simp [B0e]
  rw [e,List.pairwise_append];obtain ⟨h1,h2⟩:=List.pairwise_cons.mp h;refine ⟨?_,ih h2,λx hx y hy=> ?_⟩
  ·rw [List.pairwise_map];exact List.pairwise_lt_range.imp λ{a b} hab=>A8f.last c (by omega)
  ·obtain ⟨k,_,rfl⟩:=Z2c.mp hx;obtain ⟨b,hb,j,_,rfl⟩:=B6n hy;exact (h1 b hb).snoc _ _
theorem B4b (ls:List Int):(A0n ls).Pairwise A8f:=by
 have key:∀(m:Nat) (ls:List Int),ls.length=m->(A0n ls).Pairwise A8f:=by
  intro m
  induction m with
  | zero =>
   intro ls hl;have:ls=[]:=List.length_eq_zero_iff.mp hl;subst this;simp [A0n]
  | succ m ih =>
   intro ls hl;obtain ⟨init,n,rfl⟩:∃init n,ls=init++[n]:=⟨ls.dropLast,ls.getLast (by intro e;simp [e] at hl),(List.dropLast_concat_getLast _).symm⟩;rw [A4r];exact B4t (ih init (by simp at hl;omega))
 exact key _ ls rfl
theorem A1f (ls:List Int) (h:∀n∈ls,1<=n):((A0n ls).length:Int)=A2j ls/\1<=A2j ls:=by
 have key:∀(m:Nat) (ls:List Int),ls.length=m->(∀n∈ls,1<=n)->((A0n ls).length:Int)=A2j ls/\1<=A2j ls:=by
  intro m
  induction m with
  | zero =>
   intro ls hl _;have:ls=[]:=List.length_eq_zero_iff.mp hl;subst this;simp [A0n,A2j]
  | succ m ih =>
   intro ls hl hp;obtain ⟨init,n,rfl⟩:∃init n,ls=init++[n]:=⟨ls.dropLast,ls.getLast (by intro e;simp [e] at hl),(List.dropLast_concat_getLast _).symm⟩;obtain ⟨h1,h2⟩:=ih init (by simp at hl;omega) λn hn=>hp n (by simp [hn]);have h3:1<=n:=hp n (by simp);rw [A4r,B7z,A9s];have e:((n.toNat:Nat):Int)=n:=by omega
   refine ⟨by rw [Int.natCast_mul,h1,e],?_⟩;have:=Int.mul_le_mul h2 h3 (by omega) (by omega)
   simpa using this
 exact key _ ls rfl h
structure A7d (ls:List Int):Prop where
 pos:∀n∈ls,1<=n/\n<=60
 few:ls.length<=8
 most:A2j ls<=4000
theorem B3n (ls:List Int) (h:∀n∈ls,1<=n) (i:Nat):1<=A2j (ls.take i)/\A2j (ls.take i)<=A2j ls:=by
 have a:=(A1f (ls.take i) λn hn=>h n (List.mem_of_mem_take hn)).2;refine ⟨a,?_⟩;have b:=(A1f (ls.drop i) λn hn=>h n (List.mem_of_mem_drop hn)).2
 have gen:∀(ys:List Int) (x:Int),ys.foldl (· * ·) x=x*A2j ys:=by
  intro ys
  induction ys with
  | nil=>intro x;simp [A2j]
  | cons y r ih=>intro x;simp only [A2j,List.foldl_cons] at ih⊢;rw [ih,ih (1*y),Int.one_mul,Int.mul_assoc]
 have e:A2j ls=A2j (ls.take i)*A2j (ls.drop i):=by
  have:=gen (ls.drop i) (A2j (ls.take i));rw [<-this];unfold A2j;rw [<-List.foldl_append,List.take_append_drop]
 rw [e];have:=Int.mul_le_mul_of_nonneg_left b (show (0:Int)<=A2j (ls.take i) by omega)
 simpa using this
theorem A8o {ls:List Int} {i:Nat} {n:Int} (h:ls[i]? =some n):A0n (ls.take (i+1))=B0e (A0n (ls.take i)) n:=by
 rw [Z14,h];exact A4r _ _
def A8i (f:Str->Int) (ix:List (Str×Int)):List Int:=ix.map λ(e:Str×Int)=>if e.1=("":Str) then e.2 else f e.1+e.2
def D4h (f:Str->Int) (x:Str) (k:Int):Str->Int:=λy=>if y=x then k else f y
def rd (len:Str->Int):Tm->(Str->Int)->List (Str×List Int)
 | .num _,_=>[]
 | .place _,_=>[]
 | .read a ix,f=>[(a,A8i f ix)]
 | .sum x b,f=>(List.range (len x).toNat).flatMap λ(k:Nat)=>rd len b (D4h f x (k:Int))
 | .pair _ l r,f=>rd len l f++rd len r f
 | .guard x lo hi l r,f=>if lo<=f x/\f x<hi then rd len l f else rd len r f
def Fv:Tm->Str->Prop
 | .num _,_=>False
 | .place x,y=>y=x
 | .read _ ix,y=>y≠""/\∃e∈ix,e.1=y
 | .sum x b,y=>y≠x/\Fv b y
 | .pair _ l r,y=>Fv l y\/Fv r y
 | .guard x _ _ l r,y=>y=x\/Fv l y\/Fv r y
def ai (kvs:List (Key×V)) (x:Str):Int:=match A3q kvs (Sum.inr x) with | some (.int i)=>i | _=>0
theorem C8x {kvs:List (Key×V)} {x:Str} {i:Int} (h:A3q kvs (Sum.inr x)=some (.int i)):ai kvs x=i:=by unfold ai;rw [h]
theorem C3p {kvs:List (Key×V)} {k:Key} {v:V} (h:A3q kvs k=some v):∃p∈kvs,p.1=k/\p.2=v:=by
 unfold A3q at h;obtain ⟨p,hp,rfl⟩:=Z0i.mp h;exact ⟨p,List.mem_of_find?_eq_some hp,by simpa using List.find?_some hp,rfl⟩
def D3e (kvs:List (Key×V)) (t:Tm):Prop:=∀x,Fv t x->A3q kvs (Sum.inr x)=some (.int (ai kvs x))
def A8m (A:List Str) (lk:List (Key×V)):Prop:=∀x∈A,A3q lk (Sum.inr x)=some (.int (ai lk x))/\1<=ai lk x/\ai lk x<=60
theorem B2u {H:Hp}:∀ns:List Int,A2u H (ns.map V.int) (ns.map PyData.int)
 | []=> .nil
 | n::r=> .cons (.int n) (B2u r)
theorem B0d:∀ns:List Int,PyData.canLayAll0 (ns.map PyData.int)=true/\PyData.depthAll (ns.map PyData.int)=0/\PyData.eqvAll (ns.map PyData.int) (ns.map PyData.int)=true
 | []=>⟨rfl,rfl,rfl⟩
 | n::r=>by
  obtain ⟨h1,h2,h3⟩:=B0d r;simp [PyData.canLayAll0,PyData.canLay0,PyData.depthAll,PyData.depth,PyData.eqvAll,PyData.eqv,h1,h2,h3]
def top (i:Nat):Stmt:=PySem.Challenge.pw_arrayloom_k21_tables_taken.main.body.getD i (.Pass ⟨0,0,0,0⟩)
abbrev A7s:Stmt:=top 8
abbrev A5h:Stmt:=top 9
abbrev B1p:Stmt:=top 11
abbrev A4o:Stmt:=top 12
abbrev A7m:Stmt:=A4w (top 14) 0
abbrev A3x:Stmt:=A4w (top 15) 0
abbrev A4n:Stmt:=top 16
abbrev A5q:Stmt:=top 17
abbrev A3o:Stmt:=top 18
abbrev A4p:Stmt:=top 19
abbrev A5o:Stmt:=A4w (top 21) 0
abbrev A4s:Stmt:=A4w (top 23) 0
abbrev A3z:Stmt:=A4w (top 23) 1
abbrev A6d:Stmt:=A4w (top 24) 0
abbrev A3w:Stmt:=A4w (top 24) 1
abbrev A5p:Stmt:=A4w (top 24) 2
abbrev A7k:Stmt:=top 25
abbrev A2r:Stmt:=A4w (top 27) 0
abbrev A9y:Stmt:=top 28
abbrev A4x:Stmt:=top 29
abbrev A5f:Stmt:=top 30
abbrev A9f:Stmt:=top 31
abbrev A9k:Stmt:=top 32
abbrev B1q:Stmt:=top 34
abbrev B2g:Stmt:=top 35
abbrev B1u:Stmt:=top 36
abbrev A6f:Stmt:=top 37
abbrev B1v:Stmt:=top 38
abbrev A6c:Stmt:=top 39
abbrev B1y:Stmt:=top 40
abbrev B2k:Stmt:=top 41
abbrev A6i:Stmt:=top 42
abbrev A9r:Stmt:=top 43
abbrev C3m:Stmt:=top 44
structure TyC (K:PySem.W.Frag) (C:Addr):Prop where
 ha:PySem.W.findIn K (.ref C) "__class__"=some (some (.builtin "object.__class__"))
 hn:PySem.W.specialIn K (.builtin "object.__class__") "__get__"=some (some (.builtin "getset_descriptor.__get__"))
 htk:PySem.W.takesIn K (.builtin "object.__class__")=some true
 hm:PySem.W.mroIn K C (.type "object")=some true
set_option genInjectivity false in
set_option genSizeOf false in
structure Adr where
 a_:Addr
 cf:Addr
 bA:Addr
 bv:Addr
 ah:Addr
 aK:Addr
 ag:Addr
 f_:Addr
 g9:Addr
 aq:Addr
 aJ:Addr
 aa:Addr
 cB:Addr
 cG:FuncData
 bH:Addr
 bG:FuncData
 aD:Addr
 aE:FuncData
 aA:Addr
 aB:FuncData
 cF:Addr
 cI:FuncData
 aW:Addr
 aY:FuncData
 bi:Addr
 ba:FuncData
 bK:Addr
 bE:FuncData
 aO:Addr
 aP:FuncData
 bh:Addr
 bp:FuncData
 bF:Addr
 bN:FuncData
 br:Addr
 bc:FuncData
 aT:Addr
 aV:FuncData
 bY:Addr
 c6:FuncData
 aU:Addr
 aX:FuncData
 bJ:Addr
 bI:FuncData
 cL:Addr
 cJ:FuncData
 aH:Addr
 aG:FuncData
 bt:Addr
 bB:FuncData
 bj:Addr
 bo:FuncData
 bM:Addr
 bD:FuncData
 cZ:Addr
 de:FuncData
 c_:Addr
 cY:FuncData
 eF:Addr
 dX:FuncData
 em:Addr
 dZ:FuncData
 dY:Addr
 eG:FuncData
 cm:Addr
 c0:FuncData
 dS:Addr
 dQ:FuncData
 c9:Addr
 cq:FuncData
 dP:Addr
 eE:FuncData
 eg:Addr
 dW:FuncData
 cj:Addr
 bZ:FuncData
 dj:Addr
 dz:FuncData
 fM:Addr
 fK:FuncData
structure Txt (K:PySem.W.Frag) (mg:Str->Option Value) (t:Adr):Prop where
 e8:Fun K "cells_of" "cells_of" A7s t.cB t.cG
 fw:mg "cells_of"=some (.ref t.cB)
 fo:A1i K t.cG ["lengths"] []
 cS:Fun K "lengthened" "lengthened" A5h t.bH t.bG
 eT:mg "lengthened"=some (.ref t.bH)
 eS:A1i K t.bG ["cells","length"] []
 aj:Fun K "copied" "copied" B1p t.aD t.aE
 ak:mg "copied"=some (.ref t.aD)
 al:A1i K t.aE ["value"] []
 aF:Fun K "copied_dict" "copied_dict" A4o t.aA t.aB
 aL:mg "copied_dict"=some (.ref t.aA)
 aN:A1i K t.aB ["value"] []
 fq:Fun K "__init__" "Let.__init__" A7m t.cF t.cI
 fm:A1i K t.cI ["self","name","axes","term"] []
 e9:Fun K "__init__" "Program.__init__" A3x t.aW t.aY
 eu:A1i K t.aY ["self","wheel","axes","tables","lets","outs"] []
 cA:Fun K "table_names" "table_names" A4n t.bi t.ba
 eK:mg "table_names"=some (.ref t.bi)
 eI:A1i K t.ba ["program"] []
 aR:Fun K "lengths_of" "lengths_of" A5q t.bK t.bE
 bO:mg "lengths_of"=some (.ref t.bK)
 bC:A1i K t.bE ["program"] []
 bT:Fun K "lengths_along" "lengths_along" A3o t.aO t.aP
 dI:mg "lengths_along"=some (.ref t.aO)
 dM:A1i K t.aP ["axes","lengths"] []
 aM:Fun K "cells_along" "cells_along" A4p t.bh t.bp
 be:mg "cells_along"=some (.ref t.bh)
 bf:A1i K t.bp ["axes","lengths"] []
 eX:Fun K "__init__" "World.__init__" A5o t.bF t.bN
 cU:A1i K t.bN ["self","wheel","lengths","numbers"] []
 eM:Fun K "__init__" "Number.__init__" A4s t.br t.bc
 eJ:A1i K t.bc ["self","number"] []
 er:Fun K "worth" "Number.worth" A3z t.aT t.aV
 eC:A1i K t.aV ["self","at","world"] []
 fh:Fun K "__init__" "Read.__init__" A6d t.bY t.c6
 fi:A1i K t.c6 ["self","array","indexes"] []
 dO:Fun K "cell_at" "Read.cell_at" A3w t.aU t.aX
 eD:A1i K t.aX ["self","at"] []
 eU:Fun K "worth" "Read.worth" A5p t.bJ t.bI
 eY:A1i K t.bI ["self","at","world"] []
 eh:Fun K "index_at" "index_at" A7k t.cL t.cJ
 ft:mg "index_at"=some (.ref t.cL)
 fv:A1i K t.cJ ["axis","shift","at"] []
 cK:Fun K "put" "GrowingWorld.put" A2r t.aH t.aG
 aZ:A1i K t.aG ["self","array","cell","number"] []
 bx:Fun K "meaning" "meaning" A9y t.bt t.bB
 df:mg "meaning"=some (.ref t.bt)
 dg:A1i K t.bB ["program","tables"] []
 bg:Fun K "look_tables" "look_tables" A4x t.bj t.bo
 cy:mg "look_tables"=some (.ref t.bj)
 cw:A1i K t.bo ["program","tables"] []
 bP:Fun K "put_tables" "put_tables" A5f t.bM t.bD
 cO:mg "put_tables"=some (.ref t.bM)
 cR:A1i K t.bD ["program","tables","world"] []
 dA:Fun K "put_let" "put_let" A9f t.cZ t.de
 eN:mg "put_let"=some (.ref t.cZ)
 eO:A1i K t.de ["let","world"] []
 dy:Fun K "rows_of" "rows_of" A9k t.c_ t.cY
 eP:mg "rows_of"=some (.ref t.c_)
 eQ:A1i K t.cY ["world"] []
 au:Fun K "_law_cell" "_law_cell" B1q t.eF t.dX
 ay:mg "_law_cell"=some (.ref t.eF)
 aw:A1i K t.dX ["_law_rest"] []
 dR:Fun K "_law_axes" "_law_axes" B2g t.em t.dZ
 eZ:mg "_law_axes"=some (.ref t.em)
 fj:A1i K t.dZ ["_law_cell_here","_law_names","_law_lengths"] []
 cT:Fun K "_law_many" "_law_many" B1u t.dY t.eG
 d_:mg "_law_many"=some (.ref t.dY)
 dU:A1i K t.eG ["_law_axes_here","_law_lengths"] []
 dG:Fun K "_law_numbers" "_law_numbers" A6f t.cm t.c0
 ff:mg "_law_numbers"=some (.ref t.cm)
 fb:A1i K t.c0 ["_law_rest","_law_many_here"] []
 cg:Fun K "_law_copy" "_law_copy" B1v t.dS t.dQ
 cP:mg "_law_copy"=some (.ref t.dS)
 cQ:A1i K t.dQ ["_law_tables"] []
 dB:Fun K "_law_spoiled" "_law_spoiled" A6c t.c9 t.cq
 e_:mg "_law_spoiled"=some (.ref t.c9)
 fk:A1i K t.cq ["_law_tables","_law_names","_law_way","_law_place","_law_cell_here"] []
 fg:Fun K "_law_list" "_law_list" B1y t.dP t.eE
 fH:mg "_law_list"=some (.ref t.dP)
 fI:A1i K t.eE ["_law_found","_law_due"] []
 c8:Fun K "_law_good" "_law_good" B2k t.eg t.dW
 cW:mg "_law_good"=some (.ref t.eg)
 cX:A1i K t.dW ["_law_program","_law_tables","_law_due"] []
 bX:Fun K "_law_refused" "_law_refused" A6i t.cj t.bZ
 dF:mg "_law_refused"=some (.ref t.cj)
 dH:A1i K t.bZ ["_law_program","_law_tables"] []
 eR:Fun K "_law_under" "_law_under" A9r t.dj t.dz
 fE:mg "_law_under"=some (.ref t.dj)
 fD:A1i K t.dz ["_law_program","_law_tables"] []
 fX:Fun K "law" "law" C3m t.fM t.fK
 gc:mg "law"=some (.ref t.fM)
 gb:A1i K t.fK ["_law_script"] []
 dC:mg "LoomError"=some (.ref t.a_)
 fJ:mg "NoName"=some (.ref t.cf)
 fz:mg "NoShape"=some (.ref t.bA)
 di:mg "NoTable"=some (.ref t.ah)
 fy:mg "TooMuch"=some (.ref t.bv)
 bV:PySem.W.mroIn K t.ah (.type "ValueError")=some true
 eA:PySem.W.excIn K t.ah D1x "ValueError.__new__"=true
 cN:PySem.W.XcIn K t.ah
 cV:PySem.W.kitOne K (.ref t.ah) (.ref t.cf)=some false
 cC:PySem.W.kitOne K (.ref t.ah) (.ref t.bA)=some false
 cH:PySem.W.kitOne K (.ref t.ah) (.ref t.bv)=some false
 ci:PySem.W.kitOne K (.ref t.ah) (.ref t.a_)=some true
 cE:PySem.W.exmOne K (.ref t.ah) (.ref t.ah)=some true
 c7:PySem.W.exmOne K (.ref t.ah) (.ref t.a_)=some true
 fY:mg "Let"=some (.ref t.aK)
 fA:mg "Program"=some (.ref t.ag)
 fL:mg "Number"=some (.ref t.aq)
 fP:mg "Read"=some (.ref t.aJ)
 cb:mg "GrowingWorld"=some (.ref t.aa)
 ac:Cls K t.aa
 bR:Mk K t.aa t.bF
 ao:A2h K t.aa "wheel"
 av:A2h K t.aa "lengths"
 af:A2h K t.aa "numbers"
 aQ:C5s K t.aa "put" t.aH
 fF:TyC K t.aa
 b_:Cls K t.aK
 fR:Mk K t.aK t.cF
 dE:A2h K t.aK "name"
 bW:A2h K t.aK "axes"
 dD:A2h K t.aK "term"
 fT:TyC K t.aK
 fc:PySem.W.mroIn K t.aK (.type "list")=some false
 eV:PySem.W.mroIn K t.aK (.type "tuple")=some false
 fe:PySem.W.mroIn K t.aK (.type "dict")=some false
 dh:Cls K t.aq
 fB:Mk K t.aq t.br
 bu:A2h K t.aq "number"
 dN:C5s K t.aq "worth" t.aT
 fU:TyC K t.aq
 am:Cls K t.ag
 fu:Mk K t.ag t.aW
 bw:A2h K t.ag "wheel"
 bS:A2h K t.ag "axes"
 aC:A2h K t.ag "tables"
 bU:A2h K t.ag "lets"
 dL:A2h K t.ag "outs"
 fQ:TyC K t.ag
 cv:Cls K t.aJ
 fN:Mk K t.aJ t.bY
 cz:A2h K t.aJ "array"
 bQ:A2h K t.aJ "indexes"
 dJ:C5s K t.aJ "cell_at" t.aU
 eL:C5s K t.aJ "worth" t.bJ
 fZ:TyC K t.aJ
 cu:mg "range"=none
 ae:mg "isinstance"=none
 bL:mg "list"=none
 aS:mg "tuple"=none
 cM:mg "dict"=none
 fO:mg "set"=none
 aI:mg "len"=none
 fG:mg "zip"=none
 fV:mg "min"=none
 fS:mg "bool"=none
 fW:mg "int"=none
 eW:mg "ValueError"=none
 fx:mg "reversed"=none
theorem A4t:A0t ["lengths","cells","length"] ["lengths"] (A0j A7s):=⟨rfl,rfl,rfl,by decide +kernel,rfl,by decide +kernel,by decide +kernel⟩
theorem A3g:A0t ["cells","length","longer","cell","number"] ["cells","length"] (A0j A5h):=⟨rfl,rfl,rfl,by decide +kernel,rfl,by decide +kernel,by decide +kernel⟩
theorem A7g:A0t ["value"] ["value"] (A0j B1p):=⟨rfl,rfl,rfl,by decide +kernel,rfl,by decide +kernel,by decide +kernel⟩
theorem A2y:A0t ["value","fresh","key","member"] ["value"] (A0j A4o):=⟨rfl,rfl,rfl,by decide +kernel,rfl,by decide +kernel,by decide +kernel⟩
theorem B4x:A0t ["self","name","axes","term"] ["self","name","axes","term"] (A0j A7m):=⟨rfl,rfl,rfl,by decide +kernel,rfl,by decide +kernel,by decide +kernel⟩
theorem A9v:A0t ["self","wheel","axes","tables","lets","outs"] ["self","wheel","axes","tables","lets","outs"] (A0j A3x):=⟨rfl,rfl,rfl,by decide +kernel,rfl,by decide +kernel,by decide +kernel⟩
theorem B0h:A0t ["program"] ["program"] (A0j A4n):=⟨rfl,rfl,rfl,by decide +kernel,rfl,by decide +kernel,by decide +kernel⟩
theorem B1d:A0t ["program"] ["program"] (A0j A5q):=⟨rfl,rfl,rfl,by decide +kernel,rfl,by decide +kernel,by decide +kernel⟩
theorem A8d:A0t ["axes","lengths"] ["axes","lengths"] (A0j A3o):=⟨rfl,rfl,rfl,by decide +kernel,rfl,by decide +kernel,by decide +kernel⟩
theorem B0l:A0t ["axes","lengths"] ["axes","lengths"] (A0j A4p):=⟨rfl,rfl,rfl,by decide +kernel,rfl,by decide +kernel,by decide +kernel⟩
theorem B1e:A0t ["self","wheel","lengths","numbers"] ["self","wheel","lengths","numbers"] (A0j A5o):=⟨rfl,rfl,rfl,by decide +kernel,rfl,by decide +kernel,by decide +kernel⟩
theorem B0g:A0t ["self","number"] ["self","number"] (A0j A4s):=⟨rfl,rfl,rfl,by decide +kernel,rfl,by decide +kernel,by decide +kernel⟩
theorem A9q:A0t ["self","at","world"] ["self","at","world"] (A0j A3z):=⟨rfl,rfl,rfl,by decide +kernel,rfl,by decide +kernel,by decide +kernel⟩
theorem B3k:A0t ["self","array","indexes"] ["self","array","indexes"] (A0j A6d):=⟨rfl,rfl,rfl,by decide +kernel,rfl,by decide +kernel,by decide +kernel⟩
theorem B0c:A0t ["self","at"] ["self","at"] (A0j A3w):=⟨rfl,rfl,rfl,by decide +kernel,rfl,by decide +kernel,by decide +kernel⟩
theorem B1g:A0t ["self","at","world"] ["self","at","world"] (A0j A5p):=⟨rfl,rfl,rfl,by decide +kernel,rfl,by decide +kernel,by decide +kernel⟩
theorem B4q:A0t ["axis","shift","at"] ["axis","shift","at"] (A0j A7k):=⟨rfl,rfl,rfl,by decide +kernel,rfl,by decide +kernel,by decide +kernel⟩
theorem A6g:A0t ["self","array","cell","number"] ["self","array","cell","number"] (A0j A2r):=⟨rfl,rfl,rfl,by decide +kernel,rfl,by decide +kernel,by decide +kernel⟩
theorem A3k:A0t ["program","tables","world","let"] ["program","tables"] (A0j A9y):=⟨rfl,rfl,rfl,by decide +kernel,rfl,by decide +kernel,by decide +kernel⟩
theorem A3a:A0t ["program","tables","lengths","name","axes"] ["program","tables"] (A0j A4x):=⟨rfl,rfl,rfl,by decide +kernel,rfl,by decide +kernel,by decide +kernel⟩
theorem A2p:A0t ["program","tables","world","name","axes","cell","number"] ["program","tables","world"] (A0j A5f):=⟨rfl,rfl,rfl,by decide +kernel,rfl,by decide +kernel,by decide +kernel⟩
theorem A7w:A0t ["let","world","cell","at"] ["let","world"] (A0j A9f):=⟨rfl,rfl,rfl,by decide +kernel,rfl,by decide +kernel,by decide +kernel⟩
theorem A5s:A0t ["world","rows","array","numbers"] ["world"] (A0j A9k):=⟨rfl,rfl,rfl,by decide +kernel,rfl,by decide +kernel,by decide +kernel⟩
theorem B9q:A0t ["_law_rest"] ["_law_rest"] (A0j B1q):=⟨rfl,rfl,rfl,by decide +kernel,rfl,by decide +kernel,by decide +kernel⟩
theorem A5l:A0t ["_law_cell_here","_law_names","_law_lengths","_law_many_here","_law_turn","_law_axes_here"] ["_law_cell_here","_law_names","_law_lengths"] (A0j B2g):=⟨rfl,rfl,rfl,by decide +kernel,rfl,by decide +kernel,by decide +kernel⟩
theorem A6q:A0t ["_law_axes_here","_law_lengths","_law_many_here","_law_name"] ["_law_axes_here","_law_lengths"] (A0j B1u):=⟨rfl,rfl,rfl,by decide +kernel,rfl,by decide +kernel,by decide +kernel⟩
theorem A5j:A0t ["_law_rest","_law_many_here","_law_base","_law_step"] ["_law_rest","_law_many_here"] (A0j A6f):=⟨rfl,rfl,rfl,by decide +kernel,rfl,by decide +kernel,by decide +kernel⟩
theorem A9j:A0t ["_law_tables","_law_copied","_law_name"] ["_law_tables"] (A0j B1v):=⟨rfl,rfl,rfl,by decide +kernel,rfl,by decide +kernel,by decide +kernel⟩
theorem A3t:A0t ["_law_tables","_law_names","_law_way","_law_place","_law_cell_here","_law_spoiled_here","_law_chosen","_law_some"] ["_law_tables","_law_names","_law_way","_law_place","_law_cell_here"] (A0j A6c):=⟨rfl,rfl,rfl,by decide +kernel,rfl,by decide +kernel,by decide +kernel⟩
theorem B0b:A0t ["_law_found","_law_due","_law_one","_law_other"] ["_law_found","_law_due"] (A0j B1y):=⟨rfl,rfl,rfl,by decide +kernel,rfl,by decide +kernel,by decide +kernel⟩
theorem A5e:A0t ["_law_program","_law_tables","_law_due","_law_handed","_law_found","_law_name"] ["_law_program","_law_tables","_law_due"] (A0j B2k):=⟨rfl,rfl,rfl,by decide +kernel,rfl,by decide +kernel,by decide +kernel⟩
theorem A5g:A0t ["_law_program","_law_tables","_law_handed","e"] ["_law_program","_law_tables"] (A0j A6i):=⟨rfl,rfl,rfl,by decide +kernel,rfl,by decide +kernel,by decide +kernel⟩
theorem B0p:A0t ["_law_program","_law_tables","e"] ["_law_program","_law_tables"] (A0j A9r):=⟨rfl,rfl,rfl,by decide +kernel,rfl,by decide +kernel,by decide +kernel⟩
theorem A2i:A0t ["_law_script","_law_cell_here","_law_rest","_law_wheel","_law_names","_law_way","_law_lengths","_law_name","_law_tables","_law_numbers_here","_law_due","_law_k","_law_axes_here","_law_own","_law_term","_law_program","_law_spoiled_here"] ["_law_script"] (A0j C3m):=⟨rfl,rfl,rfl,by decide +kernel,rfl,by decide +kernel,by decide +kernel⟩
theorem A3d:(["member"]:List Str).Nodup:=by decide +kernel
theorem B3v:(["name","axes"]:List Str).Nodup:=by decide +kernel
theorem B9t:(["axis","lengths"]:List Str).Nodup:=by decide +kernel
theorem B2m:(["axis","shift","at"]:List Str).Nodup:=by decide +kernel
theorem C2d:(["_law_j","_law_cell_here","_law_many_here","_law_names","_law_turn"]:List Str).Nodup:=by decide +kernel
theorem C1l:(["_law_k","_law_base","_law_step"]:List Str).Nodup:=by decide +kernel
theorem C2j:(["_law_k","_law_base","_law_step"]:List Str).Nodup:=by decide +kernel
theorem B9z:(["_law_name"]:List Str).Nodup:=by decide +kernel
theorem B9l:(["_law_cell_here"]:List Str).Nodup:=by decide +kernel
theorem C0n:(["_law_number","_law_wheel"]:List Str).Nodup:=by decide +kernel
theorem B8e:(["_law_k","_law_cell_here","_law_wheel"]:List Str).Nodup:=by decide +kernel
theorem B9g:(["_law_name"]:List Str).Nodup:=by decide +kernel
theorem B8f:(["_law_name","_law_lengths"]:List Str).Nodup:=by decide +kernel
theorem A1m.none {P:Program} {w:World} {K:PySem.W.Frag} {mg:Str->Option Value} {base:Heap} {CX:CXT} {k:Nat} {f:Addr} {fd:FuncData} {ps:List Str} {sp:Sp} (h:∀vs H Q E,¬sp vs H Q E):A1m P w K mg base CX k f fd ps sp :=
 ⟨λvs H Q E q=>(h vs H Q E q).elim,λ_ _ _ H _ _ vs Q E _ _ _ _ q=>(h vs H Q E q).elim⟩
def B4k (e:Str×List Str):PyData:= .tuple [.str e.1,.list (e.2.map PyData.str)]
def A8e (ts:List (Str×List Str)):PyData:= .list (ts.map B4k)
def C5o (xs:List Str):PyData:= .list (xs.map PyData.str)
theorem B6d:∀xs:List Str,PyData.depthAll (xs.map PyData.str)=0/\A2s (xs.map PyData.str)=xs.length
 | []=>⟨rfl,rfl⟩
 | x::r=>by
  obtain ⟨h2,h3⟩:=B6d r;refine ⟨?_,?_⟩
  ·simp [PyData.depthAll,PyData.depth,h2]
  ·simp [A2s,cnt,h3];omega
theorem C0o (xs:List Str):(C5o xs).depth<=1/\cnt (C5o xs)<=1+xs.length:=by
 obtain ⟨h2,h3⟩:=B6d xs;refine ⟨?_,?_⟩
 ·simp [C5o,PyData.depth,h2]
 ·simp only [C5o,cnt,h3];omega
theorem C9s {n:Nat}:∀ts:List (Str×List Str),(∀e∈ts,e.2.length<=n)->PyData.depthAll (ts.map B4k)<=2/\A2s (ts.map B4k)<=ts.length*(n+4)
 | [],_=>⟨by simp [PyData.depthAll],by simp [A2s]⟩
 | e::r,h=>by
  obtain ⟨h2,h3⟩:=C9s r λx hx=>h x (.tail _ hx);obtain ⟨g2,g3⟩:=B6d e.2;have hl:=h e (.head _);refine ⟨?_,?_⟩
  ·simp only [Z0p,B4k,PyData.depthAll,PyData.depth,g2];omega
  ·simp only [Z0p,B4k,A2s,cnt,g3,Z0y,Nat.add_mul,Nat.one_mul];omega
theorem C5a {n:Nat} (ts:List (Str×List Str)) (h:∀e∈ts,e.2.length<=n):(A8e ts).depth<=3/\cnt (A8e ts)<=1+ts.length*(n+4):=by
 obtain ⟨h2,h3⟩:=C9s ts h;refine ⟨?_,?_⟩
 ·simp only [A8e,PyData.depth];omega
 ·simp only [A8e,cnt];omega
theorem C9k:∀ts:List (Str×Int),PyData.depthAll (ts.map B1w)<=1
 | []=>by simp [PyData.depthAll]
 | e::r=>by
  have h2:=C9k r;simp only [Z0p,B1w,PyData.depthAll,PyData.depth];omega
theorem C4s (ts:List (Str×Int)):(A4i ts).depth<=2:=by
 have h2:=C9k ts;simp only [A4i,PyData.depth];omega
theorem B2n {H:Hp}:∀{ys:List Str} {xs:List V},A2u H xs (ys.map PyData.str)->xs=ys.map V.str
 | [],_,r=>by cases r;rfl
 | y::ys,_,r=>by
  rw [Z0p] at r
  cases r with
  | cons a r =>
   cases a
   rw [Z0p,B2n r]
theorem C6z {H:Hp} {v:V} {ys:List Str} (h:Rep H v (C5o ys)):∃p,v= .ref p/\H p=some (.lst (ys.map V.str)):=by
 obtain ⟨p,xs,rfl,e,r⟩:=A5a (show Rep H v (.list (ys.map PyData.str)) from h);rw [B2n r] at e;exact ⟨p,rfl,e⟩
theorem C9b {H:Hp} {p:Addr} {ys:List Str} (e:H p=some (.lst (ys.map V.str))):Rep H (.ref p) (C5o ys):= .lst e (A2u.strs ys)
theorem C8v {H:Hp} {v:V} {e:Str×List Str} (h:Rep H v (B4k e)):∃b c,v= .ref b/\H b=some (.tup [.str e.1,.ref c])/\H c=some (.lst (e.2.map V.str)):=by
 unfold B4k at h
 cases h with
 | @tup b xs _ eb r =>
  cases r with
  | cons a r =>
   cases r with
   | cons a2 r =>
    cases r
    cases a
    obtain ⟨c,rfl,ec⟩:=C6z a2;exact ⟨b,c,rfl,eb,ec⟩
theorem D2m {H:Hp} {b c:Addr} {e:Str×List Str} (eb:H b=some (.tup [.str e.1,.ref c])) (ec:H c=some (.lst (e.2.map V.str))):Rep H (.ref b) (B4k e):= .tup eb (.cons (.str _) (.cons (C9b ec) .nil))
theorem D3t {H:Hp} {v:V} {e:Str×Int} (h:Rep H v (B1w e)):∃b,v= .ref b/\H b=some (.tup [.str e.1,.int e.2]):=by
 unfold B1w at h
 cases h with
 | @tup b xs _ eb r =>
  cases r with
  | cons a r =>
   cases r with
   | cons a2 r =>
    cases r
    cases a
    cases a2
    exact ⟨b,rfl,eb⟩
theorem B5e {α:Type} {H:Hp} {f:α->PyData} {ts:List α} {xs:List V} (r:A2u H xs (ts.map f)) {i:Nat} {x:V} (hx:xs[i]? =some x):∃e,ts[i]? =some e/\Rep H x (f e):=by
 obtain ⟨d,hd,rx⟩:=r.get2 hx;rw [Z1z] at hd;obtain ⟨e,he,rfl⟩:=Z0i.mp hd;exact ⟨e,he,rx⟩
theorem B0v {α β:Type} {F:α->β->Prop}:∀{l:List α} {m:List β},Paired F l m->∀{i:Nat} {x:α},l[i]? =some x->∃y,m[i]? =some y/\F x y
 | _,_,.nil,i,x,e=>by simp at e
 | _,_,.cons r t,0,x,e=>by simp at e;subst e;exact ⟨_,rfl,r⟩
 | _,_,.cons r t,i+1,x,e=>by
  obtain ⟨y,e1,e2⟩:=B0v t (i:=i) (by simpa using e);exact ⟨y,by simpa using e1,e2⟩
theorem B5i {α β:Type} {F:α->β->Prop}:∀{a c:List α} {b d:List β},Paired F a b->Paired F c d->Paired F (a++c) (b++d)
 | _,_,_,_,.nil,h=>h
 | _,_,_,_,.cons r t,h=> .cons r (B5i t h)
theorem A2o {α:Type} {f:α->V} {xs:List α} {i:Nat} {v:V} (h:(xs.map f)[i]? =some v):∃x,xs[i]? =some x/\v=f x:=by
 rw [Z1z] at h
 cases e:xs[i]? with
 | none=>rw [e] at h;cases h
 | some x=>rw [e] at h;exact ⟨x,rfl,(Z1a h).symm⟩
local macro_rules | `(tactic| walk_at "lk") => `(tactic| first | with_reducible exact lk0 | (refine lk1 (by decide +kernel) ?_; walk_at "lk") | rfl)
def C3a (K:PySem.W.Frag) (f:Str):Sp:=λvs H Q _=>∃(p C dx:Addr) (v:V),vs=[.ref p,v]/\H p=some (.ins C dx [])/\Cls K C/\A2h K C f/\Q .non (upd H p (.ins C dx [(f,v)]))
def C2b (n:Nat):Sp:=λvs H Q _=>∃(v:V) (d:PyData),vs=[v]/\Rep H v d/\PyData.depth d<=n/\cnt d<=100000/\∀(v':V) (H':Hp),A0r H H'->Rep (A3p (λa=>H a=none) H') v' d->Q v' H'
def D0g (C:Addr):Sp:=λvs H Q _=>∃(a dx:Addr) (fs:List (Str×V)),vs=[.ref a]/\H a=some (.ins C dx fs)/\Q (.ref a) H
def C5p (C:Addr):Sp:=λvs H Q _=>∃(p:Addr) (xs:List V),vs=[.ref p]/\H p=some (.lst xs)/\xs.length<=1000/\(∀x∈xs,∃a dx fs,x= .ref a/\H a=some (.ins C dx fs))/\∀(D:Addr) (H':Hp),H D=none->A0r H H'->H' D=some (.lst xs)->Q (.ref D) H'
def C7o:Sp:=λvs H Q _=>∃(d:Addr) (kvs:List (Key×V)) (ds:List PyData),vs=[.ref d]/\H d=some (.dK kvs)/\kvs.length<=100000/\Paired (λ(a:Key×V) (x:PyData)=>Rep H a.2 x/\PyData.depth x<=1/\cnt x<=100000) kvs ds/\
 ∀(p:Addr) (kvs':List (Key×V)) (H':Hp),H p=none->A0r H H'->H' p=some (.dK kvs')->kvs'.map (·.1)=kvs.map (·.1)->Paired (λ(b:Key×V) (x:PyData)=>Rep (A3p (λa=>H a=none) H') b.2 x) kvs' ds->Q (.ref p) H'
section
variable {P:Program} {w:World} {K:PySem.W.Frag} {mg:Str->Option Value} {base:Heap} {t:Adr}
theorem B0k (T:Txt K mg t):A1m P w K mg base CX0 1 t.br t.bc ["self","number"] (C3a K "number"):=by
 refine T.eM.ok B0g (λvs H Q E h=> ?_) (λcdv A outer s H vs Q E hr h=> ?_)
 ·obtain ⟨p,C,dx,v,rfl,_⟩:=h;rfl
 ·obtain ⟨p,C,dx,v,rfl,hp,cl,na,k⟩:=h;exact ⟨_,(A0f (A3r (pv 0) (pv 1) rfl)),_,rfl,_,rfl,p,C,dx,[],rfl,hp,cl,na,(by decide),k⟩
theorem A3m {T:String} (h:T="NoneType"\/T="bool"\/T="int"\/T="str"\/T="tuple"):∀u,A2a (.ty "list") u->PySem.W.kitOne K (.type T) u=some false:=by
 rcases h with rfl | rfl | rfl | rfl | rfl <;> exact B0r (by decide +kernel) (by decide +kernel) (by decide +kernel)
theorem A3s {T:String} (h:T="NoneType"\/T="bool"\/T="int"\/T="str"):∀u,A2a (.ty "tuple") u->PySem.W.kitOne K (.type T) u=some false:=by
 rcases h with rfl | rfl | rfl | rfl <;> exact B0r (by decide +kernel) (by decide +kernel) (by decide +kernel)
theorem A4y {T:String} (h:T="NoneType"\/T="bool"\/T="int"\/T="str"):∀u,A2a (.ty "dict") u->PySem.W.kitOne K (.type T) u=some false:=by
 rcases h with rfl | rfl | rfl | rfl <;> exact B0r (by decide +kernel) (by decide +kernel) (by decide +kernel)
theorem B7u (T:Txt K mg t) {m n:Nat} {sp':Sp} (G_copied:A1m P w K mg base CX0 m t.aD t.aE ["value"] sp')
  (hs:∀(v:V) (d:PyData) (H:Hp) (Q:VK),Rep H v d->PyData.depth d+1<=n->cnt d<=100000->(∀(v':V) (H':Hp),A0r H H'->Rep (A3p (λa=>H a=none) H') v' d->Q v' H')->sp' [v] H Q E0) :
  A1m P w K mg base CX0 (m+1) t.aD t.aE ["value"] (C2b n):=by
 refine T.aj.ok A7g (λvs H Q E h=> ?_) (λcdv A outer s H vs Q E hr h=> ?_)
 ·obtain ⟨v,d,rfl,_⟩:=h;rfl
 ·obtain ⟨v,d,rfl,rp,hd,hc,k⟩:=h;have G_copied_dict:A1m P w K mg base CX0 0 t.aA t.aB ["value"] (λ_ _ _ _=>False):=A1m.none λ_ _ _ _ h=>h
  refine ⟨_,(A0d (A1w (A2k (A0o A0x (by rfl) T.ae Z0d (A0a (pv 0) (A0a (A1z (v:=V.ty "list") rfl T.bL Z1o rfl) A0c))))
    (A0f (A0q (A1y (N':=["member"]) (ix:=(List.replicate 1 none)) rfl (A1s rfl (by decide +kernel) (by decide +kernel)) (A1r rfl) (A8b (pv 0)) (λ_ _ _ _=>(A0p (i:=0) A3d rfl (Or.inl rfl) (Or.inr rfl))) (λ_ _ _ _=>(A0h G_copied (hr.mono (by omega)) rfl T.ak T.aj.kp T.al .nil A0s (A0a (pv 0) A0c))))))
    A0u)
   (A0d (A1w (A2k (A0o A0x (by rfl) T.ae Z0d (A0a (pv 0) (A0a (A1z (v:=V.ty "tuple") rfl T.aS Z0m rfl) A0c))))
    (A0f (A0q (A1t A2t (by rfl) T.aS Z0m (A0a (A1y (N':=["member"]) (ix:=(List.replicate 1 none)) rfl (A1s rfl (by decide +kernel) (by decide +kernel)) (A1r rfl) (A8b (pv 0)) (λ_ _ _ _=>(A0p (i:=0) A3d rfl (Or.inl rfl) (Or.inr rfl))) (λ_ _ _ _=>(A0h G_copied (hr.mono (by omega)) rfl T.ak T.aj.kp T.al .nil A0s (A0a (pv 0) A0c)))) A0c))))
    A0u)
   (A0d (A1w (A2k (A0o A0x (by rfl) T.ae Z0d (A0a (pv 0) (A0a (A1z (v:=V.ty "dict") rfl T.cM PyProof.Rows.boot_dict rfl) A0c))))
    (A0f (A0q (A0h G_copied_dict (hr.mono (by omega)) rfl T.aL T.aF.kp T.aN .nil A0s (A0a (pv 0) A0c))))
    A0u)
   (A0f (A0q (pv 0)))))),?_⟩
  cases rp with
  | non =>
   refine ⟨_,rfl,_,_,_,_,rfl,.non,A3m (.inl rfl),false,rfl,A5c ?_⟩;refine ⟨_,rfl,_,_,_,_,rfl,.non,A3s (.inl rfl),false,rfl,A5c ?_⟩;exact ⟨_,rfl,_,_,_,_,rfl,.non,A4y (.inl rfl),false,rfl,A5c ⟨_,rfl,k _ _ (A0r.refl _) .non⟩⟩
  | bl b =>
   refine ⟨_,rfl,_,_,_,_,rfl,.bl b,A3m (.inr (.inl rfl)),false,rfl,A5c ?_⟩;refine ⟨_,rfl,_,_,_,_,rfl,.bl b,A3s (.inr (.inl rfl)),false,rfl,A5c ?_⟩;exact ⟨_,rfl,_,_,_,_,rfl,.bl b,A4y (.inr (.inl rfl)),false,rfl,A5c ⟨_,rfl,k _ _ (A0r.refl _) (.bl b)⟩⟩
  | int b =>
   refine ⟨_,rfl,_,_,_,_,rfl,.int b,A3m (.inr (.inr (.inl rfl))),false,rfl,A5c ?_⟩;refine ⟨_,rfl,_,_,_,_,rfl,.int b,A3s (.inr (.inr (.inl rfl))),false,rfl,A5c ?_⟩;exact ⟨_,rfl,_,_,_,_,rfl,.int b,A4y (.inr (.inr (.inl rfl))),false,rfl,A5c ⟨_,rfl,k _ _ (A0r.refl _) (.int b)⟩⟩
  | str b =>
   refine ⟨_,rfl,_,_,_,_,rfl,.str b,A3m (.inr (.inr (.inr (.inl rfl)))),false,rfl,A5c ?_⟩;refine ⟨_,rfl,_,_,_,_,rfl,.str b,A3s (.inr (.inr (.inr rfl))),false,rfl,A5c ?_⟩;exact ⟨_,rfl,_,_,_,_,rfl,.str b,A4y (.inr (.inr (.inr rfl))),false,rfl,A5c ⟨_,rfl,k _ _ (A0r.refl _) (.str b)⟩⟩
  | @lst p xs ds e r =>
   have hl1:=r.len;have hl2:=B4s ds;have hc':A2s ds+1<=100000:=hc;have hd':PyData.depthAll ds+1<=n:=hd;refine ⟨_,rfl,_,_,_,_,rfl,.lst e,A4v "list",true,rfl,B9u ?_⟩;refine .inl ⟨_,rfl,p,rfl,⟨_,SqL.of e⟩,λD hD=> ?_⟩
   refine A2l (K:=K) (a:=p) (D:=D) (xs:=xs) (λi ys H2=>A0r H H2/\H2 D=some (.lst ys)/\A2u (A3p (λa=>H a=none/\a≠D) H2) ys (ds.take i)/\ys.length=i)
    ⟨A0g hD,A0b,(by rw [List.take_zero];exact .nil),rfl⟩ (λi ys H2 ⟨s2,_⟩=>SqL.of (s2 _ _ e)) ?_ ?_
   ·rintro i x ys H2 hx ⟨s2,hD2,rs,hyl⟩;obtain ⟨d,hdi,rx⟩:=r.get2 hx;obtain ⟨c1,c2⟩:=C2c hdi;have hi:i<xs.length:=(Z03.mp hx).1;refine ⟨True.intro,_,rfl,hs x d H2 _ (rx.same s2) (by omega) (by omega) λv' H5 s5 rp5=> ?_⟩;have hnS:¬(H D=none/\D≠D):=λz=>z.2 rfl;refine ⟨s5 _ _ hD2,A0y (by omega),A0k (s2.trans s5) hD,A0b,?_,by simp [hyl]⟩;rw [Z14,hdi];show A2u _ (ys++[v']) (ds.take i++[d]);refine (rs.same (A3l (A5w s5) hnS)).snoc (rp5.same ((A4f (A0r.refl _) λa o _ ha=>⟨s2.free ha,λz=> ?_⟩).trans (A3l (A0r.refl _) hnS)));subst z;rw [hD2] at ha;cases ha
   ·rintro ys H2 ⟨s2,hD2,rs,hyl⟩;refine k (.ref D) H2 s2 (.lst (A6n hD hD2) ?_);rw [hl1,Z18] at rs;exact rs.same (A4f (A0r.refl _) λa o _ h=>h.1)
  | @tup p xs ds e r =>
   have hl1:=r.len;have hl2:=B4s ds;have hc':A2s ds+1<=100000:=hc;have hd':PyData.depthAll ds+1<=n:=hd;refine ⟨_,rfl,_,_,_,_,rfl,.tup e,A3m (.inr (.inr (.inr (.inr rfl)))),false,rfl,A5c ?_⟩;refine ⟨_,rfl,_,_,_,_,rfl,.tup e,A4v "tuple",true,rfl,B9u ?_⟩;refine .inr ⟨_,rfl,p,rfl,⟨_,SqT.of e⟩,λD hD=> ?_⟩
   refine B9j (K:=K) (a:=p) (D:=D) (xs:=xs) (λi ys H2=>A0r H H2/\H2 D=some (.lst ys)/\A2u (A3p (λa=>H a=none/\a≠D) H2) ys (ds.take i)/\ys.length=i)
    ⟨A0g hD,A0b,(by rw [List.take_zero];exact .nil),rfl⟩ (λi ys H2 ⟨s2,_⟩=>SqT.of (s2 _ _ e)) ?_ ?_
   ·rintro i x ys H2 hx ⟨s2,hD2,rs,hyl⟩;obtain ⟨d,hdi,rx⟩:=r.get2 hx;obtain ⟨c1,c2⟩:=C2c hdi;have hi:i<xs.length:=(Z03.mp hx).1;refine ⟨True.intro,_,rfl,hs x d H2 _ (rx.same s2) (by omega) (by omega) λv' H5 s5 rp5=> ?_⟩;have hnS:¬(H D=none/\D≠D):=λz=>z.2 rfl;refine ⟨s5 _ _ hD2,A0y (by omega),A0k (s2.trans s5) hD,A0b,?_,by simp [hyl]⟩;rw [Z14,hdi];show A2u _ (ys++[v']) (ds.take i++[d]);refine (rs.same (A3l (A5w s5) hnS)).snoc (rp5.same ((A4f (A0r.refl _) λa o _ ha=>⟨s2.free ha,λz=> ?_⟩).trans (A3l (A0r.refl _) hnS)));subst z;rw [hD2] at ha;cases ha
   ·rintro ys H2 ⟨s2,hD2,rs,hyl⟩;refine ⟨D,ys,rfl,.inl ⟨SqL.of hD2,λl hl=> ?_⟩⟩;refine k (.ref l) _ (s2.trans (A0g hl)) (.tup (A6n (s2.free hl) A0b) ?_);rw [hl1,Z18] at rs;exact rs.same ((A4f (A0r.refl _) λa o _ h=>h.1).trans (A5w (A0g hl)))
theorem A6u (T:Txt K mg t):∀n:Nat,A1m P w K mg base CX0 (n+1) t.aD t.aE ["value"] (C2b n)
 | 0=>B7u T (sp':=λ_ _ _ _=>False) (m:=0) (A1m.none λ_ _ _ _ h=>h) λv d H Q _ h=>absurd h (by omega)
 | n+1=>B7u T (A6u T n) λv d H Q rp hd hc k=>⟨v,d,rfl,rp,by omega,hc,k⟩
theorem C6o (T:Txt K mg t) {C:Addr} (cl:Cls K C) (tc:TyC K C) (m1:PySem.W.mroIn K C (.type "list")=some false) (m2:PySem.W.mroIn K C (.type "tuple")=some false) (m3:PySem.W.mroIn K C (.type "dict")=some false):A1m P w K mg base CX0 1 t.aD t.aE ["value"] (D0g C):=by
 refine T.aj.ok A7g (λvs H Q E h=> ?_) (λcdv A outer s H vs Q E hr h=> ?_)
 ·obtain ⟨a,dx,fs,rfl,_⟩:=h;rfl
 ·obtain ⟨a,dx,fs,rfl,e,k⟩:=h;have G_copied:A1m P w K mg base CX0 0 t.aD t.aE ["value"] (λ_ _ _ _=>False):=A1m.none λ_ _ _ _ h=>h;have ty:B6y K H (.ref a) (.ref C):= .ins e cl tc.ha tc.hn tc.htk tc.hm;have G_copied_dict:A1m P w K mg base CX0 0 t.aA t.aB ["value"] (λ_ _ _ _=>False):=A1m.none λ_ _ _ _ h=>h
  refine ⟨_,(A0d (A1w (A2k (A0o A0x (by rfl) T.ae Z0d (A0a (pv 0) (A0a (A1z (v:=V.ty "list") rfl T.bL Z1o rfl) A0c))))
    (A0f (A0q (A1y (N':=["member"]) (ix:=(List.replicate 1 none)) rfl (A1s rfl (by decide +kernel) (by decide +kernel)) (A1r rfl) (A8b (pv 0)) (λ_ _ _ _=>(A0p (i:=0) A3d rfl (Or.inl rfl) (Or.inr rfl))) (λ_ _ _ _=>(A0h G_copied (hr.mono (by omega)) rfl T.ak T.aj.kp T.al .nil A0s (A0a (pv 0) A0c))))))
    A0u)
   (A0d (A1w (A2k (A0o A0x (by rfl) T.ae Z0d (A0a (pv 0) (A0a (A1z (v:=V.ty "tuple") rfl T.aS Z0m rfl) A0c))))
    (A0f (A0q (A1t A2t (by rfl) T.aS Z0m (A0a (A1y (N':=["member"]) (ix:=(List.replicate 1 none)) rfl (A1s rfl (by decide +kernel) (by decide +kernel)) (A1r rfl) (A8b (pv 0)) (λ_ _ _ _=>(A0p (i:=0) A3d rfl (Or.inl rfl) (Or.inr rfl))) (λ_ _ _ _=>(A0h G_copied (hr.mono (by omega)) rfl T.ak T.aj.kp T.al .nil A0s (A0a (pv 0) A0c)))) A0c))))
    A0u)
   (A0d (A1w (A2k (A0o A0x (by rfl) T.ae Z0d (A0a (pv 0) (A0a (A1z (v:=V.ty "dict") rfl T.cM PyProof.Rows.boot_dict rfl) A0c))))
    (A0f (A0q (A0h G_copied_dict (hr.mono (by omega)) rfl T.aL T.aF.kp T.aN .nil A0s (A0a (pv 0) A0c))))
    A0u)
   (A0f (A0q (pv 0)))))),?_⟩
  refine ⟨_,rfl,_,_,_,_,rfl,ty,B6u m1 (by decide +kernel),false,rfl,A5c ?_⟩;refine ⟨_,rfl,_,_,_,_,rfl,ty,B6u m2 (by decide +kernel),false,rfl,A5c ?_⟩;exact ⟨_,rfl,_,_,_,_,rfl,ty,B6u m3 (by decide +kernel),false,rfl,A5c ⟨_,rfl,k⟩⟩
theorem C6v (T:Txt K mg t) {C:Addr} (cl:Cls K C) (tc:TyC K C) (m1:PySem.W.mroIn K C (.type "list")=some false) (m2:PySem.W.mroIn K C (.type "tuple")=some false) (m3:PySem.W.mroIn K C (.type "dict")=some false):A1m P w K mg base CX0 2 t.aD t.aE ["value"] (C5p C):=by
 have G_copied:=C6o (P:=P) (w:=w) (base:=base) T cl tc m1 m2 m3;refine T.aj.ok A7g (λvs H Q E h=> ?_) (λcdv A outer s H vs Q E hr h=> ?_)
 ·obtain ⟨p,xs,rfl,_⟩:=h;rfl
 ·obtain ⟨p,xs,rfl,e,hl,hx,k⟩:=h;have G_copied_dict:A1m P w K mg base CX0 0 t.aA t.aB ["value"] (λ_ _ _ _=>False):=A1m.none λ_ _ _ _ h=>h
  refine ⟨_,(A0d (A1w (A2k (A0o A0x (by rfl) T.ae Z0d (A0a (pv 0) (A0a (A1z (v:=V.ty "list") rfl T.bL Z1o rfl) A0c))))
    (A0f (A0q (A1y (N':=["member"]) (ix:=(List.replicate 1 none)) rfl (A1s rfl (by decide +kernel) (by decide +kernel)) (A1r rfl) (A8b (pv 0)) (λ_ _ _ _=>(A0p (i:=0) A3d rfl (Or.inl rfl) (Or.inr rfl))) (λ_ _ _ _=>(A0h G_copied (hr.mono (by omega)) rfl T.ak T.aj.kp T.al .nil A0s (A0a (pv 0) A0c))))))
    A0u)
   (A0d (A1w (A2k (A0o A0x (by rfl) T.ae Z0d (A0a (pv 0) (A0a (A1z (v:=V.ty "tuple") rfl T.aS Z0m rfl) A0c))))
    (A0f (A0q (A1t A2t (by rfl) T.aS Z0m (A0a (A1y (N':=["member"]) (ix:=(List.replicate 1 none)) rfl (A1s rfl (by decide +kernel) (by decide +kernel)) (A1r rfl) (A8b (pv 0)) (λ_ _ _ _=>(A0p (i:=0) A3d rfl (Or.inl rfl) (Or.inr rfl))) (λ_ _ _ _=>(A0h G_copied (hr.mono (by omega)) rfl T.ak T.aj.kp T.al .nil A0s (A0a (pv 0) A0c)))) A0c))))
    A0u)
   (A0d (A1w (A2k (A0o A0x (by rfl) T.ae Z0d (A0a (pv 0) (A0a (A1z (v:=V.ty "dict") rfl T.cM PyProof.Rows.boot_dict rfl) A0c))))
    (A0f (A0q (A0h G_copied_dict (hr.mono (by omega)) rfl T.aL T.aF.kp T.aN .nil A0s (A0a (pv 0) A0c))))
    A0u)
   (A0f (A0q (pv 0)))))),?_⟩
  refine ⟨_,rfl,_,_,_,_,rfl,.lst e,A4v "list",true,rfl,B9u ?_⟩;refine .inl ⟨_,rfl,p,rfl,⟨_,SqL.of e⟩,λD hD=> ?_⟩
  refine A2l (K:=K) (a:=p) (D:=D) (xs:=xs) (λi ys H2=>A0r H H2/\H2 D=some (.lst ys)/\ys=xs.take i)
   ⟨A0g hD,A0b,rfl⟩ (λi ys H2 ⟨s2,_⟩=>SqL.of (s2 _ _ e)) ?_ ?_
  ·rintro i x ys H2 hxi ⟨s2,hD2,rfl⟩;obtain ⟨a,dx,fs,rfl,ea⟩:=hx x (Z13 hxi);have hlt:(xs.take i).length<=xs.length:=by rw [Z0x];omega
   refine ⟨True.intro,_,rfl,a,dx,fs,rfl,s2 _ _ ea,hD2,A0y (by omega),A0k s2 hD,A0b,?_⟩;rw [Z14,hxi];rfl
  ·rintro ys H2 ⟨s2,hD2,rfl⟩;rw [Z18] at hD2;exact k D H2 hD s2 hD2
theorem B0i (T:Txt K mg t):A1m P w K mg base CX0 3 t.aA t.aB ["value"] C7o:=by
 have G_copied:=A6u (P:=P) (w:=w) (base:=base) T 1;refine T.aF.ok A2y (λvs H Q E h=> ?_) (λcdv A outer s H vs Q E hr h=> ?_)
 ·obtain ⟨d,kvs,ds,rfl,_⟩:=h;rfl
 ·obtain ⟨d,kvs,ds,rfl,hd,hl,src,k⟩:=h;have hu:=A7u hr
  refine ⟨_,(C2r (A0d (A1b (i:=1) A2y.nd rfl (Or.inl rfl) A3u)
   (A0d (A2w PassesOwn.never rfl (B7r (A9d PySem.F.plainAttrs_dict PySem.F.slot_dict_items PySem.F.type_dict_items B7f (pv 0))) (A8a (n:=2) rfl (A1l (A0p (i:=2) A2y.nd rfl (Or.inl rfl) (Or.inl rfl)) (A1l (A0p (i:=3) A2y.nd rfl (Or.inl rfl) (Or.inl rfl)) A5d)))
    (A0f (A2x hu (pv 1) (pv 2) (A0h G_copied (hr.mono (by omega)) rfl T.ak T.aj.kp T.al .nil A0s (A0a (pv 3) A0c)) rfl)))
   (B3p (A0f (A0q (pv 1))))))),?_⟩
  intro ap;have nd:=ap.1 d kvs hd;refine λp hp=> ?_;have dp:d≠p:=A0i hd hp;have hd1:upd H p (.dK []) d=some (.dK kvs):=by rw [A0e dp];exact hd
  refine ⟨_,rfl,.inr (.inr (.inl ⟨rfl,.inl ⟨_,hd1⟩⟩)),d,_,rfl,rfl,hd1,.inl ⟨_,rfl⟩,λvw hvw=> ?_⟩;have vp:p≠vw:=A0i A0b hvw;have dv:d≠vw:=A0i hd1 hvw;refine ⟨vw,d,_,rfl,A0b,(by rw [A0e dv];exact hd1),.inl ⟨kvs,rfl,λo=> ?_⟩⟩;have hv0:H vw=none:=by rw [A0e vp.symm] at hvw;exact hvw
  have g0:A0r (upd H d (.frz o (.dK kvs))) (upd (upd (upd H p (.dK [])) vw (B2t vw d)) d (.frz o (.dK kvs))):=λb v e=>by
   by_cases hb:b=d
   ·subst hb;rw [A0b] at e⊢;exact e
   ·rw [A0e hb] at e⊢;rw [A0e (A0i e hv0),A0e (A0i e hp)];exact e
  have hpG:upd H d (.frz o (.dK kvs)) p=none:=by rw [A0e dp.symm];exact hp
  have nd0:∀b,upd H d (.frz o (.dK kvs)) b=none->H b=none:=λb e=>by
   by_cases hb:b=d
   ·subst hb;rw [A0b] at e;cases e
   ·rw [A0e hb] at e;exact e
  refine B3a (L:=kvs.map λq=>(kV q.1,q.2)) (λi σ H4=>∃(o2 o3:Option V) (ws:List (Key×V)),σ=[some (.ref d),some (.ref p),o2,o3]/\A0r (upd H d (.frz o (.dK kvs))) H4/\H4 p=some (.dK ws)/\ws.map (·.1)=(kvs.take i).map (·.1)/\Paired (λ(b:Key×V) (x:PyData)=>Rep (A3p (λa=>H a=none/\a≠p) H4) b.2 x) ws (ds.take i))
   ⟨none,none,[],rfl,g0,(by rw [A0e dp.symm,A0e vp,A0b]),rfl,.nil⟩ (λi σ H4 ⟨_,_,_,_,s4,_⟩=>s4 _ _ A0b) ?_ ?_
  ·rintro i kx vx q σ H4 hx hq ⟨o2,o3,ws,rfl,s4,h4,ks,cp⟩;rw [Z1z] at hx;obtain ⟨⟨k',v⟩,hk,e⟩:=Z0i.mp hx;cases e;obtain ⟨x,hxd,rv,dv1,cv1⟩:=B0v src hk;have sq:A0r H4 (upd H4 q (.tup [kV k',v])):=A0g hq;have rv4:Rep (upd H4 q (.tup [kV k',v])) v x:=(rv.imp2 (λb ys z=>s4 _ _ (by rw [A0e (A0z z hd (by intro w;cases w))];exact z)) λb ys z=>s4 _ _ (by rw [A0e (A0z z hd (by intro w;cases w))];exact z)).same sq;refine ⟨q,_,rfl,SqT.of A0b,rfl,_,_,rfl,_,_,rfl,rfl,_,rfl,v,x,rfl,rv4,dv1,cv1,λv' H6 s6 r6=> ?_⟩;have h6:=s6 _ _ (sq _ _ h4);have lw:ws.length=(kvs.take i).length:=by have:=congrArg List.length ks;simpa using this
   have lt2:(kvs.take i).length<=kvs.length:=by rw [Z0x];omega
   refine ⟨_,rfl,_,rfl,p,_,rfl,B0z.k (k:=k') h6 (A0y (by omega)),?_⟩;have hnS:¬(H p=none/\p≠p):=λz=>z.2 rfl;refine ⟨_,_,_,rfl,A0k (s4.trans (sq.trans s6)) hpG,A0b,?_,?_⟩
   ·rw [B2d nd hk ws ks v',Z14,hk,Z0s,Z0s,ks];rfl
   ·rw [B2d nd hk ws ks v',Z14,hxd];refine B5i (Paired.mapP cp λ_ _ z=>z.same (A3l (A5w (sq.trans s6)) hnS)) (.cons (r6.same ((A4f (A0r.refl _) λa ob ea ha=>⟨?_,λz=> ?_⟩).trans (A3l (A0r.refl _) hnS))) .nil)
    ·exact nd0 a (s4.free (sq.free ha))
    ·subst z;rw [sq _ _ h4] at ha;cases ha
  ·rintro σ H4 ⟨o2,o3,ws,rfl,s4,h4,ks,cp⟩;have ld:=Paired.length src;rw [Z08,Z18] at ks;rw [Z08,ld,Z18] at cp;have hd4:H4 d=some (.frz o (.dK kvs)):=s4 _ _ A0b;refine ⟨d,o,_,hd4,.inl ⟨_,rfl⟩,(λo' u' z=>by have z:H d=some (.frz o' u'):=z;rw [hd] at z;cases z),_,rfl,?_⟩;have hnd:¬(H d=none/\d≠p):=λz=>by rw [hd] at z;cases z.1
   exact k p ws _ hp (A4k hd s4) (by rw [A0e dp.symm];exact h4) ks (Paired.mapP cp λ_ _ z=>z.same ((A3l (A0r.refl _) hnd).trans (A4f (A0r.refl _) λa ob _ h=>h.1)))
theorem C7x (T:Txt K mg t):A1m P w K mg base CX0 4 t.aD t.aE ["value"] C7o:=by
 have G_copied_dict:=B0i (P:=P) (w:=w) (base:=base) T;have G_copied:A1m P w K mg base CX0 0 t.aD t.aE ["value"] (λ_ _ _ _=>False):=A1m.none λ_ _ _ _ h=>h;refine T.aj.ok A7g (λvs H Q E h=> ?_) (λcdv A outer s H vs Q E hr h=> ?_)
 ·obtain ⟨d,kvs,ds,rfl,_⟩:=h;rfl
 ·have h0:=h;obtain ⟨d,kvs,ds,rfl,hd,_⟩:=h
  refine ⟨_,(A0d (A1w (A2k (A0o A0x (by rfl) T.ae Z0d (A0a (pv 0) (A0a (A1z (v:=V.ty "list") rfl T.bL Z1o rfl) A0c))))
    (A0f (A0q (A1y (N':=["member"]) (ix:=(List.replicate 1 none)) rfl (A1s rfl (by decide +kernel) (by decide +kernel)) (A1r rfl) (A8b (pv 0)) (λ_ _ _ _=>(A0p (i:=0) A3d rfl (Or.inl rfl) (Or.inr rfl))) (λ_ _ _ _=>(A0h G_copied (hr.mono (by omega)) rfl T.ak T.aj.kp T.al .nil A0s (A0a (pv 0) A0c))))))
    A0u)
   (A0d (A1w (A2k (A0o A0x (by rfl) T.ae Z0d (A0a (pv 0) (A0a (A1z (v:=V.ty "tuple") rfl T.aS Z0m rfl) A0c))))
    (A0f (A0q (A1t A2t (by rfl) T.aS Z0m (A0a (A1y (N':=["member"]) (ix:=(List.replicate 1 none)) rfl (A1s rfl (by decide +kernel) (by decide +kernel)) (A1r rfl) (A8b (pv 0)) (λ_ _ _ _=>(A0p (i:=0) A3d rfl (Or.inl rfl) (Or.inr rfl))) (λ_ _ _ _=>(A0h G_copied (hr.mono (by omega)) rfl T.ak T.aj.kp T.al .nil A0s (A0a (pv 0) A0c)))) A0c))))
    A0u)
   (A0d (A1w (A2k (A0o A0x (by rfl) T.ae Z0d (A0a (pv 0) (A0a (A1z (v:=V.ty "dict") rfl T.cM PyProof.Rows.boot_dict rfl) A0c))))
    (A0f (A0q (A0h G_copied_dict (hr.mono (by omega)) rfl T.aL T.aF.kp T.aN .nil A0s (A0a (pv 0) A0c))))
    A0u)
   (A0f (A0q (pv 0)))))),?_⟩
  refine ⟨_,rfl,_,_,_,_,rfl,.dK hd,B0r (by decide +kernel) (by decide +kernel) (by decide +kernel),false,rfl,A5c ?_⟩;refine ⟨_,rfl,_,_,_,_,rfl,.dK hd,B0r (by decide +kernel) (by decide +kernel) (by decide +kernel),false,rfl,A5c ?_⟩;exact ⟨_,rfl,_,_,_,_,rfl,.dK hd,A4v "dict",true,rfl,B9u ⟨_,rfl,h0⟩⟩
def D1g (A:Adr):Sp:=λvs H Q E=>(C2b 3 vs H Q E\/C5p A.aK vs H Q E)\/C7o vs H Q E
theorem C0w (T:Txt K mg t):A1m P w K mg base CX0 4 t.aD t.aE ["value"] (D1g t) :=
 A1m.or (A1m.or (A6u T 3) ((C6v T T.b_ T.fT T.fc T.eV T.fe).mono (by omega))) (C7x T)
end
def KB (p:Addr) (H H':Hp):Prop:=∀b o,b≠p->H b=some o->H' b=some o
theorem KB.upd {p:Addr} {H H':Hp} {o:HO} (k:KB p H H'):KB p H (upd H' p o):=λb u hb e=>by rw [A0e hb];exact k b u hb e
theorem KB.refl {p:Addr} {H:Hp}:KB p H H:=λ_ _ _ e=>e
theorem KB.trans {p:Addr} {H H' H2:Hp} (a:KB p H H') (b:KB p H' H2):KB p H H2:=λc o hc e=>b c o hc (a c o hc e)
theorem KB.of {p:Addr} {H H':Hp} (s:A0r H H'):KB p H H':=λb o _ e=>s _ _ e
theorem KB.free {p b:Addr} {H H':Hp} {u:HO} (k:KB p H H') (hp:H' p=some u) (hb:H' b=none):H b=none:=by
 cases e:H b with
 | none=>rfl
 | some o =>
  have hne:b≠p:=λz=>by subst z;rw [hp] at hb;cases hb
  rw [k b o hne e] at hb;cases hb
theorem KB.same {p:Addr} {H H2 H':Hp} (s:A0r H H2) (k:KB p H2 H') (hp:H p=none):A0r H H':=λb o e=>k b o (A0i e hp) (s _ _ e)
abbrev C4m (kvs:List (Key×V)) (is:List Int):Prop:=Paired (λ(p:Key×V) (i:Int)=>p.2= .int i) kvs is
theorem B6z {H:Hp}:∀{kvs:List (Key×V)} {is:List Int},C4m kvs is->Paired (λ(a:Key×V) (x:PyData)=>Rep H a.2 x/\PyData.depth x<=1/\cnt x<=100000) kvs (is.map PyData.int)
 | _,_,.nil=> .nil
 | _,_,.cons a t=> .cons ⟨by rw [a];exact .int _,by simp [PyData.depth],by simp [cnt]⟩ (B6z t)
theorem C2m {S:Addr->Prop} {H:Hp}:∀{kvs kvs':List (Key×V)} {is:List Int},C4m kvs is->kvs'.map (·.1)=kvs.map (·.1)->Paired (λ(b:Key×V) (x:PyData)=>Rep (A3p S H) b.2 x) kvs' (is.map PyData.int)->kvs'=kvs
 | _,[],_,.nil,_,_=>rfl
 | _,_::_,_,.nil,ks,_=>by cases ks
 | _,[],_,.cons _ _,ks,_=>by cases ks
 | _,q::r,_,@Paired.cons _ _ _ p i _ _ a t,ks,pr=>by
  rw [Z0p,Z0p] at ks;injection ks with k1 k2;rw [Z0p] at pr
  cases pr with
  | cons b pr =>
   rw [C2m t k2 pr];have hb:=C0l b;have:q=p:=Prod.ext k1 (hb.trans a.symm);rw [this]
def C3w (A:Adr):Sp:=λvs H Q _=>∃(p dx l:Addr) (n:V) (x:Str) (ys:List Str),vs=[.ref p,.str x,.ref l,n]/\H p=some (.ins A.aK dx [])/\H l=some (.lst (ys.map V.str))/\ys.length<=1000/\
 ∀(c:Addr) (H':Hp),H c=none->H' p=some (.ins A.aK dx [("name",.str x),("axes",.ref c),("term",n)])->H' c=some (.lst (ys.map V.str))->(∀b o,b≠p->H b=some o->H' b=some o)->Q .non H'
def C2z (A:Adr):Sp:=λvs H Q _=>∃(p dx a t l o:Addr) (wh:Int) (ax:List (Str×Int)) (tb:List (Str×List Str)) (xs:List V) (os:List Str),vs=[.ref p,.int wh,.ref a,.ref t,.ref l,.ref o]/\H p=some (.ins A.ag dx [])/\
 Rep H (.ref a) (A4i ax)/\ax.length<=1000/\Rep H (.ref t) (A8e tb)/\tb.length<=1000/\(∀e∈tb,e.2.length<=10)/\H l=some (.lst xs)/\xs.length<=1000/\(∀x∈xs,∃a dx fs,x= .ref a/\a≠p/\H a=some (.ins A.aK dx fs))/\H o=some (.lst (os.map V.str))/\os.length<=1000/\
 ∀(a' t' l' o':Addr) (H':Hp),H' p=some (.ins A.ag dx [("wheel",.int wh),("axes",.ref a'),("tables",.ref t'),("lets",.ref l'),("outs",.ref o')])->Rep H' (.ref a') (A4i ax)->Rep H' (.ref t') (A8e tb)->H' l'=some (.lst xs)->H' o'=some (.lst (os.map V.str))->KB p H H'->Q .non H'
structure C2n (A:Adr) (H:Hp) (p:Addr) (wh:Int) (ax:List (Str×Int)) (tb:List (Str×List Str)) (ls:List V) (os:List Str):Prop where
 ob:∃dx a t l o,H p=some (.ins A.ag dx [("wheel",.int wh),("axes",.ref a),("tables",.ref t),("lets",.ref l),("outs",.ref o)])/\Rep H (.ref a) (A4i ax)/\Rep H (.ref t) (A8e tb)/\H l=some (.lst ls)/\H o=some (.lst (os.map V.str))
theorem C2n.same {A:Adr} {H H':Hp} {p:Addr} {wh:Int} {ax:List (Str×Int)} {tb:List (Str×List Str)} {ls:List V} {os:List Str} (h:C2n A H p wh ax tb ls os) (s:A0r H H'):C2n A H' p wh ax tb ls os:=by
 obtain ⟨dx,a,t,l,o,e,r1,r2,r3,r4⟩:=h.ob;exact ⟨dx,a,t,l,o,s _ _ e,r1.same s,r2.same s,s _ _ r3,s _ _ r4⟩
def D1i (A:Adr):Sp:=λvs H Q _=>∃(p:Addr) (wh:Int) (ax:List (Str×Int)) (tb:List (Str×List Str)) (ls:List V) (os:List Str),vs=[.ref p]/\C2n A H p wh ax tb ls os/\tb.length<=100/\∀(q:Addr) (H':Hp),H q=none->A0r H H'->H' q=some (.lst ((tb.map (·.1)).map V.str))->Q (.ref q) H'
def A1a (ax:List (Str×Int)):List (Key×V):=ax.map λe=>(Sum.inr e.1,V.int e.2)
theorem D1v {H:Hp}:∀{ax:List (Str×Int)} {xs:List V},A2u H xs (ax.map B1w)->PL H xs (A1a ax)
 | [],_,r=>by cases r;exact .nil
 | e::ax,_,r=>by
  rw [Z0p] at r
  cases r with
  | cons a r =>
   obtain ⟨b,rfl,eb⟩:=D3t a;exact .cons ⟨b,rfl,eb⟩ (D1v r)
theorem A9t {ws:List (Key×V)} (n:(ws.map (·.1)).Nodup):A3f [] ws=ws:=by
 have key:∀i,i<=ws.length->A3f [] (ws.take i)=ws.take i:=by
  intro i
  induction i with
  | zero=>intro _;rfl
  | succ i ih =>
   intro hi;have e:ws[i]? =some ws[i]:=Z0b (by omega);rw [Z14,e,Option.toList_some,B6j,ih (by omega)];exact B2d (k:=ws[i].1) (v:=ws[i].2) n e (ws.take i) rfl ws[i].2
 have:=key ws.length (Z09 _)
 rwa [Z18] at this
def D0z (A:Adr):Sp:=λvs H Q _=>∃(p:Addr) (wh:Int) (ax:List (Str×Int)) (tb:List (Str×List Str)) (ls:List V) (os:List Str),vs=[.ref p]/\C2n A H p wh ax tb ls os/\(ax.map (·.1)).Nodup/\∀q,H q=none->Q (.ref q) (upd H q (.dK (A1a ax)))
section
variable {P:Program} {w:World} {K:PySem.W.Frag} {mg:Str->Option Value} {base:Heap} {t:Adr}
theorem B6b (T:Txt K mg t):A1m P w K mg base CX0 5 t.cF t.cI ["self","name","axes","term"] (C3w t):=by
 have G_copied:=C0w (P:=P) (w:=w) (base:=base) T;refine T.fq.ok B4x (λvs H Q E h=> ?_) (λcdv A outer s H vs Q E hr h=> ?_)
 ·obtain ⟨p,dx,l,n,x,ys,rfl,_⟩:=h;rfl
 ·obtain ⟨p,dx,l,n,x,ys,rfl,hp,hl,hy,k⟩:=h;obtain ⟨c2,c3⟩:=C0o ys;have lp:l≠p:=A0z hl hp (by intro z;cases z)
  refine ⟨_,(A0d (A3r (pv 0) (pv 1) rfl)
   (A0d (A3r (pv 0) (A0h G_copied (hr.mono (by omega)) rfl T.ak T.aj.kp T.al .nil A0s (A0a (pv 2) A0c)) rfl)
   (A0f (A3r (pv 0) (pv 3) rfl)))),_,rfl,_,rfl,p,_,dx,[],rfl,hp,T.b_,T.dE,(by decide),?_⟩
  refine ⟨_,rfl,.inl (.inl ⟨.ref l,C5o ys,rfl,(C9b hl).ins hp,by omega,by omega,λv' H2 s2 rp2=> ?_⟩)⟩;have hp2:=s2 _ _ (A0b (H:=H) (a:=p));obtain ⟨c,rfl,ec⟩:=C6z rp2;obtain ⟨hc0,ec⟩:=A2b ec
  have hcn:H c=none:=by
   by_cases z:c=p
   ·subst z;rw [A0b] at hc0;cases hc0
   ·rw [A0e z] at hc0;exact hc0
  have cp:c≠p:=λz=>by subst z;rw [hp] at hcn;cases hcn
  refine ⟨_,rfl,p,_,dx,_,rfl,hp2,T.b_,T.bW,(by show 1<1000;decide),?_⟩;refine ⟨_,rfl,_,rfl,p,_,dx,_,rfl,A0b,T.b_,T.dD,(by show 2<1000;decide),?_⟩;show Q V.non (upd (upd H2 p _) p (.ins t.aK dx (A5t "term" n (A5t "axes" (.ref c) (A5t "name" (.str x) [])))));have e1:A5t "axes" (V.ref c) (A5t "name" (.str x) [])=([("name",.str x),("axes",.ref c)]:List (Str×V)):=by rw [A2c,A1x (by decide +kernel),A2c]
  have e2:A5t "term" n ([("name",.str x),("axes",.ref c)]:List (Str×V))=([("name",.str x),("axes",.ref c),("term",n)]:List (Str×V)):=by rw [A1x (by decide +kernel),A1x (by decide +kernel),A2c]
  rw [C7l,e1,e2];refine k c _ hcn A0b (by rw [A0e cp];exact ec) λb o hb e=> ?_;rw [A0e hb];exact s2 _ _ (by rw [A0e hb];exact e)
theorem C7j {A:Addr} {B:Addr} {b:Bool} (h:PySem.W.kitOne K (.ref A) (.ref B)=some b):∀u,A2a (.ref B) u->PySem.W.kitOne K (.ref A) u=some b:=λu z=>by
 cases (show u=Value.ref B from z)
 exact h
theorem A9e (T:Txt K mg t):A1m P w K mg base CX0 5 t.aW t.aY ["self","wheel","axes","tables","lets","outs"] (C2z t):=by
 have G_copied:=C0w (P:=P) (w:=w) (base:=base) T;refine T.e9.ok A9v (λvs H Q E h=> ?_) (λcdv A outer s H vs Q E hr h=> ?_)
 ·obtain ⟨p,dx,a,tt,l,o,wh,ax,tb,xs,os,rfl,_⟩:=h;rfl
 ·obtain ⟨p,dx,a,tt,l,o,wh,ax,tb,xs,os,rfl,hp,ra,la,rt,lt,lt2,hl,ll,hx,ho,lo,k⟩:=h;have a2:=C4s ax;have a3:=C6g (ix:=ax);obtain ⟨t2,t3⟩:=C5a tb lt2;obtain ⟨o2,o3⟩:=C0o os;have f1:∀v:V,A5t "axes" v [("wheel",.int wh)]=([("wheel",.int wh),("axes",v)]:List (Str×V)):=λv=>by rw [A1x (by decide +kernel),A2c]
  have f2:∀u v:V,A5t "tables" v [("wheel",.int wh),("axes",u)]=([("wheel",.int wh),("axes",u),("tables",v)]:List (Str×V)):=λu v=>by rw [A1x (by decide +kernel),A1x (by decide +kernel),A2c]
  have f3:∀u1 u v:V,A5t "lets" v [("wheel",.int wh),("axes",u1),("tables",u)]=([("wheel",.int wh),("axes",u1),("tables",u),("lets",v)]:List (Str×V)):=λu1 u v=>by rw [A1x (by decide +kernel),A1x (by decide +kernel),A1x (by decide +kernel),A2c]
  have f4:∀u1 u2 u v:V,A5t "outs" v [("wheel",.int wh),("axes",u1),("tables",u2),("lets",u)]=([("wheel",.int wh),("axes",u1),("tables",u2),("lets",u),("outs",v)]:List (Str×V)):=λu1 u2 u v=>by rw [A1x (by decide +kernel),A1x (by decide +kernel),A1x (by decide +kernel),A1x (by decide +kernel),A2c]
  have np:∀{b:Addr} {u:HO},H b=some u->(∀C d fs,u≠.ins C d fs)->b≠p:=λe n z=>by subst z;rw [hp] at e;cases e;exact n _ _ _ rfl
  have rp:∀{v:V} {d:PyData} {G:Hp},KB p H G->Rep H v d->Rep G v d:=λkb r=>r.imp2 (λq ys z=>kb _ _ (np z (by intros;intro z;cases z)) z) λq ys z=>kb _ _ (np z (by intros;intro z;cases z)) z;have rq:∀{v:V} {d:PyData} {G G':Hp} {C dd:Addr} {fs:List (Str×V)},KB p G G'->G p=some (.ins C dd fs)->Rep G v d->Rep G' v d:=λkb hG r=>r.imp2 (λq ys z=>kb _ _ (A0z z hG (by intro w;cases w)) z) λq ys z=>kb _ _ (A0z z hG (by intro w;cases w)) z
  refine ⟨_,(A0d (A3r (pv 0) (pv 1) rfl)
   (A0d (A3r (pv 0) (A0h G_copied (hr.mono (by omega)) rfl T.ak T.aj.kp T.al .nil A0s (A0a (pv 2) A0c)) rfl)
   (A0d (A3r (pv 0) (A0h G_copied (hr.mono (by omega)) rfl T.ak T.aj.kp T.al .nil A0s (A0a (pv 3) A0c)) rfl)
   (A0d (A3r (pv 0) (A0h G_copied (hr.mono (by omega)) rfl T.ak T.aj.kp T.al .nil A0s (A0a (pv 4) A0c)) rfl)
   (A0f (A3r (pv 0) (A0h G_copied (hr.mono (by omega)) rfl T.ak T.aj.kp T.al .nil A0s (A0a (pv 5) A0c)) rfl)))))),_,rfl,_,rfl,p,_,dx,[],rfl,hp,T.am,T.bw,(by decide),?_⟩
  rw [A2c];obtain ⟨G0,hG0⟩:∃G0,G0=upd H p (.ins t.ag dx [("wheel",.int wh)]):=⟨_,rfl⟩;rw [<-hG0];have p0:G0 p=some (.ins t.ag dx [("wheel",.int wh)]):=by rw [hG0];exact A0b
  have k0:KB p H G0:=by rw [hG0];exact KB.refl.upd
  refine ⟨_,rfl,.inl (.inl ⟨.ref a,A4i ax,rfl,rp k0 ra,by omega,by omega,λva H1 s1 r1=> ?_⟩)⟩;obtain ⟨a',xa,rfl,ea,_⟩:=A5a (show Rep _ va (.list (ax.map B1w)) from r1);refine ⟨_,rfl,p,_,dx,_,rfl,s1 _ _ p0,T.am,T.bS,(by show 1<1000;decide),?_⟩;rw [f1];obtain ⟨G1,hG1⟩:∃G1,G1=upd H1 p (.ins t.ag dx [("wheel",.int wh),("axes",.ref a')]):=⟨_,rfl⟩;rw [<-hG1];have p1:G1 p=some (.ins t.ag dx [("wheel",.int wh),("axes",.ref a')]):=by rw [hG1];exact A0b
  have k1:KB p H G1:=by rw [hG1];exact (k0.trans (KB.of s1)).upd
  have ra1:Rep G1 (.ref a') (A4i ax):=by rw [hG1];exact rq (KB.refl.upd) (s1 _ _ p0) (r1.same A8u)
  refine ⟨_,rfl,.inl (.inl ⟨.ref tt,A8e tb,rfl,rp k1 rt,by omega,by omega,λvt H2 s2 r2=> ?_⟩)⟩;obtain ⟨t',xt,rfl,et,_⟩:=A5a (show Rep _ vt (.list (tb.map B4k)) from r2);refine ⟨_,rfl,p,_,dx,_,rfl,s2 _ _ p1,T.am,T.aC,(by show 2<1000;decide),?_⟩;rw [f2];obtain ⟨G2,hG2⟩:∃G2,G2=upd H2 p (.ins t.ag dx [("wheel",.int wh),("axes",.ref a'),("tables",.ref t')]):=⟨_,rfl⟩;rw [<-hG2];have p2:G2 p=some (.ins t.ag dx [("wheel",.int wh),("axes",.ref a'),("tables",.ref t')]):=by rw [hG2];exact A0b
  have j2:KB p G1 G2:=by rw [hG2];exact (KB.of s2).upd
  have k2:=k1.trans j2;have rt2:Rep G2 (.ref t') (A8e tb):=by rw [hG2];exact rq (KB.refl.upd) (s2 _ _ p1) (r2.same A8u)
  refine ⟨_,rfl,.inl (.inr ⟨l,xs,rfl,k2 _ _ (np hl (by intros;intro z;cases z)) hl,ll,λx hxx=> ?_,λl' H3 hl' s3 hl3=> ?_⟩)⟩
  ·obtain ⟨b,db,fs,rfl,nb,eb⟩:=hx x hxx;exact ⟨b,db,fs,rfl,k2 _ _ nb eb⟩
  have lp:l'≠p:=λz=>by subst z;rw [p2] at hl';cases hl'
  refine ⟨_,rfl,p,_,dx,_,rfl,s3 _ _ p2,T.am,T.bU,(by show 3<1000;decide),?_⟩;rw [f3];obtain ⟨G3,hG3⟩:∃G3,G3=upd H3 p (.ins t.ag dx [("wheel",.int wh),("axes",.ref a'),("tables",.ref t'),("lets",.ref l')]):=⟨_,rfl⟩;rw [<-hG3];have p3:G3 p=some (.ins t.ag dx [("wheel",.int wh),("axes",.ref a'),("tables",.ref t'),("lets",.ref l')]):=by rw [hG3];exact A0b
  have j3:KB p G2 G3:=by rw [hG3];exact (KB.of s3).upd
  have k3:=k2.trans j3;have gl3:G3 l'=some (.lst xs):=by rw [hG3,A0e lp];exact hl3
  refine ⟨_,rfl,.inl (.inl ⟨.ref o,C5o os,rfl,C9b (k3 _ _ (np ho (by intros;intro z;cases z)) ho),by omega,by omega,λvo H4 s4 r4=> ?_⟩)⟩;obtain ⟨o',rfl,eo⟩:=C6z r4;have eo:=(A2b eo).2;refine ⟨_,rfl,p,_,dx,_,rfl,s4 _ _ p3,T.am,T.dL,(by show 4<1000;decide),?_⟩;show Q V.non (upd H4 p _);rw [f4];have j4:KB p G3 (upd H4 p (.ins t.ag dx [("wheel",.int wh),("axes",.ref a'),("tables",.ref t'),("lets",.ref l'),("outs",.ref o')])):=(KB.of s4).upd;exact k a' t' l' o' _ A0b (rq ((j2.trans j3).trans j4) p1 ra1) (rq (j3.trans j4) p2 rt2) (j4 _ _ lp gl3) (by rw [A0e (A0z eo (s4 _ _ p3) (by intro z;cases z))];exact eo) (k3.trans j4)
theorem B0f (T:Txt K mg t):A1m P w K mg base CX0 1 t.bi t.ba ["program"] (D1i t):=by
 refine T.cA.ok B0h (λvs H Q E h=> ?_) (λcdv A outer s H vs Q E hr h=> ?_)
 ·obtain ⟨p,wh,ax,tb,ls,os,rfl,_⟩:=h;rfl
 ·obtain ⟨p,wh,ax,tb,ls,os,rfl,pr,lt,k⟩:=h;obtain ⟨dx,a,tt,l,o,e,ra,rt,_⟩:=pr.ob;obtain ⟨t2,xs,et,hx,rs⟩:=A5a (show Rep H (.ref tt) (.list (tb.map B4k)) from rt);cases et;have lxs:=rs.len;rw [Z08] at lxs;refine ⟨_,(A0f (A0q (A1y (N':=["name","axes"]) (ix:=(List.replicate 2 none)) (g:=D3r K 2 (C1u (B5z 0) (C1u (B5z 1) D2r))) rfl (A1s rfl (by decide +kernel) (by decide +kernel)) (A1r rfl) (A2d (A1q (pv 0) rfl)) (λ_ _ _ _=>(A8a (n:=2) rfl (A1l (A0p (i:=0) B3v rfl (Or.inl rfl) (Or.inr rfl)) (A1l (A0p (i:=1) B3v rfl (Or.inl rfl) (Or.inr rfl)) A5d)))) (λ_ _ _ _=>(pv 0))))),?_⟩;refine ⟨_,rfl,p,_,dx,_,_,rfl,e,T.am,T.aC,(by walk_at "lk"),tt,rfl,⟨_,SqL.of hx⟩,λD hD=> ?_⟩;refine A2l (K:=K) (a:=tt) (D:=D) (xs:=xs) (λi zs H2=>A0r H H2/\H2 D=some (.lst zs)/\zs=((tb.take i).map (·.1)).map V.str) ⟨A0g hD,A0b,rfl⟩ (λi zs H2 ⟨s2,_⟩=>SqL.of (s2 _ _ hx)) ?_ ?_
  ·rintro i x zs H2 hy ⟨s2,hD2,rfl⟩;have hi:i<xs.length:=(Z03.mp hy).1;obtain ⟨te,hte,ry⟩:=B5e rs hy;obtain ⟨b,c,rfl,eb,ec⟩:=C8v ry;refine ⟨b,_,rfl,SqT.of (s2 _ _ eb),rfl,_,_,rfl,_,_,rfl,rfl,?_⟩;refine ⟨True.intro,_,rfl,hD2,A0y (by simp;omega),A0k s2 hD,A0b,?_⟩;rw [Z14,hte,Option.toList_some];simp
  ·rintro zs H2 ⟨s2,hD2,rfl⟩;rw [lxs,Z18] at hD2;exact k D H2 hD s2 hD2
theorem A4q (T:Txt K mg t):A1m P w K mg base CX0 1 t.bK t.bE ["program"] (D0z t):=by
 refine T.aR.ok B1d (λvs H Q E h=> ?_) (λcdv A outer s H vs Q E hr h=> ?_)
 ·obtain ⟨p,wh,ax,tb,ls,os,rfl,_⟩:=h;rfl
 ·obtain ⟨p,wh,ax,tb,ls,os,rfl,pr,nd,k⟩:=h;obtain ⟨dx,a,tt,l,o,e,ra,_⟩:=pr.ob;obtain ⟨a2,xs,ea,hx,rs⟩:=A5a (show Rep H (.ref a) (.list (ax.map B1w)) from ra);cases ea
  have nk:((A1a ax).map (·.1)).Nodup:=by
   have:(A1a ax).map (·.1)=(ax.map (·.1)).map (Sum.inr:Str->Key):=by unfold A1a;rw [List.map_map,List.map_map];rfl
   rw [this];exact List.Pairwise.map _ (λa b h z=>h (by injection z)) nd
  refine ⟨_,(A0f (A0q (A1t (B7x rfl) (by rfl) T.cM PyProof.Rows.boot_dict (A0a (A1q (pv 0) rfl) A0c)))),?_⟩;refine ⟨_,rfl,p,_,dx,_,_,rfl,e,T.am,T.bS,(by walk_at "lk"),a,xs,_,rfl,hx,D1v rs,λq hq=> ?_⟩;rw [A9t nk];exact k q hq
end
def A1u (H:Hp) (ps:List Addr) (cs:List (List Int)):Prop:=Paired (λ(p:Addr) (c:List Int)=>H p=some (.tup (c.map V.int))) ps cs
theorem A1u.imp {H H':Hp}:∀{ps:List Addr} {cs:List (List Int)},A1u H ps cs->(∀p xs,H p=some (.tup xs)->H' p=some (.tup xs))->A1u H' ps cs
 | _,_,.nil,_=> .nil
 | _,_,.cons r t,f=> .cons (f _ _ r) (A1u.imp t f)
theorem A1u.same {H H':Hp} {ps:List Addr} {cs:List (List Int)} (h:A1u H ps cs) (s:A0r H H'):A1u H' ps cs:=h.imp λ_ _ e=>s _ _ e
theorem A1u.lst {H:Hp} {l:Addr} {xs ys:List V} {ps:List Addr} {cs:List (List Int)} (h:A1u H ps cs) (e:H l=some (.lst xs)):A1u (upd H l (.lst ys)) ps cs :=
 h.imp λp zs z=>by rw [A0e (A0z z e (by intro q;cases q))];exact z
theorem A1u.snoc {H:Hp} {p:Addr} {c:List Int} (e:H p=some (.tup (c.map V.int))):∀{ps:List Addr} {cs:List (List Int)},A1u H ps cs->A1u H (ps++[p]) (cs++[c])
 | _,_,.nil=> .cons e .nil
 | _,_,.cons r t=> .cons r (A1u.snoc e t)
theorem A1u.len {H:Hp}:∀{ps:List Addr} {cs:List (List Int)},A1u H ps cs->ps.length=cs.length
 | _,_,.nil=>rfl
 | _,_,.cons _ t=>by simp [A1u.len t]
theorem A1u.get {H:Hp}:∀{ps:List Addr} {cs:List (List Int)} {i:Nat} {p:Addr},A1u H ps cs->ps[i]? =some p->∃c,cs[i]? =some c/\H p=some (.tup (c.map V.int))
 | _,_,_,_,.nil,e=>by simp at e
 | _,_,0,_,.cons r _,e=>by simp at e;subst e;exact ⟨_,rfl,r⟩
 | _,_,i+1,p,.cons _ t,e=>by
  obtain ⟨c,h1,h2⟩:=A1u.get (i:=i) (p:=p) t (by simpa using e);exact ⟨c,by simpa using h1,h2⟩
structure A9x (H:Hp) (a:Addr) (cs:List (List Int)):Prop where
 ex:∃ps:List Addr,H a=some (.lst (ps.map V.ref))/\A1u H ps cs
def B1t:Sp:=λvs H Q _=>∃(a:Addr) (n:Int) (cs:List (List Int)),vs=[.ref a,.int n]/\A9x H a cs/\(∀c∈cs,c.length<=8)/\0<=n/\n<=60/\cs.length<=4000/\
 ∀(p:Addr) (H':Hp),H p=none->A0r H H'->A9x H' p (B0e cs n)->Q (.ref p) H'
def B5y:Sp:=λvs H Q _=>∃(a:Addr) (ls:List Int),vs=[.ref a]/\H a=some (.lst (ls.map V.int))/\A7d ls/\
 ∀(p:Addr) (H':Hp),H p=none->A0r H H'->A9x H' p (A0n ls)->Q (.ref p) H'
abbrev Sz (lk:List (Key×V)) (ys:List Str) (ls:List Int):Prop:=Paired (λ(y:Str) (n:Int)=>A3q lk (Sum.inr y)=some (.int n)) ys ls
def D2q:Sp:=λvs H Q _=>∃(l d:Addr) (ys:List Str) (lk:List (Key×V)) (ls:List Int),vs=[.ref l,.ref d]/\H l=some (.lst (ys.map V.str))/\H d=some (.dK lk)/\Sz lk ys ls/\ys.length<=1000/\∀(q:Addr) (H':Hp),H q=none->A0r H H'->H' q=some (.lst (ls.map V.int))->Q (.ref q) H'
def D2s:Sp:=λvs H Q _=>∃(l d:Addr) (ys:List Str) (lk:List (Key×V)) (ls:List Int),vs=[.ref l,.ref d]/\H l=some (.lst (ys.map V.str))/\H d=some (.dK lk)/\Sz lk ys ls/\A7d ls/\∀(q:Addr) (H':Hp),H q=none->A0r H H'->A9x H' q (A0n ls)->Q (.ref q) H'
section
variable {P:Program} {w:World} {K:PySem.W.Frag} {mg:Str->Option Value} {base:Heap} {t:Adr}
theorem B2b (T:Txt K mg t):A1m P w K mg base CX0 1 t.bH t.bG ["cells","length"] B1t:=by
 refine T.cS.ok A3g (λvs H Q E h=> ?_) (λcdv A outer s H vs Q E hr h=> ?_)
 ·obtain ⟨a,n,cs,rfl,_⟩:=h;rfl
 ·obtain ⟨a,n,cs,rfl,⟨ps,ha,tp⟩,h8,n0,n60,few,k⟩:=h
  refine ⟨_,(A0d (A1b (i:=2) A3g.nd rfl (Or.inl rfl) (A6t A0c))
   (A0d (A2w PassesOwn.never rfl (A2d (pv 0)) (A0p (i:=3) A3g.nd rfl (Or.inl rfl) (Or.inl rfl))
    (A0f (A2w PassesOwn.never rfl (A4e rfl T.cu (A0a (pv 1) A0c)) (A0p (i:=4) A3g.nd rfl (Or.inl rfl) (Or.inl rfl))
     (A0f (A2f (B9x Z0k Z0n Z0o A7b (pv 2) (A0a (A0v C3d (pv 3) (B0w (A0a (pv 4) A0c))) A0c)))))))
   (A0f (A0q (pv 2))))),?_⟩
  refine ⟨A1h (by decide),λl hl=> ?_⟩;have la:a≠l:=A0i ha hl;have ha1:upd H l (.lst []) a=some (.lst (ps.map V.ref)):=by rw [A0e la];exact ha
  refine ⟨_,rfl,a,rfl,⟨_,SqL.of ha1⟩,A3v (K:=K) (a:=a) (xs:=ps.map V.ref) (λi σ H2=>∃(o3 o4:Option V) (qs:List Addr),σ=[some (.ref a),some (.int n),some (.ref l),o3,o4]/\A0r H H2/\
   H2 l=some (.lst (qs.map V.ref))/\A1u H2 qs (B0e (cs.take i) n)) ⟨none,none,[],rfl,A0g hl,A0b,.nil⟩ (λi σ H2 _ ⟨_,_,_,_,s2,_⟩=>SqL.of (s2 _ _ ha)) ?_ ?_⟩
  ·rintro i y σ H2 hi ⟨o3,o4,qs,rfl,s2,h2,t2⟩;obtain ⟨pc,hpc,rfl⟩:=A2o hi;obtain ⟨c,hc,hpt⟩:=tp.get hpc;have hcm:c.length<=8:=h8 c (Z13 hc)
   refine ⟨_,rfl,n,rfl,by omega,by omega,B4a (n:=n.toNat) (λj σ H3=>∃(o4:Option V) (qs:List Addr),σ=[some (.ref a),some (.int n),some (.ref l),some (.ref pc),o4]/\A0r H H3/\
    H3 l=some (.lst (qs.map V.ref))/\A1u H3 qs (B0e (cs.take i) n++(List.range j).map λ(m:Nat)=>c++[(m:Int)])) ⟨o4,qs,rfl,s2,h2,by simpa using t2⟩ ?_ ?_⟩
   ·rintro j σ H3 hj ⟨o4,qs,rfl,s3,h3,t3⟩;rw [Int.zero_add]
    have hql:qs.length<=300000:=by
     have e:=t3.len;rw [Z06,A9s,Z08,List.length_range] at e;have e1:(cs.take i).length*n.toNat<=4000*60:=Nat.mul_le_mul (by rw [Z0x];omega) (by omega);omega
    have hp3:H3 pc=some (.tup (c.map V.int)):=s3 _ _ hpt;refine ⟨_,rfl,.inl ⟨rfl,_,SqL.of h3⟩,_,rfl,_,rfl,A1h (by simp),λu hu=> ?_⟩
    have fin:∀(q:Addr) (H4:Hp),A0r H3 H4->H4 q=some (.tup ((c++[(j:Int)]).map V.int))->C1h (V.ref l) [V.ref q] H4 λ_ H5=>∃(o4:Option V) (qs:List Addr),[some (V.ref a),some (.int n),some (.ref l),some (.ref pc),some (.int (j:Int))]=[some (.ref a),some (.int n),some (.ref l),some (.ref pc),o4]/\A0r H H5/\
      H5 l=some (.lst (qs.map V.ref))/\A1u H5 qs (B0e (cs.take i) n++(List.range (j+1)).map λ(m:Nat)=>c++[(m:Int)]):=λq H4 s4 h4=>by
     refine ⟨l,_,_,rfl,rfl,s4 _ _ h3,by rw [Z08];exact A0y (by omega),?_⟩;refine ⟨_,qs++[q],rfl,A0k (s3.trans s4) hl,by rw [A0b,Z0s];rfl,?_⟩;rw [List.range_succ,Z0s,<-Z0z];exact ((t3.same s4).snoc h4).lst (s4 _ _ h3)
    have s4:A0r H3 (upd H3 u (.tup [V.int (j:Int)])):=A0g hu;refine ⟨pc,u,_,_,rfl,rfl,SqT.of (s4 _ _ hp3),SqT.of A0b,(by simp),A1h (by simp;omega),λhx=> ?_,λhx p hp=> ?_⟩
    ·have ec:c=[]:=by simpa using hx
     subst ec;exact fin u _ s4 A0b
    ·refine fin p _ (s4.trans (A0g hp)) ?_;rw [A0b,Z0s];rfl
   ·rintro σ H3 ⟨o4,qs,rfl,s3,h3,t3⟩;refine ⟨_,_,qs,rfl,s3,h3,?_⟩
    have e:B0e (cs.take (i+1)) n=B0e (cs.take i) n++(List.range n.toNat).map λ(m:Nat)=>c++[(m:Int)]:=by
     rw [Z14,hc];simp [B0e]
    rw [e];exact t3
  ·rintro σ H2 ⟨o3,o4,qs,rfl,s2,h2,t2⟩;refine ⟨_,rfl,k l H2 hl s2 ⟨qs,h2,?_⟩⟩;rw [Z08,tp.len,Z18] at t2;exact t2
theorem B6g (T:Txt K mg t):A1m P w K mg base CX0 2 t.cB t.cG ["lengths"] B5y:=by
 have G_lengthened:=B2b (P:=P) (w:=w) (base:=base) T;refine T.e8.ok A4t (λvs H Q E h=> ?_) (λcdv A outer s H vs Q E hr h=> ?_)
 ·obtain ⟨a,ls,rfl,_⟩:=h;rfl
 ·obtain ⟨a,ls,rfl,ha,g,k⟩:=h
  refine ⟨_,(A0d (A1b (i:=1) A4t.nd rfl (Or.inl rfl) (A6t (A0a (B0w A0c) A0c)))
   (A0d (A2w PassesOwn.never rfl (A2d (pv 0)) (A0p (i:=2) A4t.nd rfl (Or.inl rfl) (Or.inl rfl))
    (A0f (A1b (i:=1) A4t.nd rfl (Or.inl rfl) (A0h G_lengthened (hr.mono (by omega)) rfl T.eT T.cS.kp T.eS .nil A0s (A0a (pv 1) (A0a (pv 2) A0c))))))
   (A0f (A0q (pv 1))))),?_⟩
  refine ⟨A1h (by simp),λe he=>⟨A1h (by simp),λq hq=> ?_⟩⟩;have hq0:H q=none:=(A0g he).free hq;have s1:A0r H (upd (upd H e (.tup [])) q (.lst [V.ref e])):=(A0g he).trans (A0g hq)
  refine ⟨_,rfl,a,rfl,⟨_,SqL.of (s1 _ _ ha)⟩,A3v (K:=K) (a:=a) (xs:=ls.map V.int) (λi σ H2=>∃(o2:Option V) (q:Addr),σ=[some (.ref a),some (.ref q),o2]/\A0r H H2/\H q=none/\A9x H2 q (A0n (ls.take i)))
   ⟨none,q,rfl,s1,hq0,⟨[e],A0b,.cons (by rw [A0e (A0i A0b hq)];exact A0b) .nil⟩⟩ (λi σ H2 _ ⟨_,_,_,s2,_⟩=>SqL.of (s2 _ _ ha)) ?_ ?_⟩
  ·rintro i y σ H2 hi ⟨o2,q,rfl,s2,hq,c2⟩;obtain ⟨n,hn,rfl⟩:=A2o hi;have gp:=g.pos n (Z13 hn);have cl:=A1f (ls.take i) λm hm=>(g.pos m (List.mem_of_mem_take hm)).1;have pl:=B3n ls (λm hm=>(g.pos m hm).1) i;have gm:=g.most;have gf:=g.few;refine ⟨_,rfl,_,rfl,q,n,_,rfl,c2,λc hc=> ?_,by omega,by omega,by omega,λp H' hp s3 c3=> ?_⟩
   ·have e:=(A5r _ c hc).1;rw [Z0x] at e;omega
   ·refine ⟨_,p,rfl,s2.trans s3,s2.free hp,?_⟩;rw [A8o hn];exact c3
  ·rintro σ H2 ⟨o2,q,rfl,s2,hq,c2⟩;rw [Z08,Z18] at c2;exact ⟨_,rfl,k q H2 hq s2 c2⟩
theorem A8c (T:Txt K mg t):A1m P w K mg base CX0 1 t.aO t.aP ["axes","lengths"] D2q:=by
 refine T.bT.ok A8d (λvs H Q E h=> ?_) (λcdv A outer s H vs Q E hr h=> ?_)
 ·obtain ⟨l,d,ys,lk,ls,rfl,_⟩:=h;rfl
 ·obtain ⟨l,d,ys,lk,ls,rfl,hl,hd,sz,ly,k⟩:=h;have hu:=A7u hr;have le:=Paired.length sz;refine ⟨_,(A0f (A0q (A1y (N':=["axis","lengths"]) (ix:=(List.replicate 1 none++[some 1])) rfl (A8q (x:="lengths") rfl rfl rfl (by decide +kernel) (by decide +kernel)) (A7h (N0:=["axis"]) rfl (Or.inl rfl) (by first | exact Or.inl rfl | exact Or.inr rfl | (simp [relabel];rfl) | (with_unfolding_all exact Or.inl rfl) | (with_unfolding_all exact Or.inr rfl) | (with_unfolding_all decide))) (A2d (pv 0)) (λ_ _ _ _=>(A0p (i:=0) B9t rfl (Or.inl rfl) (Or.inr rfl))) (λ_ _ _ _=>(A2g hu (pv 1) (pv 0) (λ_ _=>rfl)))))),?_⟩;refine ⟨_,rfl,l,rfl,⟨_,SqL.of hl⟩,λD hD=> ?_⟩;refine A2l (K:=K) (a:=l) (D:=D) (xs:=ys.map V.str) (λi zs H2=>A0r H H2/\H2 D=some (.lst zs)/\zs=(ls.take i).map V.int) ⟨A0g hD,A0b,rfl⟩ (λi zs H2 ⟨s2,_⟩=>SqL.of (s2 _ _ hl)) ?_ ?_
  ·rintro i x zs H2 hx ⟨s2,hD2,rfl⟩;obtain ⟨y,hy,rfl⟩:=A2o hx;obtain ⟨n,hn,ev⟩:=B0v sz hy;have g:=A7i.k (H:=H2) (a:=d) (k:=Sum.inr y) (s2 _ _ hd);rw [ev] at g;refine ⟨⟨rfl,True.intro⟩,_,rfl,_,rfl,d,_,rfl,g,hD2,A0y (by simp;omega),A0k s2 hD,A0b,?_⟩;rw [Z14,hn,Option.toList_some,Z0s];rfl
  ·rintro zs H2 ⟨s2,hD2,rfl⟩;rw [Z08,le,Z18] at hD2;exact k D H2 hD s2 hD2
theorem A4d (T:Txt K mg t):A1m P w K mg base CX0 3 t.bh t.bp ["axes","lengths"] D2s:=by
 have G_cells_of:=B6g (P:=P) (w:=w) (base:=base) T;have G_lengths_along:=A8c (P:=P) (w:=w) (base:=base) T;refine T.aM.ok B0l (λvs H Q E h=> ?_) (λcdv A outer s H vs Q E hr h=> ?_)
 ·obtain ⟨l,d,ys,lk,ls,rfl,_⟩:=h;rfl
 ·obtain ⟨l,d,ys,lk,ls,rfl,hl,hd,sz,g,k⟩:=h;have le:=Paired.length sz;have gf:=g.few;refine ⟨_,(A0f (A0q (A0h G_cells_of (hr.mono (by omega)) rfl T.fw T.e8.kp T.fo .nil A0s (A0a (A0h G_lengths_along (hr.mono (by omega)) rfl T.dI T.bT.kp T.dM .nil A0s (A0a (pv 0) (A0a (pv 1) A0c))) A0c)))),?_⟩;exact ⟨_,rfl,_,rfl,l,d,ys,lk,ls,rfl,hl,hd,sz,by omega,λq1 H1 hq1 s1 h1=>⟨q1,ls,rfl,h1,g,λq H' hq s' c'=>k q H' (s1.free hq) (s1.trans s') c'⟩⟩
end
inductive Ob (A:Adr) (H:Hp):V->Tm->Prop
 | num {a dx:Addr} {z:Int}:H a=some (.ins A.aq dx [("number",.int z)])->Ob A H (.ref a) (.num z)
 | read {a dx l:Addr} {x:Str} {ix:List (Str×Int)}:H a=some (.ins A.aJ dx [("array",.str x),("indexes",.ref l)])->Rep H (.ref l) (A4i ix)->Ob A H (.ref a) (.read x ix)
theorem Ob.imp {A:Adr} {H H':Hp} (f:A0r H H') {v:V} {t:Tm} (h:Ob A H v t):Ob A H' v t:=by
 induction h with
 | num e=>exact .num (f _ _ e)
 | read e r=>exact .read (f _ _ e) (r.same f)
structure D3s (n:Nat) (u:Tm) (H:Hp) (d l:Addr) (kvs lk:List (Key×V)):Prop where
 good:C4e u
 deep:dep u<=n
 hd:H d=some (.dK kvs)
 at_:D3e kvs u
 hl:H l=some (.dK lk)
 ax:∃AX,Axs AX u/\A8m AX lk
 few:kvs.length+n<=1000
 most:(rd (ai lk) u (ai kvs)).length<=100000
def B4p:Sp:=λvs H Q _=>∃(x:Str) (z:Int) (d:Addr) (kvs:List (Key×V)),vs=[.str x,.int z,.ref d]/\H d=some (.dK kvs)/\(¬x=""->A3q kvs (Sum.inr x)=some (.int (ai kvs x)))/\Q (.int (if x="" then z else ai kvs x+z)) H
def B8m (A:Adr):Sp:=λvs H Q _=>∃(o dx d l:Addr) (a:Str) (ix:List (Str×Int)) (kvs:List (Key×V)),vs=[.ref o,.ref d]/\H o=some (.ins A.aJ dx [("array",.str a),("indexes",.ref l)])/\Rep H (.ref l) (A4i ix)/\ix.length<=3/\H d=some (.dK kvs)/\
 (∀e∈ix,¬e.1=""->A3q kvs (Sum.inr e.1)=some (.int (ai kvs e.1)))/\∀(p:Addr) (H':Hp),H p=none->A0r H H'->H' p=some (.tup ((A8i (ai kvs) ix).map V.int))->Q (.ref p) H'
def opM:Op3->Int->Int->Int
 | .plus,a,b=>a+b
 | .minus,a,b=>a-b
 | .times,a,b=>a*b
def D4a (f:Nat->Int):Nat->Int
 | 0=>0
 | n+1=>D4a f n+f n
def wo (len:Str->Int) (num:Str->List Int->Int) (wh:Int):Tm->(Str->Int)->Int
 | .num z,_=>z%wh
 | .place x,f=>f x%wh
 | .read a ix,f=>num a (A8i f ix)%wh
 | .sum x b,f=>D4a (λ(k:Nat)=>wo len num wh b (D4h f x (k:Int))) (len x).toNat%wh
 | .pair o l r,f=>opM o (wo len num wh l f) (wo len num wh r f)%wh
 | .guard x lo hi l r,f=>if lo<=f x/\f x<hi then wo len num wh l f else wo len num wh r f
def C9j (wh:Int):Prop:=2<=wh/\wh<=10^32
def C6r (H:Hp) (nk:List (Key×V)) (num:Str->List Int->Int) (rs:List (Str×List Int)):Prop :=
 ∀e∈rs,∃p cs,A3q nk (Sum.inr e.1)=some (.ref p)/\H p=some (.dT cs)/\A3q cs (e.2.map Sum.inl)=some (.int (num e.1 e.2))
structure Wd (A:Adr) (H:Hp) (wd l:Addr) (wh:Int) (nk:List (Key×V)):Prop where
 ob:∃dx nn,H wd=some (.ins A.aa dx [("wheel",.int wh),("lengths",.ref l),("numbers",.ref nn)])/\H nn=some (.dK nk)
 wh:C9j wh
theorem Wd.pos {A:Adr} {H:Hp} {wd l:Addr} {wh:Int} {nk:List (Key×V)} (h:Wd A H wd l wh nk):0<wh:=by have:=h.wh.1;omega
def D4f (A:Adr) (n:Nat) (is:Tm->Prop):Sp:=λvs H Q _=>∃(v:V) (u:Tm) (d wd l:Addr) (kvs lk nk:List (Key×V)) (num:Str->List Int->Int) (wh:Int),vs=[v,.ref d,.ref wd]/\is u/\Ob A H v u/\D3s n u H d l kvs lk/\Wd A H wd l wh nk/\C6r H nk num (rd (ai lk) u (ai kvs))/\
 ∀H',A0r H H'->Q (.int (wo (ai lk) num wh u (ai kvs))) H'
section
variable {P:Program} {w:World} {K:PySem.W.Frag} {mg:Str->Option Value} {base:Heap} {t:Adr}
theorem B5a (T:Txt K mg t):A1m P w K mg base CX0 1 t.cL t.cJ ["axis","shift","at"] B4p:=by
 refine T.eh.ok B4q (λvs H Q E h=> ?_) (λcdv A outer s H vs Q E hr h=> ?_)
 ·obtain ⟨x,z,d,kvs,rfl,_⟩:=h;rfl
 ·obtain ⟨x,z,d,kvs,rfl,hd,hx,k⟩:=h;have hu:=A7u hr
  refine ⟨_,(A0d (A1w (A1d A8g (pv 0) A2n (A1n _))
    (A0f (A0q (pv 1)))
    A0u)
   (A0f (A0q (A0v A6y (A2g hu (pv 2) (pv 0) (λ_ _=>rfl)) (pv 1))))),?_⟩
  refine ⟨_,rfl,rfl,_,rfl,B8h (λh=> ?_) (λh=> ?_)⟩
  ·rw [Z12 (by injection h)] at k;exact ⟨_,rfl,k⟩
  ·have hn:¬x="":=λe=>h (by rw [e]);rw [Z0t hn] at k;have g:=A7i.k (H:=H) (a:=d) (k:=Sum.inr x) hd;rw [hx hn] at g;exact ⟨_,rfl,_,rfl,d,_,rfl,g,_,rfl,_,_,rfl,rfl,k⟩
theorem A9n (T:Txt K mg t):A1m P w K mg base CX0 2 t.aU t.aX ["self","at"] (B8m t):=by
 have G_index_at:=B5a (P:=P) (w:=w) (base:=base) T;refine T.dO.ok B0c (λvs H Q E h=> ?_) (λcdv A outer s H vs Q E hr h=> ?_)
 ·obtain ⟨o,dx,d,l,a,ix,kvs,rfl,_⟩:=h;rfl
 ·obtain ⟨o,dx,d,l,a,ix,kvs,rfl,ho,rp,hix,hd,hx,k⟩:=h;obtain ⟨_,es,q,el,rs⟩:=A5a (show Rep H (.ref l) (.list (ix.map B1w)) from rp);cases q;have hl:=rs.len;rw [Z08] at hl;refine ⟨_,(A0f (A0q (A1t A2t (by rfl) T.aS Z0m (A0a (A1y (N':=["axis","shift","at"]) (ix:=(List.replicate 2 none++[some 1])) (g:=D3r K 2 (C1u (B5z 0) (C1u (B5z 1) D2r))) rfl (A8q (x:="at") rfl rfl rfl (by decide +kernel) (by decide +kernel)) (A7h (N0:=["axis","shift"]) rfl (Or.inl rfl) (by first | exact Or.inl rfl | exact Or.inr rfl | (simp [relabel];rfl) | (with_unfolding_all exact Or.inl rfl) | (with_unfolding_all exact Or.inr rfl) | (with_unfolding_all decide))) (A2d (A1q (pv 0) rfl)) (λ_ _ _ _=>(A8a (n:=2) rfl (A1l (A0p (i:=0) B2m rfl (Or.inl rfl) (Or.inr rfl)) (A1l (A0p (i:=1) B2m rfl (Or.inl rfl) (Or.inr rfl)) A5d)))) (λ_ _ _ _=>(A0h G_index_at (hr.mono (by omega)) rfl T.ft T.eh.kp T.fv .nil A0s (A0a (pv 0) (A0a (pv 1) (A0a (pv 2) A0c)))))) A0c)))),?_⟩;refine ⟨_,rfl,o,_,dx,_,_,rfl,ho,T.cv,T.bQ,(by walk_at "lk"),l,rfl,⟨_,SqL.of el⟩,λD hD=> ?_⟩;refine A2l (K:=K) (a:=l) (D:=D) (xs:=es) (λi ys H2=>A0r H H2/\H2 D=some (.lst ys)/\ys=(A8i (ai kvs) (ix.take i)).map V.int) ⟨A0g hD,A0b,rfl⟩ (λi ys H2 ⟨s2,_⟩=>SqL.of (s2 _ _ el)) ?_ ?_
  ·rintro i x ys H2 hx' ⟨s2,hD2,rfl⟩;have hi:i<ix.length:=by have:=(Z03.mp hx').1;omega
   obtain ⟨dd,hdd,rx⟩:=rs.get2 hx';have hie:ix[i]? =some ix[i]:=Z0b hi;rw [Z1z,hie] at hdd;cases hdd;obtain ⟨q,rfl,eq⟩:=D1e rx;refine ⟨q,_,rfl,SqT.of (s2 _ _ eq),rfl,_,_,rfl,_,_,rfl,rfl,⟨rfl,True.intro⟩,_,rfl,_,rfl,_,rfl,ix[i].1,ix[i].2,d,kvs,rfl,s2 _ _ hd,hx _ (Z13 hie),?_⟩;refine ⟨hD2,A0y (by simp [A8i];omega),A0k s2 hD,A0b,?_⟩;rw [Z14,hie,Option.toList_some];unfold A8i;rw [Z0s,Z0s];rfl
  ·rintro ys H2 ⟨s2,hD2,rfl⟩;rw [hl,Z18] at hD2;exact ⟨D,_,rfl,.inl ⟨SqL.of hD2,λp hp=>k p _ (s2.free hp) (s2.trans (A0g hp)) A0b⟩⟩
theorem A8w (T:Txt K mg t) (n:Nat):A1m P w K mg base CX0 1 t.aT t.aV ["self","at","world"] (D4f t n λu=>∃z,u= .num z):=by
 refine T.er.ok A9q (λvs H Q E h=> ?_) (λcdv A outer s H vs Q E hr h=> ?_)
 ·obtain ⟨v,u,d,wd,l,kvs,lk,nk,num,wh,rfl,_⟩:=h;rfl
 ·obtain ⟨v,u,d,wd,l,kvs,lk,nk,num,wh,rfl,⟨z,rfl⟩,ob,ask,W,nu,k⟩:=h;have hp:=W.pos;obtain ⟨⟨dw,nn,hw,hn⟩,_⟩:=W
  cases ob with
  | @num a dx _ e=>exact ⟨_,(A0f (A0q (A0v A1e (A1q (pv 0) rfl) (A1q (pv 2) rfl)))),_,rfl,a,_,dx,_,_,rfl,e,T.dh,T.bu,(by walk_at "lk"),_,rfl,wd,_,dw,_,_,rfl,hw,T.ac,T.ao,(by walk_at "lk"),_,_,rfl,rfl,hp,k H (A0r.refl _)⟩
theorem B3u (c:List Int):(c.map V.int)=(c.map (Sum.inl:Int->Key)).map kV:=by rw [List.map_map];rfl
theorem B1x (T:Txt K mg t) (n:Nat):A1m P w K mg base CX0 3 t.bJ t.bI ["self","at","world"] (D4f t n λu=>∃z ix,u= .read z ix):=by
 have G_Read_cell_at:=A9n (P:=P) (w:=w) (base:=base) T;refine T.eU.ok B1g (λvs H Q E h=> ?_) (λcdv A outer s H vs Q E hr h=> ?_)
 ·obtain ⟨v,u,d,wd,l,kvs,lk,nk,num,wh,rfl,_⟩:=h;rfl
 ·obtain ⟨v,u,d,wd,l,kvs,lk,nk,num,wh,rfl,⟨z,ix,rfl⟩,ob,ask,W,nu,k⟩:=h;have hu:=A7u hr;have hp:=W.pos;obtain ⟨⟨dw,nn,hw,hn⟩,_⟩:=W;obtain ⟨pc,cs,v1,h1,v2⟩:=nu (z,A8i (ai kvs) ix) (by simp [rd]);have g1:=A7i.k (H:=H) (a:=nn) (k:=Sum.inr z) hn;rw [v1] at g1
  cases ob with
  | @read a dx li _ _ e rp =>
   refine ⟨_,(A0f (A0q (A0v A1e (A2g hu (A2g hu (A1q (pv 2) rfl) (A1q (pv 0) rfl) (λ_ _=>rfl)) (B5m (pv 0) T.cv T.dJ G_Read_cell_at (hr.mono (by omega)) T.eD .nil A0s (A0a (pv 1) A0c)) (λ_ _=>rfl)) (A1q (pv 2) rfl)))),?_⟩
   refine ⟨_,rfl,wd,_,dw,_,_,rfl,hw,T.ac,T.af,(by walk_at "lk"),_,rfl,a,_,dx,_,_,rfl,e,T.cv,T.cz,(by walk_at "lk"),nn,_,rfl,g1,_,rfl,
    a,dx,_,rfl,e,(by walk_at "lk"),_,rfl,
    a,dx,d,li,z,ix,kvs,rfl,e,rp,ask.good.2.1,ask.hd,λe he hn=>ask.at_ e.1 ⟨hn,e,he,rfl⟩,λq H2 hq s2 h2=> ?_⟩
   rw [B3u] at h2;have g2:=A7i.t (s2 _ _ h1) h2;rw [v2] at g2;exact ⟨pc,_,rfl,g2,_,rfl,wd,_,dw,_,_,rfl,s2 _ _ hw,T.ac,T.ao,(by walk_at "lk"),_,_,rfl,rfl,hp,k H2 s2⟩
def WOk (P:Program) (w:World) (K:PySem.W.Frag) (mg:Str->Option Value) (base:Heap) (A:Adr) (n:Nat):Prop:=∀(H:Hp) (v:V) (u:Tm),Ob A H v u->dep u<=n->
 ∃(a C dx:Addr) (fs:List (Str×V)) (k:Nat) (f:Addr) (fd:FuncData) (ps:List Str) (sp:Sp),v= .ref a/\H a=some (.ins C dx fs)/\Cls K C/\C5s K C "worth" f/\fs.lookup ("worth":Str)=none/\A1m P w K mg base CX0 k f fd ps sp/\k<=n+3/\A1i K fd ps []/\
  ∀(H':Hp) (d wd l:Addr) (kvs lk nk:List (Key×V)) (num:Str->List Int->Int) (wh:Int) (Q:VK),A0r H H'->D3s n u H' d l kvs lk->Wd A H' wd l wh nk->C6r H' nk num (rd (ai lk) u (ai kvs))->(∀H2,A0r H' H2->Q (.int (wo (ai lk) num wh u (ai kvs))) H2)->sp [v,.ref d,.ref wd] H' Q E0
theorem wok (T:Txt K mg t):∀n:Nat,WOk P w K mg base t n
 | 0=>λH v u ob hd=>absurd hd (by have:=C8d u;omega)
 | n+1=>λH v u ob hd=>by
  have W:=wok T n
  cases id ob with
  | num e=>exact ⟨_,_,_,_,_,_,_,_,_,rfl,e,T.dh,T.dN,(by walk_at "lk"),A8w T (n+1),by omega,T.eC,λH' d wd l kvs lk nk num wh Q s a W2 nu k=>⟨_,_,d,wd,l,kvs,lk,nk,num,wh,rfl,⟨_,rfl⟩,ob.imp s,a,W2,nu,k⟩⟩
  | read e r=>exact ⟨_,_,_,_,_,_,_,_,_,rfl,e,T.cv,T.eL,(by walk_at "lk"),B1x T (n+1),by omega,T.eY,λH' d wd l kvs lk nk num wh Q s a W2 nu k=>⟨_,_,d,wd,l,kvs,lk,nk,num,wh,rfl,⟨_,_,rfl⟩,ob.imp s,a,W2,nu,k⟩⟩
end
def C3z (A:Adr):Sp:=λvs H Q _=>∃(p dx l:Addr) (x:Str) (ix:List (Str×Int)),vs=[.ref p,.str x,.ref l]/\H p=some (.ins A.aJ dx [])/\Rep H (.ref l) (A4i ix)/\ix.length<=1000/\
 ∀(l':Addr) (H':Hp),H' p=some (.ins A.aJ dx [("array",.str x),("indexes",.ref l')])->Rep H' (.ref l') (A4i ix)->(∀b o,b≠p->H b=some o->H' b=some o)->Q .non H'
def C4h (A:Adr):Sp:=λvs H Q _=>∃(p dx l nn:Addr) (wh:Int) (lk:List (Key×V)) (is:List Int),vs=[.ref p,.int wh,.ref l,.ref nn]/\H p=some (.ins A.aa dx [])/\H l=some (.dK lk)/\C4m lk is/\lk.length<=1000/\H nn=some (.dK [])/\
 ∀(l' n':Addr) (H':Hp),H l'=none->H n'=none->n'≠l'->H' p=some (.ins A.aa dx [("wheel",.int wh),("lengths",.ref l'),("numbers",.ref n')])->H' l'=some (.dK lk)->H' n'=some (.dK [])->KB p H H'->Q .non H'
section
variable {P:Program} {w:World} {K:PySem.W.Frag} {mg:Str->Option Value} {base:Heap} {t:Adr}
theorem B3f (T:Txt K mg t):A1m P w K mg base CX0 5 t.bY t.c6 ["self","array","indexes"] (C3z t):=by
 have G_copied:=A6u (P:=P) (w:=w) (base:=base) T 2;refine T.fh.ok B3k (λvs H Q E h=> ?_) (λcdv A outer s H vs Q E hr h=> ?_)
 ·obtain ⟨p,dx,l,x,ix,rfl,_⟩:=h;rfl
 ·obtain ⟨p,dx,l,x,ix,rfl,hp,rp,hix,k⟩:=h;have hcn:=C6g (ix:=ix)
  refine ⟨_,(A0d (A3r (pv 0) (pv 1) rfl)
   (A0f (A3r (pv 0) (A0h G_copied (hr.mono (by omega)) rfl T.ak T.aj.kp T.al .nil A0s (A0a (pv 2) A0c)) rfl))),_,rfl,_,rfl,p,_,dx,[],rfl,hp,T.cv,T.cz,(by decide),?_⟩
  refine ⟨_,rfl,.ref l,A4i ix,rfl,rp.ins hp,C3t,by omega,λv' H2 s2 rp2=> ?_⟩;have hp2:=s2 _ _ (A0b (H:=H) (a:=p));obtain ⟨l',xs,rfl,el,rs⟩:=A5a (show Rep _ v' (.list (ix.map B1w)) from rp2);refine ⟨_,rfl,p,_,dx,_,rfl,hp2,T.cv,T.bQ,(by show 1<1000;decide),?_⟩;show Q V.non (upd H2 p (.ins t.aJ dx (A5t "indexes" (.ref l') (A5t "array" (.str x) []))));rw [A2c,A1x (by decide +kernel),A2c];refine k l' _ A0b ((rp2.same A8u).ins hp2) λb o hb e=> ?_;rw [A0e hb];exact s2 _ _ (by rw [A0e hb];exact e)
theorem A7f (T:Txt K mg t):A1m P w K mg base CX0 5 t.bF t.bN ["self","wheel","lengths","numbers"] (C4h t):=by
 have G_copied:=C0w (P:=P) (w:=w) (base:=base) T;refine T.eX.ok B1e (λvs H Q E h=> ?_) (λcdv A outer s H vs Q E hr h=> ?_)
 ·obtain ⟨p,dx,l,nn,wh,lk,is,rfl,_⟩:=h;rfl
 ·obtain ⟨p,dx,l,nn,wh,lk,is,rfl,hp,hld,il,ll,hnn,k⟩:=h;have f1:∀v:V,A5t "lengths" v [("wheel",.int wh)]=([("wheel",.int wh),("lengths",v)]:List (Str×V)):=λv=>by rw [A1x (by decide +kernel),A2c]
  have f2:∀u v:V,A5t "numbers" v [("wheel",.int wh),("lengths",u)]=([("wheel",.int wh),("lengths",u),("numbers",v)]:List (Str×V)):=λu v=>by rw [A1x (by decide +kernel),A1x (by decide +kernel),A2c]
  have np:∀{b:Addr} {u:HO},H b=some u->(∀C d fs,u≠.ins C d fs)->b≠p:=λe n z=>by subst z;rw [hp] at e;cases e;exact n _ _ _ rfl
  have nn':∀{b:Addr},H b=none->b≠p:=λe z=>by subst z;rw [hp] at e;cases e
  refine ⟨_,(A0d (A3r (pv 0) (pv 1) rfl)
   (A0d (A3r (pv 0) (A0h G_copied (hr.mono (by omega)) rfl T.ak T.aj.kp T.al .nil A0s (A0a (pv 2) A0c)) rfl)
   (A0f (A3r (pv 0) (A0h G_copied (hr.mono (by omega)) rfl T.ak T.aj.kp T.al .nil A0s (A0a (pv 3) A0c)) rfl)))),_,rfl,_,rfl,p,_,dx,[],rfl,hp,T.ac,T.ao,(by decide),?_⟩
  rw [A2c];obtain ⟨G0,hG0⟩:∃G0,G0=upd H p (.ins t.aa dx [("wheel",.int wh)]):=⟨_,rfl⟩;rw [<-hG0];have p0:G0 p=some (.ins t.aa dx [("wheel",.int wh)]):=by rw [hG0];exact A0b
  have k0:KB p H G0:=by rw [hG0];exact KB.refl.upd
  refine ⟨_,rfl,.inr ⟨l,lk,is.map PyData.int,rfl,k0 _ _ (np hld (by intros;intro z;cases z)) hld,by omega,B6z il,λl' lk' H1 hl' s1 h1 ks cp=> ?_⟩⟩;have ek:=C2m il ks cp;subst ek;have nl:H l'=none:=k0.free p0 hl';refine ⟨_,rfl,p,_,dx,_,rfl,s1 _ _ p0,T.ac,T.av,(by show 1<1000;decide),?_⟩;rw [f1];obtain ⟨G1,hG1⟩:∃G1,G1=upd H1 p (.ins t.aa dx [("wheel",.int wh),("lengths",.ref l')]):=⟨_,rfl⟩;rw [<-hG1];have p1:G1 p=some (.ins t.aa dx [("wheel",.int wh),("lengths",.ref l')]):=by rw [hG1];exact A0b
  have k1:KB p H G1:=by rw [hG1];exact (k0.trans (KB.of s1)).upd
  have gl1:G1 l'=some (.dK lk'):=by rw [hG1,A0e (nn' nl)];exact h1
  refine ⟨_,rfl,.inr ⟨nn,[],[],rfl,k1 _ _ (np hnn (by intros;intro z;cases z)) hnn,by simp,.nil,λn' nk' H2 hn' s2 h2 ks2 _=> ?_⟩⟩
  have en:nk'=[]:=by cases nk' with
   | nil=>rfl
   | cons a r=>simp at ks2
  subst en;have n0:H n'=none:=k1.free p1 hn';have nl':n'≠l':=λz=>by subst z;rw [gl1] at hn';cases hn'
  refine ⟨_,rfl,p,_,dx,_,rfl,s2 _ _ p1,T.ac,T.af,(by show 2<1000;decide),?_⟩;show Q V.non (upd H2 p _);rw [f2];exact k l' n' _ nl n0 nl' A0b (by rw [A0e (nn' nl)];exact s2 _ _ gl1) (by rw [A0e (nn' n0)];exact h2) (k1.trans (KB.of s2)).upd
end
def cD (cs:List (List Int×Int)):List (List Key×V):=cs.map λc=>(c.1.map Sum.inl,V.int c.2)
abbrev AD (M:List Addr) (H:Hp) (nk:List (Key×V)) (ns:List (Str×List (List Int×Int))):Prop:=Paired (λ(p:Key×V) (e:Str×List (List Int×Int))=>p.1=Sum.inr e.1/\∃b,p.2= .ref b/\b∈M/\H b=some (.dT (cD e.2))) nk ns
def A4c (ms:List (Str×List (List Int×Int))) (a:Str) (cs:List (List Int×Int)):List (Str×List (List Int×Int)):=ms++(if cs=[] then [] else [(a,cs)])
theorem C5b {ws:List (List Key×V)} {k:List Key} (n:∀p∈ws,p.1≠k) (u:V):A6x ws k u=ws++[(k,u)]:=by
 unfold A6x;rw [Z0t];intro h;obtain ⟨p,hp,e⟩:=List.any_eq_true.mp h;exact n p hp (of_decide_eq_true e)
theorem A3h {ws:List (Key×V)} {k:Key} (n:∀p∈ws,p.1≠k) (u:V):A6x ws k u=ws++[(k,u)]:=by
 unfold A6x;rw [Z0t];intro h;obtain ⟨p,hp,e⟩:=List.any_eq_true.mp h;exact n p hp (of_decide_eq_true e)
theorem B4n:∀{a b:List Int},a.map (Sum.inl:Int->Key)=b.map Sum.inl->a=b
 | [],[],_=>rfl
 | [],_::_,h=>by simp at h
 | _::_,[],h=>by simp at h
 | x::a,y::b,h=>by
  rw [Z0p,Z0p] at h;injection h with h1 h2;injection h1 with h1;rw [h1,B4n h2]
theorem C4k {cs:List (List Int×Int)} {c:List Int} {n:Int} (h:c∉cs.map (·.1)):A6x (cD cs) (c.map Sum.inl) (.int n)=cD (cs++[(c,n)]):=by
 rw [C5b (λp hp z=> ?_)]
 ·unfold cD;rw [Z0s];rfl
 ·obtain ⟨e,he,rfl⟩:=Z2c.mp hp;exact h (Z2c.mpr ⟨e,he,B4n z⟩)
theorem C5d {M:List Addr} {H:Hp} {nk:List (Key×V)} {ns:List (Str×List (List Int×Int))} {a:Str} (h:AD M H nk ns) (n:a∉ns.map (·.1)):∀p∈nk,p.1≠Sum.inr a:=λp hp z=>by
 obtain ⟨i,hi⟩:=List.getElem?_of_mem hp;obtain ⟨e,he,ek,_⟩:=B0v h hi;have ek:p.1=Sum.inr e.1:=ek;rw [z] at ek;injection ek with ek;exact n (Z2c.mpr ⟨e,Z13 he,ek.symm⟩)
theorem C7b {kvs:List (Key×V)} {k:Key} (h:∀p∈kvs,p.1≠k):A3q kvs k=none:=by
 unfold A3q;rw [List.find?_eq_none.mpr λp hp z=>h p hp (of_decide_eq_true z)];rfl
theorem B6v {kvs:List (Key×V)} {k:Key} {v:V} (h:∀p∈kvs,p.1≠k):A3q (kvs++[(k,v)]) k=some v:=by
 induction kvs with
 | nil=>exact A2z rfl
 | cons p r ih =>
  rw [List.cons_append,A3b (h p (.head _))];exact ih λq hq=>h q (.tail _ hq)
theorem AD.imp {M M':List Addr} {H H':Hp} {nk:List (Key×V)} {ns:List (Str×List (List Int×Int))} (h:AD M H nk ns) (f:∀b kvs,b∈M->H b=some (.dT kvs)->b∈M'/\H' b=some (.dT kvs)):AD M' H' nk ns :=
 Paired.mapP h λ_ _ ⟨e1,b,e2,m,hb⟩=>⟨e1,b,e2,(f _ _ m hb).1,(f _ _ m hb).2⟩
def D0b (A:Adr):Sp:=λvs H Q _=>∃(wo dx l nn cr:Addr) (M:List Addr) (wh:Int) (nk:List (Key×V)) (ms:List (Str×List (List Int×Int))) (a:Str) (cs:List (List Int×Int)) (c:List Int) (n:Int),vs=[.ref wo,.str a,.ref cr,.int n]/\
 H wo=some (.ins A.aa dx [("wheel",.int wh),("lengths",.ref l),("numbers",.ref nn)])/\H nn=some (.dK nk)/\AD M H nk (A4c ms a cs)/\ms.length<=100/\a∉ms.map (·.1)/\H cr=some (.tup (c.map V.int))/\c∉cs.map (·.1)/\cs.length<=100000/\
 (nk.map (·.2)).Nodup/\(∀b∈M,∃kvs,H b=some (.dT kvs))/\
 ∀(M':List Addr) (nk':List (Key×V)) (H':Hp),H' nn=some (.dK nk')->AD M' H' nk' (A4c ms a (cs++[(c,n)]))->(∀b o,b≠nn->b∉M->H b=some o->H' b=some o)->(∀b∈M',b∈M\/H b=none)->(nk'.map (·.2)).Nodup->(∀b∈M',∃kvs,H' b=some (.dT kvs))->Q .non H'
theorem C1k {α β:Type} {F:α->β->Prop}:∀{l:List α} {m:List β} {e:β},Paired F l (m++[e])->∃l0 x,l=l0++[x]/\Paired F l0 m/\F x e
 | _,[],e,h=>by
  cases h with
  | cons r t=>cases t;exact ⟨[],_,rfl,.nil,r⟩
 | _,y::m,e,h=>by
  cases h with
  | cons r t =>
   obtain ⟨l0,x,rfl,h1,h2⟩:=C1k t;exact ⟨_::l0,x,rfl,.cons r h1,h2⟩
theorem D4b {α β:Type} {F:α->β->Prop} {G:α->Prop}:∀{l:List α} {m:List β},Paired F l m->(∀x∈l,G x)->Paired (λx y=>F x y/\G x) l m
 | _,_,.nil,_=> .nil
 | _,_,.cons r t,h=> .cons ⟨r,h _ (.head _)⟩ (D4b t λx hx=>h x (.tail _ hx))
theorem A6a {α:Type} {xs:List α} {y:α} (h:xs.Nodup) (n:y∉xs):(xs++[y]).Nodup :=
 List.pairwise_append.mpr ⟨h,List.pairwise_singleton ..,λa ha b hb z=>n (by rw [Z0w.mp hb] at z;rw [<-z];exact ha)⟩
section
variable {P:Program} {w:World} {K:PySem.W.Frag} {mg:Str->Option Value} {base:Heap} {t:Adr}
theorem A3n (T:Txt K mg t):A1m P w K mg base CX0 1 t.aH t.aG ["self","array","cell","number"] (D0b t):=by
 refine T.cK.ok A6g (λvs H Q E h=> ?_) (λcdv A outer s H vs Q E hr h=> ?_)
 ·obtain ⟨wo,dx,l,nn,cr,M,wh,nk,ms,a,cs,c,n,rfl,_⟩:=h;rfl
 ·obtain ⟨wo,dx,l,nn,cr,M,wh,nk,ms,a,cs,c,n,rfl,hw,hn,ad,lms,na,hcr,nc,lcs,nd,dm,k⟩:=h;have hu:=A7u hr
  refine ⟨_,(A3y (A1w (C5x (B3y hu (pv 1) (A1q (pv 0) rfl)) (by with_unfolding_all rfl))
    (A0f (A2x hu (A1q (pv 0) rfl) (pv 1) C3x rfl))
    A0u)
   (A0f (A2x hu (A2g hu (A1q (pv 0) rfl) (pv 1) (λ_ _=>rfl)) (pv 2) (pv 3) rfl))),?_⟩
  refine ⟨λσ H1=>∃(M1:List Addr) (nk1:List (Key×V)),σ=[some (.ref wo),some (.str a),some (.ref cr),some (.int n)]/\H1 nn=some (.dK nk1)/\AD M1 H1 nk1 (ms++[(a,cs)])/\(nk1.map (·.2)).Nodup/\(∀b o,b≠nn->H b=some o->H1 b=some o)/\(∀b∈M1,b∈M\/H b=none)/\∀b∈M1,∃kvs,H1 b=some (.dT kvs),?_,?_⟩
  ·by_cases he:cs=[]
   ·subst he;have ad:AD M H nk ms:=by unfold A4c at ad;rw [Z12 rfl,Z0u] at ad;exact ad
    have kn:=C5d ad na;have lnk:=Paired.length ad;have g:A7i H nn (.str a) none:= .inl ⟨nk,Sum.inr a,.inl hn,rfl,(C7b kn).symm⟩;refine ⟨_,rfl,_,rfl,wo,_,dx,_,_,rfl,hw,T.ac,T.af,(by walk_at "lk"),nn,_,rfl,g,_,rfl,B9u ?_⟩;refine λp hp=> ?_;have s1:A0r H (upd H p (.dT [])):=A0g hp;refine ⟨_,rfl,wo,_,dx,_,_,rfl,s1 _ _ hw,T.ac,T.af,(by walk_at "lk"),_,rfl,nn,_,rfl,B0z.k (k:=Sum.inr a) (s1 _ _ hn) (A0y (by omega)),?_⟩;rw [A3h kn];have pn:p≠nn:=λz=>by subst z;rw [hn] at hp;cases hp
    refine ⟨p::M,nk++[(Sum.inr a,.ref p)],rfl,A0b,?_,?_,λb o hb e=>by rw [A0e hb];exact s1 _ _ e,λb hb=> ?_,λb hb=> ?_⟩
    ·refine B5i (ad.imp λb kvs m e=>⟨.tail _ m,by rw [A0e (A0z e hn (by intro z;cases z))];exact s1 _ _ e⟩) (.cons ⟨rfl,p,rfl,.head _,?_⟩ .nil);rw [A0e pn];exact A0b
    ·rw [Z0s];refine A6a nd λm=> ?_;obtain ⟨q,hq,e⟩:=Z2c.mp m;obtain ⟨i,hi⟩:=List.getElem?_of_mem hq;obtain ⟨e',_,_,b,eb,_,hb⟩:=B0v ad hi;have eb:q.2= .ref b:=eb;rw [eb] at e;injection e with e;rw [e,hp] at hb;cases hb
    ·rcases Z0e.mp hb with rfl | hb
     ·exact .inr hp
     ·exact .inl hb
    ·rcases Z0e.mp hb with rfl | hb
     ·exact ⟨[],by rw [A0e pn];exact A0b⟩
     ·obtain ⟨kvs,e⟩:=dm b hb;exact ⟨kvs,by rw [A0e (A0z e hn (by intro z;cases z))];exact s1 _ _ e⟩
   ·have ad:AD M H nk (ms++[(a,cs)]):=by unfold A4c at ad;rw [Z0t he] at ad;exact ad
    obtain ⟨⟨k',v⟩,hkv,ek,b,eb,mb,hb⟩:=A4l ad (i:=ms.length) (y:=(a,cs)) (by rw [Z1l (Z09 _),Nat.sub_self];rfl);have ek:k'=Sum.inr a:=ek;subst ek
    have hv:∃v',A3q nk (Sum.inr a)=some v':=by
     cases hval:A3q nk (Sum.inr a) with
     | some v'=>exact ⟨v',rfl⟩
     | none =>
      exfalso;unfold A3q at hval;have:=List.find?_eq_none.mp (Option.map_eq_none_iff.mp hval) _ (Z13 hkv);exact this (Z20 rfl)
    obtain ⟨v',hv'⟩:=hv;have g:A7i H nn (.str a) (some v'):= .inl ⟨nk,Sum.inr a,.inl hn,rfl,hv'.symm⟩;exact ⟨_,rfl,_,rfl,wo,_,dx,_,_,rfl,hw,T.ac,T.af,(by walk_at "lk"),nn,_,rfl,g,_,rfl,A5c ⟨M,nk,rfl,hn,ad,nd,λb o _ e=>e,λb hb=> .inl hb,dm⟩⟩
  rintro σ H1 ⟨M1,nk1,rfl,hn1,ad1,nd1,fr,sub,dm1⟩;obtain ⟨nk0,⟨k',v⟩,rfl,ad0,ek,b,eb,mb,hb⟩:=C1k ad1;have ek:k'=Sum.inr a:=ek;have eb:v= .ref b:=eb;subst ek eb;have hb:H1 b=some (.dT (cD cs)):=hb;have g:A7i H1 nn (.str a) (some (.ref b)):= .inl ⟨_,Sum.inr a,.inl hn1,rfl,(B6v (C5d ad0 na)).symm⟩;have wn:wo≠nn:=A0z hw hn (by intro z;cases z);have cn:cr≠nn:=A0z hcr hn (by intro z;cases z);have hw1:=fr _ _ wn hw;have hcr1:=fr _ _ cn hcr;rw [B3u] at hcr1;have bn:b≠nn:=A0z hb hn1 (by intro z;cases z);refine ⟨_,rfl,_,rfl,wo,_,dx,_,_,rfl,hw1,T.ac,T.af,(by walk_at "lk"),_,rfl,nn,_,rfl,g,_,rfl,b,_,rfl,B0z.t (k:=c.map Sum.inl) hb hcr1 (A0y (by have:(cD cs).length=cs.length:=Z08 ..;omega)),?_⟩;rw [C4k nc];have ef:A4c ms a (cs++[(c,n)])=ms++[(a,cs++[(c,n)])]:=by unfold A4c;rw [Z0t (by simp)]
  refine k M1 _ _ (by rw [A0e bn.symm];exact hn1) ?_ (λb' o h1 h2 e=> ?_) sub nd1 λb' m=> ?_
  ·rw [ef];refine B5i (Paired.mapP (F:=λ(p:Key×V) (e:Str×List (List Int×Int))=>(p.1=Sum.inr e.1/\∃b,p.2= .ref b/\b∈M1/\H1 b=some (.dT (cD e.2)))/\p.2≠.ref b) ?_ λ_ _ ⟨⟨e1,b2,e2,m2,h2⟩,ne⟩=>⟨e1,b2,e2,m2,by rw [A0e (λz=>ne (by rw [e2,z]))];exact h2⟩) (.cons ⟨rfl,b,rfl,mb,A0b⟩ .nil);rw [Z0s] at nd1;have nb:∀p∈nk0,p.2≠V.ref b:=λp hp z=>(List.pairwise_append.mp nd1).2.2 _ (Z2c.mpr ⟨p,hp,rfl⟩) (V.ref b) (.head _) z;exact D4b ad0 nb
  ·have ne:b'≠b:=λz=>by
    subst z;rcases sub _ mb with m | m
    ·exact h2 m
    ·rw [m] at e;cases e
   rw [A0e ne];exact fr _ _ h1 e
  ·by_cases z:b'=b
   ·subst z;exact ⟨_,A0b⟩
   ·obtain ⟨kvs,e⟩:=dm1 b' m;exact ⟨kvs,by rw [A0e z];exact e⟩
end
abbrev A8x (S:Addr->Prop) (H:Hp) (rk:List (Key×V)) (ns:List (Str×List (List Int×Int))):Prop:=Paired (λ(p:Key×V) (e:Str×List (List Int×Int))=>p.1=Sum.inr e.1/\∃b,p.2= .ref b/\S b/\H b=some (.lst (e.2.map λc=>V.int c.2))) rk ns
theorem A8x.imp {S S':Addr->Prop} {H H':Hp} {rk:List (Key×V)} {ns:List (Str×List (List Int×Int))} (h:A8x S H rk ns) (f:∀b xs,S b->H b=some (.lst xs)->S' b/\H' b=some (.lst xs)):A8x S' H' rk ns :=
 Paired.mapP h λ_ _ ⟨e1,b,e2,m,hb⟩=>⟨e1,b,e2,(f _ _ m hb).1,(f _ _ m hb).2⟩
def C9e (A:Adr):Sp:=λvs H Q _=>∃(wo dx l nn:Addr) (M:List Addr) (wh:Int) (nk:List (Key×V)) (ns:List (Str×List (List Int×Int))),vs=[.ref wo]/\H wo=some (.ins A.aa dx [("wheel",.int wh),("lengths",.ref l),("numbers",.ref nn)])/\H nn=some (.dK nk)/\AD M H nk ns/\(ns.map (·.1)).Nodup/\ns.length<=100/\
 ∀(r:Addr) (rk:List (Key×V)) (H':Hp),H r=none->A0r H H'->H' r=some (.dK rk)->A8x (λb=>H b=none) H' rk ns->Q (.ref r) H'
section
variable {P:Program} {w:World} {K:PySem.W.Frag} {mg:Str->Option Value} {base:Heap} {t:Adr}
theorem B0t (T:Txt K mg t):A1m P w K mg base CX0 1 t.c_ t.cY ["world"] (C9e t):=by
 refine T.dy.ok A5s (λvs H Q E h=> ?_) (λcdv A outer s H vs Q E hr h=> ?_)
 ·obtain ⟨wo,dx,l,nn,M,wh,nk,ns,rfl,_⟩:=h;rfl
 ·obtain ⟨wo,dx,l,nn,M,wh,nk,ns,rfl,hw,hn,ad,nd,lns,k⟩:=h;have hu:=A7u hr;have lnk:=Paired.length ad
  refine ⟨_,(A0d (A1b (i:=1) A5s.nd rfl (Or.inl rfl) A3u)
   (A0d (A2w PassesOwn.never rfl (B7r (A9d PySem.F.plainAttrs_dict PySem.F.slot_dict_items PySem.F.type_dict_items B7f (A1q (pv 0) rfl))) (A8a (n:=2) rfl (A1l (A0p (i:=2) A5s.nd rfl (Or.inl rfl) (Or.inl rfl)) (A1l (A0p (i:=3) A5s.nd rfl (Or.inl rfl) (Or.inl rfl)) A5d)))
    (A0f (A2x hu (pv 1) (pv 2) (A1t (B8j rfl) (by rfl) T.bL Z1o (A0a (A9d PySem.F.plainAttrs_dict PySem.F.slot_dict_values PySem.F.type_dict_values B8a (pv 3)) A0c)) rfl)))
   (B3p (A0f (A0q (pv 1)))))),?_⟩
  refine λr hr0=> ?_;have s1:A0r H (upd H r (.dK [])):=A0g hr0;have nr:nn≠r:=A0i hn hr0;refine ⟨_,rfl,wo,_,dx,_,.ref nn,rfl,s1 _ _ hw,T.ac,T.af,(by walk_at "lk"),.inr (.inr (.inl ⟨rfl,.inl ⟨_,s1 _ _ hn⟩⟩)),nn,_,rfl,rfl,s1 _ _ hn,.inl ⟨_,rfl⟩,λvw hvw=> ?_⟩;have s2:A0r (upd H r (.dK [])) (upd (upd H r (.dK [])) vw (B2t vw nn)):=A0g hvw;refine ⟨vw,nn,_,rfl,A0b,s2 _ _ (s1 _ _ hn),.inl ⟨nk,rfl,λo=> ?_⟩⟩;have hv0:H vw=none:=s1.free hvw;have vr:r≠vw:=A0i A0b hvw
  have g0:A0r (upd H nn (.frz o (.dK nk))) (upd (upd (upd H r (.dK [])) vw (B2t vw nn)) nn (.frz o (.dK nk))):=λb v e=>by
   by_cases hb:b=nn
   ·subst hb;rw [A0b] at e⊢;exact e
   ·rw [A0e hb] at e⊢;exact s2 _ _ (s1 _ _ e)
  have hrG:upd H nn (.frz o (.dK nk)) r=none:=by rw [A0e nr.symm];exact hr0
  have nd0:∀b,upd H nn (.frz o (.dK nk)) b=none->H b=none:=λb e=>by
   by_cases hb:b=nn
   ·subst hb;rw [A0b] at e;cases e
   ·rw [A0e hb] at e;exact e
  refine B3a (L:=nk.map λq=>(kV q.1,q.2)) (λi σ H4=>∃(o2 o3:Option V) (ws:List (Key×V)),σ=[some (.ref wo),some (.ref r),o2,o3]/\A0r (upd H nn (.frz o (.dK nk))) H4/\H4 r=some (.dK ws)/\A8x (λb=>H b=none) H4 ws (ns.take i))
   ⟨none,none,[],rfl,g0,(by rw [A0e nr.symm,A0e vr,A0b]),.nil⟩ (λi σ H4 ⟨_,_,_,_,s4,_⟩=>s4 _ _ A0b) ?_ ?_
  ·rintro i kx vx q σ H4 hx hq ⟨o2,o3,ws,rfl,s4,h4,rw4⟩;rw [Z1z] at hx;obtain ⟨⟨k',v⟩,hk,e⟩:=Z0i.mp hx;cases e;obtain ⟨x,hxd,ek,b,eb,mb,hb⟩:=B0v ad hk;have ek:k'=Sum.inr x.1:=ek;have eb:v= .ref b:=eb;subst ek eb;have sq:A0r H4 (upd H4 q (.tup [kV (Sum.inr x.1),.ref b])):=A0g hq;have hb4:H4 b=some (.dT (cD x.2)):=s4 _ _ (by rw [A0e (A0z hb hn (by intro z;cases z))];exact hb);have hqq:upd H4 q (.tup [kV (Sum.inr x.1),.ref b]) q=some (.tup [kV (Sum.inr x.1),.ref b]):=A0b;generalize upd H4 q (.tup [kV (Sum.inr x.1),.ref b])=H5 at sq hqq;refine ⟨q,_,rfl,SqT.of hqq,rfl,_,_,rfl,_,_,rfl,rfl,_,rfl,.inr (.inr (.inl ⟨rfl,.inr ⟨_,sq _ _ hb4⟩⟩)),b,_,rfl,rfl,.inr ⟨_,.inl (sq _ _ hb4),rfl⟩,λvv hvv=> ?_⟩;have sv:A0r H5 (upd H5 vv (B1k vv b)):=A0g hvv;have hvv':upd H5 vv (B1k vv b) vv=some (B1k vv b):=A0b;generalize upd H5 vv (B1k vv b)=H6 at sv hvv';refine ⟨vv,b,_,rfl,hvv',.inr ⟨_,.inl (sv _ _ (sq _ _ hb4)),rfl⟩,λll hll=> ?_⟩;have e2:(cD x.2).map (·.2)=x.2.map λc=>V.int c.2:=by unfold cD;rw [List.map_map];rfl
   rw [e2];have sl:A0r H6 (upd H6 ll (.lst (x.2.map λc=>V.int c.2))):=A0g hll;have hll':upd H6 ll (.lst (x.2.map λc=>V.int c.2)) ll=some (.lst (x.2.map λc=>V.int c.2)):=A0b;generalize upd H6 ll (.lst (x.2.map λc=>V.int c.2))=H7 at sl hll';have s47:=sq.trans (sv.trans sl);have h7:=s47 _ _ h4;have lws:=Paired.length rw4;rw [Z0x] at lws;refine ⟨_,rfl,_,rfl,r,_,rfl,B0z.k (k:=Sum.inr x.1) h7 (A0y (by omega)),?_⟩
   have kn:∀p∈ws,p.1≠Sum.inr x.1:=λp hp z=>by
    obtain ⟨j,hj⟩:=List.getElem?_of_mem hp;obtain ⟨e,he,ek,_⟩:=B0v rw4 hj;have ek:p.1=Sum.inr e.1:=ek;rw [z] at ek;injection ek with ek
    have hji:j<i:=by
     have:=(Z03.mp he).1;rw [Z0x] at this;omega
    rw [List.getElem?_take,Z12 hji] at he;have a1:(ns.map (·.1))[j]? =some x.1:=by rw [Z1z,he,Option.map_some,ek]
    have a2:(ns.map (·.1))[i]? =some x.1:=by rw [Z1z,hxd];rfl
    have b1:=(Z03.mp a1).1;have:=(List.getElem?_inj b1 nd).mp (a1.trans a2.symm);omega
   rw [A3h kn];have lr:ll≠r:=λz=>by subst z;rw [sv _ _ (sq _ _ h4)] at hll;cases hll
   refine ⟨_,_,_,rfl,A0k (s4.trans s47) hrG,A0b,?_⟩;rw [Z14,hxd];refine B5i (rw4.imp λc ys m e=>⟨m,by rw [A0e (A0z e h4 (by intro z;cases z))];exact s47 _ _ e⟩) (.cons ⟨rfl,ll,rfl,nd0 _ (s4.free (sq.free (sv.free hll))),by rw [A0e lr];exact hll'⟩ .nil)
  ·rintro σ H4 ⟨o2,o3,ws,rfl,s4,h4,rw4⟩;rw [Z08,lnk,Z18] at rw4;have hd4:H4 nn=some (.frz o (.dK nk)):=s4 _ _ A0b;refine ⟨nn,o,_,hd4,.inl ⟨_,rfl⟩,(λo' u' z=>by have z:H nn=some (.frz o' u'):=z;rw [hn] at z;cases z),_,rfl,?_⟩;exact k r ws _ hr0 (A4k hn s4) (by rw [A0e nr.symm];exact h4) (rw4.imp λb xs m e=>⟨m,by rw [A0e (λz=>by subst z;have m:H _=none:=m;rw [hn] at m;cases m)];exact e⟩)
end
abbrev B0x (H:Hp) (tk:List (Key×V)) (ts:List (Str×List Int)):Prop:=Paired (λ(p:Key×V) (e:Str×List Int)=>p.1=Sum.inr e.1/\∃b:Addr,p.2= .ref b/\H b=some (.lst (e.2.map V.int))) tk ts
theorem B0x.same {H H':Hp} {tk:List (Key×V)} {ts:List (Str×List Int)} (h:B0x H tk ts) (s:A0r H H'):B0x H' tk ts :=
 Paired.mapP h λ_ _ ⟨e1,b,e2,hb⟩=>⟨e1,b,e2,s _ _ hb⟩
theorem A6j {H:Hp}:∀{tk:List (Key×V)} {ts:List (Str×List Int)},B0x H tk ts->tk.map (·.1)=(ts.map (·.1)).map (Sum.inr:Str->Key)
 | _,_,.nil=>rfl
 | _,_,.cons r t=>by rw [Z0p,Z0p,Z0p,A6j t,r.1]
abbrev D2c (ax:List (Str×Int)) (tb:List (Str×List Str)) (szs:List (List Int)):Prop:=Paired (λ(e:Str×List Str) (ls:List Int)=>Sz (A1a ax) e.2 ls/\A7d ls) tb szs
def B4y (tb:List (Str×List Str)) (ts:List (Str×List Int)):Prop:=∀x,x∈ts.map (·.1)↔x∈tb.map (·.1)
def C0m (tb:List (Str×List Str)) (szs:List (List Int)) (ts:List (Str×List Int)):Prop:=∀(i:Nat) (e:Str×List Str) (ls ns:List Int),tb[i]? =some e->szs[i]? =some ls->(e.1,ns)∈ts->ns.length=(A0n ls).length
theorem A7n {α:Type} [DecidableEq α]:∀{a b:List α},a.Nodup->(∀x∈a,x∈b)->a.length=b.length->∀x∈b,x∈a
 | [],b,_,_,h,x,hx=>by
  have:b=[]:=List.eq_nil_of_length_eq_zero h.symm;rw [this] at hx;exact hx
 | y::r,b,nd,sub,h,x,hx=>by
  obtain ⟨n1,n2⟩:=Z15.mp nd;have hy:=sub y (.head _);have hl:(b.erase y).length=b.length-1:=List.length_erase_of_mem hy;have hb:0<b.length:=List.length_pos_of_mem hy;by_cases e:x=y
  ·rw [e];exact .head _
  ·refine .tail _ (A7n (b:=b.erase y) n2 (λz hz=>(List.mem_erase_of_ne (λe=>n1 (by rw [<-e];exact hz))).mpr (sub z (.tail _ hz))) ?_ x ((List.mem_erase_of_ne e).mpr hx));rw [Z0y] at h;omega
theorem A2q {xs:List Str} (h:xs.Nodup):(xs.map (Sum.inr:Str->Key)).Nodup:=List.Pairwise.map _ (λa b h z=>h (by injection z)) h
theorem B4z {x:Str} {xs:List Str}:(Sum.inr x:Key)∈xs.map (Sum.inr:Str->Key)↔x∈xs:=by
 refine ⟨λh=> ?_,λh=>Z2c.mpr ⟨x,h,rfl⟩⟩;obtain ⟨y,hy,e⟩:=Z2c.mp h;injection e with e;rw [<-e];exact hy
theorem C1i {xs ys:List Str} (nx:xs.Nodup) (ny:ys.Nodup):((A2v (xs.map Sum.inr)).length=(A2v (ys.map Sum.inr)).length/\∀k,A5v (A2v (xs.map Sum.inr)) k=true->A5v (A2v (ys.map Sum.inr)) k=true)↔∀x,x∈xs↔x∈ys:=by
 rw [B0y (A2q nx),B0y (A2q ny),Z08,Z08];refine ⟨λ⟨h1,h2⟩ x=> ?_,λh=>⟨?_,λk hk=> ?_⟩⟩
 ·have sub:∀x∈xs,x∈ys:=λx hx=>B4z.mp (A6v.mp (h2 (Sum.inr x) (A6v.mpr (B4z.mpr hx))));exact ⟨sub x,A7n nx sub h1 x⟩
 ·have key:∀{a b:List Str},a.Nodup->(∀x∈a,x∈b)->a.length<=b.length:=by
   intro a
   induction a with
   | nil=>intro b _ _;exact Z1e _
   | cons y r ih =>
    intro b nd sub;obtain ⟨n1,n2⟩:=Z15.mp nd;have hy:=sub y (.head _);have hl:(b.erase y).length=b.length-1:=List.length_erase_of_mem hy;have hb:0<b.length:=List.length_pos_of_mem hy;have:=ih (b:=b.erase y) n2 λz hz=>(List.mem_erase_of_ne (λe=>n1 (by rw [<-e];exact hz))).mpr (sub z (.tail _ hz));rw [Z0y];omega
  exact Nat.le_antisymm (key nx λx hx=>(h x).mp hx) (key ny λx hx=>(h x).mpr hx)
 ·have hk:=A6v.mp hk;obtain ⟨x,hx,rfl⟩:=Z2c.mp hk;exact A6v.mpr (B4z.mpr ((h x).mp hx))
theorem C7w (a b:Str):(a++b).length=a.length+b.length:=Str.length_append _ _
theorem C8e:(Str.empty:Str).length=0:=rfl
theorem B6x {ts:List (Str×List Int)} (nd:(ts.map (·.1)).Nodup) {x:Str} {a b:List Int} (ha:(x,a)∈ts) (hb:(x,b)∈ts):a=b:=by
 induction ts with
 | nil=>cases ha
 | cons e r ih =>
  have nd:(e.1::r.map (·.1)).Nodup:=nd;obtain ⟨n1,n2⟩:=Z15.mp nd;rcases Z0e.mp ha with ha | ha <;> rcases Z0e.mp hb with hb | hb
  ·rw [<-hb] at ha;injection ha
  ·exact absurd (Z2c.mpr ⟨_,hb,by rw [<-ha]⟩) n1
  ·exact absurd (Z2c.mpr ⟨_,ha,by rw [<-hb]⟩) n1
  ·exact ih n2 ha hb
theorem C5e {H:Hp}:∀{tk:List (Key×V)} {ts:List (Str×List Int)},B0x H tk ts->∀{x:Str},x∈ts.map (·.1)->∃b ns,A3q tk (Sum.inr x)=some (.ref b)/\H b=some (.lst (ns.map V.int))/\(x,ns)∈ts
 | _,_,.nil,x,h=>by cases h
 | _,_,@Paired.cons _ _ _ p e _ es ⟨e1,b,e2,hb⟩ t,x,h=>by
  by_cases hx:e.1=x
  ·exact ⟨b,e.2,by rw [A2z (e1.trans (by rw [hx])),e2],hb,by rw [<-hx];exact .head _⟩
  ·have h':x∈es.map (·.1):=by
    rcases Z0e.mp h with h | h
    ·exact absurd h.symm hx
    ·exact h
   obtain ⟨b',ns,h1,h2,h3⟩:=C5e t h';exact ⟨b',ns,by rw [A3b (λz=>hx (by rw [e1] at z;injection z))];exact h1,h2,.tail _ h3⟩
abbrev D2a (H:Hp) (ax:List (Str×Int)) (tk:List (Key×V)) (tb:List (Str×List Str)):Prop:=Paired (λ(p:Key×V) (e:Str×List Str)=>p.1=Sum.inr e.1/\∃(b:Addr) (ns ls:List Int),p.2= .ref b/\H b=some (.lst (ns.map V.int))/\Sz (A1a ax) e.2 ls/\A7d ls/\ns.length=(A0n ls).length) tk tb
theorem B9p {H:Hp} {ax:List (Str×Int)}:∀{tk:List (Key×V)} {tb:List (Str×List Str)},D2a H ax tk tb->tk.map (·.1)=tb.map λe=>(Sum.inr e.1:Key)
 | _,_,.nil=>rfl
 | _,_,.cons r t=>by rw [Z0p,Z0p,B9p t,r.1]
theorem A4a {kvs:List (Key×V)} {i:Nat} {k:Key} {v:V}:(kvs.map (·.1)).Nodup->kvs[i]? =some (k,v)->A3q kvs k=some v:=by
 induction kvs generalizing i with
 | nil=>intro _ h;simp at h
 | cons p r ih =>
  intro n h;have n:(p.1::r.map (·.1)).Nodup:=n;obtain ⟨n1,n2⟩:=Z15.mp n
  cases i with
  | zero =>
   simp at h;subst h;exact A2z rfl
  | succ j =>
   have h:r[j]? =some (k,v):=by simpa using h
   rw [A3b (λe=>n1 (by rw [e];exact Z2c.mpr ⟨_,Z13 h,rfl⟩))];exact ih n2 h
theorem B7b {H:Hp} {ax:List (Str×Int)} {tk:List (Key×V)} {tb:List (Str×List Str)} (h:D2a H ax tk tb) (n:(tb.map (·.1)).Nodup):(tk.map (·.1)).Nodup:=by
 rw [B9p h,show (tb.map λe=>(Sum.inr e.1:Key))=(tb.map (·.1)).map (Sum.inr:Str->Key) by rw [List.map_map];rfl];exact List.Pairwise.map _ (λa b h z=>h (by injection z)) n
def C8t (A:Adr):Sp:=λvs H Q E=>∃(p d:Addr) (wh:Int) (ax:List (Str×Int)) (tb:List (Str×List Str)) (ls:List V) (os:List Str) (tk:List (Key×V)) (ts:List (Str×List Int)) (szs:List (List Int)),vs=[.ref p,.ref d]/\C2n A H p wh ax tb ls os/\(ax.map (·.1)).Nodup/\(tb.map (·.1)).Nodup/\tb.length<=6/\H d=some (.dK tk)/\B0x H tk ts/\(ts.map (·.1)).Nodup/\ts.length<=7/\D2c ax tb szs/\(∀e∈tb,PyData.strOk e.1=true/\e.1.length<=100)/\
 (B4y tb ts->C0m tb szs ts->∀H',A0r H H'->Q .non H')/\(¬(B4y tb ts/\C0m tb szs ts)->∀H',A0r H H'->E (.ref A.ah) none H')
section
variable {P:Program} {w:World} {K:PySem.W.Frag} {mg:Str->Option Value} {base:Heap} {t:Adr}
theorem A5x (T:Txt K mg t):A1m P w K mg base (CXF P w) 4 t.bj t.bo ["program","tables"] (C8t t):=by
 have G_table_names:=B0f (P:=P) (w:=w) (base:=base) T;have G_lengths_of:=A4q (P:=P) (w:=w) (base:=base) T;have G_cells_along:=A4d (P:=P) (w:=w) (base:=base) T;refine T.bg.okF A3a (λvs H Q E h=> ?_) (λcdv A outer s H vs Q E hr h=> ?_)
 ·obtain ⟨p,d,wh,ax,tb,ls,os,tk,ts,szs,rfl,_⟩:=h;rfl
 ·obtain ⟨p,d,wh,ax,tb,ls,os,tk,ts,szs,rfl,pr,ndx,ndt,l6,hd,tka,nds,l10,sza,okn,kq,ke⟩:=h;have hu:=A7u hr;have ltk:=Paired.length tka
  refine ⟨_,(A0d (A1w (A1d (C3o hr.units0) (A1t (B7g rfl) (by rfl) T.fO PyProof.Rows.boot_set (A0a (pv 1) A0c)) (A1t (B7g rfl) (by rfl) T.fO PyProof.Rows.boot_set (A0a (A0h G_table_names (hr.mono (by omega)) rfl T.eK T.cA.kp T.eI .nil A0s (A0a (pv 0) A0c)) A0c)) (A1n _))
    (A0f (B7h C5l T.eA rfl T.di rfl (A0a A2n A0c)))
    A0u)
   (A0d (A1b (i:=2) A3a.nd rfl (Or.inl rfl) (A0h G_lengths_of (hr.mono (by omega)) rfl T.bO T.aR.kp T.bC .nil A0s (A0a (pv 0) A0c)))
   (A0f (A2w PassesOwn.leaving rfl (A2d (A1q (pv 0) rfl)) (A8a (n:=2) rfl (A1l (A0p (i:=3) A3a.nd rfl (Or.inl rfl) (Or.inl rfl)) (A1l (A0p (i:=4) A3a.nd rfl (Or.inl rfl) (Or.inl rfl)) A5d)))
    (A0f (A1w (A1d C1t (A0o A0w (by rfl) T.aI Z0r (A0a (A2g hu (pv 1) (pv 3) (λ_ _=>rfl)) A0c)) (A0o A0w (by rfl) T.aI Z0r (A0a (A0h G_cells_along (hr.mono (by omega)) rfl T.be T.aM.kp T.bf .nil A0s (A0a (pv 4) (A0a (pv 2) A0c))) A0c)) (A1n _))
     (A0f (B7h C5l T.eA rfl T.di rfl (A0a (C8f (C5v (C8u (pv 3) (C5v D0u)))) A0c)))
     A0u)))))),?_⟩
  refine ⟨_,rfl,d,tk.map (·.1),rfl,.inr ⟨tk,.inl hd,by omega,rfl⟩,λp1 hp1=> ?_⟩;rw [A6j tka];have s1:A0r H (upd H p1 (B8w P w p1 (A5v (A2v ((ts.map (·.1)).map Sum.inr))) (A2v ((ts.map (·.1)).map Sum.inr)).length)):=A0g hp1;have h1:upd H p1 (B8w P w p1 (A5v (A2v ((ts.map (·.1)).map Sum.inr))) (A2v ((ts.map (·.1)).map Sum.inr)).length) p1=some (B8w P w p1 (A5v (A2v ((ts.map (·.1)).map Sum.inr))) (A2v ((ts.map (·.1)).map Sum.inr)).length):=A0b;refine ⟨_,rfl,p,wh,ax,tb,ls,os,rfl,pr.same s1,by omega,λq H2 hq s2 hq2=> ?_⟩;have ek:(tb.map (·.1)).map V.str=((tb.map (·.1)).map (Sum.inr:Str->Key)).map kV:=by rw [List.map_map,List.map_map,List.map_map];rfl
  rw [ek] at hq2;refine ⟨q,(tb.map (·.1)).map Sum.inr,rfl,.inl ⟨SqL.of hq2,by rw [Z08,Z08];omega⟩,λp2 hp2=> ?_⟩;have s3:A0r H2 (upd H2 p2 (B8w P w p2 (A5v (A2v ((tb.map (·.1)).map Sum.inr))) (A2v ((tb.map (·.1)).map Sum.inr)).length)):=A0g hp2;have ks:=C1i nds ndt;have s03:=s1.trans (s2.trans s3);by_cases hk:B4y tb ts
  ·refine ⟨p1,p2,_,_,_,_,true,rfl,rfl,s3 _ _ (s2 _ _ h1),A0b,⟨λ_=>ks.mpr hk,λ_=>rfl⟩,_,rfl,A5c ?_⟩;refine ⟨_,rfl,p,wh,ax,tb,ls,os,rfl,pr.same s03,ndx,λld hld=> ?_⟩;have s4:=s03.trans (A0g (o:= .dK (A1a ax)) hld);have hld4:upd (upd H2 p2 (B8w P w p2 (A5v (A2v ((tb.map (·.1)).map Sum.inr))) (A2v ((tb.map (·.1)).map Sum.inr)).length)) ld (.dK (A1a ax)) ld=some (.dK (A1a ax)):=A0b;obtain ⟨dx,a,tt,l,o,e,ra,rt,hl,ho⟩:=(pr.same s4).ob;obtain ⟨t2,xs,et,hx,rs⟩:=A5a (show Rep _ (.ref tt) (.list (tb.map B4k)) from rt);cases et;have lxs:xs.length=tb.length:=by have:=rs.len;rw [Z08] at this;exact this
   refine ⟨_,rfl,p,_,dx,_,.ref tt,rfl,e,T.am,T.aC,(by walk_at "lk"),tt,rfl,⟨_,SqL.of hx⟩,?_⟩;refine A3v (K:=K) (a:=tt) (xs:=xs) (λi σ H5=>∃(o3 o4:Option V),σ=[some (.ref p),some (.ref d),some (.ref ld),o3,o4]/\A0r (upd (upd H2 p2 (B8w P w p2 (A5v (A2v ((tb.map (·.1)).map Sum.inr))) (A2v ((tb.map (·.1)).map Sum.inr)).length)) ld (.dK (A1a ax))) H5/\∀(j:Nat) (e:Str×List Str) (ls ns:List Int),j<i->tb[j]? =some e->szs[j]? =some ls->(e.1,ns)∈ts->ns.length=(A0n ls).length) ⟨none,none,rfl,A0r.refl _,by intro j _ _ _ h;omega⟩ (λi σ H5 _ ⟨_,_,_,s5,_⟩=>SqL.of (s5 _ _ hx)) ?_ ?_
   ·rintro i x σ H5 hi ⟨o3,o4,rfl,s5,gd⟩;obtain ⟨en,he,rx⟩:=B5e rs hi;obtain ⟨b,c,rfl,eb,ec⟩:=C8v rx;obtain ⟨lsz,hsz,sz,good⟩:=B0v sza he;have s05:=s4.trans s5;have hem:=Z13 he;obtain ⟨okx,lx⟩:=okn en hem;obtain ⟨tb',ns,hv,hb,mem⟩:=C5e tka ((hk en.1).mpr (Z2c.mpr ⟨en,hem,rfl⟩));have g:A7i H5 d (.str en.1) (some (.ref tb')):= .inl ⟨tk,Sum.inr en.1,.inl (s05 _ _ hd),rfl,hv.symm⟩;refine ⟨b,_,rfl,SqT.of (s5 _ _ eb),rfl,_,_,rfl,_,_,rfl,rfl,?_⟩;refine ⟨_,rfl,_,rfl,d,_,rfl,g,tb',_,rfl,.inl (SqL.of (s05 _ _ hb)),_,rfl,_,rfl,c,ld,en.2,A1a ax,lsz,rfl,s5 _ _ ec,s5 _ _ hld4,sz,good,λq H6 hq s6 ct=> ?_⟩;obtain ⟨ps,hq6,tp⟩:=ct.ex;have lps:=tp.len;refine ⟨q,_,rfl,.inl (SqL.of hq6),rfl,_,rfl,D0s (λhne=> ?_) (λheq=> ?_)⟩
    ·have hne:¬ns.length=(A0n lsz).length:=λz=>hne (by rw [Z08,Z08,z,<-lps]);refine ⟨A1h ?_,_,rfl,en.1,rfl,okx,A1h ?_,λz hz=>⟨A1h ?_,A1h ?_,A1h (by show 1<=1000000;decide),ke (λg=>hne (g.2 i en lsz ns he hsz mem)) _ (s05.trans s6)⟩⟩
     ·decide +kernel
     ·have:("the table ":Str).length<=20:=by decide +kernel
      rw [C7w,C8e];omega
     ·have:("the table ":Str).length<=20:=by decide +kernel
      have:(" has another number of cells":Str).length<=40:=by decide +kernel
      rw [C7w,C7w,C7w,C8e];omega
     ·have:("the table ":Str).length<=20:=by decide +kernel
      have:(" has another number of cells":Str).length<=40:=by decide +kernel
      rw [C7w,C7w,C7w,C8e];omega
    ·have heq:=V.int.inj heq;have len:ns.length=(A0n lsz).length:=by rw [Z08,Z08] at heq;omega
     refine ⟨_,_,rfl,s5.trans s6,λj e' ls' ns' hj h1 h2 h3=> ?_⟩;rcases Nat.lt_or_ge j i with h | h
     ·exact gd j e' ls' ns' h h1 h2 h3
     ·have:j=i:=by omega
      subst this;rw [he] at h1;cases h1;rw [hsz] at h2;cases h2;rw [<-len,B6x nds h3 mem]
   ·rintro σ H5 ⟨o3,o4,rfl,s5,gd⟩;exact kq hk (λj e ls ns h1 h2 h3=>gd j e ls ns (by rw [lxs];exact (Z03.mp h1).1) h1 h2 h3) _ (s4.trans s5)
  ·refine ⟨p1,p2,_,_,_,_,false,rfl,rfl,s3 _ _ (s2 _ _ h1),A0b,⟨λz=>(by cases z),λz=>absurd (ks.mp z) hk⟩,_,rfl,B9u ?_⟩;exact ⟨A1h (by show 1<=1000000;decide),ke (λz=>hk z.1) _ s03⟩
end
theorem A8f.ne {xs ys:List Int} (h:A8f xs ys):xs≠ys:=λz=>by
 subst z;obtain ⟨j,x,y,h1,h2,h3,_⟩:=h;rw [h1] at h2;cases h2;omega
theorem A6m (ls:List Int):(A0n ls).Nodup:=(B4b ls).imp λh=>h.ne
abbrev TD:=(Str×List Str)×List Int×List Int
def A5b (wh:Int) (e:TD):Str×List (List Int×Int):=(e.1.1,(A0n e.2.1).zip (e.2.2.map (· %wh)))
abbrev TbX (H:Hp) (ax:List (Str×Int)) (tk:List (Key×V)) (td:List TD):Prop:=Paired (λ(p:Key×V) (e:TD)=>p.1=Sum.inr e.1.1/\∃b:Addr,p.2= .ref b/\H b=some (.lst (e.2.2.map V.int))/\Sz (A1a ax) e.1.2 e.2.1/\A7d e.2.1/\e.2.2.length=(A0n e.2.1).length) tk td
theorem TbX.same {H H':Hp} {ax:List (Str×Int)} {tk:List (Key×V)} {td:List TD} (h:TbX H ax tk td) (s:A0r H H'):TbX H' ax tk td :=
 Paired.mapP h λ_ _ ⟨e1,b,e2,hb,r⟩=>⟨e1,b,e2,s _ _ hb,r⟩
theorem TbX.ok {H:Hp} {ax:List (Str×Int)}:∀{tk:List (Key×V)} {td:List TD},TbX H ax tk td->D2a H ax tk (td.map (·.1))
 | _,_,.nil=> .nil
 | _,_,.cons ⟨e1,b,e2,hb,sz,g,l⟩ t=> .cons ⟨e1,b,_,_,e2,hb,sz,g,l⟩ (TbX.ok t)
def D2h (A:Adr):Sp:=λvs H Q _=>∃(p d wo dx l nn:Addr) (wh:Int) (ax:List (Str×Int)) (td:List TD) (ls:List V) (os:List Str) (tk:List (Key×V)),vs=[.ref p,.ref d,.ref wo]/\C2n A H p wh ax (td.map (·.1)) ls os/\((td.map (·.1)).map (·.1)).Nodup/\td.length<=6/\H d=some (.dK tk)/\d≠nn/\TbX H ax tk td/\
 H wo=some (.ins A.aa dx [("wheel",.int wh),("lengths",.ref l),("numbers",.ref nn)])/\H l=some (.dK (A1a ax))/\l≠nn/\H nn=some (.dK [])/\0<wh/\
 ∀(M:List Addr) (nk:List (Key×V)) (H':Hp),H' nn=some (.dK nk)->AD M H' nk (td.map (A5b wh))->(nk.map (·.2)).Nodup->KB nn H H'->(∀b∈M,H b=none/\∃kvs,H' b=some (.dT kvs))->Q .non H'
section
variable {P:Program} {w:World} {K:PySem.W.Frag} {mg:Str->Option Value} {base:Heap} {t:Adr}
theorem A7a (T:Txt K mg t):A1m P w K mg base CX0 4 t.bM t.bD ["program","tables","world"] (D2h t):=by
 have G_cells_along:=A4d (P:=P) (w:=w) (base:=base) T;have G_GrowingWorld_put:=A3n (P:=P) (w:=w) (base:=base) T;refine T.bP.ok A2p (λvs H Q E h=> ?_) (λcdv A outer s H vs Q E hr h=> ?_)
 ·obtain ⟨p,d,wo,dx,l,nn,wh,ax,td,ls,os,tk,rfl,_⟩:=h;rfl
 ·obtain ⟨p,d,wo,dx,l,nn,wh,ax,td,ls,os,tk,rfl,pr,ndt,l6,hd,dn,ok,hw,hl,ln,hn,wh0,k⟩:=h;have hu:=A7u hr;obtain ⟨dp,a,tt,ll,o,e,ra,rt,_,_⟩:=pr.ob;obtain ⟨t2,xs,et,hx,rs⟩:=A5a (show Rep H (.ref tt) (.list ((td.map (·.1)).map B4k)) from rt);cases et;have nk':∀{b:Addr} {u:HO},H b=some u->(∀kvs,u≠.dK kvs)->b≠nn:=λe n=>A0z e hn (n _);have wn:=nk' hw (by intro y z;cases z)
  refine ⟨_,(A0f (A2w PassesOwn.never rfl (A2d (A1q (pv 0) rfl)) (A8a (n:=2) rfl (A1l (A0p (i:=3) A2p.nd rfl (Or.inl rfl) (Or.inl rfl)) (A1l (A0p (i:=4) A2p.nd rfl (Or.inl rfl) (Or.inl rfl)) A5d)))
    (A0f (A2w PassesOwn.never rfl (B7n rfl T.fG (A0a (A0h G_cells_along (hr.mono (by omega)) rfl T.be T.aM.kp T.bf .nil A0s (A0a (pv 4) (A0a (A1q (pv 2) rfl) A0c))) (A0a (A2g hu (pv 1) (pv 3) (λ_ _=>rfl)) A0c))) (A8a (n:=2) rfl (A1l (A0p (i:=5) A2p.nd rfl (Or.inl rfl) (Or.inl rfl)) (A1l (A0p (i:=6) A2p.nd rfl (Or.inl rfl) (Or.inl rfl)) A5d)))
     (A0f (A2f (B5m (pv 2) T.ac T.aQ G_GrowingWorld_put (hr.mono (by omega)) T.aZ .nil A0s (A0a (pv 3) (A0a (pv 5) (A0a (A0v A1e (pv 6) (A1q (pv 2) rfl)) A0c)))))))))),?_⟩
  refine ⟨_,rfl,p,_,dp,_,.ref tt,rfl,e,T.am,T.aC,(by walk_at "lk"),tt,rfl,⟨_,SqL.of hx⟩,?_⟩
  refine A3v (K:=K) (a:=tt) (xs:=xs) (λi σ H5=>∃(o3 o4 o5 o6:Option V) (M:List Addr) (nk:List (Key×V)),σ=[some (.ref p),some (.ref d),some (.ref wo),o3,o4,o5,o6]/\KB nn H H5/\H5 nn=some (.dK nk)/\AD M H5 nk ((td.take i).map (A5b wh))/\(nk.map (·.2)).Nodup/\∀b∈M,H b=none/\∃kvs,H5 b=some (.dT kvs))
   ⟨none,none,none,none,[],[],rfl,KB.refl,hn,.nil,List.Pairwise.nil,(by intro b hb;cases hb)⟩ (λi σ H5 _ ⟨_,_,_,_,_,_,_,kb,_⟩=>SqL.of (kb _ _ (nk' hx (by intro y z;cases z)) hx)) ?_ ?_
  ·rintro i x σ H5 hi ⟨o3,o4,o5,o6,M,nk,rfl,kb,hn5,ad,nd,dm⟩;obtain ⟨en,he,rx⟩:=B5e rs hi;rw [Z1z] at he;obtain ⟨te,hte,rfl⟩:=Z0i.mp he;obtain ⟨b,c,rfl,eb,ec⟩:=C8v rx;obtain ⟨⟨k',v⟩,hkv,ek,tb',ev,hb,sz,good,len⟩:=A4l ok hte;have ek:k'=Sum.inr te.1.1:=ek;have ev:v= .ref tb':=ev;subst ek ev;have up:∀{b:Addr} {u:HO},b≠nn->H b=some u->H5 b=some u:=λn y=>kb _ _ n y;have g:A7i H5 d (.str te.1.1) (some (.ref tb')):= .inl ⟨tk,Sum.inr te.1.1,.inl (up dn hd),rfl,(A4a (B7b ok.ok ndt) hkv).symm⟩;refine ⟨b,_,rfl,SqT.of (up (nk' eb (by intro y z;cases z)) eb),rfl,_,_,rfl,_,_,rfl,rfl,?_⟩;refine ⟨_,rfl,_,rfl,wo,_,dx,_,.ref l,rfl,up wn hw,T.ac,T.av,(by walk_at "lk"),c,l,te.1.2,A1a ax,te.2.1,rfl,up (nk' ec (by intro y z;cases z)) ec,up ln hl,sz,good,λq H6 hq s6 ct=> ?_⟩;obtain ⟨ps,hq6,tp⟩:=ct.ex;have lps:=tp.len;have g6:A7i H6 d (.str te.1.1) (some (.ref tb')):= .inl ⟨tk,Sum.inr te.1.1,.inl (s6 _ _ (up dn hd)),rfl,(A4a (B7b ok.ok ndt) hkv).symm⟩;have hb6:=s6 _ _ (up (nk' hb (by intro y z;cases z)) hb);have kb6:KB nn H H6:=λb u n y=>s6 _ _ (up n y);have hn6:=s6 _ _ hn5;have qn:q≠nn:=A0z hq6 hn6 (by intro z;cases z);have bn:tb'≠nn:=A0z hb6 hn6 (by intro z;cases z);have lz:((A0n te.2.1).zip (te.2.2.map (· %wh))).length=(A0n te.2.1).length:=by rw [List.length_zip,Z08];omega
   have lc:=(A1f te.2.1 λn hn=>(good.pos n hn).1);have lm:=good.most;refine ⟨_,rfl,_,rfl,d,_,rfl,g6,q,tb',_,_,rfl,SqL.of hq6,SqL.of hb6,?_⟩
   refine B6r (K:=K) (a:=q) (b:=tb') (xs:=ps.map V.ref) (ys:=te.2.2.map V.int) (λj σ H7=>∃(o5 o6:Option V) (M:List Addr) (nk:List (Key×V)),σ=[some (.ref p),some (.ref d),some (.ref wo),some (.str te.1.1),some (.ref c),o5,o6]/\(∀b u,b≠nn->(∀kvs,u≠.dT kvs)->H6 b=some u->H7 b=some u)/\KB nn H H7/\H7 nn=some (.dK nk)/\AD M H7 nk (A4c ((td.take i).map (A5b wh)) te.1.1 (((A0n te.2.1).zip (te.2.2.map (· %wh))).take j))/\(nk.map (·.2)).Nodup/\∀b∈M,H b=none/\∃kvs,H7 b=some (.dT kvs))
    ⟨o5,o6,M,nk,rfl,λb u _ _ y=>y,kb6,hn6,?_,nd,λb hb=>⟨(dm b hb).1,let ⟨kvs,e⟩:=(dm b hb).2;⟨kvs,s6 _ _ e⟩⟩⟩ (λj σ H7 ⟨_,_,_,_,_,kx,_⟩=>⟨SqL.of (kx _ _ qn (by intro y z;cases z) hq6),SqL.of (kx _ _ bn (by intro y z;cases z) hb6)⟩) (by rw [Z08,Z08];omega) ?_ ?_
   ·unfold A4c;rw [List.take_zero,Z12 rfl,Z0u];exact ad.imp λb kvs m y=>⟨m,s6 _ _ y⟩
   ·rintro j x y σ H7 pq hx hy ⟨o5,o6,M,nk,rfl,kx,kb7,hn7,ad7,nd7,dm7⟩ hpq;obtain ⟨pa,hpa,rfl⟩:=A2o hx;obtain ⟨num,hnum,rfl⟩:=A2o hy;obtain ⟨ce,hce,hcp⟩:=tp.get hpa;have sq:A0r H7 (upd H7 pq (.tup [.ref pa,.int num])):=A0g hpq;have hqq:upd H7 pq (.tup [.ref pa,.int num]) pq=some (.tup [.ref pa,.int num]):=A0b;generalize upd H7 pq (.tup [.ref pa,.int num])=H8 at sq hqq;have hw8:=sq _ _ (kb7 _ _ wn hw);have hcp8:=sq _ _ (kx _ _ (A0z hcp hn6 (by intro z;cases z)) (by intro y z;cases z) hcp);have zj:((A0n te.2.1).zip (te.2.2.map (· %wh)))[j]? =some (ce,num%wh):=List.getElem?_zip_eq_some.mpr ⟨hce,by rw [Z1z,hnum];rfl⟩;have hn8:=sq _ _ hn7;have ad8:AD M H8 nk (A4c ((td.take i).map (A5b wh)) te.1.1 (((A0n te.2.1).zip (te.2.2.map (· %wh))).take j)):=ad7.imp λb kvs m y=>⟨m,sq _ _ y⟩
    have na:te.1.1∉((td.take i).map (A5b wh)).map (·.1):=λm=>by
     obtain ⟨e1,he1,z1⟩:=Z2c.mp m;obtain ⟨e2,he2,rfl⟩:=Z2c.mp he1;obtain ⟨m',hm'⟩:=List.getElem?_of_mem he2
     have hlt:m'<i:=by
      have:=(Z03.mp hm').1;rw [Z0x] at this;omega
     rw [List.getElem?_take,Z12 hlt] at hm';have z1:e2.1.1=te.1.1:=z1;have a1:((td.map (·.1)).map (·.1))[m']? =some te.1.1:=by rw [Z1z,Z1z,hm',Option.map_some,Option.map_some,z1]
     have a2:((td.map (·.1)).map (·.1))[i]? =some te.1.1:=by rw [Z1z,Z1z,hte];rfl
     have:=(List.getElem?_inj (Z03.mp a1).1 ndt).mp (a1.trans a2.symm);omega
    have nc:ce∉(((A0n te.2.1).zip (te.2.2.map (· %wh))).take j).map (·.1):=λm=>by
     obtain ⟨e1,he1,z1⟩:=Z2c.mp m;obtain ⟨m',hm'⟩:=List.getElem?_of_mem he1
     have hlt:m'<j:=by
      have:=(Z03.mp hm').1;rw [Z0x] at this;omega
     rw [List.getElem?_take,Z12 hlt] at hm';have a1:=(List.getElem?_zip_eq_some.mp hm').1;rw [z1] at a1;have:=(List.getElem?_inj (Z03.mp a1).1 (A6m _)).mp (a1.trans hce.symm);omega
    have lt1:(((A0n te.2.1).zip (te.2.2.map (· %wh))).take j).length<=100000:=by
     rw [Z0x,lz];have h1:=lc.1;omega
    refine ⟨pq,_,rfl,SqT.of hqq,rfl,_,_,rfl,_,_,rfl,rfl,?_⟩;refine ⟨_,rfl,wo,dx,_,rfl,hw8,(by walk_at "lk"),_,rfl,_,rfl,_,rfl,_,rfl,wo,_,dx,_,_,rfl,hw8,T.ac,T.ao,(by walk_at "lk"),_,_,rfl,rfl,wh0,wo,dx,l,nn,pa,M,wh,nk,(td.take i).map (A5b wh),te.1.1,_,ce,num%wh,rfl,hw8,hn8,ad8,by rw [Z08,Z0x];omega,na,hcp8,nc,lt1,nd7,λb hb=>let ⟨kvs,e⟩:=(dm7 b hb).2;⟨kvs,sq _ _ e⟩,λM' nk2 H9 hn9 ad9 fr9 sub9 nd9 dm9=> ?_⟩;refine ⟨_,_,M',nk2,rfl,λb u n1 n2 y=> ?_,λb u n1 y=> ?_,hn9,?_,nd9,λb hb=>⟨?_,dm9 b hb⟩⟩
    ·have y7:=kx _ _ n1 n2 y;exact fr9 _ _ n1 (λm=>by obtain ⟨kvs,e⟩:=(dm7 b m).2;rw [y7] at e;exact n2 kvs (Z1a e)) (sq _ _ y7)
    ·exact fr9 _ _ n1 (λm=>by have:=(dm7 b m).1;rw [y] at this;cases this) (sq _ _ (kb7 _ _ n1 y))
    ·rw [Z14,zj,Option.toList_some];exact ad9
    ·rcases sub9 b hb with m | m
     ·exact (dm7 b m).1
     ·exact kb7.free hn7 (sq.free m)
   ·rintro σ H7 ⟨o5,o6,M,nk,rfl,kx,kb7,hn7,ad7,nd7,dm7⟩;rw [Z08,lps,<-lz,Z18] at ad7
    have hne:(A0n te.2.1).zip (te.2.2.map (· %wh))≠[]:=λz=>by
     have:=congrArg List.length z;rw [lz] at this;simp at this;have h2:=lc.2;have h1:=lc.1;rw [this] at h1;simp at h1;omega
    unfold A4c at ad7;rw [Z0t hne] at ad7;refine ⟨_,_,_,_,M,nk,rfl,kb7,hn7,?_,nd7,dm7⟩;rw [Z14,hte,Option.toList_some,Z0s];exact ad7
  ·rintro σ H5 ⟨o3,o4,o5,o6,M,nk,rfl,kb,hn5,ad,nd,dm⟩;have lx:xs.length=td.length:=by have:=rs.len;rw [Z08,Z08] at this;exact this
   rw [lx,Z18] at ad;exact k M nk H5 hn5 ad nd kb dm
end
abbrev NS:=List (Str×List (List Int×Int))
def A7r (cs:List (List Int×Int)) (c:List Int):Option Int:=(cs.find? λe=>decide (e.1=c)).map (·.2)
def A8l (ns:NS) (a:Str) (c:List Int):Option Int:=(ns.find? λe=>decide (e.1=a)).bind λe=>A7r e.2 c
theorem B4c:∀{cs:List (List Int×Int)} {c:List Int} {v:Int},A7r cs c=some v->A3q (cD cs) (c.map Sum.inl)=some (.int v)
 | [],_,_,h=>by simp [A7r] at h
 | e::cs,c,v,h=>by
  unfold A7r at h;rw [List.find?_cons] at h;by_cases he:e.1=c
  ·rw [Z20 he] at h;have hv:e.2=v:=by simpa using h
   rw [<-hv,<-he];exact A2z rfl
  ·rw [Z1j he] at h;show A3q ((e.1.map Sum.inl,V.int e.2)::cD cs) _=_;rw [A3b (λz=>he (B4n z))];exact B4c h
theorem C2k {M:List Addr} {H:Hp} {a:Str} {c:List Int} {v:Int}:∀{nk:List (Key×V)} {ns:NS},AD M H nk ns->A8l ns a c=some v->∃p cs,A3q nk (Sum.inr a)=some (.ref p)/\H p=some (.dT cs)/\A3q cs (c.map Sum.inl)=some (.int v)
 | _,_,.nil,h=>by simp [A8l] at h
 | _,_,@Paired.cons _ _ _ p e _ _ ⟨ek,b,eb,_,hb⟩ t,h=>by
  unfold A8l at h;rw [List.find?_cons] at h;by_cases he:e.1=a
  ·rw [Z20 he] at h;have h:A7r e.2 c=some v:=by simpa using h
   exact ⟨b,_,by rw [A2z (by rw [ek,he]),eb],hb,B4c h⟩
  ·rw [Z1j he] at h;obtain ⟨q,cs,h1,h2,h3⟩:=C2k t h;exact ⟨q,cs,by rw [A3b (λz=>he (by rw [ek] at z;injection z))];exact h1,h2,h3⟩
def B1f (ys:List Str) (c:List Int):List (Key×V):=A3f [] ((ys.map (Sum.inr:Str->Key)).zip (c.map V.int))
def C2y (len:Str->Int) (wh:Int) (u:Tm) (ys:List Str) (ms:NS) (x:Str) (cs:List (List Int×Int)) (c:List Int):List (List Int×Int) :=
 cs++[(c,wo len (λa d=>(A8l (A4c ms x cs) a d).getD 0) wh u (ai (B1f ys c)))]
def B1s (len:Str->Int) (wh:Int) (u:Tm) (ys:List Str) (ms:NS) (x:Str) (cells:List (List Int)):List (List Int×Int):=cells.foldl (C2y len wh u ys ms x) []
theorem A9b {len:Str->Int} {wh:Int} {u:Tm} {ys:List Str} {ms:NS} {x:Str} {cells:List (List Int)} {c:List Int}:B1s len wh u ys ms x (cells++[c])=C2y len wh u ys ms x (B1s len wh u ys ms x cells) c:=by unfold B1s;rw [List.foldl_append];rfl
theorem B7a {len:Str->Int} {wh:Int} {u:Tm} {ys:List Str} {ms:NS} {x:Str} (cells:List (List Int)):∀i,(B1s len wh u ys ms x (cells.take i)).map (·.1)=cells.take i:=by
 intro i
 induction i with
 | zero=>rfl
 | succ i ih =>
  rw [Z14]
  cases h:cells[i]? with
  | none=>simpa using ih
  | some c =>
   rw [Option.toList_some,A9b];unfold C2y;rw [Z0s,ih];rfl
def C2f (len:Str->Int) (wh:Int) (u:Tm) (ys:List Str) (ms:NS) (x:Str) (cells:List (List Int)):Prop:=∀(i:Nat) (c:List Int),cells[i]? =some c->(∀e∈rd len u (ai (B1f ys c)),(A8l (A4c ms x (B1s len wh u ys ms x (cells.take i))) e.1 e.2).isSome=true)/\D3e (B1f ys c) u/\(rd len u (ai (B1f ys c))).length<=100000
def D2o (A:Adr):Sp:=λvs H Q _=>∃(lt dl cx wo dx l nn:Addr) (tv:V) (u:Tm) (x:Str) (ys:List Str) (ls:List Int) (ax:List (Str×Int)) (wh:Int) (M:List Addr) (nk:List (Key×V)) (ms:NS),vs=[.ref lt,.ref wo]/\
 H lt=some (.ins A.aK dl [("name",.str x),("axes",.ref cx),("term",tv)])/\H cx=some (.lst (ys.map V.str))/\Ob A H tv u/\C4e u/\dep u<=6/\(∃AX,Axs AX u/\A8m AX (A1a ax))/\Sz (A1a ax) ys ls/\A7d ls/\C2f (ai (A1a ax)) wh u ys ms x (A0n ls)/\
 H wo=some (.ins A.aa dx [("wheel",.int wh),("lengths",.ref l),("numbers",.ref nn)])/\H l=some (.dK (A1a ax))/\l≠nn/\H nn=some (.dK nk)/\C9j wh/\AD M H nk ms/\ms.length<=100/\x∉ms.map (·.1)/\(nk.map (·.2)).Nodup/\(∀b∈M,∃kvs,H b=some (.dT kvs))/\
 ∀(M':List Addr) (nk':List (Key×V)) (H':Hp),H' nn=some (.dK nk')->AD M' H' nk' (ms++[(x,B1s (ai (A1a ax)) wh u ys ms x (A0n ls))])->(nk'.map (·.2)).Nodup->(∀b o,b≠nn->b∉M->H b=some o->H' b=some o)->(∀b∈M',(b∈M\/H b=none)/\∃kvs,H' b=some (.dT kvs))->Q .non H'
def KX (H H':Hp):Prop:=∀b u,(∀kvs,u≠.dK kvs)->(∀kvs,u≠.dT kvs)->H b=some u->H' b=some u
theorem Ob.kx {A:Adr} {H H':Hp} (f:KX H H') {v:V} {t:Tm} (h:Ob A H v t):Ob A H' v t:=by
 have i:∀{a C d:Addr} {fs:List (Str×V)},H a=some (.ins C d fs)->H' a=some (.ins C d fs):=λe=>f _ _ (by intro y z;cases z) (by intro y z;cases z) e
 induction h with
 | num e=>exact .num (i e)
 | read e r=>exact .read (i e) (r.imp2 (λb ys z=>f _ _ (by intro y z;cases z) (by intro y z;cases z) z) λb ys z=>f _ _ (by intro y z;cases z) (by intro y z;cases z) z)
section
variable {P:Program} {w:World} {K:PySem.W.Frag} {mg:Str->Option Value} {base:Heap} {t:Adr}
theorem B0n (T:Txt K mg t):A1m P w K mg base CX0 11 t.cZ t.de ["let","world"] (D2o t):=by
 have G_cells_along:=A4d (P:=P) (w:=w) (base:=base) T;have G_GrowingWorld_put:=A3n (P:=P) (w:=w) (base:=base) T;have WK:=wok (P:=P) (w:=w) (base:=base) T 6;refine T.dA.ok A7w (λvs H Q E h=> ?_) (λcdv A outer s H vs Q E hr h=> ?_)
 ·obtain ⟨lt,dl,cx,wo,dx,l,nn,tv,u,x,ys,ls,ax,wh,M,nk,ms,rfl,_⟩:=h;rfl
 ·obtain ⟨lt,dl,cx,wo,dx,l,nn,tv,u,x,ys,ls,ax,wh,M,nk,ms,rfl,hlt,hcx,ob,gu,dep6,axs,sz,good,run,hw,hl,ln,hn,whok,ad,lms,nx,nd,dm,k⟩:=h;have lc:=(A1f ls λn hn=>(good.pos n hn).1);have lm:=good.most;have lys:=Paired.length sz;have few:=good.few
  refine ⟨_,(A0f (A2w PassesOwn.never rfl (A2d (A0h G_cells_along (hr.mono (by omega)) rfl T.be T.aM.kp T.bf .nil A0s (A0a (A1q (pv 0) rfl) (A0a (A1q (pv 1) rfl) A0c)))) (A0p (i:=2) A7w.nd rfl (Or.inl rfl) (Or.inl rfl))
    (A0d (A1b (i:=3) A7w.nd rfl (Or.inl rfl) (B8i rfl (by rfl) T.cM (by rfl) T.fG (A0a (A1q (pv 0) rfl) (A0a (pv 2) A0c))))
    (A0f (A2f (B5m (pv 1) T.ac T.aQ G_GrowingWorld_put (hr.mono (by omega)) T.aZ .nil A0s (A0a (A1q (pv 0) rfl) (A0a (pv 2) (A0a (C4u (A1q (pv 0) rfl) (A0a (pv 3) (A0a (pv 1) A0c))) A0c))))))))),?_⟩
  refine ⟨_,rfl,lt,_,dl,_,.ref cx,rfl,hlt,T.b_,T.bW,(by walk_at "lk"),_,rfl,wo,_,dx,_,.ref l,rfl,hw,T.ac,T.av,(by walk_at "lk"),cx,l,ys,A1a ax,ls,rfl,hcx,hl,sz,good,λq H1 hq s1 ct=> ?_⟩;obtain ⟨ps,hq1,tp⟩:=ct.ex;have lps:=tp.len;refine ⟨q,rfl,⟨_,SqL.of hq1⟩,?_⟩
  refine A3v (K:=K) (a:=q) (xs:=ps.map V.ref) (λi σ H2=>∃(o2 o3:Option V) (M2:List Addr) (nk2:List (Key×V)),σ=[some (.ref lt),some (.ref wo),o2,o3]/\KX H1 H2/\(∀b o,b≠nn->b∉M->H b=some o->H2 b=some o)/\H2 nn=some (.dK nk2)/\AD M2 H2 nk2 (A4c ms x (B1s (ai (A1a ax)) wh u ys ms x ((A0n ls).take i)))/\(nk2.map (·.2)).Nodup/\∀b∈M2,(b∈M\/H b=none)/\∃kvs,H2 b=some (.dT kvs))
   ⟨none,none,M,nk,rfl,λb u _ _ y=>y,λb o _ _ y=>s1 _ _ y,s1 _ _ hn,?_,nd,λb hb=>⟨.inl hb,let ⟨kvs,e⟩:=dm b hb;⟨kvs,s1 _ _ e⟩⟩⟩ (λi σ H2 _ ⟨_,_,_,_,_,kx,_⟩=>SqL.of (kx _ _ (by intro y z;cases z) (by intro y z;cases z) hq1)) ?_ ?_
  ·rw [List.take_zero];show AD M H1 nk (A4c ms x []);unfold A4c;rw [Z12 rfl,Z0u];exact ad.imp λb kvs m y=>⟨m,s1 _ _ y⟩
  ·rintro i v σ H2 hi ⟨o2,o3,M2,nk2,rfl,kx,fr,hn2,ad2,nd2,dm2⟩;obtain ⟨pa,hpa,rfl⟩:=A2o hi;obtain ⟨ce,hce,hcp⟩:=tp.get hpa;have nok:∀{b:Addr} {u:HO},(∀kvs,u≠.dK kvs)->(∀kvs,u≠.dT kvs)->H b=some u->H2 b=some u:=λn1 n2 y=>kx _ _ n1 n2 (s1 _ _ y);have hlt2:=nok (by intro y z;cases z) (by intro y z;cases z) hlt;have hcx2:=nok (by intro y z;cases z) (by intro y z;cases z) hcx;have hw2:=nok (by intro y z;cases z) (by intro y z;cases z) hw;have hl2:H2 l=some (.dK (A1a ax)):=fr _ _ ln (λm=>by obtain ⟨kvs,e⟩:=dm l m;rw [hl] at e;cases e) hl;have hcp2:=kx _ _ (by intro y z;cases z) (by intro y z;cases z) hcp;have ob2:Ob t H2 tv u:=(ob.imp s1).kx kx;have ekv:ys.map V.str=(ys.map (Sum.inr:Str->Key)).map kV:=by rw [List.map_map];rfl
   have lce:ce.length=ls.length:=(A5r ls ce (Z13 hce)).1;refine ⟨_,rfl,lt,_,dl,_,.ref cx,rfl,hlt2,T.b_,T.bW,(by walk_at "lk"),_,rfl,cx,pa,ys.map Sum.inr,ce.map V.int,rfl,by rw [<-ekv];exact SqL.of hcx2,SqT.of hcp2,by rw [Z08,Z08];omega,λd hd=> ?_⟩;have s3:A0r H2 (upd H2 d (.dK (A3f [] ((ys.map Sum.inr).zip (ce.map V.int))))):=A0g hd;have hd3:upd H2 d (.dK (A3f [] ((ys.map Sum.inr).zip (ce.map V.int)))) d=some (.dK (B1f ys ce)):=A0b;generalize upd H2 d (.dK (A3f [] ((ys.map Sum.inr).zip (ce.map V.int))))=H3 at s3 hd3;obtain ⟨r1,r2,r3⟩:=run i ce hce
   have lenv:(B1f ys ce).length<=8:=by
    have:=A3i ((ys.map (Sum.inr:Str->Key)).zip (ce.map V.int)) [];unfold B1f;rw [List.length_zip,Z08] at this;simp only [List.length_nil] at this;omega
   have ask:D3s 6 u H3 d l (B1f ys ce) (A1a ax):=⟨gu,dep6,hd3,r2,s3 _ _ hl2,axs,by omega,r3⟩;have W:Wd t H3 wo l wh nk2:=⟨⟨dx,nn,s3 _ _ hw2,s3 _ _ hn2⟩,whok⟩
   have nu:C6r H3 nk2 (λa d=>(A8l (A4c ms x (B1s (ai (A1a ax)) wh u ys ms x ((A0n ls).take i))) a d).getD 0) (rd (ai (A1a ax)) u (ai (B1f ys ce))):=λe he=>by
    obtain ⟨v,hv⟩:=Option.isSome_iff_exists.mp (r1 e he);obtain ⟨p,cs,h1,h2,h3⟩:=C2k ad2 hv;exact ⟨p,cs,h1,s3 _ _ h2,by rw [h3];show _=some (V.int ((A8l _ e.1 e.2).getD 0));rw [hv];rfl⟩
   refine ⟨_,rfl,wo,dx,_,rfl,s3 _ _ hw2,(by walk_at "lk"),_,rfl,lt,_,dl,_,.str x,rfl,s3 _ _ hlt2,T.b_,T.dE,(by walk_at "lk"),_,rfl,_,rfl,lt,_,dl,_,tv,rfl,s3 _ _ hlt2,T.b_,T.dD,(by walk_at "lk"),?_⟩;obtain ⟨a',C',dx',fs',k',f',fd',ps',sp',etv,e',c',m',l',F',hk',b',q'⟩:=WK H3 tv u (ob2.imp s3) dep6;refine ⟨a',C',dx',fs',k',f',fd',ps',sp',etv,e',c',m',l',F',hr.mono (by omega),b',_,rfl,_,rfl,?_⟩;refine q' H3 d wo l (B1f ys ce) (A1a ax) nk2 _ wh _ (A0r.refl _) ask W nu λH4 s4=> ?_;have s24:=s3.trans s4;have hn4:=s24 _ _ hn2;have fst:=B7a (len:=ai (A1a ax)) (wh:=wh) (u:=u) (ys:=ys) (ms:=ms) (x:=x) (A0n ls) i
   have nc:ce∉(B1s (ai (A1a ax)) wh u ys ms x ((A0n ls).take i)).map (·.1):=λm=>by
    rw [fst] at m;obtain ⟨m',hm'⟩:=List.getElem?_of_mem m
    have hlt:m'<i:=by
     have:=(Z03.mp hm').1;rw [Z0x] at this;omega
    rw [List.getElem?_take,Z12 hlt] at hm';have:=(List.getElem?_inj (Z03.mp hm').1 (A6m _)).mp (hm'.trans hce.symm);omega
   have lrun:(B1s (ai (A1a ax)) wh u ys ms x ((A0n ls).take i)).length<=100000:=by
    have:=congrArg List.length fst;rw [Z08,Z0x] at this;have h1:=lc.1;omega
   refine ⟨wo,dx,l,nn,pa,M2,wh,nk2,ms,x,_,ce,_,rfl,s24 _ _ hw2,hn4,ad2.imp λb kvs m y=>⟨m,s24 _ _ y⟩,lms,nx,s24 _ _ hcp2,nc,lrun,nd2,λb hb=>let ⟨kvs,e⟩:=(dm2 b hb).2;⟨kvs,s24 _ _ e⟩,λM' nk3 H5 hn5 ad5 fr5 sub5 nd5 dm5=> ?_⟩;refine ⟨_,_,M',nk3,rfl,λb o n1 n2 y=> ?_,λb o n1 n2 y=> ?_,hn5,?_,nd5,λb hb=>⟨?_,dm5 b hb⟩⟩
   ·have y2:=kx _ _ n1 n2 y;exact fr5 _ _ (A0z (s24 _ _ y2) hn4 (n1 _)) (λm=>by obtain ⟨kvs,e⟩:=(dm2 b m).2;rw [y2] at e;exact n2 kvs (Z1a e)) (s24 _ _ y2)
   ·refine fr5 _ _ n1 (λm=> ?_) (s24 _ _ (fr _ _ n1 n2 y));rcases (dm2 b m).1 with z | z
    ·exact n2 z
    ·rw [y] at z;cases z
   ·rw [Z14,hce,Option.toList_some,A9b];exact ad5
   ·rcases sub5 b hb with m | m
    ·exact (dm2 b m).1
    ·by_cases hm:b∈M
     ·exact .inl hm
     ·refine .inr ?_;have h2:=s24.free m
      cases hb':H b with
      | none=>rfl
      | some o =>
       have bn:b≠nn:=λz=>by rw [z,hn2] at h2;cases h2
       rw [fr _ _ bn hm hb'] at h2;cases h2
  ·rintro σ H2 ⟨o2,o3,M2,nk2,rfl,kx,fr,hn2,ad2,nd2,dm2⟩;rw [Z08,lps,Z18] at ad2
   have hne:B1s (ai (A1a ax)) wh u ys ms x (A0n ls)≠[]:=λz=>by
    have h1:=B7a (len:=ai (A1a ax)) (wh:=wh) (u:=u) (ys:=ys) (ms:=ms) (x:=x) (A0n ls) (A0n ls).length;rw [Z18,z] at h1;have h2:=congrArg List.length h1;simp at h2;have h3:=lc.1;have h4:=lc.2;rw [<-h2] at h3;simp at h3;omega
   unfold A4c at ad2;rw [Z0t hne] at ad2;exact k M2 nk2 H2 hn2 ad2 nd2 fr dm2
end
theorem B7d:∀(ax:List (Str×Int)),C4m (A1a ax) (ax.map (·.2))
 | []=> .nil
 | _::r=> .cons rfl (B7d r)
structure LD where
 x:Str
 ys:List Str
 ls:List Int
 u:Tm
def B2h (A:Adr) (ax:List (Str×Int)) (H:Hp) (v:V) (e:LD):Prop:=∃(lt dl cx:Addr) (tv:V),v= .ref lt/\H lt=some (.ins A.aK dl [("name",.str e.x),("axes",.ref cx),("term",tv)])/\H cx=some (.lst (e.ys.map V.str))/\Ob A H tv e.u/\C4e e.u/\dep e.u<=6/\(∃AX,Axs AX e.u/\A8m AX (A1a ax))/\Sz (A1a ax) e.ys e.ls/\A7d e.ls
theorem B2h.kx {A:Adr} {ax:List (Str×Int)} {H H':Hp} {v:V} {e:LD} (h:B2h A ax H v e) (f:KX H H'):B2h A ax H' v e:=by
 obtain ⟨lt,dl,cx,tv,e1,h1,h2,h3,r⟩:=h;exact ⟨lt,dl,cx,tv,e1,f _ _ (by intro y z;cases z) (by intro y z;cases z) h1,f _ _ (by intro y z;cases z) (by intro y z;cases z) h2,h3.kx f,r⟩
def A3e (len:Str->Int) (wh:Int) (ms:NS) (lds:List LD):NS:=lds.foldl (λms e=>ms++[(e.x,B1s len wh e.u e.ys ms e.x (A0n e.ls))]) ms
theorem A8v {len:Str->Int} {wh:Int} {ms:NS} {lds:List LD} {e:LD}:A3e len wh ms (lds++[e])=A3e len wh ms lds++[(e.x,B1s len wh e.u e.ys (A3e len wh ms lds) e.x (A0n e.ls))]:=by unfold A3e;rw [List.foldl_append];rfl
theorem A5m {len:Str->Int} {wh:Int} {ms:NS} (lds:List LD):∀i,(A3e len wh ms (lds.take i)).map (·.1)=ms.map (·.1)++(lds.take i).map (·.x):=by
 intro i
 induction i with
 | zero=>simp [A3e]
 | succ i ih =>
  rw [Z14]
  cases h:lds[i]? with
  | none=>simpa using ih
  | some c =>
   rw [Option.toList_some,A8v,Z0s,ih,Z0s,Z0z];rfl
def C0b (A:Adr):Sp:=λvs H Q _=>∃(p d:Addr) (wh:Int) (ax:List (Str×Int)) (td:List TD) (lds:List LD) (lv:List V) (os:List Str) (tk:List (Key×V)),vs=[.ref p,.ref d]/\C2n A H p wh ax (td.map (·.1)) lv os/\(ax.map (·.1)).Nodup/\ax.length<=100/\(((td.map (A5b wh)).map (·.1))++lds.map (·.x)).Nodup/\td.length<=6/\lds.length<=50/\H d=some (.dK tk)/\TbX H ax tk td/\(∀e∈td,PyData.strOk e.1.1=true/\e.1.1.length<=100)/\C9j wh/\Paired (B2h A ax H) lv lds/\
 (∀(i:Nat) (e:LD),lds[i]? =some e->C2f (ai (A1a ax)) wh e.u e.ys (A3e (ai (A1a ax)) wh (td.map (A5b wh)) (lds.take i)) e.x (A0n e.ls))/\
 ∀(r:Addr) (rk:List (Key×V)) (H':Hp),H r=none->A0r H H'->H' r=some (.dK rk)->A8x (λb=>H b=none) H' rk (A3e (ai (A1a ax)) wh (td.map (A5b wh)) lds)->Q (.ref r) H'
def B6p (A:Adr):Sp:=λvs H Q E=>∃(p d:Addr) (wh:Int) (ax:List (Str×Int)) (tb:List (Str×List Str)) (ls:List V) (os:List Str) (tk:List (Key×V)) (ts:List (Str×List Int)) (szs:List (List Int)),vs=[.ref p,.ref d]/\C2n A H p wh ax tb ls os/\(ax.map (·.1)).Nodup/\(tb.map (·.1)).Nodup/\tb.length<=6/\H d=some (.dK tk)/\B0x H tk ts/\(ts.map (·.1)).Nodup/\ts.length<=7/\D2c ax tb szs/\(∀e∈tb,PyData.strOk e.1=true/\e.1.length<=100)/\
 ¬(B4y tb ts/\C0m tb szs ts)/\∀H',A0r H H'->E (.ref A.ah) none H'
theorem B6m {H:Hp} {ax:List (Str×Int)}:∀{tk:List (Key×V)} {tb:List (Str×List Str)},D2a H ax tk tb->∃(ts:List (Str×List Int)) (szs:List (List Int)),B0x H tk ts/\D2c ax tb szs/\ts.map (·.1)=tb.map (·.1)/\Paired (λ(e:Str×List Int) (ls:List Int)=>e.2.length=(A0n ls).length) ts szs
 | _,_,.nil=>⟨[],[],.nil,.nil,rfl,.nil⟩
 | _,_,.cons ⟨e1,b,ns,ls,e2,hb,sz,good,len⟩ t=>by
  obtain ⟨ts,szs,h1,h2,h3,h4⟩:=B6m t;exact ⟨(_,ns)::ts,ls::szs,.cons ⟨e1,b,e2,hb⟩ h1,.cons ⟨sz,good⟩ h2,by rw [Z0p,Z0p,h3],.cons len h4⟩
theorem C7r {tb:List (Str×List Str)} {ts:List (Str×List Int)} {szs:List (List Int)} (h3:ts.map (·.1)=tb.map (·.1)) (h4:Paired (λ(e:Str×List Int) (ls:List Int)=>e.2.length=(A0n ls).length) ts szs) (nd:(tb.map (·.1)).Nodup):B4y tb ts/\C0m tb szs ts:=by
 refine ⟨λx=>by rw [h3],λi e ls ns he hl hm=> ?_⟩;have hi:(ts.map (·.1))[i]? =some e.1:=by rw [h3,Z1z,he];rfl
 rw [Z1z] at hi;obtain ⟨e',h5,h6⟩:=Z0i.mp hi;obtain ⟨ls',h7,h8⟩:=B0v h4 h5;rw [hl] at h7;cases h7;have h9:(e.1,e'.2)∈ts:=by rw [<-h6];exact Z13 h5
 rw [B6x (by rw [h3];exact nd) hm h9];exact h8
section
variable {P:Program} {w:World} {K:PySem.W.Frag} {mg:Str->Option Value} {base:Heap} {t:Adr}
theorem B4m (T:Txt K mg t):A1m P w K mg base (CXF P w) 12 t.bt t.bB ["program","tables"] (C0b t):=by
 have G_look_tables:=A5x (P:=P) (w:=w) (base:=base) T;have G_lengths_of:=A4q (P:=P) (w:=w) (base:=base) T;have G_World_init:=A7f (P:=P) (w:=w) (base:=base) T;have G_put_tables:=A7a (P:=P) (w:=w) (base:=base) T;have G_put_let:=B0n (P:=P) (w:=w) (base:=base) T;have G_rows_of:=B0t (P:=P) (w:=w) (base:=base) T;refine T.bx.okF A3k (λvs H Q E h=> ?_) (λcdv A outer s H vs Q E hr h=> ?_)
 ·obtain ⟨p,d,wh,ax,td,lds,lv,os,tk,rfl,_⟩:=h;rfl
 ·obtain ⟨p,d,wh,ax,td,lds,lv,os,tk,rfl,pr,ndx,lax,ndA,l6,l50,hd,ok,okn,whok,lets,run,k⟩:=h
  have ndt:((td.map (·.1)).map (·.1)).Nodup:=by
   have:=(List.pairwise_append.mp ndA).1;rw [List.map_map] at this⊢;exact this
  have wh0:0<wh:=by have:=whok.1;omega
  refine ⟨_,(A0d (A2f (A0h G_look_tables (hr.mono (by omega)) rfl T.cy T.bg.kp T.cw .nil C9t (A0a (pv 0) (A0a (pv 1) A0c))))
   (A0d (A1b (i:=2) A3k.nd rfl (Or.inl rfl) (A7p T.bR G_World_init (hr.mono (by omega)) rfl T.cb T.cU .nil A0s (A0a (A1q (pv 0) rfl) (A0a (A0h G_lengths_of (hr.mono (by omega)) rfl T.bO T.aR.kp T.bC .nil A0s (A0a (pv 0) A0c)) (A0a A3u A0c)))))
   (A0d (A2f (A0h G_put_tables (hr.mono (by omega)) rfl T.cO T.bP.kp T.cR .nil A0s (A0a (pv 0) (A0a (pv 1) (A0a (pv 2) A0c)))))
   (A0d (A2w PassesOwn.leaving rfl (A2d (A1q (pv 0) rfl)) (A0p (i:=3) A3k.nd rfl (Or.inl rfl) (Or.inl rfl))
    (A0f (A2f (A0h G_put_let (hr.mono (by omega)) rfl T.eN T.dA.kp T.eO .nil A0s (A0a (pv 3) (A0a (pv 2) A0c))))))
   (A0f (A0q (A0h G_rows_of (hr.mono (by omega)) rfl T.eP T.dy.kp T.eQ .nil A0s (A0a (pv 2) A0c)))))))),?_⟩
  obtain ⟨ts,szs,tka,sza,hkn,hpl⟩:=B6m ok.ok;have tg:=C7r hkn hpl ndt;have lts:ts.length=td.length:=by have:=congrArg List.length hkn;rw [Z08,Z08,Z08] at this;exact this
  refine ⟨_,rfl,_,rfl,p,d,wh,ax,td.map (·.1),lv,os,tk,ts,szs,rfl,pr,ndx,ndt,by rw [Z08];exact l6,hd,tka,by rw [hkn];exact ndt,by omega,sza,(λe he=>by obtain ⟨e',he',rfl⟩:=Z2c.mp he;exact okn e' he'),λ_ _ H1 s1=> ?_,λz=>absurd tg z⟩;obtain ⟨dp,a,tt,ll,o,e,ra,rt,hll,_⟩:=(pr.same s1).ob;refine ⟨_,rfl,p,_,dp,_,_,rfl,e,T.am,T.bw,(by walk_at "lk"),_,rfl,p,wh,ax,td.map (·.1),lv,os,rfl,pr.same s1,ndx,λl0 hl0 n0 hn0 wo dx hwo hdx hne=> ?_⟩;have t1:A0r H1 (upd H1 l0 (.dK (A1a ax))):=A0g hl0;have t2:A0r H1 (upd (upd H1 l0 (.dK (A1a ax))) n0 (.dK [])):=t1.trans (A0g hn0);have hl0':upd (upd H1 l0 (.dK (A1a ax))) n0 (.dK []) l0=some (.dK (A1a ax)):=(A0g hn0) _ _ A0b;have hn0':upd (upd H1 l0 (.dK (A1a ax))) n0 (.dK []) n0=some (.dK []):=A0b;generalize upd (upd H1 l0 (.dK (A1a ax))) n0 (.dK [])=G at t2 hl0' hn0' hwo hdx;have t3:A0r G (upd (upd G dx (.own wo)) wo (.ins t.aa dx [])):=A0k (A0g hdx) hwo;have ew:upd (upd G dx (.own wo)) wo (.ins t.aa dx []) wo=some (.ins t.aa dx []):=A0b;generalize upd (upd G dx (.own wo)) wo (.ins t.aa dx [])=G2 at t3 ew;refine ⟨wo,dx,l0,n0,wh,A1a ax,_,rfl,ew,t3 _ _ hl0',B7d ax,by unfold A1a;rw [Z08];omega,t3 _ _ hn0',λl nn H2 hl hn ne hw2 hl2 hn2 kb=>⟨rfl,?_⟩⟩;have sG:A0r G H2:=KB.same t3 kb hwo;have s2:A0r H H2:=s1.trans (t2.trans sG);have nnH:H nn=none:=s1.free (t2.free (t3.free hn));have dn:d≠nn:=λz=>by rw [z,nnH] at hd;cases hd
  refine ⟨_,rfl,_,rfl,_,rfl,p,d,wo,dx,l,nn,wh,ax,td,lv,os,tk,rfl,pr.same s2,ndt,l6,s2 _ _ hd,dn,ok.same s2,hw2,hl2,ne.symm,hn2,wh0,λM nk H3 hn3 ad3 nd3 kb3 dm3=> ?_⟩;have kn:∀{b:Addr} {u:HO},H2 b=some u->(∀kvs,u≠.dK kvs)->b≠nn:=λe n=>A0z e hn2 (n _);obtain ⟨dp2,a2,tt2,ll2,o2,e2,_,_,hll2,_⟩:=(pr.same s2).ob;refine ⟨_,rfl,p,_,dp2,_,.ref ll2,rfl,kb3 _ _ (kn e2 (by intro y z;cases z)) e2,T.am,T.bU,(by walk_at "lk"),ll2,rfl,⟨_,SqL.of (kb3 _ _ (kn hll2 (by intro y z;cases z)) hll2)⟩,?_⟩
  refine A3v (K:=K) (a:=ll2) (xs:=lv) (λi σ H4=>∃(o3:Option V) (M:List Addr) (nk:List (Key×V)),σ=[some (.ref p),some (.ref d),some (.ref wo),o3]/\KB nn H2 H4/\H4 nn=some (.dK nk)/\AD M H4 nk (A3e (ai (A1a ax)) wh (td.map (A5b wh)) (lds.take i))/\(nk.map (·.2)).Nodup/\∀b∈M,H2 b=none/\∃kvs,H4 b=some (.dT kvs))
   ⟨none,M,nk,rfl,kb3,hn3,ad3,nd3,dm3⟩ (λi σ H4 _ ⟨_,_,_,_,kb4,_⟩=>SqL.of (kb4 _ _ (kn hll2 (by intro y z;cases z)) hll2)) ?_ ?_
  ·rintro i v σ H4 hv ⟨o3,M,nk,rfl,kb4,hn4,ad4,nd4,dm4⟩;obtain ⟨el,hel,leto⟩:=B0v lets hv;have kx:KX H H4:=λb u n1 n2 y=>kb4 _ _ (kn (s2 _ _ y) n1) (s2 _ _ y);obtain ⟨lt,dl,cx,tv,rfl,hlt,hcx,ob,gu,dp6,axs,sz,good⟩:=leto.kx kx;have names:=A5m (len:=ai (A1a ax)) (wh:=wh) (ms:=td.map (A5b wh)) lds i
   have nx:el.x∉(A3e (ai (A1a ax)) wh (td.map (A5b wh)) (lds.take i)).map (·.1):=by
    rw [names];have h1:List.Sublist (((td.map (A5b wh)).map (·.1))++(lds.take (i+1)).map (·.x)) (((td.map (A5b wh)).map (·.1))++lds.map (·.x)):=(List.Sublist.refl _).append ((List.take_sublist _ _).map _);have h2:=List.Pairwise.sublist h1 ndA;rw [Z14,hel,Option.toList_some,Z0s,<-Z0z] at h2;exact λm=>(List.pairwise_append.mp h2).2.2 el.x m el.x (.head _) rfl
   have lms:(A3e (ai (A1a ax)) wh (td.map (A5b wh)) (lds.take i)).length<=100:=by
    have:=congrArg List.length names;rw [Z08,Z06,Z08,Z08,Z08,Z0x] at this;omega
   refine ⟨_,rfl,_,rfl,lt,dl,cx,wo,dx,l,nn,tv,el.u,el.x,el.ys,el.ls,ax,wh,M,nk,_,rfl,hlt,hcx,ob,gu,dp6,axs,sz,good,run i el hel,kb4 _ _ (kn hw2 (by intro y z;cases z)) hw2,kb4 _ _ ne.symm hl2,ne.symm,hn4,whok,ad4,lms,nx,nd4,λb hb=>(dm4 b hb).2,λM' nk' H5 hn5 ad5 nd5 fr5 sub5=> ?_⟩;refine ⟨_,M',nk',rfl,λb u n1 y=>fr5 _ _ n1 (λm=>by have:=(dm4 b m).1;rw [y] at this;cases this) (kb4 _ _ n1 y),hn5,?_,nd5,λb hb=>⟨?_,(sub5 b hb).2⟩⟩
   ·rw [Z14,hel,Option.toList_some,A8v];exact ad5
   ·rcases (sub5 b hb).1 with m | m
    ·exact (dm4 b m).1
    ·exact kb4.free hn4 m
  ·rintro σ H4 ⟨o3,M,nk,rfl,kb4,hn4,ad4,nd4,dm4⟩;have ll:=Paired.length lets;rw [ll,Z18] at ad4;have names:=A5m (len:=ai (A1a ax)) (wh:=wh) (ms:=td.map (A5b wh)) lds lds.length;rw [Z18] at names
   have lms:(A3e (ai (A1a ax)) wh (td.map (A5b wh)) lds).length<=100:=by
    have:=congrArg List.length names;rw [Z08,Z06,Z08,Z08,Z08] at this;omega
   have s4:A0r H H4:=KB.same s2 kb4 nnH;refine ⟨_,rfl,wo,dx,l,nn,M,wh,nk,_,rfl,kb4 _ _ (kn hw2 (by intro y z;cases z)) hw2,hn4,ad4,by rw [names];exact ndA,lms,λr rk H6 hr0 s6 hr6 rows=> ?_⟩;exact k r rk H6 (s4.free hr0) (s4.trans s6) hr6 (rows.imp λb xs m y=>⟨s4.free m,y⟩)
theorem B5f (T:Txt K mg t):A1m P w K mg base (CXF P w) 12 t.bt t.bB ["program","tables"] (B6p t):=by
 have G_look_tables:=A5x (P:=P) (w:=w) (base:=base) T;have G_lengths_of:=A4q (P:=P) (w:=w) (base:=base) T;have G_World_init:=A7f (P:=P) (w:=w) (base:=base) T;have G_put_tables:=A7a (P:=P) (w:=w) (base:=base) T;have G_put_let:=B0n (P:=P) (w:=w) (base:=base) T;have G_rows_of:=B0t (P:=P) (w:=w) (base:=base) T;refine T.bx.okF A3k (λvs H Q E h=> ?_) (λcdv A outer s H vs Q E hr h=> ?_)
 ·obtain ⟨p,d,wh,ax,tb,ls,os,tk,ts,szs,rfl,_⟩:=h;rfl
 ·obtain ⟨p,d,wh,ax,tb,ls,os,tk,ts,szs,rfl,pr,ndx,ndt,l6,hd,tka,nds,l7,sza,okn,bad,ke⟩:=h
  refine ⟨_,(A0d (A2f (A0h G_look_tables (hr.mono (by omega)) rfl T.cy T.bg.kp T.cw .nil C9t (A0a (pv 0) (A0a (pv 1) A0c))))
   (A0d (A1b (i:=2) A3k.nd rfl (Or.inl rfl) (A7p T.bR G_World_init (hr.mono (by omega)) rfl T.cb T.cU .nil A0s (A0a (A1q (pv 0) rfl) (A0a (A0h G_lengths_of (hr.mono (by omega)) rfl T.bO T.aR.kp T.bC .nil A0s (A0a (pv 0) A0c)) (A0a A3u A0c)))))
   (A0d (A2f (A0h G_put_tables (hr.mono (by omega)) rfl T.cO T.bP.kp T.cR .nil A0s (A0a (pv 0) (A0a (pv 1) (A0a (pv 2) A0c)))))
   (A0d (A2w PassesOwn.leaving rfl (A2d (A1q (pv 0) rfl)) (A0p (i:=3) A3k.nd rfl (Or.inl rfl) (Or.inl rfl))
    (A0f (A2f (A0h G_put_let (hr.mono (by omega)) rfl T.eN T.dA.kp T.eO .nil A0s (A0a (pv 3) (A0a (pv 2) A0c))))))
   (A0f (A0q (A0h G_rows_of (hr.mono (by omega)) rfl T.eP T.dy.kp T.eQ .nil A0s (A0a (pv 2) A0c)))))))),?_⟩
  exact ⟨_,rfl,_,rfl,p,d,wh,ax,tb,ls,os,tk,ts,szs,rfl,pr,ndx,ndt,l6,hd,tka,nds,l7,sza,okn,λa b=>(bad ⟨a,b⟩).elim,λ_=>ke⟩
def C4a (A:Adr):Sp:=λvs H Q E=>C0b A vs H Q E\/B6p A vs H Q E
theorem A7o (T:Txt K mg t):A1m P w K mg base (CXF P w) 12 t.bt t.bB ["program","tables"] (C4a t):=A1m.or (B4m T) (B5f T)
end
def Oth (r:Addr) (H H':Hp):Prop:=∀b,b≠r->H' b=H b
def C8k:Sp:=λvs H Q _=>∃(r:Addr) (ns:List Int),vs=[.ref r]/\H r=some (.lst (ns.map V.int))/\∀(i:Int) (ms:List Int) (H':Hp),ms.length<=ns.length->H' r=some (.lst (ms.map V.int))->Oth r H H'->(ns=[]->H'=H)->Q (.int i) H'
def C1o:Sp:=λvs H Q _=>∃(f d:Addr) (zs:List Int),vs=[.ref f,.ref d]/\H f=some (.lst (zs.map V.int))/\H d=some (.lst (zs.map V.int))/\∀H',A0r H H'->Q (.bl true) H'
section
variable {P:Program} {w:World} {K:PySem.W.Frag} {mg:Str->Option Value} {base:Heap} {t:Adr}
theorem B3r (T:Txt K mg t):A1m P w K mg base CX0 1 t.eF t.dX ["_law_rest"] C8k:=by
 refine T.au.ok B9q (λvs H Q E h=> ?_) (λcdv A outer s H vs Q E hr h=> ?_)
 ·obtain ⟨r,ns,rfl,_⟩:=h;rfl
 ·obtain ⟨r,ns,rfl,hns,k⟩:=h
  refine ⟨_,(A0d (A1w (A1d A8g (A0o A0w (by rfl) T.aI Z0r (A0a (pv 0) A0c)) A0m (A1n _))
    (A0f (A0q A0m))
    A0u)
   (A0f (A0q (A9d Z0k PySem.F.slot_list_pop PySem.F.type_list_pop D1p (pv 0))))),?_⟩
  refine ⟨_,rfl,r,_,rfl,.inl (SqL.of hns),rfl,_,rfl,B8h (λ_=> ?_) (λh=> ?_)⟩
  ·exact k 0 ns H (Z09 _) hns (λ_ _=>rfl) λ_=>rfl
  ·have hpos:0<ns.length:=by
    rcases Nat.eq_zero_or_pos ns.length with z | z
    ·exact absurd (by rw [Z08,z];rfl) h
    ·exact z
   have e:(ns.map V.int)[(ns.map V.int).length-1]? =some (V.int (ns[ns.length-1]'(by omega))):=by
    rw [Z08,Z1z,Z0b (by omega:ns.length-1<ns.length)];rfl
   refine ⟨_,rfl,.inl ⟨rfl,_,SqL.of hns⟩,r,_,_,rfl,rfl,hns,e,k _ ns.dropLast _ (by simp) ?_ (λb hb=>A0e hb) λz=>by rw [z] at hpos;cases hpos⟩;rw [A0b,List.map_dropLast]
theorem C0p (T:Txt K mg t):A1m P w K mg base CX0 1 t.dP t.eE ["_law_found","_law_due"] C1o:=by
 refine T.fg.ok B0b (λvs H Q E h=> ?_) (λcdv A outer s H vs Q E hr h=> ?_)
 ·obtain ⟨f,d,zs,rfl,_⟩:=h;rfl
 ·obtain ⟨f,d,zs,rfl,hf,hd,k⟩:=h
  refine ⟨_,(A0d (A1w (PW.pt (B6h (A9h (A2k (A0o A0x (by rfl) T.ae Z0d (A0a (pv 0) (A0a (A1z (v:=V.ty "list") rfl T.bL Z1o rfl) A0c))))) (B2y (A1d C1t (A0o A0w (by rfl) T.aI Z0r (A0a (pv 0) A0c)) (A0o A0w (by rfl) T.aI Z0r (A0a (pv 1) A0c)) (A1n _)))))
    (A0f (A0q B0j))
    A0u)
   (A0d (A2w PassesOwn.never rfl (B7n rfl T.fG (A0a (pv 0) (A0a (pv 1) A0c))) (A8a (n:=2) rfl (A1l (A0p (i:=2) B0b.nd rfl (Or.inl rfl) (Or.inl rfl)) (A1l (A0p (i:=3) B0b.nd rfl (Or.inl rfl) (Or.inl rfl)) A5d)))
    (A0f (A1w (PW.pt (B6h (A9h (A2k (A0o A0x (by rfl) T.ae Z0d (A0a (pv 2) (A0a (A1z (v:=V.ty "int") rfl T.fW PyProof.Rows.boot_int rfl) A0c))))) (B6h (A2k (A0o A0x (by rfl) T.ae Z0d (A0a (pv 2) (A0a (A1z (v:=V.ty "bool") rfl T.fS PyProof.Rows.boot_bool rfl) A0c)))) (B2y (A1d C1t (pv 2) (pv 3) (A1n _))))))
     (A0f (A0q B0j))
     A0u)))
   (A0f (A0q B0j)))),?_⟩
  refine ⟨_,rfl,_,_,_,_,rfl,.lst hf,A4v "list",true,rfl,A5c ?_⟩;refine ⟨_,rfl,f,_,rfl,.inl (SqL.of hf),_,rfl,d,_,rfl,.inl (SqL.of hd),rfl,_,rfl,C7v rfl ?_⟩;refine ⟨_,rfl,_,rfl,f,d,_,_,rfl,SqL.of hf,SqL.of hd,?_⟩;refine B6r (K:=K) (a:=f) (b:=d) (xs:=zs.map V.int) (ys:=zs.map V.int) (λi σ H2=>∃(o2 o3:Option V),σ=[some (.ref f),some (.ref d),o2,o3]/\A0r H H2) ⟨none,none,rfl,A0r.refl _⟩ (λi σ H2 ⟨_,_,_,s2⟩=>⟨SqL.of (s2 _ _ hf),SqL.of (s2 _ _ hd)⟩) rfl ?_ ?_
  ·rintro i x y σ H2 pq hx hy ⟨o2,o3,rfl,s2⟩ hpq;rw [hx] at hy;cases hy;obtain ⟨z,_,rfl⟩:=A2o hx;refine ⟨pq,_,rfl,SqT.of A0b,rfl,_,_,rfl,_,_,rfl,rfl,?_⟩;refine ⟨_,rfl,_,_,_,_,rfl,.int z,A4v "int",true,rfl,A5c ?_⟩;refine ⟨_,rfl,_,_,_,_,rfl,.int z,B0r (by decide +kernel) (by decide +kernel) (by decide +kernel),false,rfl,A5c ?_⟩;exact ⟨_,rfl,_,rfl,rfl,_,rfl,C7v rfl ⟨_,_,rfl,s2.trans (A0g hpq)⟩⟩
  ·rintro σ H2 ⟨o2,o3,rfl,s2⟩;exact k H2 s2
end
def C7t:Sp:=λvs H Q _=>∃(l d:Addr) (ys:List Str) (lk:List (Key×V)) (ls:List Int),vs=[.ref l,.ref d]/\H l=some (.lst (ys.map V.str))/\H d=some (.dK lk)/\Sz lk ys ls/\(∀n∈ls,1<=n/\n<=60)/\Q (.int (A2j ls)) H
section
variable {P:Program} {w:World} {K:PySem.W.Frag} {mg:Str->Option Value} {base:Heap} {t:Adr}
theorem B3b (T:Txt K mg t):A1m P w K mg base CX0 1 t.dY t.eG ["_law_axes_here","_law_lengths"] C7t:=by
 refine T.cT.ok A6q (λvs H Q E h=> ?_) (λcdv A outer s H vs Q E hr h=> ?_)
 ·obtain ⟨l,d,ys,lk,ls,rfl,_⟩:=h;rfl
 ·obtain ⟨l,d,ys,lk,ls,rfl,hl,hd,sz,bd,k⟩:=h;have hu:=A7u hr;have lls:=Paired.length sz
  refine ⟨_,(A0d (A1b (i:=2) A6q.nd rfl (Or.inl rfl) A0m)
   (A0d (A2w PassesOwn.never rfl (A2d (pv 0)) (A0p (i:=3) A6q.nd rfl (Or.inl rfl) (Or.inl rfl))
    (A0f (A1b (i:=2) A6q.nd rfl (Or.inl rfl) (A0v A9z (pv 2) (A2g hu (pv 1) (pv 3) (λ_ _=>rfl))))))
   (A0f (A0q (pv 2))))),?_⟩
  refine ⟨_,rfl,l,rfl,⟨_,SqL.of hl⟩,?_⟩;refine A3v (K:=K) (a:=l) (xs:=ys.map V.str) (λi σ H2=>∃(o3:Option V),σ=[some (.ref l),some (.ref d),some (.int (A2j (ls.take i))),o3]/\H2=H) ⟨none,rfl,rfl⟩ (λi σ H2 _ ⟨_,_,e⟩=>by rw [e];exact SqL.of hl) ?_ ?_
  ·rintro i v σ H2 hv ⟨o3,rfl,rfl⟩;obtain ⟨y,hy,rfl⟩:=A2o hv;obtain ⟨n,hn,ev⟩:=B0v sz hy;have g:=A7i.k (H:=H2) (a:=d) (k:=Sum.inr y) hd;rw [ev] at g;have b:=bd n (Z13 hn);refine ⟨_,rfl,_,rfl,_,rfl,d,_,rfl,g,_,_,rfl,rfl,.inr ⟨by omega,by omega⟩,?_⟩;refine ⟨some (.str y),?_,rfl⟩
   have e:A2j (ls.take (i+1))=A2j (ls.take i)*n:=by
    unfold A2j;rw [Z14,hn,List.foldl_append];rfl
   rw [e];rfl
  ·rintro σ H2 ⟨o3,rfl,rfl⟩;rw [Z08,lls,Z18];exact ⟨_,rfl,k⟩
end
structure C8q (nm:List Str) (lk:List (Key×V)) (ys:List Str):Prop where
 nd:ys.Nodup
 sub:∀y∈ys,y∈nm
 few:ys.length<=3
 most:A2j (ys.map (ai lk))<=200
theorem B9d {nm:List Str} {lk:List (Key×V)} (h:A8m nm lk):∀{ys:List Str},(∀y∈ys,y∈nm)->Sz lk ys (ys.map (ai lk))
 | [],_=> .nil
 | y::r,s=> .cons (h y (s y (.head _))).1 (B9d h λz hz=>s z (.tail _ hz))
theorem B5x {nm:List Str} {lk:List (Key×V)} (h:A8m nm lk) {ys:List Str} (s:∀y∈ys,y∈nm):∀n∈ys.map (ai lk),1<=n/\n<=60:=λn hn=>by
 obtain ⟨y,hy,rfl⟩:=Z2c.mp hn;exact (h y (s y hy)).2
theorem C8j {m c tn:Int} {i j:Nat} (h:m=1\/m=2\/m=3\/m=4) (ht:tn=1\/tn=m-1) (hi:(i:Int)<m) (hj:(j:Int)<m) (e:(c+(i:Int)*tn)%m=(c+(j:Int)*tn)%m):i=j:=by
 rcases h with rfl | rfl | rfl | rfl <;> rcases ht with rfl | rfl <;> omega
theorem cut1 (f:Str->V) (zs:List Str):C2o (zs.map f) none (some 1)=(zs.take 1).map f:=by
 have e1:HT.sIx (zs.map f).length 0 none=0:=rfl;have e2:HT.sIx (zs.map f).length (zs.map f).length (some 1)=min 1 (zs.map f).length:=HT.sIx_nat _ _ 1;unfold C2o;rw [e1,e2,List.drop_zero,Nat.sub_zero,List.map_take]
 cases zs with
 | nil=>rfl
 | cons a r=>rfl
theorem D0l {zs:List Int} {z:Int}:zs.map V.int++[V.int z]=(zs++[z]).map V.int:=by rw [Z0s];rfl
theorem D0v {zs nm:List Str} {f:Nat->Nat} (nd:nm.Nodup) (h:∀j,j<zs.length->zs[j]? =nm[f j]?) (inj:∀i j,i<zs.length->j<zs.length->f i=f j->i=j):zs.Nodup:=by
 rw [List.nodup_iff_pairwise_ne,List.pairwise_iff_getElem];intro i j hi hj hij e;have h1:=h i hi;have h2:=h j hj;rw [Z0b hi] at h1;rw [Z0b hj] at h2;rw [e] at h1;have hb:f i<nm.length:=(Z03.mp h1.symm).1;have:=(List.getElem?_inj hb nd).mp (h1.symm.trans h2);have:=inj i j hi hj this;omega
def C8g:Sp:=λvs H Q _=>∃(c:Int) (l d:Addr) (nm:List Str) (lk:List (Key×V)),vs=[.int c,.ref l,.ref d]/\H l=some (.lst (nm.map V.str))/\H d=some (.dK lk)/\0<nm.length/\nm.length<=4/\nm.Nodup/\A8m nm lk/\∀(ys:List Str) (p:Addr) (H':Hp),H p=none->A0r H H'->H' p=some (.lst (ys.map V.str))->C8q nm lk ys->Q (.ref p) H'
def B9b:Sp:=λvs H Q _=>∃(r:Addr) (ns:List Int) (n:Int),vs=[.ref r,.int n]/\H r=some (.lst (ns.map V.int))/\0<=n/\n<=200/\∀(zs ms:List Int) (p:Addr) (H':Hp),H p=none->zs.length=n.toNat->ms.length<=ns.length->H' r=some (.lst (ms.map V.int))->KB r H H'->H' p=some (.lst (zs.map V.int))->Q (.ref p) H'
section
variable {P:Program} {w:World} {K:PySem.W.Frag} {mg:Str->Option Value} {base:Heap} {t:Adr}
theorem C0r (T:Txt K mg t):A1m P w K mg base CX0 2 t.em t.dZ ["_law_cell_here","_law_names","_law_lengths"] C8g:=by
 have G_l_many:=B3b (P:=P) (w:=w) (base:=base) T;refine T.dR.ok A5l (λvs H Q E h=> ?_) (λcdv A outer s H vs Q E hr h=> ?_)
 ·obtain ⟨c,l,d,nm,lk,rfl,_⟩:=h;rfl
 ·obtain ⟨c,l,d,nm,lk,rfl,hl,hd,hpos,hfour,nd,lo,k⟩:=h
  refine ⟨_,(A0d (A1b (i:=3) A5l.nd rfl (Or.inr rfl) (A0o A0w (by rfl) T.aI Z0r (A0a (pv 1) A0c)))
   (A0d (A1b (i:=4) A5l.nd rfl (Or.inr rfl) A0m)
   (A3y (A1w (PW.pt (B7t (A1d A8g (A0v A1e (A0v A5i (pv 0) A0m) A0m) A0m (A1n _)) (B1i (A1d C2t (pv 3) A0m (A1n _)))))
    (A0f (A1b (i:=4) A5l.nd rfl (Or.inr rfl) (A0v B4e (pv 3) A0m)))
    A0u)
   (A0d (B6f (i₀:=5) (N':=["_law_j","_law_cell_here","_law_many_here","_law_names","_law_turn"]) (ix:=(List.replicate 1 none++[some 0,some 3,some 1,some 4])) A5l.nd rfl (Or.inl rfl) rfl (A6w (cl:=[("_law_turn",_),("_law_names",_),("_law_many_here",_),("_law_cell_here",_)]) (xs:=["_law_turn","_law_names","_law_many_here","_law_cell_here"]) rfl ⟨rfl,rfl,rfl,rfl,trivial⟩ rfl rfl (by decide +kernel) (by decide +kernel)) (A6p (N0:=["_law_j"]) (xs:=["_law_cell_here","_law_many_here","_law_names","_law_turn"]) (js:=[0,3,1,4]) ⟨⟨rfl,Or.inl rfl,(by first | exact Or.inl rfl | exact Or.inr rfl | (simp [relabel];rfl) | (with_unfolding_all exact Or.inl rfl) | (with_unfolding_all exact Or.inr rfl) | (with_unfolding_all decide))⟩,⟨rfl,Or.inl rfl,(by first | exact Or.inl rfl | exact Or.inr rfl | (simp [relabel];rfl) | (with_unfolding_all exact Or.inl rfl) | (with_unfolding_all exact Or.inr rfl) | (with_unfolding_all decide))⟩,⟨rfl,Or.inl rfl,(by first | exact Or.inl rfl | exact Or.inr rfl | (simp [relabel];rfl) | (with_unfolding_all exact Or.inl rfl) | (with_unfolding_all exact Or.inr rfl) | (with_unfolding_all decide))⟩,⟨rfl,Or.inl rfl,(by first | exact Or.inl rfl | exact Or.inr rfl | (simp [relabel];rfl) | (with_unfolding_all exact Or.inl rfl) | (with_unfolding_all exact Or.inr rfl) | (with_unfolding_all decide))⟩,trivial⟩) (A4e rfl T.cu (A0a (A0o (C1c rfl) (by rfl) T.fV PyProof.Rows.boot_min (A0a (A0v A1e (pv 0) A0m) (A0a (pv 3) A0c))) A0c)) (λ_ _ _ _=>(A0p (i:=0) C2d rfl (Or.inl rfl) (Or.inr rfl))) (λ_ _ _ _=>(A8k (C4p (K:=K) rfl) (pv 3) (A0v A1e (A0v A6y (A0v A5i (pv 1) A0m) (A0v A9z (pv 0) (pv 4))) (pv 2)) (λ_ _=>rfl))))
   (A0d (A1w (A1d C2t (A0h G_l_many (hr.mono (by omega)) rfl T.d_ T.cT.kp T.dU .nil A0s (A0a (pv 5) (A0a (pv 2) A0c))) A0m (A1n _))
    (A0f (A0q (B2l B4o (pv 5) B6e (B4l A0m))))
    A0u)
   (A0f (A0q (pv 5)))))))),?_⟩
  refine ⟨_,rfl,l,_,rfl,.inl (SqL.of hl),?_⟩;rw [Z08];refine ⟨λσ H2=>H=H2/\∃tn:Int,(tn=1\/tn=(nm.length:Int)-1)/\σ=[some (.int c),some (.ref l),some (.ref d),some (.int nm.length),some (.int tn),none],?_,?_⟩
  ·refine ⟨_,rfl,_,_,rfl,rfl,⟨by decide,by decide⟩,_,_,rfl,rfl,(by show (0:Int)<2;decide),rfl,_,rfl,C9i (λ_=> ?_) (λ_=>A5c ⟨rfl,_,.inl rfl,rfl⟩)⟩;refine ⟨_,rfl,_,_,rfl,rfl,_,rfl,B8h (λ_=> ?_) (λ_=>⟨rfl,_,.inl rfl,rfl⟩)⟩;exact ⟨_,rfl,_,_,rfl,rfl,rfl,_,.inr rfl,rfl⟩
  ·rintro σ H2 ⟨rfl,tn,htn,rfl⟩;refine ⟨_,rfl,_,_,rfl,rfl,(by show (0:Int)<4;decide),_,rfl,_,_,rfl,?_⟩;generalize hm:(if (nm.length:Int)<c%4 then (nm.length:Int) else c%4)=m;have hm3:m<=3:=by rw [<-hm];split <;> omega
   have hm0:0<=m:=by rw [<-hm];split <;> omega
   have hmn:m<=nm.length:=by rw [<-hm];split <;> omega
   refine ⟨_,rfl,by omega,by omega,λD hD=> ?_⟩;refine A4h (D:=D) m.toNat (λi ys H3=>A0r H H3/\H3 D=some (.lst ys)/\∃zs:List Str,ys=zs.map V.str/\zs.length=i/\∀j,j<i->zs[j]? =nm[((c/8+(j:Int)*tn)%(nm.length:Int)).toNat]?) ⟨A0g hD,A0b,[],rfl,rfl,by intro j hj;omega⟩ (λi ys H3 hi _=>hi) (λys H3 _=>Z09 _) ?_ ?_
   ·rintro i ys H3 hi ⟨s3,h3,zs,rfl,hz,ez⟩ x H4 ⟨rfl,rfl⟩;rw [Int.zero_add];obtain ⟨x,xm,e⟩:=A9a (f:=V.str) (xs:=nm) (i:=(c/8+(i:Int)*tn)%(nm.length:Int)) (Z1v _ (by omega)) (Z1p _ (by omega));refine ⟨⟨rfl,rfl,rfl,rfl,True.intro⟩,_,rfl,_,rfl,_,_,rfl,rfl,⟨by decide,by decide⟩,_,rfl,_,rfl,_,_,rfl,rfl,.inl ⟨by omega,by omega⟩,_,_,rfl,rfl,_,rfl,_,_,rfl,rfl,(by show (0:Int)<(nm.length:Int);omega),l,_,_,_,rfl,rfl,SqL.of (s3 _ _ hl),e,?_⟩;refine ⟨h3,A0y (by simp;omega),A0k s3 hD,A0b,zs++[x],by simp,by simp [hz],λj hj=> ?_⟩;rcases Nat.lt_or_ge j i with hji | hji
    ·rw [Z26 (by omega)];exact ez j hji
    ·have:j=i:=by omega
     subst this;rw [xm,Z1l (by omega),hz,Nat.sub_self];rfl
   ·rintro ys H3 ⟨s3,h3,zs,rfl,hz,ez⟩
    have zn:zs.Nodup:=D0v (f:=λj=>((c/8+(j:Int)*tn)%(nm.length:Int)).toNat) nd (λj hj=>ez j (by omega)) λi j hi hj e=>by
     have a1:=Z1v (c/8+(i:Int)*tn) (show (nm.length:Int)≠0 by omega);have a2:=Z1v (c/8+(j:Int)*tn) (show (nm.length:Int)≠0 by omega);refine C8j (m:=nm.length) (c:=c/8) (tn:=tn) (by omega) htn (by omega) (by omega) ?_;have e:((c/8+(i:Int)*tn)%(nm.length:Int)).toNat=((c/8+(j:Int)*tn)%(nm.length:Int)).toNat:=e;omega
    have zs':∀y∈zs,y∈nm:=λy hy=>by
     obtain ⟨j,hj⟩:=List.getElem?_of_mem hy;have hl:=(Z03.mp hj).1;rw [ez j (by omega)] at hj;exact Z13 hj
    refine ⟨_,rfl,_,rfl,D,d,zs,lk,zs.map (ai lk),rfl,h3,s3 _ _ hd,B9d lo zs',B5x lo zs',_,_,rfl,rfl,_,rfl,B8h (λhbig=> ?_) (λhsm=> ?_)⟩
    ·refine ⟨_,rfl,_,rfl,D,_,rfl,SqL.of h3,λp hp=> ?_⟩;rw [cut1];refine k (zs.take 1) p _ (s3.free hp) (s3.trans (A0g hp)) A0b ⟨List.Pairwise.sublist (List.take_sublist _ _) zn,λy hy=>zs' y (List.mem_of_mem_take hy),by rw [Z0x];omega,?_⟩
     cases zs with
     | nil=>exact (by decide:(1:Int)<=200)
     | cons a r =>
      show A2j [ai lk a]<=200;have:=(lo a (zs' a (.head _))).2.2;show (1:Int)*ai lk a<=200;omega
    ·exact ⟨_,rfl,k zs D H3 hD s3 h3 ⟨zn,zs',by omega,by omega⟩⟩
theorem C8l:(0:Int)<10^(60:Int).toNat:=by decide +kernel
theorem D2k {i:Nat} (h:i<200): -(2^64)<(i:Int)*(i:Int)/\(i:Int)*(i:Int)<2^64:=by
 have h1:i*i<=200*200:=Nat.mul_le_mul (by omega) (by omega);have h2:(i:Int)*(i:Int)=((i*i:Nat):Int):=by rw [Int.natCast_mul]
 rw [h2];omega
theorem B3c (T:Txt K mg t):A1m P w K mg base CX0 2 t.cm t.c0 ["_law_rest","_law_many_here"] B9b:=by
 have G_l_cell:=B3r (P:=P) (w:=w) (base:=base) T;refine T.dG.ok A5j (λvs H Q E h=> ?_) (λcdv A outer s H vs Q E hr h=> ?_)
 ·obtain ⟨r,ns,n,rfl,_⟩:=h;rfl
 ·obtain ⟨r,ns,n,rfl,hns,n0,n200,k⟩:=h
  refine ⟨_,(A0d (A1b (i:=2) A5j.nd rfl (Or.inr rfl) (A0h G_l_cell (hr.mono (by omega)) rfl T.ay T.au.kp T.aw .nil A0s (A0a (pv 0) A0c)))
   (A0d (A1b (i:=3) A5j.nd rfl (Or.inr rfl) (A0h G_l_cell (hr.mono (by omega)) rfl T.ay T.au.kp T.aw .nil A0s (A0a (pv 0) A0c)))
   (A0d (A1w (A1d A8g (A0v A1e (pv 3) A0m) A0m (A1n _))
    (A0f (A0q (A1y (N':=["_law_k","_law_base","_law_step"]) (ix:=(List.replicate 1 none++[some 2,some 3])) rfl (A6w (cl:=[("_law_step",_),("_law_base",_)]) (xs:=["_law_step","_law_base"]) rfl ⟨rfl,rfl,trivial⟩ rfl rfl (by decide +kernel) (by decide +kernel)) (A6p (N0:=["_law_k"]) (xs:=["_law_base","_law_step"]) (js:=[2,3]) ⟨⟨rfl,Or.inl rfl,(by first | exact Or.inl rfl | exact Or.inr rfl | (simp [relabel];rfl) | (with_unfolding_all exact Or.inl rfl) | (with_unfolding_all exact Or.inr rfl) | (with_unfolding_all decide))⟩,⟨rfl,Or.inl rfl,(by first | exact Or.inl rfl | exact Or.inr rfl | (simp [relabel];rfl) | (with_unfolding_all exact Or.inl rfl) | (with_unfolding_all exact Or.inr rfl) | (with_unfolding_all decide))⟩,trivial⟩) (A4e rfl T.cu (A0a (pv 1) A0c)) (λ_ _ _ _=>(A0p (i:=0) C1l rfl (Or.inl rfl) (Or.inr rfl))) (λ_ _ _ _=>(A0v A1e (A0v A6y (pv 1) (A0v A9z (pv 0) (pv 2))) (A0v A7z A0m A0m))))))
    A0u)
   (A0f (A0q (A1y (N':=["_law_k","_law_base","_law_step"]) (ix:=(List.replicate 1 none++[some 2,some 3])) rfl (A6w (cl:=[("_law_step",_),("_law_base",_)]) (xs:=["_law_step","_law_base"]) rfl ⟨rfl,rfl,trivial⟩ rfl rfl (by decide +kernel) (by decide +kernel)) (A6p (N0:=["_law_k"]) (xs:=["_law_base","_law_step"]) (js:=[2,3]) ⟨⟨rfl,Or.inl rfl,(by first | exact Or.inl rfl | exact Or.inr rfl | (simp [relabel];rfl) | (with_unfolding_all exact Or.inl rfl) | (with_unfolding_all exact Or.inr rfl) | (with_unfolding_all decide))⟩,⟨rfl,Or.inl rfl,(by first | exact Or.inl rfl | exact Or.inr rfl | (simp [relabel];rfl) | (with_unfolding_all exact Or.inl rfl) | (with_unfolding_all exact Or.inr rfl) | (with_unfolding_all decide))⟩,trivial⟩) (A4e rfl T.cu (A0a (pv 1) A0c)) (λ_ _ _ _=>(A0p (i:=0) C2j rfl (Or.inl rfl) (Or.inr rfl))) (λ_ _ _ _=>(A0v B4e (A0v B4e (A0v A7z A0m A0m) A0m) (A0v A1e (A0v A6y (A0v A9z (pv 1) A0m) (A0v A9z (A0v A9z (pv 0) (pv 0)) (pv 2))) (A0v B4e (A0v A9z A0m (A0v A7z A0m A0m)) A0m)))))))))),?_⟩
  refine ⟨_,rfl,r,ns,rfl,hns,λbs m1 H1 l1 h1 o1 _=>⟨_,rfl,r,m1,rfl,h1,λst m2 H2 l2 h2 o2 _=> ?_⟩⟩;have kb:KB r H H2:=λb o hb e=>by rw [o2 b hb,o1 b hb];exact e
  have fin:∀(D:Addr) (H3:Hp) (zs:List Int),H2 D=none->A0r H2 H3->zs.length=n.toNat->H3 D=some (.lst (zs.map V.int))->Q (.ref D) H3:=λD H3 zs hD s3 lz h3=>by
   have nd:r≠D:=A0i h2 hD;exact k zs m2 D H3 (by rw [<-o1 D nd.symm,<-o2 D nd.symm];exact hD) lz (by omega) (s3 _ _ h2) (kb.trans (KB.of s3)) h3
  refine ⟨_,rfl,_,_,rfl,rfl,(by show (0:Int)<2;decide),rfl,_,rfl,C9i (λ_=> ?_) (λ_=> ?_)⟩
  ·refine ⟨_,rfl,_,rfl,by omega,by omega,λD hD=> ?_⟩;refine A4h (D:=D) n.toNat (λi ys H3=>A0r H2 H3/\H3 D=some (.lst ys)/\∃zs:List Int,ys=zs.map V.int/\zs.length=i) ⟨A0g hD,A0b,[],rfl,rfl⟩ (λi ys H3 hi _=>hi) (λys H3 _=>Z09 _) ?_ ?_
   ·rintro i ys H3 hi ⟨s3,h3,zs,rfl,hz⟩ x H4 ⟨rfl,rfl⟩;rw [Int.zero_add];exact ⟨⟨rfl,rfl,True.intro⟩,_,rfl,_,rfl,_,rfl,_,_,rfl,rfl,.inl ⟨by omega,by omega⟩,_,_,rfl,rfl,_,_,rfl,rfl,⟨by decide,by decide,by decide⟩,_,_,rfl,rfl,C8l,h3,A0y (by simp;omega),A0k s3 hD,A0b,_,D0l,by simp [hz]⟩
   ·rintro ys H3 ⟨s3,h3,zs,rfl,hz⟩;exact fin D H3 zs hD s3 hz h3
  ·refine ⟨_,rfl,_,rfl,by omega,by omega,λD hD=> ?_⟩;refine A4h (D:=D) n.toNat (λi ys H3=>A0r H2 H3/\H3 D=some (.lst ys)/\∃zs:List Int,ys=zs.map V.int/\zs.length=i) ⟨A0g hD,A0b,[],rfl,rfl⟩ (λi ys H3 hi _=>hi) (λys H3 _=>Z09 _) ?_ ?_
   ·rintro i ys H3 hi ⟨s3,h3,zs,rfl,hz⟩ x H4 ⟨rfl,rfl⟩;rw [Int.zero_add];exact ⟨⟨rfl,rfl,True.intro⟩,_,_,rfl,rfl,⟨by decide,by decide,by decide⟩,_,_,rfl,rfl,_,rfl,_,_,rfl,rfl,.inr ⟨by decide,by decide⟩,_,rfl,_,rfl,_,_,rfl,rfl,.inl ⟨by omega,by omega⟩,_,rfl,_,_,rfl,rfl,.inl (D2k (by omega)),_,_,rfl,rfl,_,_,rfl,rfl,⟨by decide,by decide,by decide⟩,_,_,rfl,rfl,.inl ⟨by decide,by decide⟩,_,_,rfl,rfl,_,_,rfl,rfl,(by show (0:Int)<2*10^(60:Int).toNat-1;decide +kernel),_,_,rfl,rfl,h3,A0y (by simp;omega),A0k s3 hD,A0b,_,D0l,by simp [hz]⟩
   ·rintro ys H3 ⟨s3,h3,zs,rfl,hz⟩;exact fin D H3 zs hD s3 hz h3
end
abbrev TkS (S:Addr->Prop) (H:Hp) (tk:List (Key×V)) (ts:List (Str×List Int)):Prop:=Paired (λ(p:Key×V) (e:Str×List Int)=>p.1=Sum.inr e.1/\∃b:Addr,p.2= .ref b/\S b/\H b=some (.lst (e.2.map V.int))) tk ts
theorem TkS.at {S:Addr->Prop} {H:Hp} {tk:List (Key×V)} {ts:List (Str×List Int)} (h:TkS S H tk ts):B0x H tk ts:=Paired.mapP h λ_ _ ⟨e1,b,e2,_,hb⟩=>⟨e1,b,e2,hb⟩
theorem TkS.imp {S S':Addr->Prop} {H H':Hp} {tk:List (Key×V)} {ts:List (Str×List Int)} (h:TkS S H tk ts) (f:∀b xs,S b->H b=some (.lst xs)->S' b/\H' b=some (.lst xs)):TkS S' H' tk ts :=
 Paired.mapP h λ_ _ ⟨e1,b,e2,m,hb⟩=>⟨e1,b,e2,(f _ _ m hb).1,(f _ _ m hb).2⟩
theorem A5n {S:Addr->Prop} {H:Hp} {ws:List (Key×V)} {ts:List (Str×List Int)} {x:Str} (h:TkS S H ws ts) (n:x∉ts.map (·.1)):∀p∈ws,p.1≠Sum.inr x:=λp hp z=>by
 obtain ⟨j,hj⟩:=List.getElem?_of_mem hp;obtain ⟨e,he,ek,_⟩:=B0v h hj;have ek:p.1=Sum.inr e.1:=ek;rw [z] at ek;injection ek with ek;exact n (Z2c.mpr ⟨e,Z13 he,ek.symm⟩)
theorem C7a {ts:List (Str×List Int)} {i:Nat} {e:Str×List Int} (nd:(ts.map (·.1)).Nodup) (h:ts[i]? =some e):e.1∉(ts.take i).map (·.1):=λm=>by
 obtain ⟨e2,he2,z⟩:=Z2c.mp m;obtain ⟨j,hj⟩:=List.getElem?_of_mem he2
 have hlt:j<i:=by
  have:=(Z03.mp hj).1;rw [Z0x] at this;omega
 rw [List.getElem?_take,Z12 hlt] at hj;have a1:(ts.map (·.1))[j]? =some e.1:=by rw [Z1z,hj,Option.map_some,z]
 have a2:(ts.map (·.1))[i]? =some e.1:=by rw [Z1z,h];rfl
 have:=(List.getElem?_inj (Z03.mp a1).1 nd).mp (a1.trans a2.symm);omega
theorem C1m {S:Addr->Prop} {H:Hp} {ws:List (Key×V)} {ts:List (Str×List Int)} {b:Addr} (h:TkS S H ws ts) (n:H b=none):V.ref b∉ws.map (·.2):=λm=>by
 obtain ⟨p,hp,z⟩:=Z2c.mp m;obtain ⟨j,hj⟩:=List.getElem?_of_mem hp;obtain ⟨e,_,_,c,ec,_,hc⟩:=B0v h hj;rw [z] at ec;cases ec;rw [n] at hc;cases hc
def C9f:Sp:=λvs H Q _=>∃(d:Addr) (tk:List (Key×V)) (ts:List (Str×List Int)),vs=[.ref d]/\H d=some (.dK tk)/\B0x H tk ts/\(ts.map (·.1)).Nodup/\ts.length<=100/\∀(q:Addr) (tk':List (Key×V)) (H':Hp),H q=none->A0r H H'->H' q=some (.dK tk')->TkS (λb=>H b=none) H' tk' ts->(tk'.map (·.2)).Nodup->Q (.ref q) H'
section
variable {P:Program} {w:World} {K:PySem.W.Frag} {mg:Str->Option Value} {base:Heap} {t:Adr}
theorem A7c (T:Txt K mg t):A1m P w K mg base CX0 1 t.dS t.dQ ["_law_tables"] C9f:=by
 refine T.cg.ok A9j (λvs H Q E h=> ?_) (λcdv A outer s H vs Q E hr h=> ?_)
 ·obtain ⟨d,tk,ts,rfl,_⟩:=h;rfl
 ·obtain ⟨d,tk,ts,rfl,hd,tka,nds,l100,k⟩:=h;have hu:=A7u hr;have ltk:=Paired.length tka;have ndk:(tk.map (·.1)).Nodup:=by rw [A6j tka];exact A2q nds
  refine ⟨_,(A0d (A1b (i:=1) A9j.nd rfl (Or.inl rfl) A3u)
   (A0d (A2w PassesOwn.never rfl (B2a (pv 0)) (A0p (i:=2) A9j.nd rfl (Or.inl rfl) (Or.inl rfl))
    (A0f (A2x hu (pv 1) (pv 2) (A1t A5k (by rfl) T.bL Z1o (A0a (A2g hu (pv 0) (pv 2) (λ_ _=>rfl)) A0c)) rfl)))
   (B1r (A0f (A0q (pv 1)))))),?_⟩
  refine λq hq=> ?_;have s1:A0r H (upd H q (.dK [])):=A0g hq;have dq:q≠d:=(A0i hd hq).symm;refine ⟨_,rfl,d,tk,rfl,s1 _ _ hd,λo=> ?_⟩
  have g0:A0r (upd H d (.frz o (.dK tk))) (upd (upd H q (.dK [])) d (.frz o (.dK tk))):=λb v e=>by
   by_cases hb:b=d
   ·subst hb;rw [A0b] at e⊢;exact e
   ·rw [A0e hb] at e⊢;exact s1 _ _ e
  have nf:∀b,upd H d (.frz o (.dK tk)) b=none->H b=none:=λb e=>by
   by_cases hb:b=d
   ·subst hb;rw [A0b] at e;cases e
   ·rw [A0e hb] at e;exact e
  have hqG:upd H d (.frz o (.dK tk)) q=none:=by rw [A0e dq];exact hq
  refine B2i (a:=d) (o:=o) (kvs:=tk) (λi σ H3=>∃(o2:Option V) (ws:List (Key×V)),σ=[some (.ref d),some (.ref q),o2]/\A0r (upd H d (.frz o (.dK tk))) H3/\H3 q=some (.dK ws)/\TkS (λb=>H b=none) H3 ws (ts.take i)/\(ws.map (·.2)).Nodup)
   ⟨none,[],rfl,g0,by rw [A0e dq];exact A0b,.nil,List.Pairwise.nil⟩ (λi σ H3 ⟨_,_,_,s3,_⟩=>s3 _ _ A0b) ?_ ?_
  ·rintro i k' v σ H3 hkv ⟨o2,ws,rfl,s3,h3,tw,nd⟩;obtain ⟨e,he,ek,b,ev,hb⟩:=B0v tka hkv;have ek:k'=Sum.inr e.1:=ek;have ev:v= .ref b:=ev;subst ek ev;have hb3:H3 b=some (.lst (e.2.map V.int)):=s3 _ _ (by rw [A0e (A0z hb hd (by intro z;cases z))];exact hb);have g:A7i H3 d (.str e.1) (some (.ref b)):= .inl ⟨tk,Sum.inr e.1,.inr ⟨o,s3 _ _ A0b⟩,rfl,(A4a ndk hkv).symm⟩;refine ⟨_,rfl,_,rfl,d,_,rfl,g,b,_,rfl,.inl (SqL.of hb3),λll hll=> ?_⟩;have sl:A0r H3 (upd H3 ll (.lst (e.2.map V.int))):=A0g hll;have hll':upd H3 ll (.lst (e.2.map V.int)) ll=some (.lst (e.2.map V.int)):=A0b;generalize upd H3 ll (.lst (e.2.map V.int))=H4 at sl hll';have lws:=Paired.length tw;rw [Z0x] at lws;refine ⟨_,rfl,_,rfl,q,_,rfl,B0z.k (k:=Sum.inr e.1) (sl _ _ h3) (A0y (by omega)),?_⟩;rw [A3h (A5n tw (C7a nds he))];have lq:ll≠q:=λz=>by subst z;rw [h3] at hll;cases hll
   refine ⟨_,_,rfl,A0k (s3.trans sl) hqG,A0b,?_,?_⟩
   ·rw [Z14,he];exact B5i (tw.imp λc ys m e=>⟨m,by rw [A0e (A0z e h3 (by intro z;cases z))];exact sl _ _ e⟩) (.cons ⟨rfl,ll,rfl,nf _ (s3.free hll),by rw [A0e lq];exact hll'⟩ .nil)
   ·rw [Z0s];exact A6a nd (C1m tw hll)
  ·rintro σ H3 ⟨o2,ws,rfl,s3,h3,tw,nd⟩;rw [ltk,Z18] at tw;refine ⟨d,o,_,s3 _ _ A0b,(λo' u' z=>by have z:H d=some (.frz o' u'):=z;rw [hd] at z;cases z),_,rfl,?_⟩;exact k q ws _ hq (A4k hd s3) (by rw [A0e dq];exact h3) (tw.imp λb xs m e=>⟨m,by rw [A0e (λz=>by subst z;have m:H _=none:=m;rw [hd] at m;cases m)];exact e⟩) nd
end
def B9i (ts ts':List (Str×List Int)):Prop:=(∃x,x∈ts'.map (·.1)/\x∉ts.map (·.1))\/(∃x,x∈ts.map (·.1)/\x∉ts'.map (·.1))\/∃x ns ns',(x,ns)∈ts/\(x,ns')∈ts'/\ns'.length≠ns.length
structure SpI (H H5:Hp) (q:Addr) (tk5:List (Key×V)) (ts5:List (Str×List Int)):Prop where
 sm:A0r H H5
 hq:H5 q=some (.dK tk5)
 tk:TkS (λb=>H b=none) H5 tk5 ts5
 nv:(tk5.map (·.2)).Nodup
 nk:(ts5.map (·.1)).Nodup
theorem C2a {S:Addr->Prop} {H:Hp} {x:Str} {b:Addr} {ns':List Int}:∀{tk:List (Key×V)} {ts:List (Str×List Int)} {i:Nat},TkS S H tk ts->(tk.map (·.2)).Nodup->tk[i]? =some (Sum.inr x,.ref b)->TkS S (upd H b (.lst (ns'.map V.int))) tk (ts.set i (x,ns'))
 | _,_,_,.nil,_,e=>by simp at e
 | _,_,0,@Paired.cons _ _ _ p e ps es ⟨e1,c,e2,sc,hc⟩ t,nv,hi=>by
  simp at hi;subst hi;cases e2;have nv:(V.ref b::ps.map (·.2)).Nodup:=nv;have n1:=(Z15.mp nv).1;refine .cons ⟨rfl,b,rfl,sc,A0b⟩ (TkSne t n1)
 | _,_,i+1,@Paired.cons _ _ _ p e ps es ⟨e1,c,e2,sc,hc⟩ t,nv,hi=>by
  have nv:(p.2::ps.map (·.2)).Nodup:=nv;obtain ⟨n1,n2⟩:=Z15.mp nv;have hi:ps[i]? =some (Sum.inr x,V.ref b):=by simpa using hi
  refine .cons ⟨e1,c,e2,sc,?_⟩ (C2a t n2 hi);rw [A0e (λz=>n1 (by rw [e2,z];exact Z2c.mpr ⟨_,Z13 hi,rfl⟩))];exact hc
where TkSne {S:Addr->Prop} {H:Hp} {b:Addr} {o:HO}:∀{tk:List (Key×V)} {ts:List (Str×List Int)},TkS S H tk ts->V.ref b∉tk.map (·.2)->TkS S (upd H b o) tk ts
 | _,_,.nil,_=> .nil
 | _,_,@Paired.cons _ _ _ p e ps es ⟨e1,c,e2,sc,hc⟩ t,n=> .cons ⟨e1,c,e2,sc,by rw [A0e (λz=>n (Z2c.mpr ⟨_,.head _,by rw [e2,z]⟩))];exact hc⟩ (TkSne t λm=>n (by rw [Z0p];exact Z1f _ m))
theorem B6k {x:Str} {ns ns':List Int}:∀{ts:List (Str×List Int)} {i:Nat},ts[i]? =some (x,ns)->(ts.set i (x,ns')).map (·.1)=ts.map (·.1)
 | [],_,e=>by simp at e
 | a::r,0,e=>by
  simp at e;subst e;rfl
 | a::r,i+1,e=>by
  have e:r[i]? =some (x,ns):=by simpa using e
  rw [List.set_cons_succ,Z0p,Z0p,B6k e]
theorem SpI.upd {H H5:Hp} {q:Addr} {tk5:List (Key×V)} {ts5:List (Str×List Int)} {i:Nat} {x:Str} {b:Addr} {ns ns':List Int} (h:SpI H H5 q tk5 ts5) (hi:tk5[i]? =some (Sum.inr x,.ref b)) (ht:ts5[i]? =some (x,ns)) :
  SpI H (upd H5 b (.lst (ns'.map V.int))) q tk5 (ts5.set i (x,ns')):=by
 obtain ⟨e,he,_,c,ec,sc,hc⟩:=B0v h.tk hi;cases ec;exact ⟨A0k h.sm sc,by rw [A0e (A0z h.hq hc (by intro z;cases z))];exact h.hq,C2a h.tk h.nv hi,h.nv,by rw [B6k ht];exact h.nk⟩
theorem B5k {ts:List (Str×List Int)} {i:Nat} {x:Str} {ns ns':List Int} (ht:ts[i]? =some (x,ns)) (hl:ns'.length≠ns.length):B9i ts (ts.set i (x,ns')) :=
 .inr (.inr ⟨x,ns,ns',Z13 ht,Z13 (i:=i) (by rw [Z23 (Z03.mp ht).1]),hl⟩)
theorem B7e {S:Addr->Prop} {H:Hp} {x:Str}:∀{tk:List (Key×V)} {ts:List (Str×List Int)},TkS S H tk ts->TkS S H (A8j tk (Sum.inr x)) (ts.filter λe=>decide (e.1≠x))
 | _,_,.nil=> .nil
 | _,_,@Paired.cons _ _ _ p e ps es ⟨e1,c,e2,sc,hc⟩ t=>by
  have ih:=B7e (x:=x) t;by_cases hx:e.1=x
  ·have h1:A8j (p::ps) (Sum.inr x)=A8j ps (Sum.inr x):=by unfold A8j;rw [List.filter_cons_of_neg];simp [e1,hx]
   have h2:(e::es).filter (λe=>decide (e.1≠x))=es.filter λe=>decide (e.1≠x):=by rw [List.filter_cons_of_neg];simp [hx]
   rw [h1,h2];exact ih
  ·have h1:A8j (p::ps) (Sum.inr x)=p::A8j ps (Sum.inr x):=by
    unfold A8j;rw [List.filter_cons_of_pos];rw [e1];exact Z20 λz=>hx (by injection z)
   have h2:(e::es).filter (λe=>decide (e.1≠x))=e::es.filter λe=>decide (e.1≠x):=by rw [List.filter_cons_of_pos];simp [hx]
   rw [h1,h2];exact .cons ⟨e1,c,e2,sc,hc⟩ ih
theorem A9g {ts:List (Str×List Int)} {x y:Str} (h:y∈(ts.filter λe=>decide (e.1≠x)).map (·.1)):y∈ts.map (·.1)/\y≠x:=by
 obtain ⟨e,he,rfl⟩:=Z2c.mp h;obtain ⟨h1,h2⟩:=List.mem_filter.mp he;exact ⟨Z2c.mpr ⟨e,h1,rfl⟩,of_decide_eq_true h2⟩
theorem A8s {H:Hp} {tk:List (Key×V)} {ts:List (Str×List Int)} {S:Addr->Prop} (h:TkS S H tk ts) {i:Nat} {e:Str×List Int} (ht:ts[i]? =some e):∃b,tk[i]? =some (Sum.inr e.1,.ref b)/\S b/\H b=some (.lst (e.2.map V.int)):=by
 obtain ⟨⟨k,v⟩,hkv,ek,b,ev,sb,hb⟩:=A4l h ht;have ek:k=Sum.inr e.1:=ek;have ev:v= .ref b:=ev;subst ek ev;exact ⟨b,hkv,sb,hb⟩
def B8b:Sp:=λvs H Q _=>∃(d l:Addr) (tk:List (Key×V)) (ts:List (Str×List Int)) (nms:List Str) (way place c:Int),vs=[.ref d,.ref l,.int way,.int place,.int c]/\H d=some (.dK tk)/\B0x H tk ts/\(ts.map (·.1)).Nodup/\ts.length<=6/\(∀e∈ts,0<e.2.length/\e.2.length<=200)/\H l=some (.lst (nms.map V.str))/\0<nms.length/\nms.length<=100/\(∀x∈nms,x∉ts.map (·.1))/\
 ∀(q:Addr) (tk':List (Key×V)) (ts':List (Str×List Int)) (H':Hp),H q=none->A0r H H'->H' q=some (.dK tk')->B0x H' tk' ts'->(ts'.map (·.1)).Nodup->ts'.length<=7->(ts'=ts\/B9i ts ts')->Q (.ref q) H'
section
variable {P:Program} {w:World} {K:PySem.W.Frag} {mg:Str->Option Value} {base:Heap} {t:Adr}
theorem B3h (T:Txt K mg t):A1m P w K mg base CX0 2 t.c9 t.cq ["_law_tables","_law_names","_law_way","_law_place","_law_cell_here"] B8b:=by
 have G_l_copy:=A7c (P:=P) (w:=w) (base:=base) T;refine T.dB.ok A3t (λvs H Q E h=> ?_) (λcdv A outer s H vs Q E hr h=> ?_)
 ·obtain ⟨d,l,tk,ts,nms,way,place,c,rfl,_⟩:=h;rfl
 ·obtain ⟨d,l,tk,ts,nms,way,place,c,rfl,hd,tka,nds,l6,lens,hl,n0,n100,apart,k⟩:=h;have hu:=A7u hr;have ltk:=Paired.length tka
  refine ⟨_,(A0d (A1b (i:=5) A3t.nd rfl (Or.inl rfl) (A0h G_l_copy (hr.mono (by omega)) rfl T.cP T.cg.kp T.cQ .nil A0s (A0a (pv 0) A0c)))
   (A3y (A1w (A1d A8g (pv 2) A0m (A1n _))
    (A0f (A2x hu (pv 5) (A8k A4u (pv 1) (A0v A1e (pv 3) (A0o A0w (by rfl) T.aI Z0r (A0a (pv 1) A0c))) (λ_ _=>rfl)) (A6t (A0a (A0v A1e (pv 4) (A0v A7z A0m A0m)) A0c)) rfl))
    A0u)
   (A0d (A1w (A1d A8g (A0o A6z (by rfl) T.aI Z0r (A0a (pv 0) A0c)) A0m (A1n _))
    (A0f (A0q (pv 5)))
    A0u)
   (A0d (A1b (i:=6) A3t.nd rfl (Or.inl rfl) (A8k A4u (C4g (A1y (N':=["_law_name"]) (ix:=(List.replicate 1 none)) rfl (A1s rfl (by decide +kernel) (by decide +kernel)) (A1r rfl) (B2a (pv 0)) (λ_ _ _ _=>(A0p (i:=0) B9z rfl (Or.inl rfl) (Or.inr rfl))) (λ_ _ _ _=>(pv 0)))) (A0v A1e (pv 3) (A0o A6z (by rfl) T.aI Z0r (A0a (pv 0) A0c))) (λ_ _=>rfl)))
   (A0d (A1b (i:=7) A3t.nd rfl (Or.inl rfl) (A2g hu (pv 5) (pv 6) (λ_ _=>rfl)))
   (A3y (A1w (A1d A8g (pv 2) A0m (A1n _))
    (A0f (A2f (B9x Z0k PySem.F.slot_list_insert PySem.F.type_list_insert C0v (pv 7) (A0a (A0v A1e (pv 4) (A0v A6y (A0o A0w (by rfl) T.aI Z0r (A0a (pv 7) A0c)) A0m)) (A0a (A0v A1e (pv 4) (A0v A7z A0m A0m)) A0c)))))
    A0u)
   (A3y (A1w (A1d A8g (pv 2) A0m (A1n _))
    (A0f (A2f (B9x Z0k PySem.F.slot_list_pop PySem.F.type_list_pop C3j (pv 7) (A0a (A0v A1e (pv 4) (A0o A0w (by rfl) T.aI Z0r (A0a (pv 7) A0c))) A0c))))
    A0u)
   (A3y (A1w (A1d A8g (pv 2) A0m (A1n _))
    (A0f (A2f (A9d Z0k PySem.F.slot_list_clear PySem.F.type_list_clear B6s (pv 7))))
    A0u)
   (A3y (A1w (PW.pt (B7t (A1d C2t (pv 2) A0m (A1n _)) (B1i (A1d D2p (pv 2) A0m (A1n _)))))
    (A0f (A2f (B9x PySem.F.plainAttrs_dict PySem.F.slot_dict_pop PySem.F.type_dict_pop C6n (pv 5) (A0a (pv 6) A0c))))
    A0u)
   (A3y (A1w (A1d A8g (pv 2) A0m (A1n _))
    (A0f (A2x hu (pv 5) (A8k A4u (pv 1) (A0v A1e (pv 4) (A0o A0w (by rfl) T.aI Z0r (A0a (pv 1) A0c))) (λ_ _=>rfl)) (pv 7) rfl))
    A0u)
   (A0f (A0q (pv 5))))))))))))),?_⟩
  refine ⟨_,rfl,d,tk,ts,rfl,hd,tka,nds,by omega,λq tk1 H1 hq s1 h1 tk1s nv1=> ?_⟩;have ltk1:=Paired.length tk1s;refine ⟨λσ H2=>∃(tk2:List (Key×V)) (ts2:List (Str×List Int)),σ=[some (.ref d),some (.ref l),some (.int way),some (.int place),some (.int c),some (.ref q),none,none]/\SpI H H2 q tk2 ts2/\((way≠1/\ts2=ts)\/(way=1/\∃e,e.1∉ts.map (·.1)/\ts2=ts++[e])),?_,?_⟩
  ·refine ⟨_,rfl,rfl,_,rfl,B8h (λh=> ?_) (λh=> ?_)⟩
   ·have hw:way=1:=V.int.inj h;have z0:=Z1v place (show (nms.length:Int)≠0 by omega);have z1:=Z1p place (show (0:Int)<(nms.length:Int) by omega);obtain ⟨y,hy,ey⟩:=A9a (f:=V.str) (xs:=nms) (i:=place%(nms.length:Int)) z0 z1;refine ⟨_,rfl,_,_,rfl,rfl,⟨by decide,by decide,by decide⟩,_,_,rfl,rfl,C8l,A1h (by simp),λll hll=> ?_⟩;have sl:=A0g (o:= .lst [.int (c%10^(60:Int).toNat)]) hll;have hll':upd H1 ll (.lst [.int (c%10^(60:Int).toNat)]) ll=some (.lst ([c%10^(60:Int).toNat].map V.int)):=A0b;generalize upd H1 ll (.lst [.int (c%10^(60:Int).toNat)])=H2 at sl hll';have hl2:=sl _ _ (s1 _ _ hl);refine ⟨_,rfl,_,rfl,_,rfl,_,rfl,l,_,rfl,.inl (SqL.of hl2),_,_,rfl,rfl,(by show (0:Int)<((nms.map V.str).length:Int);rw [Z08];omega),l,_,_,_,rfl,rfl,SqL.of hl2,(by rw [Z08];exact ey),q,_,rfl,B0z.k (k:=Sum.inr y) (sl _ _ h1) (A0y (by omega)),?_⟩;have yn:y∉ts.map (·.1):=apart y (Z13 hy);rw [A3h (A5n tk1s yn)];have lq:ll≠q:=λz=>by subst z;rw [h1] at hll;cases hll
    refine ⟨_,ts++[(y,[c%10^(60:Int).toNat])],rfl,⟨A0k (s1.trans sl) hq,A0b,?_,?_,?_⟩,.inr ⟨hw,_,yn,rfl⟩⟩
    ·exact B5i (tk1s.imp λc ys m e=>⟨m,by rw [A0e (A0z e h1 (by intro z;cases z))];exact sl _ _ e⟩) (.cons ⟨rfl,ll,rfl,s1.free hll,by rw [A0e lq];exact hll'⟩ .nil)
    ·rw [Z0s];exact A6a nv1 (C1m tk1s hll)
    ·rw [Z0s];exact A6a nds yn
   ·exact ⟨tk1,ts,rfl,⟨s1,h1,tk1s,nv1,nds⟩,.inl ⟨λz=>h (by rw [z]),rfl⟩⟩
  rintro σ H2 ⟨tk2,ts2,rfl,I2,cs2⟩
  have l2:ts2.length<=ts.length+1:=by
   rcases cs2 with ⟨_,rfl⟩ | ⟨_,e,_,rfl⟩
   ·omega
   ·simp
  have fin2:ts2=ts\/B9i ts ts2:=by
   rcases cs2 with ⟨_,rfl⟩ | ⟨_,e,ne,rfl⟩
   ·exact .inl rfl
   ·exact .inr (.inl ⟨e.1,by simp,ne⟩)
  refine ⟨_,rfl,d,_,rfl,I2.sm _ _ hd,rfl,_,rfl,B8h (λh=> ?_) (λh=> ?_)⟩
  ·exact ⟨_,rfl,k q tk2 ts2 H2 hq I2.sm I2.hq I2.tk.at I2.nk (by omega) fin2⟩
  have tpos:0<ts.length:=by
   rcases Nat.eq_zero_or_pos ts.length with z | z
   ·exact absurd (by rw [ltk,z];rfl) h
   ·exact z
  refine ⟨_,rfl,d,tk,rfl,I2.sm _ _ hd,λo D hD=> ?_⟩;have Da:D≠d:=λz=>by subst z;rw [A0b] at hD;cases hD
  refine A4h (J:=Itd d o tk) (D:=D) tk.length (λi ys Hx=>A0r (upd H2 d (.frz o (.dK tk))) Hx/\Hx D=some (.lst ys)/\ys=((ts.take i).map (·.1)).map V.str) ⟨A0g hD,A0b,rfl⟩ (λi ys Hx hi ⟨s2,_⟩=>⟨s2 _ _ A0b,hi⟩) (λys Hx ⟨s2,_⟩=>⟨s2 _ _ A0b,rfl⟩) ?_ ?_
  ·rintro i ys Hx hi ⟨sx,hDx,rfl⟩ x Hy ⟨rfl,k',v,hkv,rfl⟩;obtain ⟨e,he,ek,_⟩:=B0v tka hkv;have ek:k'=Sum.inr e.1:=ek;subst ek;refine ⟨True.intro,_,rfl,hDx,A0y (by simp;omega),A0k sx hD,A0b,?_⟩;rw [Z14,he,Option.toList_some,Z0s,Z0s];rfl
  rintro ys Hx ⟨sx,hDx,rfl⟩;rw [ltk,Z18] at hDx;refine ⟨d,o,_,sx _ _ A0b,(λo' u' z=>by have z:H d=some (.frz o' u'):=z;rw [hd] at z;cases z),?_⟩;have st:A0r H2 (upd Hx d (.dK tk)):=A4k (I2.sm _ _ hd) sx;have hDt:upd Hx d (.dK tk) D=some (.lst ((ts.map (·.1)).map V.str)):=by rw [A0e Da];exact hDx
  generalize upd Hx d (.dK tk)=H3 at st hDt;have p0:=Z1v place (show (ts.length:Int)≠0 by omega);have p1:=Z1p place (show (0:Int)<(ts.length:Int) by omega);obtain ⟨x,hx,ex⟩:=A9a (f:=V.str) (xs:=ts.map (·.1)) (i:=place%(ts.length:Int)) p0 (by rw [Z08];exact p1);rw [Z1z] at hx;obtain ⟨⟨x',ns⟩,hts,ex'⟩:=Z0i.mp hx;have ex':x'=x:=ex';subst ex';generalize (place%(ts.length:Int)).toNat=i at hts hx;refine ⟨_,rfl,_,rfl,d,_,rfl,st _ _ (I2.sm _ _ hd),_,_,rfl,rfl,(by show (0:Int)<(tk.length:Int);omega),D,_,_,_,rfl,rfl,SqL.of hDt,(by rw [ltk];exact ex),?_⟩
  have hts2:ts2[i]? =some (x',ns):=by
   rcases cs2 with ⟨_,rfl⟩ | ⟨_,e,_,rfl⟩
   ·exact hts
   ·rw [Z26 (Z03.mp hts).1];exact hts
  have I3:SpI H H3 q tk2 ts2:=⟨I2.sm.trans st,st _ _ I2.hq,I2.tk.imp λb xs m e=>⟨m,st _ _ e⟩,I2.nv,I2.nk⟩;obtain ⟨b,htk,sb,hb3⟩:=A8s I3.tk hts2;have htk:tk2[i]? =some (Sum.inr x',.ref b):=htk;have hb3:H3 b=some (.lst (ns.map V.int)):=hb3;have ndk2:(tk2.map (·.1)).Nodup:=by rw [A6j I3.tk.at];exact A2q I2.nk
  have g:A7i H3 q (.str x') (some (.ref b)):= .inl ⟨tk2,Sum.inr x',.inl I3.hq,rfl,(A4a ndk2 htk).symm⟩;refine ⟨_,rfl,_,rfl,q,_,rfl,g,?_⟩;obtain ⟨ln0,ln2⟩:=lens (x',ns) (Z13 hts);have ln0:0<ns.length:=ln0;have ln2:ns.length<=200:=ln2;refine ⟨λσ H4=>∃(ts4:List (Str×List Int)) (ns4:List Int),σ=[some (.ref d),some (.ref l),some (.int way),some (.int place),some (.int c),some (.ref q),some (.str x'),some (.ref b)]/\SpI H H4 q tk2 ts4/\ts4[i]? =some (x',ns4)/\H4 b=some (.lst (ns4.map V.int))/\((ts4=ts/\way≠1/\way≠2)\/(B9i ts ts4/\ts4.length<=7/\(way=1\/way=2))),?_,?_⟩
  ·refine ⟨_,rfl,rfl,_,rfl,B8h (λh=> ?_) (λh=> ?_)⟩
   ·have hw:way=2:=V.int.inj h
    have e2:ts2=ts:=by
     rcases cs2 with ⟨_,e⟩ | ⟨e,_⟩
     ·exact e
     ·omega
    subst e2;have q0:=Z1v c (show (((ns.map V.int).length:Int)+1)≠0 by omega);have q1:=Z1p c (show (0:Int)<((ns.map V.int).length:Int)+1 by omega);refine ⟨_,rfl,.inl ⟨rfl,_,SqL.of hb3⟩,_,rfl,_,rfl,b,_,rfl,.inl (SqL.of hb3),_,_,rfl,rfl,_,_,rfl,rfl,(by show (0:Int)<((ns.map V.int).length:Int)+1;omega),_,rfl,_,_,rfl,rfl,⟨by decide,by decide,by decide⟩,_,_,rfl,rfl,C8l,b,_,_,_,rfl,rfl,hb3,A0y (by rw [Z08];omega),q0,(by rw [Z08] at q1⊢;omega),?_⟩;dsimp only;generalize (c%(((ns.map V.int).length:Int)+1)).toNat=j;generalize c%10^(60:Int).toNat=z;have e:(ns.map V.int).take j++V.int z::(ns.map V.int).drop j=(ns.take j++z::ns.drop j).map V.int:=by simp [List.map_take,List.map_drop]
    have el:(ns.take j++z::ns.drop j).length=ns.length+1:=by rw [Z06,Z0y,Z0x,Z19];omega
    rw [e];exact ⟨_,_,rfl,I3.upd htk hts2,Z23 (Z03.mp hts2).1,A0b,.inr ⟨B5k hts2 (by omega),by rw [List.length_set];omega,.inr hw⟩⟩
   ·have hw:way≠2:=λz=>h (by rw [z]);refine ⟨ts2,ns,rfl,I3,hts2,hb3,?_⟩;rcases cs2 with ⟨h1,e⟩ | ⟨h1,e,ne,e2⟩
    ·exact .inl ⟨e,h1,hw⟩
    ·exact .inr ⟨.inl ⟨e.1,by rw [e2];simp,ne⟩,by omega,.inl h1⟩
  rintro σ H4 ⟨ts4,ns4,rfl,I4,hts4,hb4,cs4⟩;refine ⟨λσ H5=>∃(ts5:List (Str×List Int)) (ns5:List Int),σ=[some (.ref d),some (.ref l),some (.int way),some (.int place),some (.int c),some (.ref q),some (.str x'),some (.ref b)]/\SpI H H5 q tk2 ts5/\ts5[i]? =some (x',ns5)/\H5 b=some (.lst (ns5.map V.int))/\((ts5=ts/\way≠1/\way≠2/\way≠3)\/(B9i ts ts5/\ts5.length<=7/\(way=1\/way=2\/way=3))),?_,?_⟩
  ·refine ⟨_,rfl,rfl,_,rfl,B8h (λh=> ?_) (λh=> ?_)⟩
   ·have hw:way=3:=V.int.inj h
    have e4:ts4=ts:=by
     rcases cs4 with ⟨e,_⟩ | ⟨_,_,e⟩
     ·exact e
     ·omega
    subst e4;rw [hts] at hts4;cases hts4;have q0:=Z1v c (show ((ns.map V.int).length:Int)≠0 by rw [Z08];omega);have q1:=Z1p c (show (0:Int)<((ns.map V.int).length:Int) by rw [Z08];omega);obtain ⟨y,hy,ey⟩:=C6h (xs:=ns.map V.int) q0 q1;obtain ⟨j,hj,hjy,jl,_⟩:=B5p ey;have jl:j<ns.length:=by rw [Z08] at jl;exact jl
    refine ⟨_,rfl,.inl ⟨rfl,_,SqL.of hb4⟩,_,rfl,_,rfl,b,_,rfl,.inl (SqL.of hb4),_,_,rfl,rfl,(by show (0:Int)<((ns.map V.int).length:Int);rw [Z08];omega),b,_,_,j,y,rfl,rfl,hb4,(by omega),(by rw [Z08] at q1⊢;omega),hj,hjy,?_⟩;have e:(ns.map V.int).eraseIdx j=(ns.eraseIdx j).map V.int:=by simp [List.eraseIdx_eq_take_drop_succ,List.map_take,List.map_drop]
    rw [e];exact ⟨_,_,rfl,I4.upd htk hts,Z23 (Z03.mp hts).1,A0b,.inr ⟨B5k hts (by rw [List.length_eraseIdx_of_lt jl];omega),by rw [List.length_set];omega,.inr (.inr hw)⟩⟩
   ·have hw:way≠3:=λz=>h (by rw [z]);refine ⟨ts4,ns4,rfl,I4,hts4,hb4,?_⟩;rcases cs4 with ⟨e,h1,h2⟩ | ⟨bd,le,h1 | h1⟩
    ·exact .inl ⟨e,h1,h2,hw⟩
    ·exact .inr ⟨bd,le,.inl h1⟩
    ·exact .inr ⟨bd,le,.inr (.inl h1)⟩
  rintro σ H5 ⟨ts5,ns5,rfl,I5,hts5,hb5,cs5⟩;refine ⟨λσ H6=>∃(ts6:List (Str×List Int)) (ns6:List Int),σ=[some (.ref d),some (.ref l),some (.int way),some (.int place),some (.int c),some (.ref q),some (.str x'),some (.ref b)]/\SpI H H6 q tk2 ts6/\ts6[i]? =some (x',ns6)/\H6 b=some (.lst (ns6.map V.int))/\((ts6=ts/\way≠1/\way≠2/\way≠3/\way≠4)\/(B9i ts ts6/\ts6.length<=7/\(way=1\/way=2\/way=3\/way=4))),?_,?_⟩
  ·refine ⟨_,rfl,rfl,_,rfl,B8h (λh=> ?_) (λh=> ?_)⟩
   ·have hw:way=4:=V.int.inj h
    have e5:ts5=ts:=by
     rcases cs5 with ⟨e,_⟩ | ⟨_,_,e⟩
     ·exact e
     ·omega
    subst e5;rw [hts] at hts5;cases hts5;refine ⟨_,rfl,.inl ⟨rfl,_,SqL.of hb5⟩,b,_,rfl,rfl,hb5,?_⟩;exact ⟨_,[],rfl,I5.upd (ns':=[]) htk hts,Z23 (Z03.mp hts).1,A0b,.inr ⟨B5k hts (by simp;omega),by rw [List.length_set];omega,.inr (.inr (.inr hw))⟩⟩
   ·have hw:way≠4:=λz=>h (by rw [z]);refine ⟨ts5,ns5,rfl,I5,hts5,hb5,?_⟩;rcases cs5 with ⟨e,h1,h2,h3⟩ | ⟨bd,le,h1⟩
    ·exact .inl ⟨e,h1,h2,h3,hw⟩
    ·exact .inr ⟨bd,le,by omega⟩
  rintro σ H6 ⟨ts6,ns6,rfl,I6,hts6,hb6,cs6⟩;refine ⟨λσ H7=>∃(tk7:List (Key×V)) (ts7:List (Str×List Int)),σ=[some (.ref d),some (.ref l),some (.int way),some (.int place),some (.int c),some (.ref q),some (.str x'),some (.ref b)]/\A0r H H7/\H7 q=some (.dK tk7)/\TkS (λb=>H b=none) H7 tk7 ts7/\(ts7.map (·.1)).Nodup/\H7 b=some (.lst (ns6.map V.int))/\((way=6/\ts7=ts.filter λe=>decide (e.1≠x'))\/(way≠6/\ts7.length<=7/\(ts7=ts\/B9i ts ts7))),?_,?_⟩
  ·have xin:x'∈ts.map (·.1):=Z2c.mpr ⟨_,Z13 hts,rfl⟩
   have out:∀(h:way<=4\/7<=way),∃(tk7:List (Key×V)) (ts7:List (Str×List Int)),[some (.ref d),some (.ref l),some (.int way),some (.int place),some (.int c),some (.ref q),some (.str x'),some (.ref b)]=[some (V.ref d),some (.ref l),some (.int way),some (.int place),some (.int c),some (.ref q),some (.str x'),some (.ref b)]/\A0r H H6/\H6 q=some (.dK tk7)/\TkS (λb=>H b=none) H6 tk7 ts7/\(ts7.map (·.1)).Nodup/\H6 b=some (.lst (ns6.map V.int))/\((way=6/\ts7=ts.filter λe=>decide (e.1≠x'))\/(way≠6/\ts7.length<=7/\(ts7=ts\/B9i ts ts7))):=λh=>by
    refine ⟨tk2,ts6,rfl,I6.sm,I6.hq,I6.tk,I6.nk,hb6,.inr ⟨by omega,?_⟩⟩;rcases cs6 with ⟨e,_⟩ | ⟨bd,le,_⟩
    ·exact ⟨by rw [e];omega,.inl e⟩
    ·exact ⟨le,.inr bd⟩
   refine ⟨_,rfl,_,_,rfl,rfl,_,rfl,B8h (λh1=> ?_) (λh1=>A5c (out (by omega)))⟩;refine ⟨_,rfl,_,_,rfl,rfl,_,rfl,B8h (λh2=> ?_) (λh2=>out (by omega))⟩
   have e6:ts6=ts:=by
    rcases cs6 with ⟨e,_⟩ | ⟨_,_,e⟩
    ·exact e
    ·omega
   subst e6;refine ⟨_,rfl,.inr (.inr (.inl ⟨rfl,.inl ⟨_,I6.hq⟩⟩)),_,rfl,q,Sum.inr x',_,_,rfl,rfl,I6.hq,A4a ndk2 htk,?_⟩;have bq:b≠q:=A0z hb6 I6.hq (by intro z;cases z);refine ⟨_,_,rfl,A0k I6.sm hq,A0b,B7e (x:=x') (I6.tk.imp λc xs m e=>⟨m,by rw [A0e (A0z e I6.hq (by intro z;cases z))];exact e⟩),List.Pairwise.sublist ((List.filter_sublist).map _) nds,by rw [A0e bq];exact hb6,?_⟩;by_cases h6:way=6
   ·exact .inl ⟨h6,rfl⟩
   ·exact .inr ⟨h6,Z1n (List.length_filter_le _ _) (by omega),.inr (.inr (.inl ⟨x',xin,λm=>(A9g m).2 rfl⟩))⟩
  rintro σ H7 ⟨tk7,ts7,rfl,s7,hq7,tks7,nk7,hb7,cs7⟩;refine ⟨λσ H8=>∃(tk8:List (Key×V)) (ts8:List (Str×List Int)),σ=[some (.ref d),some (.ref l),some (.int way),some (.int place),some (.int c),some (.ref q),some (.str x'),some (.ref b)]/\A0r H H8/\H8 q=some (.dK tk8)/\B0x H8 tk8 ts8/\(ts8.map (·.1)).Nodup/\ts8.length<=7/\(ts8=ts\/B9i ts ts8),?_,?_⟩
  ·have xin:x'∈ts.map (·.1):=Z2c.mpr ⟨_,Z13 hts,rfl⟩;refine ⟨_,rfl,rfl,_,rfl,B8h (λh=> ?_) (λh=> ?_)⟩
   ·have hw:way=6:=V.int.inj h
    have e7:ts7=ts.filter λe=>decide (e.1≠x'):=by
     rcases cs7 with ⟨_,e⟩ | ⟨e,_⟩
     ·exact e
     ·omega
    subst e7;have z0:=Z1v c (show (nms.length:Int)≠0 by omega);have z1:=Z1p c (show (0:Int)<(nms.length:Int) by omega);obtain ⟨y,hy,ey⟩:=A9a (f:=V.str) (xs:=nms) (i:=c%(nms.length:Int)) z0 z1;have hl7:=s7 _ _ hl;have l7:=Paired.length tks7;have lf:(ts.filter λe=>decide (e.1≠x')).length<=ts.length:=List.length_filter_le _ _;refine ⟨_,rfl,_,rfl,_,rfl,_,rfl,_,rfl,l,_,rfl,.inl (SqL.of hl7),_,_,rfl,rfl,(by show (0:Int)<((nms.map V.str).length:Int);rw [Z08];omega),l,_,_,_,rfl,rfl,SqL.of hl7,(by rw [Z08];exact ey),q,_,rfl,B0z.k (k:=Sum.inr y) hq7 (A0y (by omega)),?_⟩;have yn:y∉ts.map (·.1):=apart y (Z13 hy);have yn7:y∉(ts.filter λe=>decide (e.1≠x')).map (·.1):=λm=>yn (A9g m).1;rw [A3h (A5n tks7 yn7)];have bq:b≠q:=A0z hb7 hq7 (by intro z;cases z);refine ⟨_,(ts.filter λe=>decide (e.1≠x'))++[(y,ns6)],rfl,A0k s7 hq,A0b,?_,?_,by rw [Z06,Z0j];omega,.inr (.inr (.inl ⟨x',xin,λm=> ?_⟩))⟩
    ·exact B5i (Paired.mapP tks7 λ_ _ ⟨e1,c,e2,_,e⟩=>⟨e1,c,e2,by rw [A0e (A0z e hq7 (by intro z;cases z))];exact e⟩) (.cons ⟨rfl,b,rfl,by rw [A0e bq];exact hb7⟩ .nil)
    ·rw [Z0s];exact A6a nk7 yn7
    ·rw [Z0s] at m;rcases Z07.mp m with m | m
     ·exact (A9g m).2 rfl
     ·have:x'=y:=by simpa using m
      exact yn (this▸xin)
   ·have hw:way≠6:=λz=>h (by rw [z]);refine ⟨tk7,ts7,rfl,s7,hq7,tks7.at,nk7,?_⟩;rcases cs7 with ⟨e,_⟩ | ⟨_,r⟩
    ·exact absurd e hw
    ·exact r
  rintro σ H8 ⟨tk8,ts8,rfl,s8,hq8,tk8a,nk8,l8,cs8⟩;exact ⟨_,rfl,k q tk8 ts8 H8 hq s8 hq8 tk8a nk8 l8 cs8⟩
end
end My
namespace L2
open PySem PySem.Spec PyProof.Rows
theorem B0u {X:Cx} {K:PySem.W.Frag} (h:X.K=K):A5y X (.builtin "isinstance") (D1t K):=h▸C1b
theorem B5o {X:Cx} {K:PySem.W.Frag} (h:X.K=K):A5y X (.builtin "isinstance") (C5j K):=h▸B9c
end L2
namespace My
open PySem L2
local macro_rules | `(tactic| walk_at "lk") => `(tactic| first | with_reducible exact lk0 | (refine lk1 (by decide +kernel) ?_; walk_at "lk") | rfl)
theorem C9m {b:Bool} {A B:Prop} (h:b=false) (q:B):if b=true then A else B:=by rw [h];exact A5c q
theorem D0d {b:Bool} {A B:Prop} (h:b=true) (q:A):if b=true then A else B:=by rw [h];exact B9u q
def B4g (ts:List (Str×List Int)):List (Key×PyData):=ts.map λe=>((Sum.inr e.1:Key),PyData.list (e.2.map PyData.int))
theorem B0a {H:Hp}:∀{tk:List (Key×V)} {ts:List (Str×List Int)},B0x H tk ts->C9h H tk (B4g ts)
 | _,_,.nil=> .nil
 | _,_,@Paired.cons _ _ _ p e _ _ ⟨e1,b,e2,hb⟩ t=>by
  refine .cons ⟨e1,?_,?_,?_⟩ (B0a t)
  ·rw [e2];exact .lst hb (B2u _)
  ·simp [PyData.canLay0,(B0d e.2).1]
  ·simp [PyData.depth,(B0d e.2).2.1]
theorem B7c {ts:List (Str×List Int)} {k:Key} {d:PyData} (h:B6w (B4g ts) k=some d):∃e∈ts,k=Sum.inr e.1/\d= .list (e.2.map PyData.int):=by
 unfold B6w at h;obtain ⟨p,hp,rfl⟩:=Z0i.mp h;have h1:=List.mem_of_find?_eq_some hp;have h2:=List.find?_some hp;obtain ⟨e,he,rfl⟩:=Z2c.mp h1;exact ⟨e,he,(of_decide_eq_true h2).symm,rfl⟩
theorem C1e {ts:List (Str×List Int)} {x:Str} (h:x∈ts.map (·.1)):∃ns,B6w (B4g ts) (Sum.inr x)=some (.list (ns.map PyData.int))/\(x,ns)∈ts:=by
 cases q:B6w (B4g ts) (Sum.inr x) with
 | some d =>
  obtain ⟨e,he,ek,rfl⟩:=B7c q;injection ek with ek;exact ⟨e.2,rfl,by rw [ek];exact he⟩
 | none =>
  obtain ⟨e,he,rfl⟩:=Z2c.mp h;unfold B6w at q;rw [Option.map_eq_none_iff,List.find?_eq_none] at q;exact absurd (Z20 rfl) (q (Sum.inr e.1,.list (e.2.map PyData.int)) (Z2c.mpr ⟨e,he,rfl⟩))
theorem B1c {db:List (Key×PyData)}:∀{da:List (Key×PyData)},B7s db da=true↔∀p∈da,∃d,B6w db p.1=some d/\PyData.eqv p.2 d=true
 | []=>by simp [B7s]
 | p::r=>by
  unfold B7s
  cases q:B6w db p.1 with
  | none =>
   refine ⟨λh=>(by cases h),λh=> ?_⟩;obtain ⟨d,hd,_⟩:=h p (.head _);rw [q] at hd;cases hd
  | some d =>
   show (PyData.eqv p.2 d&&B7s db r)=true↔_;rw [Z1x,B1c];refine ⟨λ⟨h1,h2⟩ p' hp'=> ?_,λh=>⟨?_,λp' hp'=>h p' (.tail _ hp')⟩⟩
   ·rcases Z0e.mp hp' with rfl | hp'
    ·exact ⟨d,q,h1⟩
    ·exact h2 p' hp'
   ·obtain ⟨d',hd',e⟩:=h p (.head _);rw [q] at hd';cases hd';exact e
theorem B6o {ns ms:List Int}:PyData.eqv (.list (ns.map PyData.int)) (.list (ms.map PyData.int))=decide (ns=ms):=by
 rw [PyData.eqv];exact PySem.W.ked_eqvAll ns ms
theorem B2f {ts:List (Str×List Int)} (nd:(ts.map (·.1)).Nodup):eqM (B4g ts) (B4g ts)=true:=by
 unfold eqM;rw [Z1x];refine ⟨by simp,B1c.mpr λp hp=> ?_⟩;obtain ⟨e,he,rfl⟩:=Z2c.mp hp;obtain ⟨ns,h1,h2⟩:=C1e (x:=e.1) (Z2c.mpr ⟨e,he,rfl⟩);refine ⟨_,h1,?_⟩;rw [B6o,B6x nd (show (e.1,e.2)∈ts from he) h2];exact Z20 rfl
theorem C8h {ts ts':List (Str×List Int)} (nd:(ts.map (·.1)).Nodup) (nd':(ts'.map (·.1)).Nodup) (h:B9i ts ts'):eqM (B4g ts') (B4g ts)=false:=by
 cases q:eqM (B4g ts') (B4g ts) with
 | false=>rfl
 | true =>
  exfalso;unfold eqM at q;rw [Z1x] at q;obtain ⟨q1,q2⟩:=q;have ll:ts'.length=ts.length:=by simpa [B4g] using q1
  have all:=B1c.mp q2
  have sub:∀x ns,(x,ns)∈ts'->(x,ns)∈ts:=λx ns hx=>by
   obtain ⟨d,hd,e⟩:=all (Sum.inr x,.list (ns.map PyData.int)) (Z2c.mpr ⟨_,hx,rfl⟩);obtain ⟨e',he',ek,rfl⟩:=B7c hd;injection ek with ek;rw [B6o] at e;rw [of_decide_eq_true e,ek];exact he'
  have subk:∀x∈ts'.map (·.1),x∈ts.map (·.1):=λx hx=>by
   obtain ⟨e,he,rfl⟩:=Z2c.mp hx;exact Z2c.mpr ⟨_,sub e.1 e.2 he,rfl⟩
  rcases h with ⟨x,h1,h2⟩ | ⟨x,h1,h2⟩ | ⟨x,ns,ns',h1,h2,h3⟩
  ·exact h2 (subk x h1)
  ·exact h2 (A7n nd' subk (by rw [Z08,Z08];exact ll) x h1)
  ·exact h3 (by rw [B6x nd h1 (sub x ns' h2)])
def A8r (td:List TD):List (Str×List Int):=td.map λe=>(e.1.1,e.2.2)
def A8h (ns:NS):List (Str×List Int):=ns.map λe=>(e.1,e.2.map (·.2))
structure Mk (A:Adr) (H:Hp) (p:Addr) (wh:Int) (ax:List (Str×Int)) (td:List TD) (ld:LD):Prop where
 pr:∃lv os,C2n A H p wh ax (td.map (·.1)) lv os/\Paired (B2h A ax H) lv [ld]
 nx:(ax.map (·.1)).Nodup
 lx:ax.length<=100
 nd:(((td.map (A5b wh)).map (·.1))++[ld].map (·.x)).Nodup
 l6:td.length<=6
 ok:∀e∈td,Sz (A1a ax) e.1.2 e.2.1/\A7d e.2.1/\e.2.2.length=(A0n e.2.1).length
 nm:∀e∈td,PyData.strOk e.1.1=true/\e.1.1.length<=100
 wo:C9j wh
 run:∀(i:Nat) (e:LD),[ld][i]? =some e->C2f (ai (A1a ax)) wh e.u e.ys (A3e (ai (A1a ax)) wh (td.map (A5b wh)) ([ld].take i)) e.x (A0n e.ls)
theorem Mk.same {A:Adr} {H H':Hp} {p:Addr} {wh:Int} {ax:List (Str×Int)} {td:List TD} {ld:LD} (h:Mk A H p wh ax td ld) (s:A0r H H'):Mk A H' p wh ax td ld:=by
 obtain ⟨⟨lv,os,pr,lo⟩,a,b,c,d,e,f,g,i⟩:=h;exact ⟨⟨lv,os,pr.same s,Paired.mapP lo λ_ _ q=>q.kx λb u _ _ y=>s _ _ y⟩,a,b,c,d,e,f,g,i⟩
theorem A7t (td:List TD):(A8r td).map (·.1)=(td.map (·.1)).map (·.1):=by unfold A8r;rw [List.map_map,List.map_map];rfl
theorem B1a (wh:Int) (td:List TD):(td.map (A5b wh)).map (·.1)=(td.map (·.1)).map (·.1):=by rw [List.map_map,List.map_map];rfl
theorem Mk.ndt {A:Adr} {H:Hp} {p:Addr} {wh:Int} {ax:List (Str×Int)} {td:List TD} {ld:LD} (h:Mk A H p wh ax td ld):((td.map (·.1)).map (·.1)).Nodup:=by
 have:=(List.pairwise_append.mp h.nd).1;rw [B1a] at this;exact this
theorem C6f {H:Hp} {ax:List (Str×Int)}:∀{td:List TD} {tk:List (Key×V)},B0x H tk (A8r td)->(∀e∈td,Sz (A1a ax) e.1.2 e.2.1/\A7d e.2.1/\e.2.2.length=(A0n e.2.1).length)->TbX H ax tk td
 | [],_,h,_=>by cases h;exact .nil
 | e::r,_,h,ok=>by
  cases h with
  | cons a t =>
   obtain ⟨e1,b,e2,hb⟩:=a;obtain ⟨o1,o2,o3⟩:=ok e (.head _);exact .cons ⟨e1,b,e2,hb,o1,o2,o3⟩ (C6f t λx hx=>ok x (.tail _ hx))
theorem B6l {S:Addr->Prop} {H:Hp}:∀{rk:List (Key×V)} {ns:NS},A8x S H rk ns->TkS S H rk (A8h ns)
 | _,_,.nil=> .nil
 | _,_,.cons ⟨e1,b,e2,sb,hb⟩ t=> .cons ⟨e1,b,e2,sb,by rw [List.map_map];exact hb⟩ (B6l t)
theorem C4f (ns:NS):(A8h ns).map (·.1)=ns.map (·.1):=by unfold A8h;rw [List.map_map];rfl
def C8c (A:Adr):Sp:=λvs H Q _=>∃(p d du:Addr) (wh:Int) (ax:List (Str×Int)) (td:List TD) (ld:LD) (tk dk:List (Key×V)),vs=[.ref p,.ref d,.ref du]/\Mk A H p wh ax td ld/\H d=some (.dK tk)/\B0x H tk (A8r td)/\H du=some (.dK dk)/\B0x H dk (A8h (A3e (ai (A1a ax)) wh (td.map (A5b wh)) [ld]))/\∀H',A0r H H'->Q (.bl true) H'
def B0q (A:Adr):Sp:=λvs H Q _=>∃(p d:Addr) (wh:Int) (ax:List (Str×Int)) (td:List TD) (ld:LD) (tk:List (Key×V)) (ts:List (Str×List Int)),vs=[.ref p,.ref d]/\Mk A H p wh ax td ld/\H d=some (.dK tk)/\B0x H tk ts/\(ts.map (·.1)).Nodup/\ts.length<=7/\B9i (A8r td) ts/\∀H',A0r H H'->Q (.bl true) H'
theorem B7l {ax:List (Str×Int)} {td:List TD} {ts:List (Str×List Int)} (ok:∀e∈td,Sz (A1a ax) e.1.2 e.2.1/\A7d e.2.1/\e.2.2.length=(A0n e.2.1).length) (h:B9i (A8r td) ts):¬(B4y (td.map (·.1)) ts/\C0m (td.map (·.1)) (td.map (·.2.1)) ts):=by
 rintro ⟨hk,hl⟩;unfold B4y at hk;rcases h with ⟨x,h1,h2⟩ | ⟨x,h1,h2⟩ | ⟨x,ns,ns',h1,h2,h3⟩
 ·rw [A7t] at h2;exact h2 ((hk x).mp h1)
 ·rw [A7t] at h1;exact h2 ((hk x).mpr h1)
 ·obtain ⟨e,he,ee⟩:=Z2c.mp h1;obtain ⟨i,hi⟩:=List.getElem?_of_mem he;injection ee with e1 e2;have:=hl i e.1 e.2.1 ns' (by rw [Z1z,hi];rfl) (by rw [Z1z,hi];rfl) (by rw [e1];exact h2);rw [this,<-(ok e he).2.2,e2] at h3;exact h3 rfl
theorem B5g {ax:List (Str×Int)}:∀{td:List TD},(∀e∈td,Sz (A1a ax) e.1.2 e.2.1/\A7d e.2.1/\e.2.2.length=(A0n e.2.1).length)->D2c ax (td.map (·.1)) (td.map (·.2.1))
 | [],_=> .nil
 | e::r,ok=> .cons ⟨(ok e (.head _)).1,(ok e (.head _)).2.1⟩ (B5g λx hx=>ok x (.tail _ hx))
section
variable {P:Program} {w:World} {K:PySem.W.Frag} {mg:Str->Option Value} {base:Heap} {t:Adr}
theorem C1v (T:Txt K mg t):A1m P w K mg base CX0 13 t.eg t.dW ["_law_program","_law_tables","_law_due"] (C8c t):=by
 have G_l_copy:=A7c (P:=P) (w:=w) (base:=base) T;have G_l_list:=C0p (P:=P) (w:=w) (base:=base) T;have G_meaning:=A7o (P:=P) (w:=w) (base:=base) T;refine T.c8.ok A5e (λvs H Q E h=> ?_) (λcdv A outer s H vs Q E hr h=> ?_)
 ·obtain ⟨p,d,du,wh,ax,td,ld,tk,dk,rfl,_⟩:=h;rfl
 ·obtain ⟨p,d,du,wh,ax,td,ld,tk,dk,rfl,M,hd,tka,hdu,dka,k⟩:=h;have hu:=A7u hr;have nds:((A8r td).map (·.1)).Nodup:=by rw [A7t];exact M.ndt
  have l6:=M.l6;have lts:(A8r td).length=td.length:=by unfold A8r;rw [Z08]
  refine ⟨_,(A0d (A1b (i:=3) A5e.nd rfl (Or.inl rfl) (A0h G_l_copy (hr.mono (by omega)) rfl T.cP T.cg.kp T.cQ .nil A0s (A0a (pv 1) A0c)))
   (A0d (A1b (i:=4) A5e.nd rfl (Or.inl rfl) (A0h G_meaning (hr.mono (by omega)) rfl T.df T.bx.kp T.dg .nil D3j (A0a (pv 0) (A0a (pv 3) A0c))))
   (A0d (A1w (PW.pt (B6h (A1d (C9o hr.units) (pv 3) (pv 1) (A1n _)) (B6h (A9h (A2k (A0o A0x (by rfl) T.ae Z0d (A0a (pv 4) (A0a (A1z (v:=V.ty "dict") rfl T.cM PyProof.Rows.boot_dict rfl) A0c))))) (B2y (A1d C1t (A0o A6z (by rfl) T.aI Z0r (A0a (pv 4) A0c)) (A0o A6z (by rfl) T.aI Z0r (A0a (pv 2) A0c)) (A1n _))))))
    (A0f (A0q B0j))
    A0u)
   (A0d (A2w PassesOwn.never rfl (B2a (pv 2)) (A0p (i:=5) A5e.nd rfl (Or.inl rfl) (Or.inl rfl))
    (A0f (A1w (PW.pt (B6h (C5x (B3y hu (pv 5) (pv 4)) (by with_unfolding_all rfl)) (B2y (A9h (A2k (A0h G_l_list (hr.mono (by omega)) rfl T.fH T.fg.kp T.fI .nil A0s (A0a (A2g hu (pv 4) (pv 5) (λ_ _=>rfl)) (A0a (A2g hu (pv 2) (pv 5) (λ_ _=>rfl)) A0c))))))))
     (A0f (A0q B0j))
     A0u)))
   (B1r (A0d (A2w PassesOwn.never rfl (B2a (pv 2)) (A0p (i:=5) A5e.nd rfl (Or.inl rfl) (Or.inl rfl))
    (A0f (A2f (A9d Z0k PySem.F.slot_list_clear PySem.F.type_list_clear B6s (A2g hu (pv 4) (pv 5) (λ_ _=>rfl))))))
   (B1r (A0d (A2f (A9d PySem.F.plainAttrs_dict PySem.F.slot_dict_clear PySem.F.type_dict_clear C1f (pv 4)))
   (A0f (A0q B0j)))))))))),?_⟩
  refine ⟨_,rfl,d,tk,A8r td,rfl,hd,tka,nds,by omega,λq tkq H1 hq s1 h1 tkqs nvq=> ?_⟩;obtain ⟨lv,os,pr,lets⟩:=(M.same s1).pr;have whok:=M.wo;refine ⟨_,rfl,_,rfl,.inl ⟨p,q,wh,ax,td,[ld],lv,os,tkq,rfl,pr,M.nx,M.lx,M.nd,l6,by simp,h1,C6f tkqs.at M.ok,M.nm,whok,lets,M.run,λr rk H2 hr0 s2 hr2 rows=> ?_⟩⟩;have s12:=s1.trans s2;have hrH:H r=none:=s1.free hr0;have rks:=B6l rows;generalize hrun:A3e (ai (A1a ax)) wh (td.map (A5b wh)) [ld]=R at dka rks
  have ndR:((A8h R).map (·.1)).Nodup:=by
   rw [C4f,<-hrun];have:=A5m (len:=ai (A1a ax)) (wh:=wh) (ms:=td.map (A5b wh)) [ld] 1;rw [show [ld].take 1=[ld] from rfl] at this;rw [this];exact M.nd
  have lrk:=Paired.length rks;have ldk:=Paired.length dka;have ndrk:(rk.map (·.1)).Nodup:=by rw [A6j rks.at];exact A2q ndR
  have nddk:(dk.map (·.1)).Nodup:=by rw [A6j dka];exact A2q ndR
  refine ⟨_,rfl,_,rfl,q,d,_,_,B4g (A8r td),B4g (A8r td),rfl,rfl,.inl (s2 _ _ h1),.inl (s12 _ _ hd),B0a (tkqs.at.same s2),B0a (tka.same s12),_,rfl,C9m (by rw [Z12 rfl,B2f nds];rfl) ?_⟩;refine ⟨_,rfl,_,_,_,_,rfl,.dK hr2,A4v "dict",true,rfl,A5c ?_⟩;refine ⟨_,rfl,r,_,rfl,hr2,_,rfl,du,_,rfl,s12 _ _ hdu,rfl,_,rfl,C7v (by rw [lrk,ldk]) ?_⟩;have duR:r≠du:=(A0i hdu hrH).symm;have nofrz:∀o' u',H du≠some (.frz o' u'):=λo' u' z=>by rw [hdu] at z;cases z
  refine ⟨_,rfl,du,dk,rfl,s12 _ _ hdu,λo=> ?_⟩;refine B2i (a:=du) (o:=o) (kvs:=dk) (λi σ H3=>∃(o5:Option V),σ=[some (.ref p),some (.ref d),some (.ref du),some (.ref q),some (.ref r),o5]/\A0r (upd H2 du (.frz o (.dK dk))) H3) ⟨none,rfl,A0r.refl _⟩ (λi σ H3 ⟨_,_,s3⟩=>s3 _ _ A0b) ?_ ?_
  ·rintro i k' v σ H3 hkv ⟨o5,rfl,s3⟩;obtain ⟨e,he,ek,b,ev,hb⟩:=B0v dka hkv;have ek:k'=Sum.inr e.1:=ek;have ev:v= .ref b:=ev;subst ek ev;obtain ⟨c,hrk,sc,hc⟩:=A8s rks he;have hr3:H3 r=some (.dK rk):=s3 _ _ (by rw [A0e duR];exact hr2);have g:A7i H3 r (.str e.1) (some (.ref c)):= .inl ⟨rk,Sum.inr e.1,.inl hr3,rfl,(A4a ndrk hrk).symm⟩;have g':A7i H3 du (.str e.1) (some (.ref b)):= .inl ⟨dk,Sum.inr e.1,.inr ⟨o,s3 _ _ A0b⟩,rfl,(A4a nddk hkv).symm⟩;refine ⟨_,rfl,_,rfl,r,_,rfl,g,_,rfl,A5c ?_⟩;have hb2:=s12 _ _ hb;refine ⟨_,rfl,_,rfl,r,_,rfl,g,_,rfl,_,rfl,du,_,rfl,g',c,b,e.2,rfl,s3 _ _ (by rw [A0e (A0z hc (s12 _ _ hdu) (by intro z;cases z))];exact hc),s3 _ _ (by rw [A0e (A0z hb2 (s12 _ _ hdu) (by intro z;cases z))];exact hb2),λH4 s4=>⟨_,rfl,A5c ⟨_,rfl,s3.trans s4⟩⟩⟩
  rintro σ H3 ⟨o5,rfl,s3⟩;refine ⟨du,o,_,s3 _ _ A0b,nofrz,?_⟩;have st:A0r H2 (upd H3 du (.dK dk)):=A4k (s12 _ _ hdu) s3;generalize upd H3 du (.dK dk)=H4 at st;have s4:=s12.trans st;refine ⟨_,rfl,du,dk,rfl,s4 _ _ hdu,λo2=> ?_⟩
  have g0:A0r (upd H du (.frz o2 (.dK dk))) (upd H4 du (.frz o2 (.dK dk))):=λb v e=>by
   by_cases hb:b=du
   ·subst hb;rw [A0b] at e⊢;exact e
   ·rw [A0e hb] at e⊢;exact s4 _ _ e
  refine B2i (a:=du) (o:=o2) (kvs:=dk) (λi σ H5=>∃(o5:Option V),σ=[some (.ref p),some (.ref d),some (.ref du),some (.ref q),some (.ref r),o5]/\A0r (upd H du (.frz o2 (.dK dk))) H5/\H5 r=some (.dK rk)/\∀e∈rk,∃b xs,e.2= .ref b/\H b=none/\H5 b=some (.lst xs)) ⟨_,rfl,g0,by rw [A0e duR];exact st _ _ hr2,λe he=> ?_⟩ (λi σ H5 ⟨_,_,s5,_⟩=>s5 _ _ A0b) ?_ ?_
  ·obtain ⟨j,hj⟩:=List.getElem?_of_mem he;obtain ⟨e',_,_,b,eb,sb,hb⟩:=B0v rks hj;exact ⟨b,_,eb,s1.free sb,by rw [A0e (A0z hb (s12 _ _ hdu) (by intro z;cases z))];exact st _ _ hb⟩
  ·rintro i k' v σ H5 hkv ⟨o5,rfl,s5,hr5,all⟩;obtain ⟨e,he,ek,_⟩:=B0v dka hkv;have ek:k'=Sum.inr e.1:=ek;subst ek;obtain ⟨c,hrk,_⟩:=A8s rks he;obtain ⟨b,xs,eb,hbn,hb5⟩:=all _ (Z13 hrk);cases eb;have g:A7i H5 r (.str e.1) (some (.ref c)):= .inl ⟨rk,Sum.inr e.1,.inl hr5,rfl,(A4a ndrk hrk).symm⟩;refine ⟨_,rfl,_,rfl,r,_,rfl,g,.inl ⟨rfl,_,SqL.of hb5⟩,c,_,rfl,rfl,hb5,?_⟩;have cdu:c≠du:=λz=>by subst z;rw [hdu] at hbn;cases hbn
   refine ⟨_,rfl,A0k s5 (by rw [A0e cdu];exact hbn),by rw [A0e (A0z hr5 hb5 (by intro z;cases z))];exact hr5,λe' he'=> ?_⟩;obtain ⟨b',xs',eb',hbn',hb5'⟩:=all e' he';by_cases hbc:b'=c
   ·subst hbc;exact ⟨b',_,eb',hbn',A0b⟩
   ·exact ⟨b',xs',eb',hbn',by rw [A0e hbc];exact hb5'⟩
  rintro σ H5 ⟨o5,rfl,s5,hr5,_⟩;refine ⟨du,o2,_,s5 _ _ A0b,nofrz,?_⟩;have st5:A0r H (upd H5 du (.dK dk)):=A4k hdu s5;have hr6:upd H5 du (.dK dk) r=some (.dK rk):=by rw [A0e duR];exact hr5
  generalize upd H5 du (.dK dk)=H6 at st5 hr6;exact ⟨_,rfl,.inr (.inr (.inl ⟨rfl,.inl ⟨_,hr6⟩⟩)),r,_,rfl,rfl,hr6,k _ (A0k st5 hrH)⟩
theorem B2w (T:Txt K mg t):A1m P w K mg base CX0 13 t.cj t.bZ ["_law_program","_law_tables"] (B0q t):=by
 have G_l_copy:=A7c (P:=P) (w:=w) (base:=base) T;have G_meaning:=A7o (P:=P) (w:=w) (base:=base) T;refine T.bX.ok A5g (λvs H Q E h=> ?_) (λcdv A outer s H vs Q E hr h=> ?_)
 ·obtain ⟨p,d,wh,ax,td,ld,tk,ts,rfl,_⟩:=h;rfl
 ·obtain ⟨p,d,wh,ax,td,ld,tk,ts,rfl,M,hd,tka,nds,l7,bad,k⟩:=h
  refine ⟨_,(A0d (A1b (i:=2) A5g.nd rfl (Or.inl rfl) (A0h G_l_copy (hr.mono (by omega)) rfl T.cP T.cg.kp T.cQ .nil A0s (A0a (pv 1) A0c)))
   (A0d (C0j ⟨rfl,rfl⟩ (B9y G_meaning (hr.mono (by omega)) rfl T.df T.bx.kp T.dg (A0a (pv 0) (A0a (pv 2) A0c))))
   (A0f (A0q B0j)))),?_⟩
  refine ⟨_,rfl,d,tk,ts,rfl,hd,tka,nds,by omega,λq tkq H1 hq s1 h1 tkqs nvq=> ?_⟩;obtain ⟨lv,os,pr,lets⟩:=(M.same s1).pr;refine ⟨_,rfl,_,rfl,.inr ⟨p,q,wh,ax,td.map (·.1),lv,os,tkq,ts,td.map (·.2.1),rfl,pr,M.nx,M.ndt,by rw [Z08];exact M.l6,h1,tkqs.at,nds,l7,B5g M.ok,(λe he=>by obtain ⟨e',he',rfl⟩:=Z2c.mp he;exact M.nm e' he'),B7l M.ok bad,λH2 s2=>⟨t.ah,_,rfl,(C5m (i:=3) rfl T.di T.cE A5g.nd rfl rfl (λ_=>(A0f (A0q (B6q (C7n (C5n hr.units) (pv 2) (pv 1) (A1n _)) (B6q (A0o (B0u (K:=K) rfl) (by rfl) T.ae Z0d (A0a (pv 3) (A0a (B1m (v:=V.ref t.a_) rfl T.dC rfl) A0c))) (C2g (D1b (A0o (B5o (K:=K) rfl) (by rfl) T.ae Z0d (A0a (pv 3) (A0a (B0w (A0a (B1m (v:=V.ref t.cf) rfl T.fJ rfl) (A0a (B1m (v:=V.ref t.bA) rfl T.fz rfl) (A0a (B1m (v:=V.ref t.bv) rfl T.fy rfl) A0c)))) A0c))))))))))),λea hea=> ?_⟩⟩⟩;have s0:A0r H2 (upd H2 ea (.ext (xcF ea t.ah))):=A0g hea;have hx:upd H2 ea (.ext (xcF ea t.ah)) ea=some (.ext (xcF ea t.ah)):=A0b;have s13:=s2.trans s0;have s03:=s1.trans s13;refine ⟨_,rfl,_,rfl,q,d,_,_,B4g ts,B4g ts,rfl,rfl,.inl (s13 _ _ h1),.inl (s03 _ _ hd),B0a (tkqs.at.same s13),B0a (tka.same s03),_,rfl,D0d (by rw [Z0t Z0v];exact B2f nds) ?_⟩;refine ⟨_,rfl,ea,t.ah,_,true,rfl,hx,T.cN,C7j T.ci,true,rfl,B9u ?_⟩;refine ⟨_,rfl,A1h (by show 3<=1000000;decide),λtp htp=> ?_⟩;have s2':=A0g (o:= .tup [.ref t.cf,.ref t.bA,.ref t.bv]) htp;refine ⟨ea,t.ah,tp,_,false,rfl,s2' _ _ hx,T.cN,A0b,B3w (cs:=[t.cf,t.bA,t.bv]) (λc hc=> ?_),false,rfl,k _ (s03.trans s2')⟩;simp only [Z0e,Z1i,or_false] at hc;rcases hc with rfl | rfl | rfl
  ·exact T.cV
  ·exact T.cC
  ·exact T.cH
theorem B8d (T:Txt K mg t):A1m P w K mg base CX0 13 t.dj t.dz ["_law_program","_law_tables"] (B0q t):=by
 have G_l_copy:=A7c (P:=P) (w:=w) (base:=base) T;have G_meaning:=A7o (P:=P) (w:=w) (base:=base) T;refine T.eR.ok B0p (λvs H Q E h=> ?_) (λcdv A outer s H vs Q E hr h=> ?_)
 ·obtain ⟨p,d,wh,ax,td,ld,tk,ts,rfl,_⟩:=h;rfl
 ·obtain ⟨p,d,wh,ax,td,ld,tk,ts,rfl,M,hd,tka,nds,l7,bad,k⟩:=h
  refine ⟨_,(A0d (C0j ⟨rfl,rfl⟩ (B9y G_meaning (hr.mono (by omega)) rfl T.df T.bx.kp T.dg (A0a (pv 0) (A0a (A0h G_l_copy (hr.mono (by omega)) rfl T.cP T.cg.kp T.cQ .nil A0s (A0a (pv 1) A0c)) A0c))))
   (A0f (A0q B0j))),?_⟩
  refine ⟨_,rfl,_,rfl,d,tk,ts,rfl,hd,tka,nds,by omega,λq tkq H1 hq s1 h1 tkqs nvq=> ?_⟩;obtain ⟨lv,os,pr,lets⟩:=(M.same s1).pr;refine .inr ⟨p,q,wh,ax,td.map (·.1),lv,os,tkq,ts,td.map (·.2.1),rfl,pr,M.nx,M.ndt,by rw [Z08];exact M.l6,h1,tkqs.at,nds,l7,B5g M.ok,(λe he=>by obtain ⟨e',he',rfl⟩:=Z2c.mp he;exact M.nm e' he'),B7l M.ok bad,λH2 s2=>⟨t.ah,_,rfl,(C5m (i:=2) rfl T.dC T.c7 B0p.nd rfl rfl (λ_=>(A0f (A0q (A0o (B0u (K:=K) rfl) (by rfl) T.ae Z0d (A0a (pv 2) (A0a (A1z (v:=V.ty "ValueError") rfl T.eW PyProof.Rows.Boot.«ValueError» rfl) A0c))))))),λea hea=> ?_⟩⟩;exact ⟨_,rfl,ea,t.ah,_,true,rfl,A0b,T.cN,B6u T.bV (by decide +kernel),k _ (s1.trans (s2.trans (A0g hea)))⟩
end
def KI (H H':Hp):Prop:=∀b u,(∀n xs,u≠.lst (V.int n::xs))->H b=some u->H' b=some u
def hdI:List PyData->Bool
 | .int _::_=>false
 | _=>true
mutual
def noI:PyData->Bool
 | .list ds=>hdI ds&&B4j ds
 | .tuple ds=>B4j ds
 | _=>true
def B4j:List PyData->Bool
 | []=>true
 | d::r=>noI d&&B4j r
end
theorem D2x {H:Hp} {xs:List V} {ds:List PyData} (r:A2u H xs ds) (h:hdI ds=true):∀n ys,HO.lst xs≠.lst (V.int n::ys):=λn ys z=>by
 cases z
 cases r with
 | cons a _ =>
  cases a
  cases h
mutual
theorem Rep.ki {H H':Hp} (f:KI H H'):∀{v:V} {d:PyData},Rep H v d->noI d=true->Rep H' v d
 | _,_,.non,_=> .non
 | _,_,.bl b,_=> .bl b
 | _,_,.int i,_=> .int i
 | _,_,.str x,_=> .str x
 | _,_,.lst e r,h=>by
  rw [noI,Z1x] at h;exact .lst (f _ _ (D2x r h.1) e) (A2u.ki f r h.2)
 | _,_,.tup e r,h=>by
  rw [noI] at h;exact .tup (f _ _ (by intro n xs z;cases z) e) (A2u.ki f r h)
theorem A2u.ki {H H':Hp} (f:KI H H'):∀{vs:List V} {ds:List PyData},A2u H vs ds->B4j ds=true->A2u H' vs ds
 | _,_,.nil,_=> .nil
 | _,_,.cons a r,h=>by
  rw [B4j,Z1x] at h;exact .cons (Rep.ki f a h.1) (A2u.ki f r h.2)
end
theorem B7v:∀ys:List Str,B4j (ys.map PyData.str)=true
 | []=>by simp [B4j]
 | y::r=>by rw [Z0p,B4j,B7v r];simp [noI]
theorem C5k (ix:List (Str×Int)):noI (A4i ix)=true:=by
 have h:∀ix:List (Str×Int),B4j (ix.map B1w)=true:=λix=>by
  induction ix with
  | nil=>simp [B4j]
  | cons e r ih=>rw [Z0p,B4j,ih];simp [B1w,noI,B4j]
 unfold A4i;rw [noI,h];cases ix <;> simp [hdI,B1w]
theorem C9z (tb:List (Str×List Str)):noI (A8e tb)=true:=by
 have h:∀tb:List (Str×List Str),B4j (tb.map B4k)=true:=λtb=>by
  induction tb with
  | nil=>simp [B4j]
  | cons e r ih =>
   rw [Z0p,B4j,ih];have:hdI (e.2.map PyData.str)=true:=by cases e.2 <;> simp [hdI]
   simp [B4k,noI,B4j,B7v,this]
 unfold A8e;rw [noI,h];cases tb <;> simp [hdI,B4k]
theorem C1j (ys:List Str):∀n xs,HO.lst (ys.map V.str)≠.lst (V.int n::xs):=λn xs z=>by
 cases ys with
 | nil=>cases z
 | cons y r=>cases z
theorem Ob.ki {A:Adr} {H H':Hp} (f:KI H H') {v:V} {u:Tm} (h:Ob A H v u):Ob A H' v u:=by
 cases h with
 | num e=>exact .num (f _ _ (by intro n xs z;cases z) e)
 | read e r=>exact .read (f _ _ (by intro n xs z;cases z) e) (Rep.ki f r (C5k _))
theorem B2h.ki {A:Adr} {ax:List (Str×Int)} {H H':Hp} {v:V} {e:LD} (h:B2h A ax H v e) (f:KI H H'):B2h A ax H' v e:=by
 obtain ⟨lt,dl,cx,tv,e1,h1,h2,h3,r⟩:=h;exact ⟨lt,dl,cx,tv,e1,f _ _ (by intro n xs z;cases z) h1,f _ _ (C1j _) h2,h3.ki f,r⟩
theorem Mk.ki {A:Adr} {H H':Hp} {p:Addr} {wh:Int} {ax:List (Str×Int)} {td:List TD} {ld:LD} (h:Mk A H p wh ax td ld) (f:KI H H'):Mk A H' p wh ax td ld:=by
 obtain ⟨⟨lv,os,⟨dx,a,tt,l,o,hp,ra,rt,hl,ho⟩,lo⟩,a1,b,c,d,e,g,i,j⟩:=h
 have nl:∀n xs,HO.lst lv≠.lst (V.int n::xs):=λn xs z=>by
  cases z
  cases lo with
  | cons q _ =>
   obtain ⟨_,_,_,_,z,_⟩:=q;cases z
 exact ⟨⟨lv,os,⟨dx,a,tt,l,o,f _ _ (by intro n xs z;cases z) hp,Rep.ki f ra (C5k _),Rep.ki f rt (C9z _),f _ _ nl hl,f _ _ (C1j _) ho⟩,Paired.mapP lo λ_ _ q=>q.ki f⟩,a1,b,c,d,e,g,i,j⟩
theorem B5h {H H':Hp} {D:Addr} {ms:List Int} (hD:H D=some (.lst (ms.map V.int))) (o:Oth D H H') (e:ms=[]->H'=H):KI H H':=by
 cases ms with
 | nil=>rw [e rfl];exact λ_ _ _ y=>y
 | cons n r =>
  intro b u n1 y;by_cases hb:b=D
  ·subst hb;rw [hD] at y;cases y;exact absurd rfl (n1 n _)
  ·rw [o b hb];exact y
theorem C0g {len:Str->Int} {wh:Int} {u:Tm} {ys:List Str} {ms:NS} {x:Str} (g:List Int->Int) (cells:List (List Int)) (h:∀cs c,c∈cells->wo len (λa d=>(A8l (A4c ms x cs) a d).getD 0) wh u (ai (B1f ys c))=g c):(B1s len wh u ys ms x cells).map (·.2)=cells.map g:=by
 have key:∀i,(B1s len wh u ys ms x (cells.take i)).map (·.2)=(cells.take i).map g:=by
  intro i
  induction i with
  | zero=>rfl
  | succ i ih =>
   rw [Z14]
   cases hc:cells[i]? with
   | none=>simpa using ih
   | some c =>
    rw [Option.toList_some,A9b];unfold C2y;rw [Z0s,ih,Z0s];show _++[_]=_++[_];rw [h _ c (Z13 hc)]
 have:=key cells.length
 rwa [Z18] at this
theorem B7m:∀{cells:List (List Int)} {vals:List Int},cells.Nodup->cells.length=vals.length->cells.map (λc=>(A7r (cells.zip vals) c).getD 0)=vals
 | [],[],_,_=>rfl
 | [],_::_,_,h=>by simp at h
 | _::_,[],_,h=>by simp at h
 | c::cs,v::vs,nd,h=>by
  obtain ⟨n1,n2⟩:=Z15.mp nd;have ih:=B7m (cells:=cs) (vals:=vs) n2 (by simpa using h);rw [List.zip_cons_cons,Z0p];congr 1
  ·simp [A7r,List.find?_cons]
  ·refine Eq.trans (List.map_congr_left λd hd=> ?_) ih;have:c≠d:=λz=>n1 (by rw [z];exact hd);simp [A7r,List.find?_cons,this]
theorem B2o:∀{cells:List (List Int)} {vals:List Int} {c:List Int},c∈cells->cells.length=vals.length->(A7r (cells.zip vals) c).isSome=true
 | [],_,_,h,_=>by cases h
 | _::_,[],_,_,h=>by simp at h
 | d::cs,v::vs,c,hc,h=>by
  by_cases e:d=c
  ·simp [A7r,List.find?_cons,e]
  ·have hc:c∈cs:=by
    rcases Z0e.mp hc with z | z
    ·exact absurd z.symm e
    ·exact z
   have:=B2o (vals:=vs) hc (by simpa using h)
   simpa [A7r,List.find?_cons,e] using this
theorem B9v {α:Type} {f:α->Str}:∀{l:List α} {j:Nat} {e:α},(l.map f).Nodup->l[j]? =some e->l.find? (λe'=>decide (f e'=f e))=some e
 | [],_,_,_,h=>by simp at h
 | a::r,0,e,_,h=>by simp at h;subst h;simp [List.find?_cons]
 | a::r,j+1,e,nd,h=>by
  have nd:(f a::r.map f).Nodup:=nd;obtain ⟨n1,n2⟩:=Z15.mp nd;have h:r[j]? =some e:=by simpa using h
  have:f a≠f e:=λz=>n1 (by rw [z];exact Z2c.mpr ⟨e,Z13 h,rfl⟩);rw [List.find?_cons,Z1j this];exact B9v n2 h
theorem B3l {ms:NS} {x:Str} {j:Nat} {e:Str×List (List Int×Int)} (nd:(ms.map (·.1)).Nodup) (h:ms[j]? =some e) (cs:List (List Int×Int)) (c:List Int):A8l (A4c ms x cs) e.1 c=A7r e.2 c:=by
 unfold A8l A4c;rw [List.find?_append,B9v nd h];rfl
theorem B4w:∀{ys:List Str} {c:List Int},ys.Nodup->ys.length=c.length->(∀y∈ys,∃i:Int,A3q ((ys.map (Sum.inr:Str->Key)).zip (c.map V.int)) (Sum.inr y)=some (.int i))/\ys.map (ai ((ys.map (Sum.inr:Str->Key)).zip (c.map V.int)))=c
 | [],[],_,_=>⟨(by intro y hy;cases hy),rfl⟩
 | [],_::_,_,h=>by simp at h
 | _::_,[],_,h=>by simp at h
 | y::ys,n::c,nd,h=>by
  obtain ⟨n1,n2⟩:=Z15.mp nd;obtain ⟨i1,i2⟩:=B4w (ys:=ys) (c:=c) n2 (by simpa using h);have e0:A3q (((y::ys).map (Sum.inr:Str->Key)).zip ((n::c).map V.int)) (Sum.inr y)=some (.int n):=A2z rfl
  have e1:∀z∈ys,A3q (((y::ys).map (Sum.inr:Str->Key)).zip ((n::c).map V.int)) (Sum.inr z)=A3q ((ys.map (Sum.inr:Str->Key)).zip (c.map V.int)) (Sum.inr z):=λz hz=>by
   rw [Z0p,Z0p,List.zip_cons_cons];exact A3b λq=>n1 (by injection q with q;rw [q];exact hz)
  refine ⟨λz hz=> ?_,?_⟩
  ·rcases Z0e.mp hz with rfl | hz
   ·exact ⟨n,e0⟩
   ·rw [e1 z hz];exact i1 z hz
  ·rw [Z0p (l:=ys)];congr 1
   ·exact C8x e0
   ·refine Eq.trans (List.map_congr_left λz hz=> ?_) i2;unfold ai;rw [e1 z hz]
theorem C5f {ys:List Str} {c:List Int} (nd:ys.Nodup) (h:ys.length=c.length):B1f ys c=(ys.map (Sum.inr:Str->Key)).zip (c.map V.int):=by
 unfold B1f;refine A9t ?_;rw [List.map_fst_zip (by rw [Z08,Z08];omega)];exact A2q nd
def ixO (ys:List Str):List (Str×Int):=ys.map λy=>(y,0)
theorem C1q {ys:List Str} {c:List Int} (nd:ys.Nodup) (h:ys.length=c.length) (ne:∀y∈ys,y≠""):A8i (ai (B1f ys c)) (ixO ys)=c:=by
 unfold A8i ixO;rw [List.map_map];refine Eq.trans (List.map_congr_left λy hy=> ?_) (B4w nd h).2;rw [<-C5f nd h];show (if y=("":Str) then 0 else ai (B1f ys c) y+0)=_;rw [Z0t (ne y hy),Int.add_zero]
theorem C6y {ys:List Str} {c:List Int} {a:Str} (nd:ys.Nodup) (h:ys.length=c.length):D3e (B1f ys c) (.read a (ixO ys)):=λx hx=>by
 obtain ⟨_,e,he,rfl⟩:=hx;obtain ⟨y,hy,rfl⟩:=Z2c.mp he;obtain ⟨i,hi⟩:=(B4w nd h).1 y hy;rw [C5f nd h,C8x hi];exact hi
theorem C7d {len:Str->Int} {wh z:Int} {ys:List Str} {ms:NS} {x:Str} (cells:List (List Int)):(B1s len wh (.num z) ys ms x cells).map (·.2)=List.replicate cells.length (z%wh):=by
 rw [C0g (λ_=>z%wh) cells λ_ _ _=>rfl,List.map_const']
theorem C2w {len:Str->Int} {wh:Int} {ys:List Str} {td:List TD} {x:Str} {te:TD} {j:Nat} (nd:((td.map (·.1)).map (·.1)).Nodup) (h:td[j]? =some te) (yn:ys.Nodup) (ne:∀y∈ys,y≠"") (hl:ys.length=te.2.1.length) (ln:te.2.2.length=(A0n te.2.1).length) :
  (B1s len wh (.read te.1.1 (ixO ys)) ys (td.map (A5b wh)) x (A0n te.2.1)).map (·.2)=te.2.2.map (· %wh)/\C2f len wh (.read te.1.1 (ixO ys)) ys (td.map (A5b wh)) x (A0n te.2.1):=by
 have hm:(td.map (A5b wh))[j]? =some (A5b wh te):=by rw [Z1z,h];rfl
 have nm:((td.map (A5b wh)).map (·.1)).Nodup:=by rw [B1a];exact nd
 have lc:∀c∈A0n te.2.1,ys.length=c.length:=λc hc=>by rw [hl,(A5r _ c hc).1]
 have lv:(A0n te.2.1).length=(te.2.2.map (· %wh)).length:=by rw [Z08];exact ln.symm
 refine ⟨?_,λi c hc=>⟨?_,C6y yn (lc c (Z13 hc)),by simp [rd]⟩⟩
 ·rw [C0g (λc=>(A7r ((A0n te.2.1).zip (te.2.2.map (· %wh))) c).getD 0%wh) (A0n te.2.1) λcs c hc=> ?_]
  ·have:=B7m (cells:=A0n te.2.1) (vals:=te.2.2.map (· %wh)) (A6m _) lv;have e2:=congrArg (List.map (· %wh)) this;rw [List.map_map,List.map_map] at e2;refine Eq.trans e2 (List.map_congr_left λn _=> ?_);show n%wh%wh=n%wh;exact Int.emod_emod_of_dvd n (Int.dvd_refl wh)
  ·show (A8l (A4c (td.map (A5b wh)) x cs) te.1.1 (A8i (ai (B1f ys c)) (ixO ys))).getD 0%wh=_;rw [C1q yn (lc c hc) ne,show te.1.1=(A5b wh te).1 from rfl,B3l nm hm];rfl
 ·intro e he;have he:e∈[(te.1.1,A8i (ai (B1f ys c)) (ixO ys))]:=he;rw [Z0w.mp he];have hcm:=Z13 hc;show (A8l _ te.1.1 (A8i (ai (B1f ys c)) (ixO ys))).isSome=true;rw [C1q yn (lc c hcm) ne,show te.1.1=(A5b wh te).1 from rfl,B3l nm hm];exact B2o hcm lv
theorem C4w {ax:List (Str×Int)} (h:∀e∈ax,1<=e.2/\e.2<=60):A8m (ax.map (·.1)) (A1a ax):=λx hx=>by
 cases q:A3q (A1a ax) (Sum.inr x) with
 | none =>
  obtain ⟨e,he,rfl⟩:=Z2c.mp hx;exact absurd (Z2c.mpr ⟨_,Z2c.mpr ⟨e,he,rfl⟩,rfl⟩) (C3u q)
 | some v =>
  obtain ⟨p,hp,_,e2⟩:=C3p q;obtain ⟨e,he,rfl⟩:=Z2c.mp hp;have e2:V.int e.2=v:=e2;subst e2;rw [C8x q];exact ⟨rfl,h e he⟩
theorem C7z {ax:List (Str×Int)} {y:Str} {n:Int} (h:y∈ax.map (·.1)):∃ax',A6x (A1a ax) (Sum.inr y) (.int n)=A1a ax'/\ax'.map (·.1)=ax.map (·.1)/\∀e∈ax',e∈ax\/e.2=n:=by
 obtain ⟨e,he,rfl⟩:=Z2c.mp h;refine ⟨ax.map λe'=>if e'.1=e.1 then (e'.1,n) else e',?_,?_,λe' he'=> ?_⟩
 ·unfold A6x;have hany:((A1a ax).any λkv=>decide (kv.1=Sum.inr e.1))=true:=List.any_eq_true.mpr ⟨(Sum.inr e.1,V.int e.2),Z2c.mpr ⟨e,he,rfl⟩,Z20 rfl⟩;rw [Z12 hany];unfold A1a;rw [List.map_map,List.map_map];refine List.map_congr_left λa _=> ?_;show (if (Sum.inr a.1:Key)=Sum.inr e.1 then ((Sum.inr a.1:Key),V.int n) else (Sum.inr a.1,V.int a.2))=_;by_cases z:a.1=e.1
  ·rw [Z12 (by rw [z])];show _=((Sum.inr (if a.1=e.1 then (a.1,n) else a).1:Key),V.int (if a.1=e.1 then (a.1,n) else a).2);rw [Z12 z]
  ·rw [Z0t (λq=>z (by injection q))];show _=((Sum.inr (if a.1=e.1 then (a.1,n) else a).1:Key),V.int (if a.1=e.1 then (a.1,n) else a).2);rw [Z0t z]
 ·rw [List.map_map];refine List.map_congr_left λa _=> ?_;show (if a.1=e.1 then (a.1,n) else a).1=a.1;split <;> rfl
 ·obtain ⟨a,ha,rfl⟩:=Z2c.mp he';by_cases z:a.1=e.1
  ·rw [Z12 z];exact .inr rfl
  ·rw [Z0t z];exact .inl ha
theorem B4v {ax:List (Str×Int)} {y:Str} {n:Int} (h:y∉ax.map (·.1)):A6x (A1a ax) (Sum.inr y) (.int n)=A1a (ax++[(y,n)]):=by
 rw [A3h (λp hp z=>h (by obtain ⟨e,he,rfl⟩:=Z2c.mp hp;injection z with z;rw [<-z];exact Z2c.mpr ⟨e,he,rfl⟩))];unfold A1a;rw [Z0s];rfl
theorem C2v {ws:List (Key×V)} {k:Key} {u v:V} (n:∀p∈ws,p.1≠k):A6x (ws++[(k,u)]) k v=ws++[(k,v)]:=by
 unfold A6x;rw [Z12 (List.any_eq_true.mpr ⟨(k,u),by simp,Z20 rfl⟩),Z0s];congr 1
 ·refine Eq.trans (List.map_congr_left λp hp=> ?_) (List.map_id _);rw [Z0t (n p hp)];rfl
 ·simp
def tn6:List Str:=["aa","ab","b","abcdefgh","ba","c"]
def nm4:List Str:=["i","q","rows","column"]
theorem C6d:tn6.Nodup:=by decide +kernel
theorem D0h:nm4.Nodup:=by decide +kernel
theorem C1g:∀x∈tn6,(x.length<=20/\PyData.strOk x=true)/\x≠"told":=by decide +kernel
theorem C5q:∀x∈nm4,(x.length<=20/\PyData.strOk x=true)/\x≠"":=by decide +kernel
theorem D1k:∀x∈nm4++(["zz","told"]:List Str),x∉tn6:=by decide +kernel
theorem cut4 {k:Int} (h0:0<=k) (h4:k<=4):C2o (nm4.map V.str) none (some k)=(nm4.take k.toNat).map V.str:=by
 obtain ⟨j,rfl⟩:=Int.eq_ofNat_of_zero_le h0;have hj:j<=4:=by omega
 unfold C2o;have e1:HT.sIx (nm4.map V.str).length 0 none=0:=rfl;have e2:HT.sIx (nm4.map V.str).length (nm4.map V.str).length (some (j:Int))=min j 4:=HT.sIx_nat _ _ j;rw [e1,e2,List.drop_zero,Nat.sub_zero,Nat.min_eq_left hj,List.map_take];rfl
def KL (M:List Addr) (H H':Hp):Prop:=∀b o,b∉M->H b=some o->H' b=some o
theorem KL.of {M:List Addr} {H H':Hp} (s:A0r H H'):KL M H H':=λb o _ e=>s b o e
theorem KL.trans {M:List Addr} {H H' H2:Hp} (a:KL M H H') (b:KL M H' H2):KL M H H2:=λc o n e=>b c o n (a c o n e)
theorem KL.oth {M:List Addr} {D:Addr} {H H':Hp} (m:D∈M) (o:Oth D H H'):KL M H H':=λb u n e=>by rw [o b (λz=>n (by rw [z];exact m))];exact e
theorem KL.upd {M:List Addr} {D:Addr} {H H':Hp} {o:HO} (m:D∈M) (k:KL M H H'):KL M H (upd H' D o):=λb u n e=>by rw [A0e (λz=>n (by rw [z];exact m))];exact k b u n e
theorem KL.kb {M:List Addr} {D:Addr} {H H':Hp} (m:D∈M) (k:KB D H H'):KL M H H':=λb u n e=>k b u (λz=>n (by rw [z];exact m)) e
theorem KL.free {M:List Addr} {H H':Hp} {b:Addr} (k:KL M H H') (hm:∀m∈M,H' m≠none) (h:H' b=none):H b=none:=by
 cases e:H b with
 | none=>rfl
 | some o =>
  by_cases m:b∈M
  ·exact absurd h (hm b m)
  ·rw [k b o m e] at h;cases h
abbrev TbS (S:Addr->Prop) (H:Hp) (xs:List V) (tb:List (Str×List Str)):Prop:=Paired (λ(v:V) (e:Str×List Str)=>∃b c,v= .ref b/\S b/\S c/\H b=some (.tup [.str e.1,.ref c])/\H c=some (.lst (e.2.map V.str))) xs tb
theorem TbS.imp {S S':Addr->Prop} {H H':Hp} {xs:List V} {tb:List (Str×List Str)} (h:TbS S H xs tb) (f:∀b o,S b->H b=some o->S' b/\H' b=some o):TbS S' H' xs tb :=
 Paired.mapP h λ_ _ ⟨b,c,e,sb,sc,hb,hc⟩=>⟨b,c,e,(f _ _ sb hb).1,(f _ _ sc hc).1,(f _ _ sb hb).2,(f _ _ sc hc).2⟩
theorem B7i {S:Addr->Prop} {H:Hp}:∀{xs:List V} {tb:List (Str×List Str)},TbS S H xs tb->A2u H xs (tb.map B4k)
 | _,_,.nil=> .nil
 | _,_,.cons ⟨b,c,e,_,_,hb,hc⟩ t=> .cons (by rw [e];exact D2m hb hc) (B7i t)
def duT (wh:Int) (td:List TD):List (Str×List Int):=td.map λe=>(e.1.1,e.2.2.map (· %wh))
def C4o (K:PySem.W.Frag):Sp:=λvs H Q _=>∃(a:Addr) (ns:List Int),vs=[.ref a]/\SqL K H a (ns.map V.int)/\ns.length<=63/\∀H',Q (.bl true) H'
theorem C6t {α:Type} (f:α->V) (nm:List α) (lo hi:Option Int):∃zs:List α,C2o (nm.map f) lo hi=zs.map f/\zs.length<=nm.length/\∀x∈zs,x∈nm:=by
 refine ⟨(nm.drop (HT.sIx nm.length 0 lo)).take (HT.sIx nm.length nm.length hi-HT.sIx nm.length 0 lo),?_,?_,λx hx=> ?_⟩
 ·unfold C2o;rw [Z08,<-List.map_drop,<-List.map_take]
 ·rw [Z0x,Z19];omega
 ·exact List.mem_of_mem_drop (List.mem_of_mem_take hx)
theorem C6x:(0:Int)<10^(30:Int).toNat:=by decide +kernel
theorem w_ok (c:Int):C9j (2+c%(10^(30:Int).toNat-2)):=by
 have h0:(0:Int)<10^(30:Int).toNat-2:=by decide +kernel
 have h1:=Z1v c (show (10^(30:Int).toNat-2:Int)≠0 by decide +kernel);have h2:=Z1p c h0;have h3:(10^(30:Int).toNat-2:Int)<=10^32-2:=by decide +kernel
 refine ⟨by omega,?_⟩;generalize c%(10^(30:Int).toNat-2)=z at h1 h2⊢;generalize (10^(30:Int).toNat-2:Int)=u at h2 h3;generalize (10^32:Int)=v at h3⊢;omega
theorem D2f (c:Int):Sm (c%10^(30:Int).toNat):=by
 have h1:=Z1v c (show (10^(30:Int).toNat:Int)≠0 by decide +kernel);have h2:=Z1p c C6x;have h3:(10^(30:Int).toNat:Int)<=((10^32:Nat):Int):=by decide +kernel
 show (c%10^(30:Int).toNat).natAbs<=10^32;generalize c%10^(30:Int).toNat=z at h1 h2⊢;generalize (10^(30:Int).toNat:Int)=u at h2 h3;generalize (10:Nat)^32=v at h3⊢;omega
theorem C0h {H:Hp} {x dx:Addr} {o1 o2 o3:HO} (hx:H x=none) (hdx:H dx=none):A0r H (upd (upd (upd H dx o1) x o2) x o3):=A0k (A0k (A0g hdx) hx) hx
structure TI (S:Addr->Prop) (H:Hp) (tl nd du:Addr) (xs:List V) (nk dk:List (Key×V)) (td:List TD) (ds:List (Str×List Int)):Prop where
 htl:H tl=some (.lst xs)
 tb:TbS S H xs (td.map (·.1))
 hnd:H nd=some (.dK nk)
 nt:TkS S H nk (A8r td)
 hdu:H du=some (.dK dk)
 dt:TkS S H dk ds
theorem TI.keep {S:Addr->Prop} {H H':Hp} {tl nd du:Addr} {xs:List V} {nk dk:List (Key×V)} {td:List TD} {ds:List (Str×List Int)} (h:TI S H tl nd du xs nk dk td ds) (f:∀b o,(S b\/b=tl\/b=nd\/b=du)->H b=some o->H' b=some o):TI S H' tl nd du xs nk dk td ds :=
 ⟨f _ _ (.inr (.inl rfl)) h.htl,h.tb.imp λb o s e=>⟨s,f _ _ (.inl s) e⟩,f _ _ (.inr (.inr (.inl rfl))) h.hnd,h.nt.imp λb o s e=>⟨s,f _ _ (.inl s) e⟩,f _ _ (.inr (.inr (.inr rfl))) h.hdu,h.dt.imp λb o s e=>⟨s,f _ _ (.inl s) e⟩⟩
theorem TI.same {S:Addr->Prop} {H H':Hp} {tl nd du:Addr} {xs:List V} {nk dk:List (Key×V)} {td:List TD} {ds:List (Str×List Int)} (h:TI S H tl nd du xs nk dk td ds) (s:A0r H H'):TI S H' tl nd du xs nk dk td ds:=h.keep λb o _ e=>s b o e
theorem C7c {S:Addr->Prop} {H:Hp} {tk:List (Key×V)} {td:List TD} (h:TkS S H tk (A8r td)):tk.length=td.length:=by have:=Paired.length h;unfold A8r at this;rw [Z08] at this;exact this
theorem B4u (wh:Int) (td:List TD):(duT wh td).length=td.length:=by unfold duT;rw [Z08]
abbrev PxS (H:Hp) (vs:List V) (ix:List (Str×Int)):Prop:=Paired (λ(v:V) (e:Str×Int)=>∃q,v= .ref q/\H q=some (.tup [.str e.1,.int e.2])) vs ix
theorem PxS.keep {H H':Hp} {vs:List V} {ix:List (Str×Int)} (h:PxS H vs ix) (f:∀b xs,H b=some (.tup xs)->H' b=some (.tup xs)):PxS H' vs ix:=Paired.mapP h λ_ _ ⟨q,e,hq⟩=>⟨q,e,f _ _ hq⟩
theorem B1n {H:Hp}:∀{vs:List V} {ix:List (Str×Int)},PxS H vs ix->A2u H vs (ix.map B1w)
 | _,_,.nil=> .nil
 | _,_,.cons ⟨q,e,hq⟩ t=> .cons (by rw [e];exact .tup hq (.cons (.str _) (.cons (.int _) .nil))) (B1n t)
def D1z (nm:List Str) (lk:List (Key×V)) (td:List TD):Prop:=∀e∈td,C8q nm lk e.1.2/\e.2.1=e.1.2.map (ai lk)/\e.2.2.length=(A2j e.2.1).toNat
theorem B5b {nm:List Str} {lk:List (Key×V)} {ys:List Str} (lo:A8m nm lk) (h:C8q nm lk ys):A7d (ys.map (ai lk)):=⟨B5x lo h.sub,by rw [Z08];have:=h.few;omega,by have:=h.most;omega⟩
theorem C7g {nm:List Str} {ax:List (Str×Int)} {td:List TD} (lo:A8m nm (A1a ax)) (h:D1z nm (A1a ax) td):∀e∈td,Sz (A1a ax) e.1.2 e.2.1/\A7d e.2.1/\e.2.2.length=(A0n e.2.1).length:=λe he=>by
 obtain ⟨h1,h2,h3⟩:=h e he;have g:A7d e.2.1:=by rw [h2];exact B5b lo h1
 have lc:=A1f e.2.1 λn hn=>(g.pos n hn).1;exact ⟨by rw [h2];exact B9d lo h1.sub,g,by have:=lc.1;omega⟩
def TmO (nm:List Str) (lk:List (Key×V)) (wh:Int) (td:List TD) (ys:List Str) (u:Tm) (vals:List Int):Prop:=(∃z,u= .num z/\Sm z/\vals=List.replicate (A2j (ys.map (ai lk))).toNat (z%wh))\/∃(j:Nat) (te:TD),td[j]? =some te/\ys=te.1.2/\u= .read te.1.1 (ixO ys)/\vals=te.2.2.map (· %wh)
theorem B1l (wh:Int) (td:List TD):(duT wh td).map (·.1)=(td.map (·.1)).map (·.1):=by unfold duT;rw [List.map_map,List.map_map];rfl
theorem C8n {nm:List Str} {lk:List (Key×V)} {wh:Int} {td:List TD} {ys:List Str} {u:Tm} {vals:List Int} (h:TmO nm lk wh td ys u vals) (ax:C8q nm lk ys) (ns:∀x∈nm,x∈nm4) (ts:∀x∈(td.map (·.1)).map (·.1),x∈tn6):C4e u/\dep u<=6/\Axs nm u:=by
 rcases h with ⟨z,rfl,hz,_⟩ | ⟨j,te,hte,rfl,rfl,_⟩
 ·exact ⟨hz,(by decide:1<=6),True.intro⟩
 ·refine ⟨⟨(C1g _ (ts _ (Z2c.mpr ⟨te.1,Z2c.mpr ⟨te,Z13 hte,rfl⟩,rfl⟩))).1,by unfold ixO;rw [Z08];exact ax.few,λe he=> ?_⟩,(by decide:1<=6),λe he=> ?_⟩
  ·obtain ⟨y,hy,rfl⟩:=Z2c.mp he;exact ⟨(C5q _ (ns y (ax.sub y hy))).1,by show (0:Int).natAbs<=_;exact Z1e _⟩
  ·obtain ⟨y,hy,rfl⟩:=Z2c.mp he;exact .inr (ax.sub y hy)
theorem D0e {nm:List Str} {ax:List (Str×Int)} {td:List TD} {wh:Int} (lo:A8m nm (A1a ax)) (tok:D1z nm (A1a ax) td):A8h (td.map (A5b wh))=duT wh td:=by
 unfold A8h duT;rw [List.map_map];refine List.map_congr_left λe he=> ?_;have:=(C7g lo tok e he).2.2;show (e.1.1,((A0n e.2.1).zip (e.2.2.map (· %wh))).map (·.2))=(e.1.1,e.2.2.map (· %wh));rw [List.map_snd_zip (by rw [Z08];omega)]
theorem D0t {nm:List Str} {ax:List (Str×Int)} {wh:Int} {td:List TD} {ys:List Str} {u:Tm} {vals:List Int} (lo:A8m nm (A1a ax)) (tok:D1z nm (A1a ax) td) (h:TmO nm (A1a ax) wh td ys u vals) (axok:C8q nm (A1a ax) ys) (ns:∀x∈nm,x∈nm4) (nd:((td.map (·.1)).map (·.1)).Nodup) :
  (B1s (ai (A1a ax)) wh u ys (td.map (A5b wh)) "told" (A0n (ys.map (ai (A1a ax))))).map (·.2)=vals/\C2f (ai (A1a ax)) wh u ys (td.map (A5b wh)) "told" (A0n (ys.map (ai (A1a ax)))):=by
 rcases h with ⟨z,rfl,hz,rfl⟩ | ⟨j,te,hte,rfl,rfl,rfl⟩
 ·have lc:=A1f (ys.map (ai (A1a ax))) λn hn=>(B5x lo axok.sub n hn).1;refine ⟨?_,λi c hc=>⟨(by intro e he;cases he),(by intro x hx;cases hx),by simp [rd]⟩⟩;rw [C7d];congr 1;have:=lc.1;omega
 ·obtain ⟨h1,h2,h3⟩:=tok te (Z13 hte);rw [<-h2];exact C2w nd hte axok.nd (λy hy=>(C5q y (ns y (axok.sub y hy))).2) (by rw [h2,Z08]) (C7g lo tok te (Z13 hte)).2.2
section
variable {P:Program} {w:World} {K:PySem.W.Frag} {mg:Str->Option Value} {base:Heap} {t:Adr}
theorem D1q (T:Txt K mg t):A1m P w K mg base CX0 14 t.fM t.fK ["_law_script"] (C4o K):=by
 have G_Let_init:=B6b (P:=P) (w:=w) (base:=base) T;have G_Number_init:=B0k (P:=P) (w:=w) (base:=base) T;have G_Program_init:=A9e (P:=P) (w:=w) (base:=base) T;have G_Read_init:=B3f (P:=P) (w:=w) (base:=base) T;have G_l_axes:=C0r (P:=P) (w:=w) (base:=base) T;have G_l_cell:=B3r (P:=P) (w:=w) (base:=base) T;have G_l_good:=C1v (P:=P) (w:=w) (base:=base) T;have G_l_many:=B3b (P:=P) (w:=w) (base:=base) T;have G_l_numbers:=B3c (P:=P) (w:=w) (base:=base) T;have G_l_refused:=B2w (P:=P) (w:=w) (base:=base) T;have G_l_spoiled:=B3h (P:=P) (w:=w) (base:=base) T;have G_l_under:=B8d (P:=P) (w:=w) (base:=base) T;refine T.fX.ok A2i (λvs H Q E h=> ?_) (λcdv A outer s H vs Q E hr h=> ?_)
 ·obtain ⟨a,ns,rfl,_⟩:=h;rfl
 ·obtain ⟨a,ns,rfl,hS,hn,k⟩:=h;have hu:=A7u hr
  refine ⟨_,(A0d (B6f (i₀:=2) (N':=["_law_cell_here"]) (ix:=(List.replicate 1 none)) A2i.nd rfl (Or.inl rfl) rfl (A1s rfl (by decide +kernel) (by decide +kernel)) (A1r rfl) (D1f rfl T.fx (A0a (B2l B4o (pv 0) B6e (B4l A0m)) A0c)) (λ_ _ _ _=>(A0p (i:=0) B9l rfl (Or.inl rfl) (Or.inr rfl))) (λ_ _ _ _=>(pv 0)))
   (A0d (A1b (i:=3) A2i.nd rfl (Or.inr rfl) (A0v A6y A0m (A0v A1e (A0h G_l_cell (hr.mono (by omega)) rfl T.ay T.au.kp T.aw .nil A0s (A0a (pv 2) A0c)) (A0v B4e (A0v A7z A0m A0m) A0m))))
   (A0d (A1b (i:=4) A2i.nd rfl (Or.inl rfl) (B2l B4o (A6t (A0a A2n (A0a A2n (A0a A2n (A0a A2n A0c))))) B6e (B4l (A0v A6y A0m (A0v A1e (A0h G_l_cell (hr.mono (by omega)) rfl T.ay T.au.kp T.aw .nil A0s (A0a (pv 2) A0c)) A0m)))))
   (A0d (A1b (i:=5) A2i.nd rfl (Or.inl rfl) (A0h G_l_cell (hr.mono (by omega)) rfl T.ay T.au.kp T.aw .nil A0s (A0a (pv 2) A0c)))
   (A0d (A1b (i:=6) A2i.nd rfl (Or.inr rfl) A3u)
   (A0d (A2w PassesOwn.never rfl (A2d (pv 4)) (A0p (i:=7) A2i.nd rfl (Or.inl rfl) (Or.inl rfl))
    (A0f (A2x hu (pv 6) (pv 7) (A0v A6y A0m (A0v A1e (A0h G_l_cell (hr.mono (by omega)) rfl T.ay T.au.kp T.aw .nil A0s (A0a (pv 2) A0c)) A0m)) rfl)))
   (A3y (A1w (A1d A8g (A0v A1e (pv 5) A0m) A0m (A1n _))
    (A0f (A2x hu (pv 6) (A8k A4u (pv 4) (A0v A1e (A0v A5i (pv 5) A0m) (A0o A0w (by rfl) T.aI Z0r (A0a (pv 4) A0c))) (λ_ _=>rfl)) (A0v A6y A0m (A0v A1e (A0v A5i (pv 5) A0m) A0m)) rfl))
    A0u)
   (A0d (A1b (i:=8) A2i.nd rfl (Or.inl rfl) (A6t A0c))
   (A0d (A1b (i:=9) A2i.nd rfl (Or.inl rfl) A3u)
   (A0d (A1b (i:=10) A2i.nd rfl (Or.inl rfl) A3u)
   (A0d (A2w PassesOwn.never rfl (A4e rfl T.cu (A0a (A0v A1e (A0h G_l_cell (hr.mono (by omega)) rfl T.ay T.au.kp T.aw .nil A0s (A0a (pv 2) A0c)) A0m) A0c)) (A0p (i:=11) A2i.nd rfl (Or.inl rfl) (Or.inl rfl))
    (A0d (A1b (i:=7) A2i.nd rfl (Or.inl rfl) (A8k A4u (A6t (A0a A2n (A0a A2n (A0a A2n (A0a A2n (A0a A2n (A0a A2n A0c))))))) (pv 11) (λ_ _=>rfl)))
    (A0d (A1b (i:=12) A2i.nd rfl (Or.inl rfl) (A0h G_l_axes (hr.mono (by omega)) rfl T.eZ T.dR.kp T.fj .nil A0s (A0a (A0h G_l_cell (hr.mono (by omega)) rfl T.ay T.au.kp T.aw .nil A0s (A0a (pv 2) A0c)) (A0a (pv 4) (A0a (pv 6) A0c)))))
    (A0d (A2f (B9x Z0k Z0n Z0o A7b (pv 8) (A0a (B0w (A0a (pv 7) (A0a (pv 12) A0c))) A0c)))
    (A0d (A2x hu (pv 9) (pv 7) (A0h G_l_numbers (hr.mono (by omega)) rfl T.ff T.dG.kp T.fb .nil A0s (A0a (pv 2) (A0a (A0h G_l_many (hr.mono (by omega)) rfl T.d_ T.cT.kp T.dU .nil A0s (A0a (pv 12) (A0a (pv 6) A0c))) A0c))) rfl)
    (A0f (A2x hu (pv 10) (pv 7) (A1y (N':=["_law_number","_law_wheel"]) (ix:=(List.replicate 1 none++[some 3])) rfl (A8q (x:="_law_wheel") rfl rfl rfl (by decide +kernel) (by decide +kernel)) (A7h (N0:=["_law_number"]) rfl (Or.inl rfl) (by first | exact Or.inl rfl | exact Or.inr rfl | (simp [relabel];rfl) | (with_unfolding_all exact Or.inl rfl) | (with_unfolding_all exact Or.inr rfl) | (with_unfolding_all decide))) (A2d (A2g hu (pv 9) (pv 7) (λ_ _=>rfl))) (λ_ _ _ _=>(A0p (i:=0) C0n rfl (Or.inl rfl) (Or.inr rfl))) (λ_ _ _ _=>(A0v A1e (pv 0) (pv 1)))) rfl)))))))
   (A0d (A1b (i:=1) A2i.nd rfl (Or.inr rfl) (A0h G_l_cell (hr.mono (by omega)) rfl T.ay T.au.kp T.aw .nil A0s (A0a (pv 2) A0c)))
   (A0d (A1b (i:=13) A2i.nd rfl (Or.inl rfl) (A0h G_l_axes (hr.mono (by omega)) rfl T.eZ T.dR.kp T.fj .nil A0s (A0a (pv 1) (A0a (pv 4) (A0a (pv 6) A0c)))))
   (A0d (A1b (i:=14) A2i.nd rfl (Or.inl rfl) (A7p T.fB G_Number_init (hr.mono (by omega)) rfl T.fL T.eJ .nil A0s (A0a (A0v A1e (pv 1) (A0v A7z A0m A0m)) A0c)))
   (A0d (A2x hu (pv 10) A2n (A1y (N':=["_law_k","_law_cell_here","_law_wheel"]) (ix:=(List.replicate 1 none++[some 1,some 3])) rfl (A6w (cl:=[("_law_wheel",_),("_law_cell_here",_)]) (xs:=["_law_wheel","_law_cell_here"]) rfl ⟨rfl,rfl,trivial⟩ rfl rfl (by decide +kernel) (by decide +kernel)) (A6p (N0:=["_law_k"]) (xs:=["_law_cell_here","_law_wheel"]) (js:=[1,3]) ⟨⟨rfl,Or.inl rfl,(by first | exact Or.inl rfl | exact Or.inr rfl | (simp [relabel];rfl) | (with_unfolding_all exact Or.inl rfl) | (with_unfolding_all exact Or.inr rfl) | (with_unfolding_all decide))⟩,⟨rfl,Or.inl rfl,(by first | exact Or.inl rfl | exact Or.inr rfl | (simp [relabel];rfl) | (with_unfolding_all exact Or.inl rfl) | (with_unfolding_all exact Or.inr rfl) | (with_unfolding_all decide))⟩,trivial⟩) (A4e rfl T.cu (A0a (A0h G_l_many (hr.mono (by omega)) rfl T.d_ T.cT.kp T.dU .nil A0s (A0a (pv 13) (A0a (pv 6) A0c))) A0c)) (λ_ _ _ _=>(A0p (i:=0) B8e rfl (Or.inl rfl) (Or.inr rfl))) (λ_ _ _ _=>(A0v A1e (A0v A1e (pv 1) (A0v A7z A0m A0m)) (pv 2)))) rfl)
   (A3y (A1w (PW.pt (B7t (A1d C2t (A0o A0w (by rfl) T.aI Z0r (A0a (pv 8) A0c)) A0m (A1n _)) (B1i (A1d C1t (A0v A1e (pv 1) A0m) A0m (A1n _)))))
    (A0d (A1b (i:=13) A2i.nd rfl (Or.inl rfl) (A1t A5k (by rfl) T.bL Z1o (A0a (A8k C1s (A8k A4u (pv 8) (A0v A1e (A0v A5i (pv 1) A0m) (A0o A0w (by rfl) T.aI Z0r (A0a (pv 8) A0c))) (λ_ _=>rfl)) A0m (λ_ _=>rfl)) A0c)))
    (A0d (A1b (i:=14) A2i.nd rfl (Or.inl rfl) (A7p T.fN G_Read_init (hr.mono (by omega)) rfl T.fP T.fi .nil A0s (A0a (A8k C1s (A8k A4u (pv 8) (A0v A1e (A0v A5i (pv 1) A0m) (A0o A0w (by rfl) T.aI Z0r (A0a (pv 8) A0c))) (λ_ _=>rfl)) A0m (λ_ _=>rfl)) (A0a (A1y (N':=["_law_name"]) (ix:=(List.replicate 1 none)) rfl (A1s rfl (by decide +kernel) (by decide +kernel)) (A1r rfl) (A2d (pv 13)) (λ_ _ _ _=>(A0p (i:=0) B9g rfl (Or.inl rfl) (Or.inr rfl))) (λ_ _ _ _=>(B0w (A0a (pv 0) (A0a A0m A0c))))) A0c))))
    (A0f (A2x hu (pv 10) A2n (A1t A5k (by rfl) T.bL Z1o (A0a (A2g hu (pv 10) (A8k C1s (A8k A4u (pv 8) (A0v A1e (A0v A5i (pv 1) A0m) (A0o A0w (by rfl) T.aI Z0r (A0a (pv 8) A0c))) (λ_ _=>rfl)) A0m (λ_ _=>rfl)) (λ_ _=>rfl)) A0c)) rfl))))
    A0u)
   (A0d (B6f (i₀:=12) (N':=["_law_name","_law_lengths"]) (ix:=(List.replicate 1 none++[some 6])) A2i.nd rfl (Or.inl rfl) rfl (A8q (x:="_law_lengths") rfl rfl rfl (by decide +kernel) (by decide +kernel)) (A7h (N0:=["_law_name"]) rfl (Or.inl rfl) (by first | exact Or.inl rfl | exact Or.inr rfl | (simp [relabel];rfl) | (with_unfolding_all exact Or.inl rfl) | (with_unfolding_all exact Or.inr rfl) | (with_unfolding_all decide))) (A2d (pv 4)) (λ_ _ _ _=>(A0p (i:=0) B8f rfl (Or.inl rfl) (Or.inr rfl))) (λ_ _ _ _=>(B0w (A0a (pv 0) (A0a (A2g hu (pv 1) (pv 0) (λ_ _=>rfl)) A0c)))))
   (A0d (A1b (i:=15) A2i.nd rfl (Or.inl rfl) (A7p T.fu G_Program_init (hr.mono (by omega)) rfl T.fA T.eu .nil A0s (A0a (pv 3) (A0a (pv 12) (A0a (pv 8) (A0a (A6t (A0a (A7p T.fR G_Let_init (hr.mono (by omega)) rfl T.fY T.fm .nil A0s (A0a A2n (A0a (pv 13) (A0a (pv 14) A0c)))) A0c)) (A0a (A6t (A0a A2n A0c)) A0c)))))))
   (A0d (A1b (i:=16) A2i.nd rfl (Or.inl rfl) (A0h G_l_spoiled (hr.mono (by omega)) rfl T.e_ T.dB.kp T.fk .nil A0s (A0a (pv 9) (A0a (A0v D1c (pv 4) (A6t (A0a A2n (A0a A2n A0c)))) (A0a (A0v A1e (A0h G_l_cell (hr.mono (by omega)) rfl T.ay T.au.kp T.aw .nil A0s (A0a (pv 2) A0c)) A0m) (A0a (A0h G_l_cell (hr.mono (by omega)) rfl T.ay T.au.kp T.aw .nil A0s (A0a (pv 2) A0c)) (A0a (A0h G_l_cell (hr.mono (by omega)) rfl T.ay T.au.kp T.aw .nil A0s (A0a (pv 2) A0c)) A0c)))))))
   (A0d (A1w (A1d (C5n hr.units) (pv 16) (pv 9) (A1n _))
    (A0f (A0q (B6q (A0h G_l_good (hr.mono (by omega)) rfl T.cW T.c8.kp T.cX .nil A0s (A0a (pv 15) (A0a (pv 9) (A0a (pv 10) A0c)))) (C2g (A0h G_l_good (hr.mono (by omega)) rfl T.cW T.c8.kp T.cX .nil A0s (A0a (pv 15) (A0a (pv 9) (A0a (pv 10) A0c))))))))
    A0u)
   (A0d (A1w (PW.pt (B7t (A1d A8g (A0v A1e (A0v A5i (pv 5) A0m) A0m) A0m (A1n _)) (B1i (A9h (A2k (A0h G_l_good (hr.mono (by omega)) rfl T.cW T.c8.kp T.cX .nil A0s (A0a (pv 15) (A0a (pv 9) (A0a (pv 10) A0c)))))))))
    (A0f (A0q B0j))
    A0u)
   (A0d (A1w (PW.pt (B6h (A9h (A2k (A0h G_l_refused (hr.mono (by omega)) rfl T.dF T.bX.kp T.dH .nil A0s (A0a (pv 15) (A0a (pv 16) A0c))))) (B2y (A9h (A2k (A0h G_l_under (hr.mono (by omega)) rfl T.fE T.eR.kp T.fD .nil A0s (A0a (pv 15) (A0a (pv 16) A0c))))))))
    (A0f (A0q B0j))
    A0u)
   (A0f (A0q (B6q (A0h G_l_good (hr.mono (by omega)) rfl T.cW T.c8.kp T.cX .nil A0s (A0a (pv 15) (A0a (pv 9) (A0a (pv 10) A0c)))) (C2g (A0h G_l_refused (hr.mono (by omega)) rfl T.dF T.bX.kp T.dH .nil A0s (A0a (pv 15) (A0a (pv 16) A0c))))))))))))))))))))))))))))),?_⟩
  obtain ⟨zs,ez,lz,_⟩:=C6t V.int ns none (some 40);refine ⟨_,rfl,_,rfl,a,_,rfl,hS,λp0 hp0=> ?_⟩;rw [ez];refine ⟨p0,_,rfl,SqL.of A0b,λD hD=> ?_⟩;have pD:p0≠D:=λz=>by subst z;rw [A0b] at hD;cases hD
  refine A4h (D:=D) (zs.map V.int).length (λi ys H2=>H2 p0=some (.lst (zs.map V.int))/\H2 D=some (.lst ys)/\∃ms:List Int,ys=ms.map V.int/\ms.length=i) ⟨by rw [A0e pD];exact A0b,A0b,[],rfl,rfl⟩ (λi ys H2 hi ⟨h,_⟩=> ?_) (λys H2 _=>rfl) ?_ ?_
  ·exact ⟨_,(zs.map V.int)[(zs.map V.int).length-1-i],SqL.of h,rfl,hi,Z0b (by omega)⟩
  ·rintro i ys H2 hi ⟨h,hD2,ms,rfl,hms⟩ x H3 ⟨rfl,hx⟩;have hx:=hx _ (SqL.of h);rw [Z1z] at hx;obtain ⟨z,_,rfl⟩:=Z0i.mp hx;refine ⟨True.intro,_,rfl,hD2,A0y (by simp at hi⊢;omega),by rw [A0e pD];exact h,A0b,ms++[z],by simp,by simp [hms]⟩
  rintro ys H2 ⟨_,hD2,ms,rfl,hms⟩;have w30:(0:Int)<10^(30:Int).toNat-2:=by decide +kernel
  refine ⟨_,rfl,D,ms,rfl,hD2,λi1 ms1 H3 l3 h3 o3 _=> ?_⟩;refine ⟨_,_,rfl,rfl,⟨by decide,by decide,by decide⟩,_,_,rfl,rfl,_,_,rfl,rfl,w30,_,_,rfl,rfl,?_⟩;have whok:=w_ok i1;dsimp only;generalize 2+i1%(10^(30:Int).toNat-2)=wh at whok;have wh0:0<wh:=by have:=whok.1;omega
  refine ⟨A1h (by simp),λl4 hl4=> ?_⟩;have Dl4:D≠l4:=A0i h3 hl4;refine ⟨_,rfl,D,ms1,rfl,(A0g hl4) _ _ h3,λi2 ms2 H4 l4' h4 o4 _=> ?_⟩;have hl4':H4 l4=some (.lst (nm4.map V.str)):=by rw [o4 l4 Dl4.symm];exact A0b
  refine ⟨_,_,rfl,rfl,(by show (0:Int)<4;decide),_,_,rfl,rfl,_,rfl,l4,_,rfl,SqL.of hl4',λnl hnl=> ?_⟩;dsimp only;have k1:1<=1+i2%4:=by omega
  have k4:1+i2%4<=4:=by omega
  rw [cut4 (by omega) k4];obtain ⟨nm,enm⟩:∃nm,nm=nm4.take (1+i2%4).toNat:=⟨_,rfl⟩;rw [<-enm];have nmpos:0<nm.length:=by rw [enm,Z0x];show 0<min _ 4;omega
  have nm4':nm.length<=4:=by rw [enm,Z0x];show min _ 4<=4;omega
  have nmsub:∀x∈nm,x∈nm4:=λx hx=>by rw [enm] at hx;exact List.mem_of_mem_take hx
  have nmnd:nm.Nodup:=by rw [enm];exact List.Pairwise.sublist (List.take_sublist _ _) D0h
  have Dnl:D≠nl:=A0i h4 hnl;have h5:upd H4 nl (.lst (nm.map V.str)) D=some (.lst (ms2.map V.int)):=(A0g hnl) _ _ h4;have hnl5:upd H4 nl (.lst (nm.map V.str)) nl=some (.lst (nm.map V.str)):=A0b;generalize upd H4 nl (.lst (nm.map V.str))=H5 at h5 hnl5;refine ⟨_,rfl,D,ms2,rfl,h5,λway ms3 H6 l6 h6 o6 _=> ?_⟩;have hnl6:H6 nl=some (.lst (nm.map V.str)):=by rw [o6 nl Dnl.symm];exact hnl5
  refine λld hld=> ?_;have h7:=(A0g (o:= .dK []) hld) _ _ h6;have hnl7:=(A0g (o:= .dK []) hld) _ _ hnl6;have hld7:upd H6 ld (.dK []) ld=some (.dK []):=A0b;generalize upd H6 ld (.dK [])=H7 at h7 hnl7 hld7;refine ⟨_,rfl,nl,rfl,⟨_,SqL.of hnl7⟩,?_⟩
  refine A3v (K:=K) (a:=nl) (xs:=nm.map V.str) (λi σ H8=>∃(o7:Option V) (ms:List Int) (ax:List (Str×Int)),σ=[some (.ref a),none,some (.ref D),some (.int wh),some (.ref nl),some (.int way),some (.ref ld),o7,none,none,none,none,none,none,none,none,none]/\H8 D=some (.lst (ms.map V.int))/\H8 nl=some (.lst (nm.map V.str))/\H8 ld=some (.dK (A1a ax))/\ax.map (·.1)=nm.take i/\∀e∈ax,1<=e.2/\e.2<=60)
   ⟨none,ms3,[],rfl,h7,hnl7,hld7,rfl,by intro e he;cases he⟩ (λi σ H8 _ ⟨_,_,_,_,_,z,_⟩=>SqL.of z) ?_ ?_
  ·rintro i v σ H8 hv ⟨o7,ms,ax,rfl,hD8,hnl8,hld8,eax,bax⟩;obtain ⟨y,hy,rfl⟩:=A2o hv;refine ⟨_,rfl,D,ms,rfl,hD8,λc ms' H9 l9 h9 o9 _=> ?_⟩;have Dld:ld≠D:=A0z hld8 hD8 (by intro z;cases z);have hld9:H9 ld=some (.dK (A1a ax)):=by rw [o9 ld Dld];exact hld8
   have hnl9:H9 nl=some (.lst (nm.map V.str)):=by rw [o9 nl Dnl.symm];exact hnl8
   have lax:ax.length<=4:=by have:=congrArg List.length eax;rw [Z08,Z0x] at this;omega
   have yn:y∉ax.map (·.1):=by
    rw [eax];intro m;obtain ⟨j,hj⟩:=List.getElem?_of_mem m
    have hlt:j<i:=by
     have:=(Z03.mp hj).1;rw [Z0x] at this;omega
    rw [List.getElem?_take,Z12 hlt] at hj;have:=(List.getElem?_inj (Z03.mp hj).1 nmnd).mp (hj.trans hy.symm);omega
   refine ⟨_,_,rfl,rfl,(by show (0:Int)<4;decide),_,_,rfl,rfl,_,rfl,_,rfl,ld,_,rfl,B0z.k (k:=Sum.inr y) hld9 (A0y (by unfold A1a;rw [Z08];omega)),?_⟩;rw [B4v yn];refine ⟨_,ms',ax++[(y,1+c%4)],rfl,by rw [A0e Dld.symm];exact h9,by rw [A0e (A0z hnl9 hld9 (by intro z;cases z))];exact hnl9,A0b,?_,λe he=> ?_⟩
   ·rw [Z0s,eax,Z14,hy];rfl
   ·rcases Z07.mp he with he | he
    ·exact bax e he
    ·rw [Z0w.mp he];show 1<=1+c%4/\1+c%4<=60;omega
  rintro σ H8 ⟨o7,ms4,ax0,rfl,hD8,hnl8,hld8,eax0,bax0⟩;rw [Z08,Z18] at eax0;refine ⟨λσ H9=>∃(ax:List (Str×Int)),σ=[some (.ref a),none,some (.ref D),some (.int wh),some (.ref nl),some (.int way),some (.ref ld),o7,none,none,none,none,none,none,none,none,none]/\H9 D=some (.lst (ms4.map V.int))/\H9 nl=some (.lst (nm.map V.str))/\H9 ld=some (.dK (A1a ax))/\ax.map (·.1)=nm/\∀e∈ax,1<=e.2/\e.2<=60,?_,?_⟩
  ·refine ⟨_,rfl,_,_,rfl,rfl,(by show (0:Int)<2;decide),rfl,_,rfl,C9i (λ_=> ?_) (λ_=>⟨ax0,rfl,hD8,hnl8,hld8,eax0,bax0⟩)⟩;obtain ⟨y,hy,ey⟩:=A9a (f:=V.str) (xs:=nm) (i:=way/2%(nm.length:Int)) (Z1v _ (by omega)) (Z1p _ (by omega));refine ⟨_,rfl,_,_,rfl,rfl,⟨by decide,by decide⟩,_,_,rfl,rfl,(by show (0:Int)<60;decide),_,_,rfl,rfl,_,rfl,_,rfl,_,rfl,_,_,rfl,rfl,⟨by decide,by decide⟩,_,rfl,nl,_,rfl,.inl (SqL.of hnl8),_,_,rfl,rfl,(by show (0:Int)<((nm.map V.str).length:Int);rw [Z08];omega),nl,_,_,_,rfl,rfl,SqL.of hnl8,(by rw [Z08];exact ey),ld,_,rfl,B0z.k (k:=Sum.inr y) hld8 (A0y (by unfold A1a;rw [Z08];have:=congrArg List.length eax0;rw [Z08] at this;omega)),?_⟩;obtain ⟨ax',e1,e2,e3⟩:=C7z (ax:=ax0) (y:=y) (n:=1+way/8%60) (by rw [eax0];exact Z13 hy);dsimp only;rw [e1];refine ⟨ax',rfl,by rw [A0e (A0z hD8 hld8 (by intro z;cases z))];exact hD8,by rw [A0e (A0z hnl8 hld8 (by intro z;cases z))];exact hnl8,A0b,by rw [e2];exact eax0,λe he=> ?_⟩;rcases e3 e he with h | h
   ·exact bax0 e h
   ·rw [h];omega
  rintro σ H9 ⟨ax,rfl,hD9,hnl9,hld9,eax,bax⟩;have lo:A8m nm (A1a ax):=by have:=C4w bax;rw [eax] at this;exact this
  have lax:ax.length=nm.length:=by have:=congrArg List.length eax;rw [Z08] at this;exact this
  refine ⟨A1h (by simp),λtl htl nd hnd du hdu=> ?_⟩;have sA:A0r H9 (upd (upd (upd H9 tl (.lst [])) nd (.dK [])) du (.dK [])):=(A0g htl).trans ((A0g hnd).trans (A0g hdu));have gtl:upd (upd (upd H9 tl (.lst [])) nd (.dK [])) du (.dK []) tl=some (.lst []):=(A0g hdu) _ _ ((A0g hnd) _ _ A0b);have gnd:upd (upd (upd H9 tl (.lst [])) nd (.dK [])) du (.dK []) nd=some (.dK []):=(A0g hdu) _ _ A0b;have gdu:upd (upd (upd H9 tl (.lst [])) nd (.dK [])) du (.dK []) du=some (.dK []):=A0b;have Dtl:D≠tl:=A0i hD9 htl;have nltl:nl≠tl:=A0i hnl9 htl;have ldnd:ld≠nd:=A0i ((A0g htl) _ _ hld9) hnd;have lddu:ld≠du:=A0i ((A0g hnd) _ _ ((A0g htl) _ _ hld9)) hdu;have nddu:nd≠du:=A0i A0b hdu;generalize upd (upd (upd H9 tl (.lst [])) nd (.dK [])) du (.dK [])=G at sA gtl gnd gdu;have gD:=sA _ _ hD9;have gnl:=sA _ _ hnl9;have gld:=sA _ _ hld9;have nDn:D≠nd:=A0z gD gnd (by intro z;cases z);have nDu:D≠du:=A0z gD gdu (by intro z;cases z);have nlD:nl≠D:=Dnl.symm;have nln:nl≠nd:=A0z gnl gnd (by intro z;cases z);have nlu:nl≠du:=A0z gnl gdu (by intro z;cases z);have ldD:ld≠D:=A0z gld gD (by intro z;cases z);have ldt:ld≠tl:=A0z gld gtl (by intro z;cases z);have tlnd:tl≠nd:=A0z gtl gnd (by intro z;cases z);have tldu:tl≠du:=A0z gtl gdu (by intro z;cases z);have nlM:nl∉[D,tl,nd,du]:=by simp [nlD,nltl,nln,nlu]
  have ldM:ld∉[D,tl,nd,du]:=by simp [ldD,ldt,ldnd,lddu]
  have sM:∀b,G b=none->b≠D/\b≠tl/\b≠nd/\b≠du:=λb hb=>⟨(λz=>by rw [z,gD] at hb;cases hb),(λz=>by rw [z,gtl] at hb;cases hb),(λz=>by rw [z,gnd] at hb;cases hb),(λz=>by rw [z,gdu] at hb;cases hb)⟩;refine ⟨_,rfl,D,ms4,rfl,gD,λn7 ms5 Ga la ha oa _=> ?_⟩;have n70:0<=n7%7:=by omega
  have n77:n7%7<7:=by omega
  refine ⟨_,_,rfl,rfl,(by show (0:Int)<7;decide),_,rfl,(by show -(2^62)<=n7%7;omega),(by show n7%7<2^62;omega),?_⟩
  have ndM:∀b,(G b=none\/b=tl\/b=nd\/b=du)->b≠D:=λb hb=>by
   rcases hb with hb | rfl | rfl | rfl
   ·exact (sM b hb).1
   ·exact Dtl.symm
   ·exact nDn.symm
   ·exact nDu.symm
  have fr:∀{H':Hp} {b:Addr},KL [D,tl,nd,du] G H'->H' D≠none->H' tl≠none->H' nd≠none->H' du≠none->H' b=none->G b=none:=λk' a1 a2 a3 a4 hb=>k'.free (by intro m hm;simp only [Z0e,Z1i,or_false] at hm;rcases hm with rfl | rfl | rfl | rfl <;> assumption) hb;have frI:∀{H':Hp} {b:Addr} {ms:List Int} {xs:List V} {nk dk:List (Key×V)} {td:List TD} {ds:List (Str×List Int)},KL [D,tl,nd,du] G H'->H' D=some (.lst (ms.map V.int))->TI (λb=>G b=none) H' tl nd du xs nk dk td ds->H' b=none->G b=none:=λk' a1 I hb=>fr k' (by rw [a1];exact nofun) (by rw [I.htl];exact nofun) (by rw [I.hnd];exact nofun) (by rw [I.hdu];exact nofun) hb
  refine B4a (n:=(n7%7).toNat) (λi σ Hx=>∃(o7 o11 o12:Option V) (ms:List Int) (xs:List V) (nk dk:List (Key×V)) (td:List TD),σ=[some (.ref a),none,some (.ref D),some (.int wh),some (.ref nl),some (.int way),some (.ref ld),o7,some (.ref tl),some (.ref nd),some (.ref du),o11,o12,none,none,none,none]/\KL [D,tl,nd,du] G Hx/\Hx D=some (.lst (ms.map V.int))/\TI (λb=>G b=none) Hx tl nd du xs nk dk td (duT wh td)/\D1z nm (A1a ax) td/\(td.map (·.1)).map (·.1)=tn6.take i)
   ⟨o7,none,none,ms5,[],[],[],[],rfl,KL.oth (by simp) oa,ha,⟨by rw [oa tl Dtl.symm];exact gtl,.nil,by rw [oa nd nDn.symm];exact gnd,.nil,by rw [oa du nDu.symm];exact gdu,.nil⟩,(by intro e he;cases he),rfl⟩ ?_ ?_
  ·rintro i σ Hx hi ⟨o7,o11,o12,ms,xs,nk,dk,td,rfl,kl,hDx,I,tok,etd⟩;have i6:i<6:=by omega
   have ltd:td.length=i:=by have:=congrArg List.length etd;rw [Z08,Z08,Z0x] at this;have e6:tn6.length=6:=rfl;omega
   obtain ⟨tn,htn⟩:∃tn,tn6[i]? =some tn:=⟨_,Z0b (show i<tn6.length from i6)⟩
   have tnn:tn∉(td.map (·.1)).map (·.1):=by
    rw [etd];intro m;obtain ⟨j,hj⟩:=List.getElem?_of_mem m
    have hlt:j<i:=by
     have:=(Z03.mp hj).1;rw [Z0x] at this;omega
    rw [List.getElem?_take,Z12 hlt] at hj;have:=(List.getElem?_inj (Z03.mp hj).1 C6d).mp (hj.trans htn.symm);omega
   refine ⟨A1h (by simp),λl6 hl6=> ?_⟩;have s1:A0r Hx (upd Hx l6 (.lst (tn6.map V.str))):=A0g hl6;have hl6':upd Hx l6 (.lst (tn6.map V.str)) l6=some (.lst (tn6.map V.str)):=A0b;have en:atI (tn6.map V.str) (0+(i:Int))=some (.str tn):=by rw [Int.zero_add];exact A9o (by rw [Z1z,htn];rfl)
   refine ⟨_,rfl,l6,_,_,_,rfl,rfl,SqL.of hl6',en,?_⟩;have hD1:=s1 _ _ hDx;have I1:=I.same s1;have kl1:KL [D,tl,nd,du] G _:=kl.trans (KL.of s1);refine ⟨_,rfl,D,ms,rfl,hD1,λc ms' Hb lb hb ob _=> ?_⟩;have klb:=kl1.trans (KL.oth (by simp) ob);have Ib:=I1.keep (H':=Hb) λb o hb' e=>by rw [ob b (ndM b hb')];exact e
   refine ⟨_,rfl,_,rfl,c,nl,ld,nm,A1a ax,rfl,klb _ _ nlM gnl,klb _ _ ldM gld,nmpos,nm4',nmnd,lo,λys p Hc hp sc hpc axok=> ?_⟩;have hpG:G p=none:=frI klb hb Ib hp;have Ic:=Ib.same sc;have klc:=klb.trans (KL.of sc);have lxs:=Paired.length Ic.tb;rw [Z08] at lxs;refine ⟨_,rfl,.inl ⟨rfl,_,SqL.of Ic.htl⟩,_,rfl,_,rfl,A1h (by simp),λtp htp=> ?_⟩;have sd:A0r Hc (upd Hc tp (.tup [.str tn,.ref p])):=A0g htp;have htp':upd Hc tp (.tup [.str tn,.ref p]) tp=some (.tup [.str tn,.ref p]):=A0b;have tpG:G tp=none:=frI klc (sc _ _ hb) Ic htp;have Id:=Ic.same sd;have kld:=klc.trans (KL.of sd);have hDd:=sd _ _ (sc _ _ hb);have hpd:=sd _ _ hpc;generalize upd Hc tp (.tup [.str tn,.ref p])=Hd at sd htp' Id kld hDd hpd;refine ⟨tl,_,_,rfl,rfl,Id.htl,A0y (by omega),?_⟩;have kle:KL [D,tl,nd,du] G (upd Hd tl (.lst (xs++[.ref tp]))):=kld.upd (by simp);have upe:∀{b:Addr} {o:HO},b≠tl->Hd b=some o->upd Hd tl (.lst (xs++[.ref tp])) b=some o:=λn e=>by rw [A0e n];exact e
   have hDe:=upe Dtl hDd;have hpe:=upe (sM p hpG).2.1 hpd;have hte:=upe (sM tp tpG).2.1 htp';have hnde:=upe tlnd.symm Id.hnd;have hdue:=upe tldu.symm Id.hdu;have htle:upd Hd tl (.lst (xs++[.ref tp])) tl=some (.lst (xs++[.ref tp])):=A0b;have tbe:TbS (λb=>G b=none) (upd Hd tl (.lst (xs++[.ref tp]))) xs (td.map (·.1)):=Id.tb.imp λb o m e=>⟨m,upe (sM b m).2.1 e⟩;have nte:TkS (λb=>G b=none) (upd Hd tl (.lst (xs++[.ref tp]))) nk (A8r td):=Id.nt.imp λb o m e=>⟨m,upe (sM b m).2.1 e⟩;have dte:TkS (λb=>G b=none) (upd Hd tl (.lst (xs++[.ref tp]))) dk (duT wh td):=Id.dt.imp λb o m e=>⟨m,upe (sM b m).2.1 e⟩;clear upe;generalize upd Hd tl (.lst (xs++[.ref tp]))=He at kle hDe hpe hte hnde hdue htle tbe nte dte;have pb:=A1f (ys.map (ai (A1a ax))) λn hn=>(B5x lo axok.sub n hn).1;refine ⟨_,rfl,_,rfl,_,rfl,p,ld,ys,A1a ax,ys.map (ai (A1a ax)),rfl,hpe,kle _ _ ldM gld,B9d lo axok.sub,B5x lo axok.sub,D,ms',_,rfl,hDe,(by have:=pb.2;omega),axok.most,λzs ms'' np Hf hnp lz lf hf kf hnpf=> ?_⟩;have npG:G np=none:=fr kle (by rw [hDe];exact nofun) (by rw [htle];exact nofun) (by rw [hnde];exact nofun) (by rw [hdue];exact nofun) hnp;have klf:=kle.trans (KL.kb (by simp) kf);have lnk:=C7c nte;have ldk:=Paired.length dte;rw [B4u] at ldk;have tnk:tn∉(A8r td).map (·.1):=by rw [A7t];exact tnn
   have tdk:tn∉(duT wh td).map (·.1):=by rw [B1l];exact tnn
   refine ⟨_,rfl,_,rfl,nd,_,rfl,B0z.k (k:=Sum.inr tn) (kf _ _ nDn.symm hnde) (A0y (by omega)),?_⟩;rw [A3h (A5n nte tnk)];have klg:KL [D,tl,nd,du] G (upd Hf nd (.dK (nk++[(Sum.inr tn,.ref np)]))):=klf.upd (by simp);have upg:∀{b:Addr} {o:HO},b≠nd->Hf b=some o->upd Hf nd (.dK (nk++[(Sum.inr tn,.ref np)])) b=some o:=λn e=>by rw [A0e n];exact e
   have hDg:=upg nDn hf;have hteg:=upg (sM tp tpG).2.2.1 (kf _ _ (sM tp tpG).1 hte);have hpg:=upg (sM p hpG).2.2.1 (kf _ _ (sM p hpG).1 hpe);have hnpg:=upg (sM np npG).2.2.1 hnpf;have hdug:=upg nddu.symm (kf _ _ nDu.symm hdue);have htlg:=upg tlnd (kf _ _ Dtl.symm htle);have hndg:upd Hf nd (.dK (nk++[(Sum.inr tn,.ref np)])) nd=some (.dK (nk++[(Sum.inr tn,.ref np)])):=A0b;have tbg:TbS (λb=>G b=none) (upd Hf nd (.dK (nk++[(Sum.inr tn,.ref np)]))) xs (td.map (·.1)):=tbe.imp λb o m e=>⟨m,upg (sM b m).2.2.1 (kf _ _ (sM b m).1 e)⟩;have ntg:TkS (λb=>G b=none) (upd Hf nd (.dK (nk++[(Sum.inr tn,.ref np)]))) nk (A8r td):=nte.imp λb o m e=>⟨m,upg (sM b m).2.2.1 (kf _ _ (sM b m).1 e)⟩;have dtg:TkS (λb=>G b=none) (upd Hf nd (.dK (nk++[(Sum.inr tn,.ref np)]))) dk (duT wh td):=dte.imp λb o m e=>⟨m,upg (sM b m).2.2.1 (kf _ _ (sM b m).1 e)⟩;have kn:=A5n nte tnk;clear upg;generalize upd Hf nd (.dK (nk++[(Sum.inr tn,.ref np)]))=Hg at klg hDg hteg hpg hnpg hdug htlg hndg tbg ntg dtg;have g:A7i Hg nd (.str tn) (some (.ref np)):= .inl ⟨_,Sum.inr tn,.inl hndg,rfl,(B6v kn).symm⟩;refine ⟨_,rfl,_,rfl,nd,_,rfl,g,np,rfl,⟨_,SqL.of hnpg⟩,λD2 hD2=> ?_⟩;have zl:zs.length<=200:=by have:=axok.most;omega
   refine A2l (K:=K) (a:=np) (D:=D2) (xs:=zs.map V.int) (λj vs Hy=>A0r Hg Hy/\Hy D2=some (.lst vs)/\vs=((zs.take j).map (· %wh)).map V.int) ⟨A0g hD2,A0b,rfl⟩ (λj vs Hy ⟨sy,_⟩=>SqL.of (sy _ _ hnpg)) ?_ ?_
   ·rintro j x vs Hy hx ⟨sy,hy,rfl⟩;obtain ⟨z,hz,rfl⟩:=A2o hx;refine ⟨⟨rfl,True.intro⟩,_,rfl,_,rfl,_,_,rfl,rfl,wh0,hy,A0y (by simp;omega),A0k sy hD2,A0b,?_⟩;rw [Z14,hz,Option.toList_some,Z0s,Z0s];rfl
   rintro vs Hy ⟨sy,hy,rfl⟩;rw [Z08,Z18] at hy;have D2G:G D2=none:=fr klg (by rw [hDg];exact nofun) (by rw [htlg];exact nofun) (by rw [hndg];exact nofun) (by rw [hdug];exact nofun) hD2;refine ⟨_,rfl,_,rfl,du,_,rfl,B0z.k (k:=Sum.inr tn) (sy _ _ hdug) (A0y (by omega)),?_⟩;rw [A3h (A5n dtg tdk)];have upz:∀{b:Addr} {o:HO},b≠du->Hg b=some o->upd Hy du (.dK (dk++[(Sum.inr tn,.ref D2)])) b=some o:=λn e=>by rw [A0e n];exact sy _ _ e
   refine ⟨_,_,_,ms'',xs++[.ref tp],nk++[(Sum.inr tn,.ref np)],dk++[(Sum.inr tn,.ref D2)],td++[((tn,ys),ys.map (ai (A1a ax)),zs)],rfl,(klg.trans (KL.of sy)).upd (by simp),upz nDu hDg,⟨upz tldu htlg,?_,upz nddu hndg,?_,A0b,?_⟩,λe he=> ?_,?_⟩
   ·rw [Z0s];exact B5i (tbg.imp λb o m e=>⟨m,upz (sM b m).2.2.2 e⟩) (.cons ⟨tp,p,rfl,tpG,hpG,upz (sM tp tpG).2.2.2 hteg,upz (sM p hpG).2.2.2 hpg⟩ .nil)
   ·unfold A8r;rw [Z0s];exact B5i (ntg.imp λb o m e=>⟨m,upz (sM b m).2.2.2 e⟩) (.cons ⟨rfl,np,rfl,npG,upz (sM np npG).2.2.2 hnpg⟩ .nil)
   ·unfold duT;rw [Z0s];exact B5i (dtg.imp λb o m e=>⟨m,upz (sM b m).2.2.2 e⟩) (.cons ⟨rfl,D2,rfl,D2G,by rw [A0e (sM D2 D2G).2.2.2];exact hy⟩ .nil)
   ·rcases Z07.mp he with he | he
    ·exact tok e he
    ·rw [Z0w.mp he];exact ⟨axok,rfl,lz⟩
   ·rw [Z0s,Z0s,etd,Z14,htn];rfl
  rintro σ Hx ⟨o7',o11,o12,ms6,xs,nk,dk,td,rfl,kl,hDx,I,tok,etd⟩;have ltd:td.length<=6:=by have:=congrArg List.length etd;rw [Z08,Z08,Z0x] at this;have e6:tn6.length=6:=rfl;omega
  have tin:∀x∈(td.map (·.1)).map (·.1),x∈tn6:=λx hx=>by rw [etd] at hx;exact List.mem_of_mem_take hx
  have tnd:((td.map (·.1)).map (·.1)).Nodup:=by rw [etd];exact List.Pairwise.sublist (List.take_sublist _ _) C6d
  have tld:("told":Str)∉(td.map (·.1)).map (·.1):=λm=>(C1g _ (tin _ m)).2 rfl;have tldk:("told":Str)∉(duT wh td).map (·.1):=by rw [B1l];exact tld
  have lxs:=Paired.length I.tb;rw [Z08] at lxs;have ldk:=Paired.length I.dt;rw [B4u] at ldk;refine ⟨_,rfl,D,ms6,rfl,hDx,λc ms7 Ha' la' ha' oa' _=> ?_⟩;have kla:=kl.trans (KL.oth (by simp) oa');have Ia:=I.keep (H':=Ha') λb o hb' e=>by rw [oa' b (ndM b hb')];exact e
  refine ⟨_,rfl,_,rfl,_,rfl,c,nl,ld,nm,A1a ax,rfl,kla _ _ nlM gnl,kla _ _ ldM gld,nmpos,nm4',nmnd,lo,λys0 op Hb hop sb hopb axok0=> ?_⟩;have opG:G op=none:=frI kla ha' Ia hop;have Ib:=Ia.same sb;have klb:=kla.trans (KL.of sb);have hDb:=sb _ _ ha';refine ⟨_,rfl,_,_,rfl,rfl,⟨by decide,by decide,by decide⟩,_,_,rfl,rfl,C6x,λn1 dn hn1 hdn hne1=>⟨n1,_,dn,_,rfl,A0b,T.dh,T.bu,rfl,?_⟩⟩;dsimp only;have sc:=C0h (H:=Hb) (o1:= .own n1) (o2:= .ins t.aq dn []) (o3:= .ins t.aq dn [("number",.int (c%10^(30:Int).toNat))]) hn1 hdn;have hnc:upd (upd (upd Hb dn (.own n1)) n1 (.ins t.aq dn [])) n1 (.ins t.aq dn [("number",.int (c%10^(30:Int).toNat))]) n1=some (.ins t.aq dn [("number",.int (c%10^(30:Int).toNat))]):=A0b;generalize upd (upd (upd Hb dn (.own n1)) n1 (.ins t.aq dn [])) n1 (.ins t.aq dn [("number",.int (c%10^(30:Int).toNat))])=Hc at sc hnc;have Ic:=Ib.same sc;have klc:=klb.trans (KL.of sc);have hDc:=sc _ _ hDb;have hopc:=sc _ _ hopb;have obn:Ob t Hc (.ref n1) (.num (c%10^(30:Int).toNat)):= .num hnc;have pb:=A1f (ys0.map (ai (A1a ax))) λn hn=>(B5x lo axok0.sub n hn).1;have pm:=axok0.most;have pb2:=pb.2;refine ⟨_,rfl,_,rfl,op,ld,ys0,A1a ax,ys0.map (ai (A1a ax)),rfl,hopc,klc _ _ ldM gld,B9d lo axok0.sub,B5x lo axok0.sub,_,rfl,(by omega),(by omega),λD2 hD2=> ?_⟩;refine A4h (D:=D2) (A2j (ys0.map (ai (A1a ax)))).toNat (λi vs Hy=>A0r Hc Hy/\Hy D2=some (.lst vs)/\vs=(List.replicate i (c%10^(30:Int).toNat%wh)).map V.int) ⟨A0g hD2,A0b,rfl⟩ (λi vs Hy hi _=>hi) (λvs Hy _=>Z09 _) ?_ ?_
  ·rintro i vs Hy hi ⟨sy,hy,rfl⟩ x Hz ⟨rfl,rfl⟩;refine ⟨⟨rfl,rfl,True.intro⟩,_,rfl,_,_,rfl,rfl,⟨by decide,by decide,by decide⟩,_,_,rfl,rfl,C6x,_,rfl,_,_,rfl,rfl,wh0,hy,A0y (by simp;omega),A0k sy hD2,A0b,?_⟩;rw [List.replicate_succ',Z0s];rfl
  rintro vs Hd ⟨sd,hd2,rfl⟩;have D2G:G D2=none:=frI klc hDc Ic hD2;have Id:=Ic.same sd;have kld:=klc.trans (KL.of sd);have hDd:=sd _ _ hDc;refine ⟨_,rfl,du,_,rfl,B0z.k (k:=Sum.inr "told") Id.hdu (A0y (by omega)),?_⟩;rw [A3h (A5n Id.dt tldk)];have upe:∀{b:Addr} {o:HO},b≠du->Hd b=some o->upd Hd du (.dK (dk++[((Sum.inr ("told":Str):Key),V.ref D2)])) b=some o:=λn e=>by rw [A0e n];exact e
  have kle:KL [D,tl,nd,du] G (upd Hd du (.dK (dk++[((Sum.inr ("told":Str):Key),V.ref D2)]))):=kld.upd (by simp);have hDe:=upe nDu hDd;have hope:=upe (sM op opG).2.2.2 (sd _ _ hopc);have obe:Ob t (upd Hd du (.dK (dk++[((Sum.inr ("told":Str):Key),V.ref D2)]))) (.ref n1) (.num (c%10^(30:Int).toNat)):=(obn.imp sd).kx λb u n1 n2 y=>upe (A0z y Id.hdu (n1 _)) y;have Ie:TI (λb=>G b=none) (upd Hd du (.dK (dk++[((Sum.inr ("told":Str):Key),V.ref D2)]))) tl nd du xs nk (dk++[((Sum.inr ("told":Str):Key),V.ref D2)]) td (duT wh td++[(("told":Str),List.replicate (A2j (ys0.map (ai (A1a ax)))).toNat (c%10^(30:Int).toNat%wh))]):=⟨upe tldu Id.htl,Id.tb.imp λb o m e=>⟨m,upe (sM b m).2.2.2 e⟩,upe nddu Id.hnd,Id.nt.imp λb o m e=>⟨m,upe (sM b m).2.2.2 e⟩,A0b,B5i (Id.dt.imp λb o m e=>⟨m,upe (sM b m).2.2.2 e⟩) (.cons ⟨rfl,D2,rfl,D2G,upe (sM D2 D2G).2.2.2 hd2⟩ .nil)⟩;clear upe;generalize upd Hd du (.dK (dk++[((Sum.inr ("told":Str):Key),V.ref D2)]))=He at kle hDe hope obe Ie;refine ⟨λσ' Hf=>∃(ol:Addr) (tv:V) (ys:List Str) (u:Tm) (vals:List Int) (dk':List (Key×V)),σ'=[some (.ref a),some (.int c),some (.ref D),some (.int wh),some (.ref nl),some (.int way),some (.ref ld),o7',some (.ref tl),some (.ref nd),some (.ref du),o11,o12,some (.ref ol),some tv,none,none]/\KL [D,tl,nd,du] G Hf/\Hf D=some (.lst (ms7.map V.int))/\TI (λb=>G b=none) Hf tl nd du xs nk dk' td (duT wh td++[(("told":Str),vals)])/\Hf ol=some (.lst (ys.map V.str))/\C8q nm (A1a ax) ys/\Ob t Hf tv u/\TmO nm (A1a ax) wh td ys u vals,?_,?_⟩
  ·have els:∃(ol:Addr) (tv:V) (ys:List Str) (u:Tm) (vals:List Int) (dk':List (Key×V)),[some (V.ref a),some (.int c),some (.ref D),some (.int wh),some (.ref nl),some (.int way),some (.ref ld),o7',some (.ref tl),some (.ref nd),some (.ref du),o11,o12,some (.ref op),some (.ref n1),none,none]=[some (.ref a),some (.int c),some (.ref D),some (.int wh),some (.ref nl),some (.int way),some (.ref ld),o7',some (.ref tl),some (.ref nd),some (.ref du),o11,o12,some (.ref ol),some tv,none,none]/\KL [D,tl,nd,du] G He/\He D=some (.lst (ms7.map V.int))/\TI (λb=>G b=none) He tl nd du xs nk dk' td (duT wh td++[(("told":Str),vals)])/\He ol=some (.lst (ys.map V.str))/\C8q nm (A1a ax) ys/\Ob t He tv u/\TmO nm (A1a ax) wh td ys u vals :=
    ⟨op,.ref n1,ys0,_,_,_,rfl,kle,hDe,Ie,hope,axok0,obe,.inl ⟨_,rfl,D2f c,rfl⟩⟩
   refine ⟨_,rfl,tl,_,rfl,.inl (SqL.of Ie.htl),_,_,rfl,rfl,_,rfl,B8h (λhpos=> ?_) (λ_=>A5c els)⟩;refine ⟨_,rfl,_,_,rfl,rfl,(by show (0:Int)<3;decide),rfl,_,rfl,D0s (λ_=> ?_) (λ_=>els)⟩;have xpos:(0:Int)<(xs.length:Int):=hpos;obtain ⟨v,hv,ev⟩:=C6h (xs:=xs) (i:=c/3%(xs.length:Int)) (Z1v _ (by omega)) (Z1p _ xpos);generalize (c/3%(xs.length:Int)).toNat=j at hv;obtain ⟨tb,htb,b,c',rfl,sb',sc',hb',hc'⟩:=B0v Ie.tb hv;rw [Z1z] at htb;obtain ⟨te,hte,rfl⟩:=Z0i.mp htb;have e0:atI [V.str te.1.1,V.ref c'] 0=some (.str te.1.1):=A9o (j:=0) rfl;have e1:atI [V.str te.1.1,V.ref c'] 1=some (.ref c'):=A9o (j:=1) rfl;obtain ⟨axok,eax',lnum⟩:=tok te (Z13 hte);refine ⟨_,rfl,_,rfl,_,_,rfl,rfl,⟨by decide,by decide⟩,_,rfl,tl,_,rfl,.inl (SqL.of Ie.htl),_,_,rfl,rfl,xpos,tl,_,_,_,rfl,rfl,SqL.of Ie.htl,ev,b,_,_,_,rfl,rfl,SqT.of hb',e1,c',_,rfl,.inl (SqL.of hc'),λol hol=> ?_⟩;have s1:A0r He (upd He ol (.lst (te.1.2.map V.str))):=A0g hol;have hol1:upd He ol (.lst (te.1.2.map V.str)) ol=some (.lst (te.1.2.map V.str)):=A0b;generalize upd He ol (.lst (te.1.2.map V.str))=H1 at s1 hol1;have I1:=Ie.same s1;refine ⟨_,rfl,_,rfl,_,_,rfl,rfl,⟨by decide,by decide⟩,_,rfl,tl,_,rfl,.inl (SqL.of I1.htl),_,_,rfl,rfl,xpos,tl,_,_,_,rfl,rfl,SqL.of I1.htl,ev,b,_,_,_,rfl,rfl,SqT.of (s1 _ _ hb'),e0,_,rfl,ol,rfl,⟨_,SqL.of hol1⟩,λD3 hD3=> ?_⟩;have few:=axok.few;refine A2l (K:=K) (a:=ol) (D:=D3) (xs:=te.1.2.map V.str) (λi vs Hy=>A0r H1 Hy/\Hy D3=some (.lst vs)/\PxS Hy vs (ixO (te.1.2.take i))) ⟨A0g hD3,A0b,.nil⟩ (λi vs Hy ⟨sy,_⟩=>SqL.of (sy _ _ hol1)) ?_ ?_
   ·rintro i x vs Hy hx ⟨sy,hy,px⟩;obtain ⟨y,hyy,rfl⟩:=A2o hx;have lvs:=Paired.length px;have li:(ixO (te.1.2.take i)).length<=3:=by unfold ixO;rw [Z08,Z0x];omega
    refine ⟨True.intro,_,rfl,A1h (by simp),λq hq=> ?_⟩;have sq:A0r Hy (upd Hy q (.tup [.str y,.int 0])):=A0g hq;have hqq:upd Hy q (.tup [.str y,.int 0]) q=some (.tup [.str y,.int 0]):=A0b;refine ⟨sq _ _ hy,A0y (by omega),A0k (sy.trans sq) hD3,A0b,?_⟩;unfold ixO;rw [Z14,hyy,Option.toList_some,Z0s];exact B5i (px.keep λb' xs' e=>by rw [A0e (A0z e hy (by intro z;cases z))];exact sq _ _ e) (.cons ⟨q,rfl,by rw [A0e (A0z hqq (sq _ _ hy) (by intro z;cases z))];exact hqq⟩ .nil)
   rintro vs H2 ⟨s2,hy2,px⟩;rw [Z08,Z18] at px;have rp:Rep H2 (.ref D3) (A4i (ixO te.1.2)):= .lst hy2 (B1n px);refine λx dx hx hdx hne2=> ?_;have u3:A0r H2 (upd (upd H2 dx (.own x)) x (.ins t.aJ dx [])):=A0k (A0g hdx) hx;refine ⟨x,dx,D3,te.1.1,ixO te.1.2,rfl,A0b,rp.same u3,by unfold ixO;rw [Z08];omega,λl1 H4 hx4 rp4 kb4=>⟨rfl,?_⟩⟩;have s4:A0r H1 H4:=s2.trans (KB.same u3 kb4 hx);have I4:=I1.same s4;have obr:Ob t H4 (.ref x) (.read te.1.1 (ixO te.1.2)):= .read hx4 rp4;have s04:=s1.trans s4;obtain ⟨cd,hdkj,sdj,hdj⟩:=A8s (i:=j) (e:=(te.1.1,te.2.2.map (· %wh))) I4.dt (by rw [Z26 (by rw [B4u];exact (Z03.mp hte).1)];unfold duT;rw [Z1z,hte];rfl)
   have ndd:((dk++[((Sum.inr ("told":Str):Key),V.ref D2)]).map (·.1)).Nodup:=by
    rw [A6j I4.dt.at,Z0s];exact A2q (A6a (by rw [B1l];exact tnd) tldk)
   have g:A7i H4 du (.str te.1.1) (some (.ref cd)):= .inl ⟨_,Sum.inr te.1.1,.inl I4.hdu,rfl,(A4a ndd hdkj).symm⟩;refine ⟨_,rfl,_,rfl,_,rfl,_,_,rfl,rfl,⟨by decide,by decide⟩,_,rfl,tl,_,rfl,.inl (SqL.of I4.htl),_,_,rfl,rfl,xpos,tl,_,_,_,rfl,rfl,SqL.of I4.htl,ev,b,_,_,_,rfl,rfl,SqT.of (s04 _ _ hb'),e0,du,_,rfl,g,cd,_,rfl,.inl (SqL.of hdj),λl2 hl2=> ?_⟩;have s5:A0r H4 (upd H4 l2 (.lst ((te.2.2.map (· %wh)).map V.int))):=A0g hl2;have hl2':upd H4 l2 (.lst ((te.2.2.map (· %wh)).map V.int)) l2=some (.lst ((te.2.2.map (· %wh)).map V.int)):=A0b;have l2G:G l2=none:=frI (kle.trans (KL.of s04)) (s04 _ _ hDe) I4 hl2;generalize upd H4 l2 (.lst ((te.2.2.map (· %wh)).map V.int))=H5' at s5 hl2';have I5:=I4.same s5;refine ⟨_,rfl,du,_,rfl,B0z.k (k:=Sum.inr "told") I5.hdu (A0y (by rw [Z06,Z0j];omega)),?_⟩;rw [C2v (A5n Id.dt tldk)];have upf:∀{b:Addr} {o:HO},b≠du->H5' b=some o->upd H5' du (.dK (dk++[((Sum.inr ("told":Str):Key),V.ref l2)])) b=some o:=λn e=>by rw [A0e n];exact e
   have s05:=s04.trans s5;obtain ⟨dk0,x0,ed,dt0,_⟩:=C1k I5.dt;have ed':=List.append_inj' ed rfl;have dt0:TkS (λb=>G b=none) H5' dk (duT wh td):=by rw [ed'.1];exact dt0
   refine ⟨ol,.ref x,te.1.2,_,te.2.2.map (· %wh),_,rfl,(kle.trans (KL.of s05)).upd (by simp),upf nDu (s05 _ _ hDe),⟨upf tldu I5.htl,I5.tb.imp λb o m e=>⟨m,upf (sM b m).2.2.2 e⟩,upf nddu I5.hnd,I5.nt.imp λb o m e=>⟨m,upf (sM b m).2.2.2 e⟩,A0b,B5i (dt0.imp λb o m e=>⟨m,upf (sM b m).2.2.2 e⟩) (.cons ⟨rfl,l2,rfl,l2G,upf (sM l2 l2G).2.2.2 hl2'⟩ .nil)⟩,upf (A0z ((s4.trans s5) _ _ hol1) I5.hdu (by intro z;cases z)) ((s4.trans s5) _ _ hol1),axok,(obr.imp s5).kx λb u n1 n2 y=>upf (A0z y I5.hdu (n1 _)) y,.inr ⟨j,te,hte,rfl,rfl,rfl⟩⟩
  rintro σ' Hf ⟨ol,tv,ys,u,vals,dk',rfl,klf,hDf,If,holf,axok,obf,tmo⟩;have hnlf:=klf _ _ nlM gnl;have hldf:=klf _ _ ldM gld;have ndax:(ax.map (·.1)).Nodup:=by rw [eax];exact nmnd
  have ndlk:((A1a ax).map (·.1)).Nodup:=by
   have:(A1a ax).map (·.1)=(ax.map (·.1)).map (Sum.inr:Str->Key):=by unfold A1a;rw [List.map_map,List.map_map];rfl
   rw [this];exact A2q ndax
  refine ⟨_,rfl,nl,rfl,⟨_,SqL.of hnlf⟩,λD4 hD4=> ?_⟩;refine A2l (K:=K) (a:=nl) (D:=D4) (xs:=nm.map V.str) (λi vs Hy=>A0r Hf Hy/\Hy D4=some (.lst vs)/\PxS Hy vs (ax.take i)) ⟨A0g hD4,A0b,.nil⟩ (λi vs Hy ⟨sy,_⟩=>SqL.of (sy _ _ hnlf)) ?_ ?_
  ·rintro i x vs Hy hx ⟨sy,hy,px⟩;obtain ⟨y,hyy,rfl⟩:=A2o hx;rw [<-eax,Z1z] at hyy;obtain ⟨e,he,rfl⟩:=Z0i.mp hyy;have lvs:=Paired.length px;rw [Z0x] at lvs;have g:A7i Hy ld (.str e.1) (some (.int e.2)):= .inl ⟨A1a ax,Sum.inr e.1,.inl (sy _ _ hldf),rfl,(A4a ndlk (i:=i) (by unfold A1a;rw [Z1z,he];rfl)).symm⟩;refine ⟨⟨rfl,True.intro⟩,_,rfl,_,rfl,_,rfl,ld,_,rfl,g,A1h (by simp),λq hq=> ?_⟩;have sq:A0r Hy (upd Hy q (.tup [.str e.1,.int e.2])):=A0g hq;have hqq:upd Hy q (.tup [.str e.1,.int e.2]) q=some (.tup [.str e.1,.int e.2]):=A0b;refine ⟨sq _ _ hy,A0y (by omega),A0k (sy.trans sq) hD4,A0b,?_⟩;rw [Z14,he,Option.toList_some];exact B5i (px.keep λb' xs' e=>by rw [A0e (A0z e hy (by intro z;cases z))];exact sq _ _ e) (.cons ⟨q,rfl,by rw [A0e (A0z hqq (sq _ _ hy) (by intro z;cases z))];exact hqq⟩ .nil)
  rintro vs Hg ⟨sg,hyg,pxg⟩;rw [Z08,<-lax,Z18] at pxg;have Ig:=If.same sg;refine ⟨_,rfl,_,rfl,_,rfl,_,rfl,_,rfl,λlt dt hlt hdt hne3=> ?_⟩;have u1:A0r Hg (upd (upd Hg dt (.own lt)) lt (.ins t.aK dt [])):=A0k (A0g hdt) hlt;refine ⟨lt,dt,ol,tv,"told",ys,rfl,A0b,u1 _ _ (sg _ _ holf),by have:=axok.few;omega,λc2 Hh hc2 hlt2 hcc kb2=>⟨rfl,A1h (by simp),λll hll=>⟨A1h (by simp),λol2 hol2 p dp hp hdp hne4=> ?_⟩⟩⟩;have s2:A0r Hg Hh:=KB.same u1 kb2 hlt;have s3:A0r Hh (upd Hh ll (.lst [.ref lt])):=A0g hll;have hll':upd Hh ll (.lst [.ref lt]) ll=some (.lst [.ref lt]):=A0b;generalize upd Hh ll (.lst [.ref lt])=Hi at s3 hll' hol2 hp hdp⊢;have s4:A0r Hi (upd Hi ol2 (.lst [.str "told"])):=A0g hol2;have hol2':upd Hi ol2 (.lst [.str "told"]) ol2=some (.lst ((["told"]:List Str).map V.str)):=A0b;generalize upd Hi ol2 (.lst [.str "told"])=Hj at s4 hol2' hp hdp⊢;have u5:A0r Hj (upd (upd Hj dp (.own p)) p (.ins t.ag dp [])):=A0k (A0g hdp) hp;have sgj:=s2.trans (s3.trans s4);obtain ⟨gu,du6,axu⟩:=C8n tmo axok nmsub tin;obtain ⟨runv,runo⟩:=D0t lo tok tmo axok nmsub tnd;have lok:B2h t ax Hj (.ref lt) ⟨"told",ys,ys.map (ai (A1a ax)),u⟩:=⟨lt,dt,c2,tv,rfl,(s3.trans s4) _ _ hlt2,(s3.trans s4) _ _ hcc,obf.imp (sg.trans sgj),gu,du6,⟨nm,axu,lo⟩,B9d lo axok.sub,B5b lo axok⟩;have hltp:lt≠p:=A0i ((s3.trans s4) _ _ hlt2) hp;refine ⟨p,dp,D4,tl,ll,ol2,wh,ax,td.map (λ(e:TD)=>e.1),[.ref lt],["told"],rfl,A0b,(Rep.lst hyg (B1n pxg):Rep Hg (.ref D4) (A4i ax)).same (sgj.trans u5),by omega,(Rep.lst Ig.htl (B7i Ig.tb):Rep Hg (.ref tl) (A8e (td.map (·.1)))).same (sgj.trans u5),by rw [Z08];omega,(λe he=>by obtain ⟨e',he',rfl⟩:=Z2c.mp he;have:=(tok e' he').1.few;omega),u5 _ _ (s4 _ _ hll'),by simp,(by intro x hx;rw [Z0w.mp hx];exact ⟨lt,dt,_,rfl,hltp,u5 _ _ ((s3.trans s4) _ _ hlt2)⟩),u5 _ _ hol2',by simp,λa' t' l' o' Hk hpk ra rt hl' ho' kbk=>⟨rfl,?_⟩⟩;have sjk:A0r Hj Hk:=KB.same u5 kbk hp;have sgk:=sgj.trans sjk
  have Mkk:Mk t Hk p wh ax td ⟨"told",ys,ys.map (ai (A1a ax)),u⟩:=by
   refine ⟨⟨[.ref lt],["told"],⟨dp,a',t',l',o',hpk,ra,rt,hl',ho'⟩,.cons (lok.kx λb o _ _ y=>sjk _ _ y) .nil⟩,ndax,by omega,?_,ltd,C7g lo tok,λe he=> ?_,whok,λi e he=> ?_⟩
   ·rw [B1a];exact A6a tnd tld
   ·have:=(C1g _ (tin _ (Z2c.mpr ⟨e.1,Z2c.mpr ⟨e,he,rfl⟩,rfl⟩))).1;exact ⟨this.2,by have:=this.1;omega⟩
   ·cases i with
    | zero =>
     cases he
     exact runo
    | succ i=>cases he
  have dueq:A8h (A3e (ai (A1a ax)) wh (td.map (A5b wh)) [⟨"told",ys,ys.map (ai (A1a ax)),u⟩])=duT wh td++[(("told":Str),vals)]:=by
   show A8h (td.map (A5b wh)++[(("told":Str),B1s (ai (A1a ax)) wh u ys (td.map (A5b wh)) "told" (A0n (ys.map (ai (A1a ax)))))])=_;unfold A8h;rw [Z0s];have:=D0e (wh:=wh) lo tok;unfold A8h at this;rw [this,<-runv];rfl
  have Ik:=Ig.same sgk;have hDk:=(sg.trans sgk) _ _ hDf;refine ⟨_,rfl,_,rfl,A1h (by simp),λzl hzl=> ?_⟩;have s6:A0r Hk (upd Hk zl (.lst [.str "zz",.str "told"])):=A0g hzl;refine ⟨nl,zl,_,_,rfl,rfl,s6 _ _ ((sg.trans sgk) _ _ hnlf),A0b,A1h (by simp;omega),λnms hnms=> ?_⟩;have s7:A0r (upd Hk zl (.lst [.str "zz",.str "told"])) (upd (upd Hk zl (.lst [.str "zz",.str "told"])) nms (.lst (nm.map V.str++[.str "zz",.str "told"]))):=A0g hnms;have Dnms:D≠nms:=A0i (s6 _ _ hDk) hnms;have hnm7:upd (upd Hk zl (.lst [.str "zz",.str "told"])) nms (.lst (nm.map V.str++[.str "zz",.str "told"])) nms=some (.lst ((nm++(["zz","told"]:List Str)).map V.str)):=by rw [A0b,Z0s];rfl
  have skm:=s6.trans s7;generalize upd (upd Hk zl (.lst [.str "zz",.str "told"])) nms (.lst (nm.map V.str++[.str "zz",.str "told"]))=Hm at skm hnm7;clear s7 s6;have hDm:=skm _ _ hDk;refine ⟨_,rfl,D,ms7,rfl,hDm,λw8 ms8 Hn ln8 hn8 on8 en8=>⟨_,_,rfl,rfl,(by show (0:Int)<8;decide),?_⟩⟩;refine ⟨_,rfl,D,ms8,rfl,hn8,λpl ms9 Ho lo9 ho9 oo9 eo9=> ?_⟩;refine ⟨_,rfl,D,ms9,rfl,ho9,λcc ms10 Hpp lp10 hp10 op10 ep10=> ?_⟩;have Mp:=(((Mkk.same skm).ki (B5h hDm on8 en8)).ki (B5h hn8 oo9 eo9)).ki (B5h ho9 op10 ep10);have Ip:=(Ik.same skm).keep (H':=Hpp) λb o hb' e=>by rw [op10 b (ndM b hb'),oo9 b (ndM b hb'),on8 b (ndM b hb')];exact e
  have hnmp:Hpp nms=some (.lst ((nm++(["zz","told"]:List Str)).map V.str)):=by rw [op10 _ Dnms.symm,oo9 _ Dnms.symm,on8 _ Dnms.symm];exact hnm7
  have nds:((A8r td).map (·.1)).Nodup:=by rw [A7t];exact tnd
  refine ⟨nd,nms,nk,A8r td,nm++(["zz","told"]:List Str),_,_,_,rfl,Ip.hnd,Ip.nt.at,nds,by unfold A8r;rw [Z08];exact ltd,λe he=> ?_,hnmp,by rw [Z06];omega,by rw [Z06];show nm.length+2<=100;omega,λx hx m=> ?_,λq tk' ts' Hq hq sq hqq tka' nk' l7 cs=> ?_⟩
  ·obtain ⟨e',he',rfl⟩:=Z2c.mp he;obtain ⟨h1,h2,h3⟩:=tok e' he';have g:=B5b lo h1;have lc:=(A1f _ λn hn=>(g.pos n hn).1).2;have hm:=h1.most;rw [<-h2] at lc hm;show 0<e'.2.2.length/\e'.2.2.length<=200;omega
  ·rw [A7t] at m;refine D1k x ?_ (tin x m);rcases Z07.mp hx with hx | hx
   ·exact Z05 _ (nmsub x hx)
   ·exact Z02 _ hx
  have MM:∀{H1:Hp},A0r Hq H1->Mk t H1 p wh ax td ⟨"told",ys,ys.map (ai (A1a ax)),u⟩:=λs1=>(Mp.same sq).same s1;have NN:∀{H1:Hp},A0r Hq H1->H1 nd=some (.dK nk):=λs1=>s1 _ _ (sq _ _ Ip.hnd);have NT:∀{H1:Hp},A0r Hq H1->B0x H1 nk (A8r td):=λs1=>(Ip.nt.at.same sq).same s1;have DD:∀{H1:Hp},A0r Hq H1->H1 du=some (.dK dk'):=λs1=>s1 _ _ (sq _ _ Ip.hdu);have DT:∀{H1:Hp},A0r Hq H1->B0x H1 dk' (A8h (A3e (ai (A1a ax)) wh (td.map (A5b wh)) [⟨"told",ys,ys.map (ai (A1a ax)),u⟩])):=λs1=>by rw [dueq];exact (Ip.dt.at.same sq).same s1
  have s0:A0r Hq Hq:=A0r.refl _;refine ⟨_,rfl,_,rfl,q,nd,tk',nk,B4g ts',B4g (A8r td),rfl,rfl,.inl hqq,.inl (sq _ _ Ip.hnd),B0a tka',B0a (Ip.nt.at.same sq),_,rfl,?_⟩;rcases cs with rfl | bad
  ·refine D0d (by rw [Z0t Z0v];exact B2f nds) ?_;exact ⟨_,rfl,_,rfl,_,rfl,p,nd,du,wh,ax,td,_,nk,dk',rfl,MM s0,NN s0,NT s0,DD s0,DT s0,λH1 s1=>⟨true,rfl,B9u ⟨_,rfl,_,rfl,_,rfl,p,nd,du,wh,ax,td,_,nk,dk',rfl,MM s1,NN s1,NT s1,DD s1,DT s1,λH2' s2'=>k _⟩⟩⟩
  refine C9m (by rw [Z0t Z0v];exact C8h nds nk' bad) ?_;refine ⟨_,rfl,_,_,rfl,rfl,⟨by decide,by decide⟩,_,_,rfl,rfl,(by show (0:Int)<2;decide),rfl,_,rfl,C9i (λ_=> ?_) (λ_=>A5c ?_)⟩
  ·refine ⟨_,rfl,_,rfl,_,rfl,p,nd,du,wh,ax,td,_,nk,dk',rfl,MM s0,NN s0,NT s0,DD s0,DT s0,λH1 s1=>⟨_,rfl,A5c ?_⟩⟩;refine ⟨_,rfl,_,rfl,p,q,wh,ax,td,_,tk',ts',rfl,MM s1,s1 _ _ hqq,tka'.same s1,nk',l7,bad,λH2' s2'=>⟨_,rfl,A5c ⟨_,rfl,_,rfl,p,q,wh,ax,td,_,tk',ts',rfl,MM (s1.trans s2'),(s1.trans s2') _ _ hqq,tka'.same (s1.trans s2'),nk',l7,bad,λH3' s3'=>⟨_,rfl,A5c ?_⟩⟩⟩⟩;have s13:=s1.trans (s2'.trans s3');exact ⟨_,rfl,_,rfl,_,rfl,p,nd,du,wh,ax,td,_,nk,dk',rfl,MM s13,NN s13,NT s13,DD s13,DT s13,λH4' s4'=>⟨true,rfl,B9u ⟨_,rfl,_,rfl,p,q,wh,ax,td,_,tk',ts',rfl,MM (s13.trans s4'),(s13.trans s4') _ _ hqq,tka'.same (s13.trans s4'),nk',l7,bad,λH5' s5'=>k _⟩⟩⟩
  ·have s1:=s0;refine ⟨_,rfl,_,rfl,p,q,wh,ax,td,_,tk',ts',rfl,MM s1,s1 _ _ hqq,tka'.same s1,nk',l7,bad,λH2' s2'=>⟨_,rfl,A5c ⟨_,rfl,_,rfl,p,q,wh,ax,td,_,tk',ts',rfl,MM (s1.trans s2'),(s1.trans s2') _ _ hqq,tka'.same (s1.trans s2'),nk',l7,bad,λH3' s3'=>⟨_,rfl,A5c ?_⟩⟩⟩⟩;have s13:=s1.trans (s2'.trans s3');exact ⟨_,rfl,_,rfl,_,rfl,p,nd,du,wh,ax,td,_,nk,dk',rfl,MM s13,NN s13,NT s13,DD s13,DT s13,λH4' s4'=>⟨true,rfl,B9u ⟨_,rfl,_,rfl,p,q,wh,ax,td,_,tk',ts',rfl,MM (s13.trans s4'),(s13.trans s4') _ _ hqq,tka'.same (s13.trans s4'),nk',l7,bad,λH5' s5'=>k _⟩⟩⟩
end
end My
namespace PySem.W.Fast
def tw16429101470985362998:=()
def tw639682342565589892:=()
def tw6671655315039023889:=()
def tw7152500424161590815:=()
def tw7126595436673997865:=()
def tw16811728617032229918:=()
def tw12728615846511483783:=()
def tw17320642033590903418:=()
def tw14083678567592861992:=()
def tw17989546554887828647:=()
def tw5631805844920400361:=()
def tw2248243300262218923:=()
def tw8586648236490311460:=()
def tw5424196745721740353:=()
def tw8121404602362732321:=()
def tw8269036340163347121:=()
def tw3320536142702431661:=()
def tw16084642744161884068:=()
def tw1781912813049665447:=()
def tw17683409619812040088:=()
def tw16857142166641658205:=()
def tw13456911399377622537:=()
def tw17255472455826137828:=()
def tw2709200415982523450:=()
def tw9186756569677667701:=()
def tw5305997693732833305:=()
def tw14887086072649397442:=()
def tw314983967171620370:=()
def tw13718945871515927347:=()
def tw8655469225720249886:=()
def tw4646345246533318678:=()
def tw9329800347738909350:=()
def tw9969692618416737820:=()
def tw1420262440304781440:=()
def tw27690779116382966:=()
def tw8652338667125942324:=()
def tw14581443564927068575:=()
def tw13339033415046696938:=()
def tw14301148651677692032:=()
def tw11653747397076926573:=()
def tw15610414601929121433:=()
def tw10360931616820528271:=()
def tw958004847263922917:=()
def tw5335921037114662034:=()
def tw15919898233110427963:=()
def tw8425457257542804327:=()
def tw15131881549858761037:=()
def tw4969505602344772741:=()
def tw15947102745716280049:=()
def tw7316174158298284406:=()
def tw635307182271918364:=()
def tw3322912583497831689:=()
def tw2545929423597854885:=()
def tw12763524533983470047:=()
def tw7367700608045291708:=()
def tw17052441697676650996:=()
def tw34181827050595283:=()
def tw7289019207382073794:=()
def tw12988181546589777719:=()
def tw10027781146113213393:=()
def tw3822692824108851312:=()
def tw1543757433246574423:=()
def tw133601910145408443:=()
def tw15703783563496463897:=()
def tw4109740405911829630:=()
def tw2518953144307151473:=()
def tw13406956036448345213:=()
def tw7385054196545033981:=()
def tw10522073635967176544:=()
def tw17883981147182087980:=()
def tw1672623323860862171:=()
def tw16817449026531759569:=()
def tw17556690444978218498:=()
def tw16202121112537214828:=()
def tw4812902926907523984:=()
def tw1919421390301206149:=()
def tw14023274198791315518:=()
def tw26321381824807714:=()
def tw189366649999641914:=()
def tw10202187045015576659:=()
def tw4407486232497264446:=()
def tw1435494524309208059:=()
def tw3993718812427366:=()
def tw17311260685981731094:=()
def tw6733946549312572271:=()
def tw9239167065265014585:=()
def tw3929877069542757734:=()
def tw13757284114637400867:=()
def tw9457372977574394404:=()
def tw8304284253986811674:=()
def tw9898888594593571706:=()
def tw8521237026385422035:=()
def tw10269519910019548655:=()
def tw17597360009034367844:=()
def tw16207320380586210437:=()
def tw7603348605678733463:=()
def tw2068923234376714791:=()
def tw14474436528542945142:=()
def tw4951432798867742111:=()
def tw12604545871361038666:=()
def tw11392647172217057177:=()
def tw16362486548887108544:=()
def tw6658076780992190405:=()
def tw15750989855509330347:=()
def tw9510065754009892444:=()
def tw17173612698273764659:=()
def tw12386404556470594708:=()
def tw5427225852008914192:=()
def tw6003298413256630220:=()
def tw12351482901695779280:=()
def tw9637392492163782671:=()
def tw8610976754055410489:=()
def tw11629020600097314321:=()
def tw18346995418005395259:=()
def tw15846144961043322138:=()
def tw9366541905551482629:=()
def tw3634385712296186693:=()
def tw3967059479846811672:=()
def tw4085122414789377402:=()
def tw4536270331581548377:=()
def tw15666229080587727237:=()
def tw14543792911762295775:=()
def tw12532564818312810437:=()
def tw13478868101778854857:=()
def tw1853736469007909144:=()
def tw3625532264193426868:=()
def tw11799658185337393071:=()
def tw6091450941461971975:=()
def tw9425550954292335737:=()
def tw18255891004262414453:=()
def tw11683168655814879116:=()
def tw5813683736320112797:=()
def tw3696967955992506678:=()
def tw8521241351002725967:=()
def tw6484688488534897367:=()
def tw1904983531371889969:=()
def tw13318866772701597057:=()
def tw6428902926575191939:=()
def tw8341825075808276312:=()
def tw6049884777839495660:=()
def tw18153402204458792775:=()
def tw3483681985230270544:=()
def tw11450998111405317238:=()
def tw10435760628492371673:=()
def tw1092094292677868336:=()
def tw2615672433117881107:=()
def tw11200812127819725590:=()
def tw4534396036753606826:=()
def tw7964770164667892944:=()
def tw8090175561784582432:=()
def tw6593293930853860378:=()
def tw4389709342184316337:=()
def tw15489509013817237768:=()
def tw13342934066465889029:=()
def tw8962011971626702820:=()
def tw89392886140902868:=()
def tw10599515166802976353:=()
def tw15742942860761493684:=()
def tw13150164087530328168:=()
def tw15583823036713026656:=()
def tw9494244804103719216:=()
def tw7878305827839877515:=()
def tw18290211101353154499:=()
def tw11822924151709222175:=()
def tw670149023350446191:=()
def tw5053791834902213967:=()
def tw14498753516970899658:=()
def tw4991060065687055733:=()
def tw7057837833498471218:=()
def tw5804806902450073832:=()
def tw858310326011923617:=()
def tw6698314846259136903:=()
def tw5684903552238099787:=()
def tw7939758757601649294:=()
def tw2707605792213568109:=()
def tw6465323104393271673:=()
def tw15934310165928476521:=()
def tw6330808337401758099:=()
def tw4138836143191820742:=()
def tw3428701508948834713:=()
def tw16904881660117370842:=()
def tw2583516521396423926:=()
def tw17726446887038807097:=()
def tw4978364529790779156:=()
def tw8571825585229821690:=()
def tw14114454004893277506:=()
def tw12812210075955788556:=()
def tw3325731097195524434:=()
def tw16250673468995988911:=()
def tw9362103628185224845:=()
def tw17620998440966503594:=()
def tw13544666564794010556:=()
def tw13119635815859002265:=()
def tw13535042857612084975:=()
def tw6997509213157731176:=()
def tw6285246625160054380:=()
def tw1891394466290758564:=()
def tw17638016458338757489:=()
def tw11227989176376915740:=()
def tw117353727682428694:=()
def tw5883822237987395365:=()
def tw16382448053247409019:=()
def tw2035907356291697288:=()
def tw12893191069424582523:=()
def tw6097210215687644017:=()
def tw1947058845450451102:=()
def tw14413765526235303233:=()
def tw1058182174337670685:=()
def tw8587147781420396187:=()
def tw768635125871765637:=()
def tw14627007625011666795:=()
def tw11252334061038156763:=()
def tw6747283069803995484:=()
def tw18329741966773182498:=()
def tw7562607632449916207:=()
def tw8023460368874933978:=()
def tw4214022519719267679:=()
def tw9410185545372539076:=()
def tw6834412233630626597:=()
def tw9272546916019566059:=()
def tw2320579059506394797:=()
def tw16358161160941667507:=()
def tw15750718043246440775:=()
def tw4104196159716916594:=()
def tw6683408436408836574:=()
def tw12417795548751594056:=()
def tw3339611653310343006:=()
def tw14984523204192152825:=()
def tw16825767805015628351:=()
def tw4565030227768114283:=()
def tw18177747741820282860:=()
def tw44074047753830320:=()
def tw6555143257869680642:=()
def tw5101704725640280007:=()
def tw1946501616181083849:=()
def tw1100945403223157456:=()
def tw10183813195960881855:=()
def tw8169648935893532999:=()
def tw17776072890906927111:=()
def tw7348891557056574336:=()
def tw2544601872013488028:=()
def tw9521855114597488337:=()
def tw3957702288029542941:=()
def tw8269923216217426764:=()
def tw6503343450627190581:=()
def tw17809781126222345592:=()
def tw108122840121495250:=()
def tw643376634562450658:=()
def tw8765425659964975841:=()
def tw8785716124779469665:=()
def tw297722890678727992:=()
def tw11083992806650105187:=()
def tw8206383646570674366:=()
def tw2965025862464661651:=()
def tw2025458469067496634:=()
def tw14529171031348862745:=()
def tw10553113347754775224:=()
def tw8114901149732246239:=()
def tw6449298598705643032:=()
def tw299268700688913340:=()
def tw14028113074736316575:=()
def tw12142164305029805640:=()
def tw8529450968964084756:=()
def tw6735320166118034318:=()
def tw2551681277578135141:=()
def tw14532863575132130178:=()
def tw13100957766303061158:=()
def tw9553289842313251865:=()
def tw2903600611758457220:=()
def tw10525668107042706766:=()
def tw7008163431854090982:=()
end PySem.W.Fast
namespace My
open PySem L2
abbrev LkF (K:PySem.W.Frag) (x q:Str) (st:Stmt) (f:Addr):Prop:=∃(oc:Value) (od:Option Addr) (kV dc pm:Value) (an:Option Addr) (cd ct:Value) (sl:Array (Option Value)),K.lookup f=some ⟨oc,od,.func (PySem.W.fnOf x q (A6h st) (A4m st) (A0j st) .none kV dc pm an cd ct),sl⟩/\PySem.W.codeIn K cd q=true/\PySem.W.keepIn K (.ref f)=true
theorem D0y {K:PySem.W.Frag} {x q:Str} {st:Stmt} {f:Addr} {oc:Value} {od:Option Addr} {kV dc pm:Value} {an:Option Addr} {cd ct:Value} {sl:Array (Option Value)} (l:K.lookup f=some ⟨oc,od,.func (PySem.W.fnOf x q (A6h st) (A4m st) (A0j st) .none kV dc pm an cd ct),sl⟩) (c:PySem.W.codeIn K cd q=true) (k:PySem.W.keepIn K (.ref f)=true):LkF K x q st f:=⟨_,_,_,_,_,_,_,_,_,l,c,k⟩
theorem A2e {K:PySem.W.Frag} {x q:Str} {st:Stmt} {f:Addr} {ps:List Str} (l:LkF K x q st f) (h:∀(kV doc pm:Value) (an:Option Addr) (cdv ct:Value) (us:List Value),us.length=ps.length->bindArgs (PySem.W.fnOf x q (A6h st) (A4m st) (A0j st) .none kV doc pm an cdv ct) ⟨us,[]⟩=pure (ps.zip us)):∃d,Fun K x q st f d/\A1i K d ps []/\PySem.W.keepIn K (.ref f)=true:=by
 obtain ⟨_,_,_,_,_,_,_,_,_,l,c,k⟩:=l;have F:=C6b (st:=st) l c k;exact ⟨_,F,F.binds h,k⟩
theorem A5u {p:List Value->Prop} (h:p []):∀us:List Value,us.length=0->p us:=λus e=>by rw [List.length_eq_zero_iff.mp e];exact h
theorem A1o {n:Nat} {p:List Value->Prop} (h:∀(a:Value) (us:List Value),us.length=n->p (a::us)):∀us:List Value,us.length=n+1->p us
 | a::r,e=>h a r (Nat.succ.inj e)
theorem D1n {l:PySem.W.OpenLaw} {w:World} {K:PySem.W.Frag} {h:Heap} {mg:Str->Option Value} {fa:Addr} (X:K.In h) (G:h.Ns mainGlobals mg) (hfa:mg "law"=some (.ref fa))
  {C_LoomError C_NoName C_NoShape C_TooMuch C_NoTable C_Let C_Program C_World C_Term C_Number C_Read C_GrowingWorld:Addr}
  (aC_LoomError:PySem.W.nsIn K mainGlobals "LoomError"=some (some (.ref C_LoomError)))
  (aC_NoName:PySem.W.nsIn K mainGlobals "NoName"=some (some (.ref C_NoName)))
  (aC_NoShape:PySem.W.nsIn K mainGlobals "NoShape"=some (some (.ref C_NoShape)))
  (aC_TooMuch:PySem.W.nsIn K mainGlobals "TooMuch"=some (some (.ref C_TooMuch)))
  (aC_NoTable:PySem.W.nsIn K mainGlobals "NoTable"=some (some (.ref C_NoTable)))
  (aC_Let:PySem.W.nsIn K mainGlobals "Let"=some (some (.ref C_Let)))
  (aC_Program:PySem.W.nsIn K mainGlobals "Program"=some (some (.ref C_Program)))
  (aC_World:PySem.W.nsIn K mainGlobals "World"=some (some (.ref C_World)))
  (aC_Term:PySem.W.nsIn K mainGlobals "Term"=some (some (.ref C_Term)))
  (aC_Number:PySem.W.nsIn K mainGlobals "Number"=some (some (.ref C_Number)))
  (aC_Read:PySem.W.nsIn K mainGlobals "Read"=some (some (.ref C_Read)))
  (aC_GrowingWorld:PySem.W.nsIn K mainGlobals "GrowingWorld"=some (some (.ref C_GrowingWorld)))
  {f0:Addr}
  (a0:PySem.W.nsIn K mainGlobals "cells_of"=some (some (.ref f0)))
  (l0:LkF K "cells_of" "cells_of" A7s f0)
  {f1:Addr}
  (a1:PySem.W.nsIn K mainGlobals "lengthened"=some (some (.ref f1)))
  (l1:LkF K "lengthened" "lengthened" A5h f1)
  {f2:Addr}
  (a2:PySem.W.nsIn K mainGlobals "copied"=some (some (.ref f2)))
  (l2:LkF K "copied" "copied" B1p f2)
  {f3:Addr}
  (a3:PySem.W.nsIn K mainGlobals "copied_dict"=some (some (.ref f3)))
  (l3:LkF K "copied_dict" "copied_dict" A4o f3)
  {f4:Addr}
  (a4:PySem.W.findIn K (.ref C_Let) "__init__"=some (some (.ref f4)))
  (l4:LkF K "__init__" "Let.__init__" A7m f4)
  (i4:PySem.W.isFn K (.ref f4)=true)
  {f5:Addr}
  (a5:PySem.W.findIn K (.ref C_Program) "__init__"=some (some (.ref f5)))
  (l5:LkF K "__init__" "Program.__init__" A3x f5)
  (i5:PySem.W.isFn K (.ref f5)=true)
  {f6:Addr}
  (a6:PySem.W.nsIn K mainGlobals "table_names"=some (some (.ref f6)))
  (l6:LkF K "table_names" "table_names" A4n f6)
  {f7:Addr}
  (a7:PySem.W.nsIn K mainGlobals "lengths_of"=some (some (.ref f7)))
  (l7:LkF K "lengths_of" "lengths_of" A5q f7)
  {f8:Addr}
  (a8:PySem.W.nsIn K mainGlobals "lengths_along"=some (some (.ref f8)))
  (l8:LkF K "lengths_along" "lengths_along" A3o f8)
  {f9:Addr}
  (a9:PySem.W.nsIn K mainGlobals "cells_along"=some (some (.ref f9)))
  (l9:LkF K "cells_along" "cells_along" A4p f9)
  {f10:Addr}
  (a10:PySem.W.findIn K (.ref C_World) "__init__"=some (some (.ref f10)))
  (l10:LkF K "__init__" "World.__init__" A5o f10)
  (i10:PySem.W.isFn K (.ref f10)=true)
  {f11:Addr}
  (a11:PySem.W.findIn K (.ref C_Number) "__init__"=some (some (.ref f11)))
  (l11:LkF K "__init__" "Number.__init__" A4s f11)
  (i11:PySem.W.isFn K (.ref f11)=true)
  {f12:Addr}
  (a12:PySem.W.findIn K (.ref C_Number) "worth"=some (some (.ref f12)))
  (l12:LkF K "worth" "Number.worth" A3z f12)
  (i12:PySem.W.isFn K (.ref f12)=true)
  {f13:Addr}
  (a13:PySem.W.findIn K (.ref C_Read) "__init__"=some (some (.ref f13)))
  (l13:LkF K "__init__" "Read.__init__" A6d f13)
  (i13:PySem.W.isFn K (.ref f13)=true)
  {f14:Addr}
  (a14:PySem.W.findIn K (.ref C_Read) "cell_at"=some (some (.ref f14)))
  (l14:LkF K "cell_at" "Read.cell_at" A3w f14)
  (i14:PySem.W.isFn K (.ref f14)=true)
  {f15:Addr}
  (a15:PySem.W.findIn K (.ref C_Read) "worth"=some (some (.ref f15)))
  (l15:LkF K "worth" "Read.worth" A5p f15)
  (i15:PySem.W.isFn K (.ref f15)=true)
  {f16:Addr}
  (a16:PySem.W.nsIn K mainGlobals "index_at"=some (some (.ref f16)))
  (l16:LkF K "index_at" "index_at" A7k f16)
  {f17:Addr}
  (a17:PySem.W.findIn K (.ref C_GrowingWorld) "put"=some (some (.ref f17)))
  (l17:LkF K "put" "GrowingWorld.put" A2r f17)
  (i17:PySem.W.isFn K (.ref f17)=true)
  {f18:Addr}
  (a18:PySem.W.nsIn K mainGlobals "meaning"=some (some (.ref f18)))
  (l18:LkF K "meaning" "meaning" A9y f18)
  {f19:Addr}
  (a19:PySem.W.nsIn K mainGlobals "look_tables"=some (some (.ref f19)))
  (l19:LkF K "look_tables" "look_tables" A4x f19)
  {f20:Addr}
  (a20:PySem.W.nsIn K mainGlobals "put_tables"=some (some (.ref f20)))
  (l20:LkF K "put_tables" "put_tables" A5f f20)
  {f21:Addr}
  (a21:PySem.W.nsIn K mainGlobals "put_let"=some (some (.ref f21)))
  (l21:LkF K "put_let" "put_let" A9f f21)
  {f22:Addr}
  (a22:PySem.W.nsIn K mainGlobals "rows_of"=some (some (.ref f22)))
  (l22:LkF K "rows_of" "rows_of" A9k f22)
  {f23:Addr}
  (a23:PySem.W.nsIn K mainGlobals "_law_cell"=some (some (.ref f23)))
  (l23:LkF K "_law_cell" "_law_cell" B1q f23)
  {f24:Addr}
  (a24:PySem.W.nsIn K mainGlobals "_law_axes"=some (some (.ref f24)))
  (l24:LkF K "_law_axes" "_law_axes" B2g f24)
  {f25:Addr}
  (a25:PySem.W.nsIn K mainGlobals "_law_many"=some (some (.ref f25)))
  (l25:LkF K "_law_many" "_law_many" B1u f25)
  {f26:Addr}
  (a26:PySem.W.nsIn K mainGlobals "_law_numbers"=some (some (.ref f26)))
  (l26:LkF K "_law_numbers" "_law_numbers" A6f f26)
  {f27:Addr}
  (a27:PySem.W.nsIn K mainGlobals "_law_copy"=some (some (.ref f27)))
  (l27:LkF K "_law_copy" "_law_copy" B1v f27)
  {f28:Addr}
  (a28:PySem.W.nsIn K mainGlobals "_law_spoiled"=some (some (.ref f28)))
  (l28:LkF K "_law_spoiled" "_law_spoiled" A6c f28)
  {f29:Addr}
  (a29:PySem.W.nsIn K mainGlobals "_law_list"=some (some (.ref f29)))
  (l29:LkF K "_law_list" "_law_list" B1y f29)
  {f30:Addr}
  (a30:PySem.W.nsIn K mainGlobals "_law_good"=some (some (.ref f30)))
  (l30:LkF K "_law_good" "_law_good" B2k f30)
  {f31:Addr}
  (a31:PySem.W.nsIn K mainGlobals "_law_refused"=some (some (.ref f31)))
  (l31:LkF K "_law_refused" "_law_refused" A6i f31)
  {f32:Addr}
  (a32:PySem.W.nsIn K mainGlobals "_law_under"=some (some (.ref f32)))
  (l32:LkF K "_law_under" "_law_under" A9r f32)
  {f33:Addr}
  (a33:PySem.W.nsIn K mainGlobals "law"=some (some (.ref f33)))
  (l33:LkF K "law" "law" C3m f33)
  (xm_NoTable_ValueError:PySem.W.mroIn K C_NoTable (.type "ValueError")=some true)
  (xe_NoTable:PySem.W.excIn K C_NoTable [.type "ValueError",.type "Exception",.type "BaseException",.type "object"] "ValueError.__new__"=true)
  (x1_NoTable:PySem.W.findIn K (.ref C_NoTable) "__getattribute__"=some (some (.builtin "BaseException.__getattribute__")))
  (x2_NoTable:PySem.W.findIn K (.ref C_NoTable) "__getattr__"=some none)
  (x3_NoTable:PySem.W.mroIn K C_NoTable (.type "BaseException")=some true)
  (x4_NoTable:PySem.W.mroIn K C_NoTable (.type "object")=some true)
  (x5_NoTable:PySem.W.findIn K (.ref C_NoTable) "__class__"=some (some (.builtin "object.__class__")))
  (x6_NoTable:PySem.W.specialIn K (.builtin "object.__class__") "__get__"=some (some (.builtin "getset_descriptor.__get__")))
  (x7_NoTable:PySem.W.takesIn K (.builtin "object.__class__")=some true)
  (cs_NoName:PySem.W.isClsIn K C_NoName=true)
  (ct_NoName:PySem.W.typeIn K (.ref C_NoName)=some (.type "type"))
  (mr_NoTable_NoName:PySem.W.mroIn K C_NoTable (.ref C_NoName)=some false)
  (ne_NoTable_NoName:(Value.ref C_NoTable == Value.ref C_NoName)=false)
  (cs_NoShape:PySem.W.isClsIn K C_NoShape=true)
  (ct_NoShape:PySem.W.typeIn K (.ref C_NoShape)=some (.type "type"))
  (mr_NoTable_NoShape:PySem.W.mroIn K C_NoTable (.ref C_NoShape)=some false)
  (ne_NoTable_NoShape:(Value.ref C_NoTable == Value.ref C_NoShape)=false)
  (cs_TooMuch:PySem.W.isClsIn K C_TooMuch=true)
  (ct_TooMuch:PySem.W.typeIn K (.ref C_TooMuch)=some (.type "type"))
  (mr_NoTable_TooMuch:PySem.W.mroIn K C_NoTable (.ref C_TooMuch)=some false)
  (ne_NoTable_TooMuch:(Value.ref C_NoTable == Value.ref C_TooMuch)=false)
  (cs_LoomError:PySem.W.isClsIn K C_LoomError=true)
  (ct_LoomError:PySem.W.typeIn K (.ref C_LoomError)=some (.type "type"))
  (mr_NoTable_LoomError:PySem.W.mroIn K C_NoTable (.ref C_LoomError)=some true)
  (cs_NoTable:PySem.W.isClsIn K C_NoTable=true)
  (ct_NoTable:PySem.W.typeIn K (.ref C_NoTable)=some (.type "type"))
  (mr_NoTable_NoTable:PySem.W.mroIn K C_NoTable (.ref C_NoTable)=some true)
  (eb_NoTable:PySem.W.mroIn K C_NoTable (.type "BaseException")=some true)
  (eb_LoomError:PySem.W.mroIn K C_LoomError (.type "BaseException")=some true)
  (pg_GrowingWorld:PySem.W.plainGet K C_GrowingWorld Str.empty=true)
  (hd_GrowingWorld:PySem.W.hasDictIn K C_GrowingWorld=true)
  (po_GrowingWorld:PySem.W.plainOver K C_GrowingWorld=true)
  (sa_GrowingWorld:PySem.W.findIn K (.ref C_GrowingWorld) "__setattr__"=some (some (.builtin "object.__setattr__")))
  (mk_GrowingWorld:PySem.W.makesIn K C_GrowingWorld=true)
  (kc_GrowingWorld:PySem.W.keepIn K (.ref C_GrowingWorld)=true)
  (in_GrowingWorld:PySem.W.findIn K (.ref C_GrowingWorld) "__init__"=some (some (.ref f10)))
  (na_GrowingWorld_wheel:PySem.W.findIn K (.ref C_GrowingWorld) "wheel"=some none)
  (na_GrowingWorld_lengths:PySem.W.findIn K (.ref C_GrowingWorld) "lengths"=some none)
  (na_GrowingWorld_numbers:PySem.W.findIn K (.ref C_GrowingWorld) "numbers"=some none)
  (me_GrowingWorld_put:PySem.W.findIn K (.ref C_GrowingWorld) "put"=some (some (.ref f17)))
  (t1_GrowingWorld:PySem.W.findIn K (.ref C_GrowingWorld) "__class__"=some (some (.builtin "object.__class__")))
  (t2_GrowingWorld:PySem.W.specialIn K (.builtin "object.__class__") "__get__"=some (some (.builtin "getset_descriptor.__get__")))
  (t3_GrowingWorld:PySem.W.takesIn K (.builtin "object.__class__")=some true)
  (t4_GrowingWorld:PySem.W.mroIn K C_GrowingWorld (.type "object")=some true)
  (pg_Let:PySem.W.plainGet K C_Let Str.empty=true)
  (hd_Let:PySem.W.hasDictIn K C_Let=true)
  (po_Let:PySem.W.plainOver K C_Let=true)
  (sa_Let:PySem.W.findIn K (.ref C_Let) "__setattr__"=some (some (.builtin "object.__setattr__")))
  (mk_Let:PySem.W.makesIn K C_Let=true)
  (kc_Let:PySem.W.keepIn K (.ref C_Let)=true)
  (in_Let:PySem.W.findIn K (.ref C_Let) "__init__"=some (some (.ref f4)))
  (na_Let_name:PySem.W.findIn K (.ref C_Let) "name"=some none)
  (na_Let_axes:PySem.W.findIn K (.ref C_Let) "axes"=some none)
  (na_Let_term:PySem.W.findIn K (.ref C_Let) "term"=some none)
  (t1_Let:PySem.W.findIn K (.ref C_Let) "__class__"=some (some (.builtin "object.__class__")))
  (t2_Let:PySem.W.specialIn K (.builtin "object.__class__") "__get__"=some (some (.builtin "getset_descriptor.__get__")))
  (t3_Let:PySem.W.takesIn K (.builtin "object.__class__")=some true)
  (t4_Let:PySem.W.mroIn K C_Let (.type "object")=some true)
  (mb_Let_list:PySem.W.mroIn K C_Let (.type "list")=some false)
  (mb_Let_tuple:PySem.W.mroIn K C_Let (.type "tuple")=some false)
  (mb_Let_dict:PySem.W.mroIn K C_Let (.type "dict")=some false)
  (pg_Number:PySem.W.plainGet K C_Number Str.empty=true)
  (hd_Number:PySem.W.hasDictIn K C_Number=true)
  (po_Number:PySem.W.plainOver K C_Number=true)
  (sa_Number:PySem.W.findIn K (.ref C_Number) "__setattr__"=some (some (.builtin "object.__setattr__")))
  (mk_Number:PySem.W.makesIn K C_Number=true)
  (kc_Number:PySem.W.keepIn K (.ref C_Number)=true)
  (in_Number:PySem.W.findIn K (.ref C_Number) "__init__"=some (some (.ref f11)))
  (na_Number_number:PySem.W.findIn K (.ref C_Number) "number"=some none)
  (me_Number_worth:PySem.W.findIn K (.ref C_Number) "worth"=some (some (.ref f12)))
  (t1_Number:PySem.W.findIn K (.ref C_Number) "__class__"=some (some (.builtin "object.__class__")))
  (t2_Number:PySem.W.specialIn K (.builtin "object.__class__") "__get__"=some (some (.builtin "getset_descriptor.__get__")))
  (t3_Number:PySem.W.takesIn K (.builtin "object.__class__")=some true)
  (t4_Number:PySem.W.mroIn K C_Number (.type "object")=some true)
  (pg_Program:PySem.W.plainGet K C_Program Str.empty=true)
  (hd_Program:PySem.W.hasDictIn K C_Program=true)
  (po_Program:PySem.W.plainOver K C_Program=true)
  (sa_Program:PySem.W.findIn K (.ref C_Program) "__setattr__"=some (some (.builtin "object.__setattr__")))
  (mk_Program:PySem.W.makesIn K C_Program=true)
  (kc_Program:PySem.W.keepIn K (.ref C_Program)=true)
  (in_Program:PySem.W.findIn K (.ref C_Program) "__init__"=some (some (.ref f5)))
  (na_Program_wheel:PySem.W.findIn K (.ref C_Program) "wheel"=some none)
  (na_Program_axes:PySem.W.findIn K (.ref C_Program) "axes"=some none)
  (na_Program_tables:PySem.W.findIn K (.ref C_Program) "tables"=some none)
  (na_Program_lets:PySem.W.findIn K (.ref C_Program) "lets"=some none)
  (na_Program_outs:PySem.W.findIn K (.ref C_Program) "outs"=some none)
  (t1_Program:PySem.W.findIn K (.ref C_Program) "__class__"=some (some (.builtin "object.__class__")))
  (t2_Program:PySem.W.specialIn K (.builtin "object.__class__") "__get__"=some (some (.builtin "getset_descriptor.__get__")))
  (t3_Program:PySem.W.takesIn K (.builtin "object.__class__")=some true)
  (t4_Program:PySem.W.mroIn K C_Program (.type "object")=some true)
  (pg_Read:PySem.W.plainGet K C_Read Str.empty=true)
  (hd_Read:PySem.W.hasDictIn K C_Read=true)
  (po_Read:PySem.W.plainOver K C_Read=true)
  (sa_Read:PySem.W.findIn K (.ref C_Read) "__setattr__"=some (some (.builtin "object.__setattr__")))
  (mk_Read:PySem.W.makesIn K C_Read=true)
  (kc_Read:PySem.W.keepIn K (.ref C_Read)=true)
  (in_Read:PySem.W.findIn K (.ref C_Read) "__init__"=some (some (.ref f13)))
  (na_Read_array:PySem.W.findIn K (.ref C_Read) "array"=some none)
  (na_Read_indexes:PySem.W.findIn K (.ref C_Read) "indexes"=some none)
  (me_Read_cell_at:PySem.W.findIn K (.ref C_Read) "cell_at"=some (some (.ref f14)))
  (me_Read_worth:PySem.W.findIn K (.ref C_Read) "worth"=some (some (.ref f15)))
  (t1_Read:PySem.W.findIn K (.ref C_Read) "__class__"=some (some (.builtin "object.__class__")))
  (t2_Read:PySem.W.specialIn K (.builtin "object.__class__") "__get__"=some (some (.builtin "getset_descriptor.__get__")))
  (t3_Read:PySem.W.takesIn K (.builtin "object.__class__")=some true)
  (t4_Read:PySem.W.mroIn K C_Read (.type "object")=some true)
  (z_range:PySem.W.nsIn K mainGlobals "range"=some none)
  (z_isinstance:PySem.W.nsIn K mainGlobals "isinstance"=some none)
  (z_list:PySem.W.nsIn K mainGlobals "list"=some none)
  (z_tuple:PySem.W.nsIn K mainGlobals "tuple"=some none)
  (z_dict:PySem.W.nsIn K mainGlobals "dict"=some none)
  (z_set:PySem.W.nsIn K mainGlobals "set"=some none)
  (z_len:PySem.W.nsIn K mainGlobals "len"=some none)
  (z_zip:PySem.W.nsIn K mainGlobals "zip"=some none)
  (z_min:PySem.W.nsIn K mainGlobals "min"=some none)
  (z_bool:PySem.W.nsIn K mainGlobals "bool"=some none)
  (z_int:PySem.W.nsIn K mainGlobals "int"=some none)
  (z_ValueError:PySem.W.nsIn K mainGlobals "ValueError"=some none)
  (z_reversed:PySem.W.nsIn K mainGlobals "reversed"=some none)
  :∃fd:FuncData,(∀(s:Shared) (v:Value),BindsTo s fd ⟨[v],[]⟩ [("_law_script",v)])/\∀base:Heap,K.In base->base.Ns mainGlobals mg->A1m l.prog w K mg base CX0 14 fa fd ["_law_script"] (C4o K):=by
 have e:=hfa.symm.trans (Z0f X G a33);cases e;obtain ⟨d0,F0,b0,k0⟩:=A2e (ps:=["lengths"]) l0 λ_ _ _ _ _ _=>A1o λ_=>A5u rfl;obtain ⟨d1,F1,b1,k1⟩:=A2e (ps:=["cells","length"]) l1 λ_ _ _ _ _ _=>A1o λ_=>A1o λ_=>A5u rfl;obtain ⟨d2,F2,b2,k2⟩:=A2e (ps:=["value"]) l2 λ_ _ _ _ _ _=>A1o λ_=>A5u rfl;obtain ⟨d3,F3,b3,k3⟩:=A2e (ps:=["value"]) l3 λ_ _ _ _ _ _=>A1o λ_=>A5u rfl;obtain ⟨d4,F4,b4,k4⟩:=A2e (ps:=["self","name","axes","term"]) l4 λ_ _ _ _ _ _=>A1o λ_=>A1o λ_=>A1o λ_=>A1o λ_=>A5u rfl;obtain ⟨d5,F5,b5,k5⟩:=A2e (ps:=["self","wheel","axes","tables","lets","outs"]) l5 λ_ _ _ _ _ _=>A1o λ_=>A1o λ_=>A1o λ_=>A1o λ_=>A1o λ_=>A1o λ_=>A5u rfl;obtain ⟨d6,F6,b6,k6⟩:=A2e (ps:=["program"]) l6 λ_ _ _ _ _ _=>A1o λ_=>A5u rfl;obtain ⟨d7,F7,b7,k7⟩:=A2e (ps:=["program"]) l7 λ_ _ _ _ _ _=>A1o λ_=>A5u rfl;obtain ⟨d8,F8,b8,k8⟩:=A2e (ps:=["axes","lengths"]) l8 λ_ _ _ _ _ _=>A1o λ_=>A1o λ_=>A5u rfl;obtain ⟨d9,F9,b9,k9⟩:=A2e (ps:=["axes","lengths"]) l9 λ_ _ _ _ _ _=>A1o λ_=>A1o λ_=>A5u rfl;obtain ⟨d10,F10,b10,k10⟩:=A2e (ps:=["self","wheel","lengths","numbers"]) l10 λ_ _ _ _ _ _=>A1o λ_=>A1o λ_=>A1o λ_=>A1o λ_=>A5u rfl;obtain ⟨d11,F11,b11,k11⟩:=A2e (ps:=["self","number"]) l11 λ_ _ _ _ _ _=>A1o λ_=>A1o λ_=>A5u rfl;obtain ⟨d12,F12,b12,k12⟩:=A2e (ps:=["self","at","world"]) l12 λ_ _ _ _ _ _=>A1o λ_=>A1o λ_=>A1o λ_=>A5u rfl;obtain ⟨d13,F13,b13,k13⟩:=A2e (ps:=["self","array","indexes"]) l13 λ_ _ _ _ _ _=>A1o λ_=>A1o λ_=>A1o λ_=>A5u rfl;obtain ⟨d14,F14,b14,k14⟩:=A2e (ps:=["self","at"]) l14 λ_ _ _ _ _ _=>A1o λ_=>A1o λ_=>A5u rfl;obtain ⟨d15,F15,b15,k15⟩:=A2e (ps:=["self","at","world"]) l15 λ_ _ _ _ _ _=>A1o λ_=>A1o λ_=>A1o λ_=>A5u rfl;obtain ⟨d16,F16,b16,k16⟩:=A2e (ps:=["axis","shift","at"]) l16 λ_ _ _ _ _ _=>A1o λ_=>A1o λ_=>A1o λ_=>A5u rfl;obtain ⟨d17,F17,b17,k17⟩:=A2e (ps:=["self","array","cell","number"]) l17 λ_ _ _ _ _ _=>A1o λ_=>A1o λ_=>A1o λ_=>A1o λ_=>A5u rfl;obtain ⟨d18,F18,b18,k18⟩:=A2e (ps:=["program","tables"]) l18 λ_ _ _ _ _ _=>A1o λ_=>A1o λ_=>A5u rfl;obtain ⟨d19,F19,b19,k19⟩:=A2e (ps:=["program","tables"]) l19 λ_ _ _ _ _ _=>A1o λ_=>A1o λ_=>A5u rfl;obtain ⟨d20,F20,b20,k20⟩:=A2e (ps:=["program","tables","world"]) l20 λ_ _ _ _ _ _=>A1o λ_=>A1o λ_=>A1o λ_=>A5u rfl;obtain ⟨d21,F21,b21,k21⟩:=A2e (ps:=["let","world"]) l21 λ_ _ _ _ _ _=>A1o λ_=>A1o λ_=>A5u rfl;obtain ⟨d22,F22,b22,k22⟩:=A2e (ps:=["world"]) l22 λ_ _ _ _ _ _=>A1o λ_=>A5u rfl;obtain ⟨d23,F23,b23,k23⟩:=A2e (ps:=["_law_rest"]) l23 λ_ _ _ _ _ _=>A1o λ_=>A5u rfl;obtain ⟨d24,F24,b24,k24⟩:=A2e (ps:=["_law_cell_here","_law_names","_law_lengths"]) l24 λ_ _ _ _ _ _=>A1o λ_=>A1o λ_=>A1o λ_=>A5u rfl;obtain ⟨d25,F25,b25,k25⟩:=A2e (ps:=["_law_axes_here","_law_lengths"]) l25 λ_ _ _ _ _ _=>A1o λ_=>A1o λ_=>A5u rfl;obtain ⟨d26,F26,b26,k26⟩:=A2e (ps:=["_law_rest","_law_many_here"]) l26 λ_ _ _ _ _ _=>A1o λ_=>A1o λ_=>A5u rfl;obtain ⟨d27,F27,b27,k27⟩:=A2e (ps:=["_law_tables"]) l27 λ_ _ _ _ _ _=>A1o λ_=>A5u rfl;obtain ⟨d28,F28,b28,k28⟩:=A2e (ps:=["_law_tables","_law_names","_law_way","_law_place","_law_cell_here"]) l28 λ_ _ _ _ _ _=>A1o λ_=>A1o λ_=>A1o λ_=>A1o λ_=>A1o λ_=>A5u rfl;obtain ⟨d29,F29,b29,k29⟩:=A2e (ps:=["_law_found","_law_due"]) l29 λ_ _ _ _ _ _=>A1o λ_=>A1o λ_=>A5u rfl;obtain ⟨d30,F30,b30,k30⟩:=A2e (ps:=["_law_program","_law_tables","_law_due"]) l30 λ_ _ _ _ _ _=>A1o λ_=>A1o λ_=>A1o λ_=>A5u rfl;obtain ⟨d31,F31,b31,k31⟩:=A2e (ps:=["_law_program","_law_tables"]) l31 λ_ _ _ _ _ _=>A1o λ_=>A1o λ_=>A5u rfl;obtain ⟨d32,F32,b32,k32⟩:=A2e (ps:=["_law_program","_law_tables"]) l32 λ_ _ _ _ _ _=>A1o λ_=>A1o λ_=>A5u rfl;obtain ⟨_,_,_,_,_,_,_,_,_,l33,c,k33⟩:=l33;have F33:=C6b (st:=C3m) l33 c k33;have b33:=F33.binds (ps:=["_law_script"]) λ_ _ _ _ _ _=>A1o λ_=>A5u rfl;exact ⟨_,λs v=> .of_eq rfl,λbase _ _=>D1q (t:=⟨C_LoomError,C_NoName,C_NoShape,C_TooMuch,C_NoTable,C_Let,C_Program,C_World,C_Term,C_Number,C_Read,C_GrowingWorld,f0,_,f1,_,f2,_,f3,_,f4,_,f5,_,f6,_,f7,_,f8,_,f9,_,f10,_,f11,_,f12,_,f13,_,f14,_,f15,_,f16,_,f17,_,f18,_,f19,_,f20,_,f21,_,f22,_,f23,_,f24,_,f25,_,f26,_,f27,_,f28,_,f29,_,f30,_,f31,_,f32,_,fa,_⟩) ⟨F0,Z0f X G a0,b0,F1,Z0f X G a1,b1,F2,Z0f X G a2,b2,F3,Z0f X G a3,b3,F4,b4,F5,b5,F6,Z0f X G a6,b6,F7,Z0f X G a7,b7,F8,Z0f X G a8,b8,F9,Z0f X G a9,b9,F10,b10,F11,b11,F12,b12,F13,b13,F14,b14,F15,b15,F16,Z0f X G a16,b16,F17,b17,F18,Z0f X G a18,b18,F19,Z0f X G a19,b19,F20,Z0f X G a20,b20,F21,Z0f X G a21,b21,F22,Z0f X G a22,b22,F23,Z0f X G a23,b23,F24,Z0f X G a24,b24,F25,Z0f X G a25,b25,F26,Z0f X G a26,b26,F27,Z0f X G a27,b27,F28,Z0f X G a28,b28,F29,Z0f X G a29,b29,F30,Z0f X G a30,b30,F31,Z0f X G a31,b31,F32,Z0f X G a32,b32,F33,Z0f X G a33,b33,Z0f X G aC_LoomError,Z0f X G aC_NoName,Z0f X G aC_NoShape,Z0f X G aC_NoTable,Z0f X G aC_TooMuch,xm_NoTable_ValueError,xe_NoTable,⟨x1_NoTable,x2_NoTable,x3_NoTable,x4_NoTable,x5_NoTable,x6_NoTable,x7_NoTable⟩,A8y ne_NoTable_NoName cs_NoName ct_NoName mr_NoTable_NoName,A8y ne_NoTable_NoShape cs_NoShape ct_NoShape mr_NoTable_NoShape,A8y ne_NoTable_TooMuch cs_TooMuch ct_TooMuch mr_NoTable_TooMuch,C2s cs_LoomError ct_LoomError mr_NoTable_LoomError,C6e eb_NoTable cs_NoTable ct_NoTable mr_NoTable_NoTable,C6e eb_LoomError cs_LoomError ct_LoomError mr_NoTable_LoomError,Z0f X G aC_Let,Z0f X G aC_Program,Z0f X G aC_Number,Z0f X G aC_Read,Z0f X G aC_GrowingWorld,⟨pg_GrowingWorld,hd_GrowingWorld,po_GrowingWorld,sa_GrowingWorld⟩,⟨mk_GrowingWorld,in_GrowingWorld,i10,kc_GrowingWorld⟩,na_GrowingWorld_wheel,na_GrowingWorld_lengths,na_GrowingWorld_numbers,⟨me_GrowingWorld_put,i17,k17⟩,⟨t1_GrowingWorld,t2_GrowingWorld,t3_GrowingWorld,t4_GrowingWorld⟩,⟨pg_Let,hd_Let,po_Let,sa_Let⟩,⟨mk_Let,in_Let,i4,kc_Let⟩,na_Let_name,na_Let_axes,na_Let_term,⟨t1_Let,t2_Let,t3_Let,t4_Let⟩,mb_Let_list,mb_Let_tuple,mb_Let_dict,⟨pg_Number,hd_Number,po_Number,sa_Number⟩,⟨mk_Number,in_Number,i11,kc_Number⟩,na_Number_number,⟨me_Number_worth,i12,k12⟩,⟨t1_Number,t2_Number,t3_Number,t4_Number⟩,⟨pg_Program,hd_Program,po_Program,sa_Program⟩,⟨mk_Program,in_Program,i5,kc_Program⟩,na_Program_wheel,na_Program_axes,na_Program_tables,na_Program_lets,na_Program_outs,⟨t1_Program,t2_Program,t3_Program,t4_Program⟩,⟨pg_Read,hd_Read,po_Read,sa_Read⟩,⟨mk_Read,in_Read,i13,kc_Read⟩,na_Read_array,na_Read_indexes,⟨me_Read_cell_at,i14,k14⟩,⟨me_Read_worth,i15,k15⟩,⟨t1_Read,t2_Read,t3_Read,t4_Read⟩,Z1c X G z_range,Z1c X G z_isinstance,Z1c X G z_list,Z1c X G z_tuple,Z1c X G z_dict,Z1c X G z_set,Z1c X G z_len,Z1c X G z_zip,Z1c X G z_min,Z1c X G z_bool,Z1c X G z_int,Z1c X G z_ValueError,Z1c X G z_reversed⟩⟩
theorem walk {l:PySem.W.OpenLaw} {q:Program} {loose:List Str} {XP:(Str->Option Value)->Heap->Prop} {YP:World->Heap->Prop} {d:DefRec} {K:Params->PySem.W.Frag} (hn:l.most=some 63) (hdf:d.params.defaults=[])
  (hY:∀(w:World) (h:Heap),YP w h->(K w.params).In h)
  (F:∀(w:World) (mg:Str->Option Value) (fa:Addr) (h:Heap),(K w.params).In h->h.Ns mainGlobals mg->mg d.name=some (.ref fa)->
   ∃fd:FuncData,(∀(s:Shared) (u:Value),BindsTo s fd ⟨[u],[]⟩ [("_law_script",u)])/\∀base:Heap,(K w.params).In base->base.Ns mainGlobals mg->A1m l.prog w (K w.params) mg base CX0 14 fa fd ["_law_script"] (C4o (K w.params))) :
  PySem.W.WalkO q loose XP YP l.row.toRowW d [] (λf vs=>PySem.call f vs) :=
 L2.C8o (n:=63) (k:=14) (x:="_law_script") (CX:=λ_=>CX0) (sp:=λw=>C4o (K w.params)) hn (by decide) hdf ⟨rfl,by decide,by decide,rfl⟩ hY F (λ_ _ a ns hl _ hS=>⟨a,ns,rfl,hS,hl,λ_=>rfl⟩) λ_ _ _ _ _ z=>z
end My
local macro_rules | `(tactic| walk_at "kf") => `(tactic| (refine' My.D0y ?l ?c ?k; (case l => k_is); (case c => k_is); (case k => k_is)))
open PySem PySem.W PyProof.Rows
set_option maxRecDepth 100000 in
set_option maxHeartbeats 0 in
theorem PySem.Challenge.cw_arrayloom_k21_tables_taken_holds : PySem.Challenge.rw_arrayloom_k21_tables_taken.Holds := by
 w_on;o_law;k_head;(case hw=>w_witness2)
 k_fill
 refine My.walk (l:=PySem.Challenge.rw_arrayloom_k21_tables_taken) rfl rfl (λw h Y=>PySem.W.kIn_of Y) ?F
 case F =>
  intro w mg fa h KX G hmg;refine' My.D1n KX G hmg ?aC_LoomError ?aC_NoName ?aC_NoShape ?aC_TooMuch ?aC_NoTable ?aC_Let ?aC_Program ?aC_World ?aC_Term ?aC_Number ?aC_Read ?aC_GrowingWorld ?a0 ?l0 ?a1 ?l1 ?a2 ?l2 ?a3 ?l3 ?a4 ?l4 ?i4 ?a5 ?l5 ?i5 ?a6 ?l6 ?a7 ?l7 ?a8 ?l8 ?a9 ?l9 ?a10 ?l10 ?i10 ?a11 ?l11 ?i11 ?a12 ?l12 ?i12 ?a13 ?l13 ?i13 ?a14 ?l14 ?i14 ?a15 ?l15 ?i15 ?a16 ?l16 ?a17 ?l17 ?i17 ?a18 ?l18 ?a19 ?l19 ?a20 ?l20 ?a21 ?l21 ?a22 ?l22 ?a23 ?l23 ?a24 ?l24 ?a25 ?l25 ?a26 ?l26 ?a27 ?l27 ?a28 ?l28 ?a29 ?l29 ?a30 ?l30 ?a31 ?l31 ?a32 ?l32 ?a33 ?l33 ?xm_NoTable_ValueError ?xe_NoTable ?x1_NoTable ?x2_NoTable ?x3_NoTable ?x4_NoTable ?x5_NoTable ?x6_NoTable ?x7_NoTable ?cs_NoName ?ct_NoName ?mr_NoTable_NoName ?ne_NoTable_NoName ?cs_NoShape ?ct_NoShape ?mr_NoTable_NoShape ?ne_NoTable_NoShape ?cs_TooMuch ?ct_TooMuch ?mr_NoTable_TooMuch ?ne_NoTable_TooMuch ?cs_LoomError ?ct_LoomError ?mr_NoTable_LoomError ?cs_NoTable ?ct_NoTable ?mr_NoTable_NoTable ?eb_NoTable ?eb_LoomError ?pg_GrowingWorld ?hd_GrowingWorld ?po_GrowingWorld ?sa_GrowingWorld ?mk_GrowingWorld ?kc_GrowingWorld ?in_GrowingWorld ?na_GrowingWorld_wheel ?na_GrowingWorld_lengths ?na_GrowingWorld_numbers ?me_GrowingWorld_put ?t1_GrowingWorld ?t2_GrowingWorld ?t3_GrowingWorld ?t4_GrowingWorld ?pg_Let ?hd_Let ?po_Let ?sa_Let ?mk_Let ?kc_Let ?in_Let ?na_Let_name ?na_Let_axes ?na_Let_term ?t1_Let ?t2_Let ?t3_Let ?t4_Let ?mb_Let_list ?mb_Let_tuple ?mb_Let_dict ?pg_Number ?hd_Number ?po_Number ?sa_Number ?mk_Number ?kc_Number ?in_Number ?na_Number_number ?me_Number_worth ?t1_Number ?t2_Number ?t3_Number ?t4_Number ?pg_Program ?hd_Program ?po_Program ?sa_Program ?mk_Program ?kc_Program ?in_Program ?na_Program_wheel ?na_Program_axes ?na_Program_tables ?na_Program_lets ?na_Program_outs ?t1_Program ?t2_Program ?t3_Program ?t4_Program ?pg_Read ?hd_Read ?po_Read ?sa_Read ?mk_Read ?kc_Read ?in_Read ?na_Read_array ?na_Read_indexes ?me_Read_cell_at ?me_Read_worth ?t1_Read ?t2_Read ?t3_Read ?t4_Read ?z_range ?z_isinstance ?z_list ?z_tuple ?z_dict ?z_set ?z_len ?z_zip ?z_min ?z_bool ?z_int ?z_ValueError ?z_reversed
  (case aC_LoomError | aC_NoName | aC_NoShape | aC_TooMuch | aC_NoTable | aC_Let | aC_Program | aC_World | aC_Term | aC_Number | aC_Read=>k_is)
  (case aC_GrowingWorld=>k_is)
  (case a0=>k_is);(case l0=>walk_at "kf")
  (case a1=>k_is);(case l1=>walk_at "kf")
  (case a2=>k_is);(case l2=>walk_at "kf")
  (case a3=>k_is);(case l3=>walk_at "kf")
  (case a4=>k_is);(case l4=>walk_at "kf")
  (case i4=>k_is)
  (case a5=>k_is);(case l5=>walk_at "kf")
  (case i5=>k_is)
  (case a6=>k_is);(case l6=>walk_at "kf")
  (case a7=>k_is);(case l7=>walk_at "kf")
  (case a8=>k_is);(case l8=>walk_at "kf")
  (case a9=>k_is);(case l9=>walk_at "kf")
  (case a10=>k_is);(case l10=>walk_at "kf")
  (case i10=>k_is)
  (case a11=>k_is);(case l11=>walk_at "kf")
  (case i11=>k_is)
  (case a12=>k_is);(case l12=>walk_at "kf")
  (case i12=>k_is)
  (case a13=>k_is);(case l13=>walk_at "kf")
  (case i13=>k_is)
  (case a14=>k_is);(case l14=>walk_at "kf")
  (case i14=>k_is)
  (case a15=>k_is);(case l15=>walk_at "kf")
  (case i15=>k_is)
  (case a16=>k_is);(case l16=>walk_at "kf")
  (case a17=>k_is);(case l17=>walk_at "kf")
  (case i17=>k_is)
  (case a18=>k_is);(case l18=>walk_at "kf")
  (case a19=>k_is);(case l19=>walk_at "kf")
  (case a20=>k_is);(case l20=>walk_at "kf")
  (case a21=>k_is);(case l21=>walk_at "kf")
  (case a22=>k_is);(case l22=>walk_at "kf")
  (case a23=>k_is);(case l23=>walk_at "kf")
  (case a24=>k_is);(case l24=>walk_at "kf")
  (case a25=>k_is);(case l25=>walk_at "kf")
  (case a26=>k_is);(case l26=>walk_at "kf")
  (case a27=>k_is);(case l27=>walk_at "kf")
  (case a28=>k_is);(case l28=>walk_at "kf")
  (case a29=>k_is);(case l29=>walk_at "kf")
  (case a30=>k_is);(case l30=>walk_at "kf")
  (case a31=>k_is);(case l31=>walk_at "kf")
  (case a32=>k_is);(case l32=>walk_at "kf")
  (case a33=>k_is);(case l33=>walk_at "kf")
  (case xm_NoTable_ValueError=>k_is)
  (case xe_NoTable=>k_exc)
  (case x1_NoTable | x2_NoTable | x3_NoTable | x4_NoTable | x5_NoTable | x6_NoTable | x7_NoTable | cs_NoName | ct_NoName | mr_NoTable_NoName=>k_is)
  (case ne_NoTable_NoName=>first | rfl | decide)
  (case cs_NoShape | ct_NoShape | mr_NoTable_NoShape=>k_is)
  (case ne_NoTable_NoShape=>first | rfl | decide)
  (case cs_TooMuch | ct_TooMuch | mr_NoTable_TooMuch=>k_is)
  (case ne_NoTable_TooMuch=>first | rfl | decide)
  (case cs_LoomError | ct_LoomError | mr_NoTable_LoomError | cs_NoTable | ct_NoTable | mr_NoTable_NoTable | eb_NoTable | eb_LoomError | pg_GrowingWorld | hd_GrowingWorld | po_GrowingWorld=>k_is)
  (case sa_GrowingWorld | mk_GrowingWorld | kc_GrowingWorld | in_GrowingWorld | na_GrowingWorld_wheel | na_GrowingWorld_lengths | na_GrowingWorld_numbers | me_GrowingWorld_put | t1_GrowingWorld | t2_GrowingWorld | t3_GrowingWorld=>k_is)
  (case t4_GrowingWorld | pg_Let | hd_Let | po_Let | sa_Let | mk_Let | kc_Let | in_Let | na_Let_name | na_Let_axes | na_Let_term=>k_is)
  (case t1_Let | t2_Let | t3_Let | t4_Let | mb_Let_list | mb_Let_tuple | mb_Let_dict | pg_Number | hd_Number | po_Number | sa_Number=>k_is)
  (case mk_Number | kc_Number | in_Number | na_Number_number | me_Number_worth | t1_Number | t2_Number | t3_Number | t4_Number | pg_Program | hd_Program=>k_is)
  (case po_Program | sa_Program | mk_Program | kc_Program | in_Program | na_Program_wheel | na_Program_axes | na_Program_tables | na_Program_lets | na_Program_outs | t1_Program=>k_is)
  (case t2_Program | t3_Program | t4_Program | pg_Read | hd_Read | po_Read | sa_Read | mk_Read | kc_Read | in_Read | na_Read_array=>k_is)
  (case na_Read_indexes | me_Read_cell_at | me_Read_worth | t1_Read | t2_Read | t3_Read | t4_Read | z_range | z_isinstance | z_list | z_tuple=>k_is)
  (case z_dict | z_set | z_len | z_zip | z_min | z_bool | z_int | z_ValueError | z_reversed=>k_is)
