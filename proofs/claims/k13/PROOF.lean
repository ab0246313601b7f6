import PyProof.Rows.All
import Wide.All
import OpenK.AllK
import Wide.FinOn
import Lean
import PyProof.EqAt
import PyProof.EqKinds
import PyProof.TupleCall
import KE.KDictLaws
import KE.KDictList
import KE.KDictOf
import KE.KEqDict
import KE.KIntText
import KE.KTabLook
import KE.KTryMore
import KE.KUnpack
import PyProof.AttrMissHeap
import PyProof.AutoListH
import PyProof.CompUse
import PyProof.ConsumeWalk
import PyProof.Conv_int_bool
import PyProof.DictItems
import PyProof.DictValues
import PyProof.DictWalks
import PyProof.Draws
import PyProof.EnumFor
import PyProof.EnumMake
import PyProof.EnumStmt
import PyProof.ExcClass3
import PyProof.ExcInit
import PyProof.FString4
import PyProof.FString5
import PyProof.FactsAll.list_3
import PyProof.FactsAll.set
import PyProof.FactsAll.subtypes_5
import PyProof.FactsAll.zip
import PyProof.NeKinds
import PyProof.P3Eq
import PyProof.RangeIter
import PyProof.ReprHeads
import PyProof.ReprLen
import PyProof.Rows.SetFrom
import PyProof.Rows.StrNews
import PyProof.SetRoads
import PyProof.StrLawsRepr
import PyProof.StrWalks
import PyProof.SumAny
import PyProof.TupleKey
import PyProof.Walks
import PyProof.StrLawsIn
import PySem.Challenge.RW_arrayloom_k13_shapes_looked
set_option Elab.async false
set_option bootstrap.genMatcherCode false
set_option linter.all false
set_option maxRecDepth 100000
set_option maxHeartbeats 4000000
section
open PySem PySem.Spec PyProof.Rows PySem.Calls
abbrev Z00:=@wpAny_bind
abbrev Z01:=@Heap.get?_push_of_some
abbrev Z02:=@List.mem_append_right
abbrev Z03:=@List.getElem?_eq_some_iff
abbrev Z04:=@wpAny_pure
abbrev Z05:=@List.mem_append_left
abbrev Z06:=@List.length_append
abbrev Z07:=@List.mem_append
abbrev Z08:=@List.length_map
abbrev Z09:=@Nat.le_refl
abbrev Z0a:=@Heap.lt_size
abbrev Z0b:=@List.getElem?_eq_getElem
abbrev Z0c:=@Heap.get?_push_size
abbrev Z0d:=@PyProof.Rows.boot_isinstance
abbrev Z0e:=@List.mem_cons
abbrev Z0f:=@PySem.W.mg_of
abbrev Z0g:=@List.size_toArray
abbrev Z0h:=@Nat.ne_of_lt
abbrev Z0i:=@Option.map_eq_some_iff
abbrev Z0j:=@List.length_singleton
abbrev Z0k:=@PySem.F.plainAttrs_list
abbrev Z0l:=@List.nodup_append
abbrev Z0m:=@PyProof.Rows.boot_tuple
abbrev Z0n:=@PySem.F.slot_list_append
abbrev Z0o:=@PySem.F.type_list_append
abbrev Z0p:=@List.map_cons
abbrev Z0q:=@Nat.lt_of_lt_of_le
abbrev Z0r:=@PySem.boot_len
abbrev Z0s:=@List.map_append
abbrev Z0t:=@if_neg
abbrev Z0u:=@List.append_nil
abbrev Z0v:=@Bool.false_ne_true
abbrev Z0w:=@List.mem_singleton
abbrev Z0x:=@List.length_take
abbrev Z0y:=@List.length_cons
abbrev Z0z:=@List.append_assoc
abbrev Z10:=@wpAny_mono
abbrev Z12:=@if_pos
abbrev Z13:=@List.mem_of_getElem?
abbrev Z14:=@List.take_add_one
abbrev Z15:=@List.nodup_cons
abbrev Z18:=@List.take_length
abbrev Z19:=@List.length_drop
abbrev Z1a:=@Option.some.inj
abbrev Z1c:=@PySem.W.mg_none_of
abbrev Z1e:=@Nat.zero_le
abbrev Z1f:=@List.mem_cons_of_mem
abbrev Z1i:=@List.not_mem_nil
abbrev Z1j:=@decide_eq_false
abbrev Z1k:=@wpAny_loadPart_at
abbrev Z1l:=@List.getElem?_append_right
abbrev Z1n:=@Nat.le_trans
abbrev Z1o:=@PyProof.Rows.boot_list
abbrev Z1p:=@Int.emod_lt_of_pos
abbrev Z1q:=@Nat.ne_of_gt
abbrev Z1s:=@Heap.size_push
abbrev Z1v:=@Int.emod_nonneg
abbrev Z1x:=@Bool.and_eq_true
abbrev Z1y:=@wpAny_standAt
abbrev Z1z:=@List.getElem?_map
abbrev Z20:=@decide_eq_true
abbrev Z22:=@beq_eq_false_iff_ne
abbrev Z23:=@List.getElem?_set_self
abbrev Z26:=@List.getElem?_append_left
abbrev Z27:=@List.mem_cons_self
abbrev Z28:=@List.lookup_cons
abbrev Z2a:=@List.getElem?_set_ne
abbrev Z2b:=@wpAny_execs_nil
abbrev Z2c:=@List.mem_map
abbrev Z2e:=@List.take_append_drop
end
namespace L2
open PySem PySem.Spec PyProof.Rows
abbrev Key:=Sum Int Str
def B8j:Key->Value->Bool
 | .inl k,v=>Value.isInt k v
 | .inr x,v=>Value.isStrOf x v
def keyH (w:World):Key->Int
 | .inl k=>hashInt k
 | .inr x=>hashStr w x
theorem A2p:∀{k:Key} {v:Value},B8j k v=true->(∃i t,k=Sum.inl i/\v=Value.int i t)\/(∃x t,k=Sum.inr x/\v=Value.str x t)
 | .inl i,v,h=>by
  obtain ⟨t,e⟩:=Value.isInt_shape (k:=i) (v:=v) h;exact .inl ⟨i,t,rfl,e⟩
 | .inr x,v,h=>by
  obtain ⟨t,e⟩:=Value.isStrOf_shape (x:=x) (v:=v) h;exact .inr ⟨x,t,rfl,e⟩
theorem B9q (i:Int) (t:Tok):B8j (.inl i) (.int i t)=true:=by simp [B8j,Value.isInt]
theorem B9r (x:Str) (t:Tok):B8j (.inr x) (.str x t)=true:=by simp [B8j,Value.isStrOf]
theorem C8h (a b:Int):decide ((Sum.inl a:Key)=Sum.inl b)=(a == b):=by
 by_cases e:a=b
 ·subst e;simp
 ·have h:¬(Sum.inl a:Key)=Sum.inl b:=λq=>e (Sum.inl.inj q);rw [Z1j h];exact (Z22.mpr e).symm
theorem C8y (a b:Str):decide ((Sum.inr a:Key)=Sum.inr b)=decide (a=b):=by
 by_cases e:a=b
 ·subst e;simp
 ·have h:¬(Sum.inr a:Key)=Sum.inr b:=λq=>e (Sum.inr.inj q);rw [Z1j h,Z1j e]
theorem C9e (a:Int) (b:Str):decide ((Sum.inl a:Key)=Sum.inr b)=false:=Z1j (λq=>nomatch q)
theorem C7p (a:Str) (b:Int):decide ((Sum.inr a:Key)=Sum.inl b)=false:=Z1j (λq=>nomatch q)
def A2h (prog:Program) (w:World):PySem.KeyKind prog w Key where
 is:=B8j
 hash:=keyH w
 inj:=λv a b ha hb=>by
  rcases A2p ha with ⟨i,t,rfl,rfl⟩ | ⟨x,t,rfl,rfl⟩
  ·rcases A2p hb with ⟨j,u,rfl,e⟩ | ⟨y,u,rfl,e⟩
   ·injection e with e1 _;rw [e1]
   ·exact nomatch e
  ·rcases A2p hb with ⟨j,u,rfl,e⟩ | ⟨y,u,rfl,e⟩
   ·exact nomatch e
   ·injection e with e1 _;rw [e1]
 byValue:=λk v h=>by
  rcases A2p h with ⟨i,t,rfl,rfl⟩ | ⟨x,t,rfl,rfl⟩ <;> rfl
 pyHash:=λhv h=>by
  rcases A2p hv with ⟨i,t,rfl,rfl⟩ | ⟨x,t,rfl,rfl⟩
  ·exact wpAny_pyHash_int h
  ·exact wpAny_pyHash_str h
 eqBool:=λhu hv h=>by
  rcases A2p hu with ⟨i,t,rfl,rfl⟩ | ⟨x,t,rfl,rfl⟩
  ·rcases A2p hv with ⟨j,u,rfl,rfl⟩ | ⟨y,u,rfl,rfl⟩
   ·rw [C8h] at h;exact wpAny_eqBool_int h
   ·rw [C9e] at h;exact SeqAt.EqAt.int_str i t y u _ _ _ _ h
  ·rcases A2p hv with ⟨j,u,rfl,rfl⟩ | ⟨y,u,rfl,rfl⟩
   ·rw [C7p] at h;exact SeqAt.EqAt.str_int x t j u _ _ _ _ h
   ·rw [C8y] at h;exact wpAny_eqBool_str h
 «strs»:=λk x t v h=>by
  rcases A2p h with ⟨i,u,rfl,e⟩ | ⟨y,u,rfl,e⟩
  ·exact nomatch e
  ·injection e with e1 _;subst e1;cases v <;> rfl
theorem B5r (prog:Program) (w:World) (i:Int) (t:Tok):(A2h prog w).is (.inl i) (.int i t)=true:=B9q i t
theorem B5n (prog:Program) (w:World) (x:Str) (t:Tok):(A2h prog w).is (.inr x) (.str x t)=true:=B9r x t
inductive V where
 | non | bl (b:Bool) | int (i:Int) | str (x:Str) | byt (b:Array UInt8) | flt (b:UInt64) | ref (a:Addr) | ty (n:String)
 deriving DecidableEq
def A2v:V->Value->Prop
 | .non,u=>u=Value.none
 | .bl b,u=>u=Value.bool b
 | .int i,u=>∃t,u=Value.int i t
 | .str x,u=>∃t,u=Value.str x t
 | .byt b,u=>∃t,u=Value.bytes b t
 | .flt b,u=>∃t,u=Value.float b t
 | .ref a,u=>u=Value.ref a
 | .ty n,u=>u=Value.type n
abbrev A3a:List V->List Value->Prop:=Paired A2v
theorem A3a.length {xs:List V} {us:List Value} (r:A3a xs us):xs.length=us.length:=Paired.length r
theorem A3a.get:∀{xs:List V} {us:List Value} {i:Nat} {x:V},A3a xs us->xs[i]? =some x->∃u,us[i]? =some u/\A2v x u
 | _,_,_,_,.nil,e=>by simp at e
 | _,_,0,_,.cons r _,e=>by simp at e;subst e;exact ⟨_,rfl,r⟩
 | _,_,i+1,x,.cons _ t,e=>by
  obtain ⟨u,h1,h2⟩:=A3a.get (i:=i) (x:=x) t (by simpa using e);exact ⟨u,by simpa using h1,h2⟩
theorem A3a.append:∀{xs ys:List V} {us ws:List Value},A3a xs us->A3a ys ws->A3a (xs++ys) (us++ws)
 | _,_,_,_,.nil,s=>s
 | _,_,_,_,.cons r t,s=> .cons r (A3a.append t s)
theorem A3a.take:∀{xs:List V} {us:List Value} (n:Nat),A3a xs us->A3a (xs.take n) (us.take n)
 | _,_,0,_=> .nil
 | _,_,_+1,.nil=> .nil
 | _,_,n+1,.cons r t=> .cons r (A3a.take n t)
theorem A3a.drop:∀{xs:List V} {us:List Value} (n:Nat),A3a xs us->A3a (xs.drop n) (us.drop n)
 | _,_,0,r=>r
 | _,_,_+1,.nil=> .nil
 | _,_,n+1,.cons _ t=>A3a.drop n t
def B8d:Option V->Option Value->Prop
 | some v,some u=>A2v v u
 | none,none=>True
 | _,_=>False
def KV {κ:Type}:List (κ×V)->List (κ×Value)->Prop:=Paired λ(p:κ×V) (q:κ×Value)=>p.1=q.1/\A2v p.2 q.2
def kV:Key->V
 | .inl i=> .int i
 | .inr x=> .str x
inductive HO where
 | lst (xs:List V)
 | tup (xs:List V)
 | dK (kvs:List (Key×V)) | dT (kvs:List (List Key×V))
 | set (S:Int->Bool) (n:Nat)
 | ins (C dx:Addr) (fs:List (Str×V))
 | own (x:Addr)
 | xd (fs:List (Str×V))
 | met (f x:Addr)
 | rng (lo hi:Int)
 | frz (o:Obj) (u:HO)
 | tbl (ps:Array Value)
 | ext (φ:Heap->Prop)
abbrev Hp:=Addr->Option HO
def upd (H:Hp) (a:Addr) (o:HO):Hp:=λb=>if b=a then some o else H b
theorem A0b {H:Hp} {a:Addr} {o:HO}:upd H a o a=some o:=by unfold upd;rw [Z12 rfl]
theorem A0j {H:Hp} {a b:Addr} {o:HO} (h:b≠a):upd H a o b=H b:=by unfold upd;rw [Z0t h]
theorem A5r {H:Hp} {a:Addr} {o u:HO}:upd (upd H a o) a u=upd H a u:=by
 funext b;unfold upd;split <;> rfl
theorem A1l {H:Hp} {a b:Addr} {o u:HO} (h:H a=some o) (h':H b=some u) (d:o≠u):a≠b:=by
 intro e;subst e;rw [h] at h';exact d (Z1a h')
theorem A0g {H:Hp} {a b:Addr} {o:HO} (h:H a=some o) (h':H b=none):a≠b:=by
 intro e;subst e;rw [h] at h';cases h'
section
variable (P:Program) (w:World)
def A2l (H:Hp) (h:Heap) (a:Addr):HO->Prop
 | .lst xs=>xs.length<=sizeLine/\∃(its:List Value) (n:Nat),A3a xs its/\h.get? a=some { cls:= .type "list",data:= .seq its.toArray n }
 | .tup xs=>xs.length<=sizeLine/\∃its:List Value,A3a xs its/\IsTup h a its.toArray
 | .dK kvs=>kvs.length<=sizeLine/\(a == sysModules)=false/\∃vs,KV kvs vs/\h.DictOf (A2h P w) a vs
 | .dT kvs=>kvs.length<=sizeLine/\(a == sysModules)=false/\∃xs:List (List Key×Addr×Value),
   Paired (λ(p:List Key×V) (q:List Key×Addr×Value)=>p.1=q.1/\H q.2.1=some (.tup (p.1.map kV))/\A2v p.2 q.2.2) kvs xs/\
   ∃o es ep,h.get? a=some o/\o.ExactDict/\o.data= .dict es ep/\es.toList=xs.map (entryOfKey (tupleKind (A2h P w)))/\(xs.map (·.1)).Nodup
 | .set S n=>h.SetOf (intKind P w) a S n
 | .ins C dx fs=>H dx=some (.own a)/\fs.length<=1000/\dx≠a/\h.get? a=some (PySem.W.instObj C dx)/\
   ∃mA,h.Ns1 dx mA/\(∀f,B8d (fs.lookup f) (mA f))/\PySem.Within mA (fs.map (·.1))
 | .own _=>∃o,h.get? a=some o
 | .xd fs=>∃mA,h.Ns1 a mA/\∀f,B8d (fs.lookup f) (mA f)
 | .rng lo hi=>∃t u v,h.get? a=some { cls:= .type "range",data:= .fields #[.int lo t,.int hi u,.int 1 v] }
 | .frz o u=>h.get? a=some o/\A2l H h a u
 | .tbl ps=>h.get? a=some { cls:= .none,data:= .fields ps }
 | .met f x=>h.get? a=some (PySem.W.methodObj (.ref f) (.ref x))
 | .ext φ=>φ h/\(∃o,h.get? a=some o)/\∀h1 h2:Heap,φ h1->(∀o,h1.get? a=some o->h2.get? a=some o)->φ h2
def HOk (H:Hp) (h:Heap):Prop:=∀a o,H a=some o->A2l P w H h a o
end
section
variable {P:Program} {w:World} {H H':Hp} {h h':Heap} {a:Addr} {o:HO}
theorem A2l.lt (x:A2l P w H h a o):a<h.objs.size:=by
 cases o with
 | lst xs=>obtain ⟨_,_,_,_,e⟩:=x;exact Z0a e
 | tup xs=>obtain ⟨_,_,_,p⟩:=x;exact p.lt
 | dK kvs=>obtain ⟨_,_,_,_,o,_,_,e,_⟩:=x;exact Z0a e
 | dT kvs=>obtain ⟨_,_,_,_,o,_,_,e,_⟩:=x;exact Z0a e
 | set S n=>obtain ⟨o,_,_,_,e,_⟩:=x;exact Z0a e
 | ins C dx fs=>obtain ⟨_,_,_,e,_⟩:=x;exact Z0a e
 | own y=>obtain ⟨_,e⟩:=x;exact Z0a e
 | xd fs=>obtain ⟨_,⟨_,_,_,e,_⟩,_⟩:=x;exact Z0a e
 | rng lo hi=>obtain ⟨_,_,_,e⟩:=x;exact Z0a e
 | frz ob u=>obtain ⟨e,_⟩:=x;exact Z0a e
 | tbl ps=>exact Z0a (show h.get? a=some _ from x)
 | met f y=>exact Z0a (show h.get? a=some _ from x)
 | ext φ=>obtain ⟨_,⟨_,e⟩,_⟩:=x;exact Z0a e
theorem Paired.mapP {α β:Type} {F G:α->β->Prop}:∀{l₁:List α} {l₂:List β},Paired F l₁ l₂->(∀a b,F a b->G a b)->Paired G l₁ l₂
 | _,_,.nil,_=> .nil
 | _,_,.cons r t,f=> .cons (f _ _ r) (Paired.mapP t f)
theorem A2l.stay (x:A2l P w H h a o) (k:∀b u,(b=a\/H b=some (.own a))->h.get? b=some u->h'.get? b=some u)
  (ho:∀b,H b=some (.own a)->H' b=some (.own a)) (ht:∀b xs,H b=some (.tup xs)->H' b=some (.tup xs)):A2l P w H' h' a o:=by
 induction o with
 | lst xs=>obtain ⟨z,its,n,r,e⟩:=x;exact ⟨z,its,n,r,k _ _ (.inl rfl) e⟩
 | tup xs=>obtain ⟨z,its,r,ob,e,c⟩:=x;exact ⟨z,its,r,ob,k _ _ (.inl rfl) e,c⟩
 | dK kvs=>obtain ⟨z,y,vs,r,ob,es,ep,e,c⟩:=x;exact ⟨z,y,vs,r,ob,es,ep,k _ _ (.inl rfl) e,c⟩
 | dT kvs =>
  obtain ⟨z,y,xs,r,ob,es,ep,e,c⟩:=x;exact ⟨z,y,xs,Paired.mapP r λp q z=>⟨z.1,ht _ _ z.2.1,z.2.2⟩,ob,es,ep,k _ _ (.inl rfl) e,c⟩
 | set S n=>obtain ⟨ob,es,ep,t,e,c⟩:=x;exact ⟨ob,es,ep,t,k _ _ (.inl rfl) e,c⟩
 | ins C dx fs =>
  obtain ⟨d,z,ne,e,mA,⟨od,es,ep,e2,c⟩,r⟩:=x;exact ⟨ho _ d,z,ne,k _ _ (.inl rfl) e,mA,⟨od,es,ep,k _ _ (.inr d) e2,c⟩,r⟩
 | own y=>obtain ⟨ob,e⟩:=x;exact ⟨ob,k _ _ (.inl rfl) e⟩
 | xd fs=>obtain ⟨mA,⟨od,es,ep,e,c⟩,r⟩:=x;exact ⟨mA,⟨od,es,ep,k _ _ (.inl rfl) e,c⟩,r⟩
 | rng lo hi=>obtain ⟨t,u,v,e⟩:=x;exact ⟨t,u,v,k _ _ (.inl rfl) e⟩
 | frz ob u ih=>obtain ⟨e,q⟩:=x;exact ⟨k _ _ (.inl rfl) e,ih q⟩
 | tbl ps =>
  have e:h.get? a=some { cls:= .none,data:= .fields ps }:=x;show h'.get? a=some { cls:= .none,data:= .fields ps };exact k a _ (.inl rfl) e
 | met f y =>
  have e:h.get? a=some (PySem.W.methodObj (.ref f) (.ref y)):=x;show h'.get? a=some (PySem.W.methodObj (.ref f) (.ref y));exact k a _ (.inl rfl) e
 | ext φ=>obtain ⟨p,⟨o,e⟩,st⟩:=x;exact ⟨st _ _ p λo q=>k _ _ (.inl rfl) q,⟨o,k _ _ (.inl rfl) e⟩,st⟩
theorem HOk.lt (x:HOk P w H h) (e:H a=some o):a<h.objs.size:=(x a o e).lt
theorem HOk.fresh (x:HOk P w H h) (e:h.objs.size<=a):H a=none:=by
 cases q:H a with
 | none=>rfl
 | some u=>exact absurd (Z0q (x.lt q) e) (Nat.lt_irrefl _)
theorem HOk.kept (x:HOk P w H h) (k:∀b u,h.get? b=some u->h'.get? b=some u):HOk P w H h':=λa o e =>
 (x a o e).stay (λb u _ q=>k b u q) (λ_ q=>q) λ_ _ q=>q
theorem HOk.laid (x:HOk P w H h) (k:∀b u,h.get? b=some u->h'.get? b=some u) (hp:h.objs.size<=a) (new:A2l P w (upd H a o) h' a o):HOk P w (upd H a o) h':=λb u e=>by
 have hn:=x.fresh hp;by_cases hb:b=a
 ·subst hb;rw [A0b] at e;cases e;exact new
 ·rw [A0j hb] at e;exact (x b u e).stay (λc v _ q=>k c v q) (λc q=>by rw [A0j (A0g q hn)];exact q) λc xs q=>by rw [A0j (A0g q hn)];exact q
end
def Rd (H:Hp) (a:Addr) (u:HO):Prop:=H a=some u\/∃o,H a=some (.frz o u)
theorem Rd.ok {P:Program} {w:World} {H:Hp} {h:Heap} {a:Addr} {u:HO} (r:Rd H a u) (x:HOk P w H h):A2l P w H h a u:=by
 rcases r with r | ⟨o,r⟩
 ·exact x a u r
 ·obtain ⟨_,q⟩:=x a _ r;exact q
def Mut:Option HO->Prop
 | some (.lst _)=>True
 | some (.dK _)=>True
 | some (.dT _)=>True
 | some (.set _ _)=>True
 | some (.ins _ _ _)=>True
 | some (.ext _)=>True
 | _=>False
section
variable {P:Program} {w:World} {H:Hp} {h h':Heap} {x e:Addr} {o':HO}
theorem HOk.write (ok:HOk P w H h) (mu:Mut (H x)) (he:e=x\/H e=some (.own x)) (k:∀b u,b≠e->h.get? b=some u->h'.get? b=some u) (heo:∃u,h'.get? e=some u)
  (new:A2l P w (upd H x o') h' x o'):HOk P w (upd H x o') h':=λb u q=>by
 have nown:∀c y,H c=some (.own y)->c≠x:=λc y r z=>by subst z;rw [r] at mu;exact mu
 have ntup:∀c xs,H c=some (.tup xs)->c≠x:=λc xs r z=>by subst z;rw [r] at mu;exact mu
 by_cases hb:b=x
 ·subst hb;rw [A0b] at q;cases q;exact new
 ·rw [A0j hb] at q;by_cases hbe:b=e
  ·have q':H b=some (.own x):=by
    rcases he with z | z
    ·exact absurd (hbe.trans z) hb
    ·rw [hbe];exact z
   rw [q] at q';cases q';obtain ⟨v,hv⟩:=heo;exact ⟨v,by rw [hbe];exact hv⟩
  ·refine (ok b u q).stay (λc v hc r=>k c v ?_ r) (λc r=>by rw [A0j (nown c b r)];exact r) λc xs r=>by rw [A0j (ntup c xs r)];exact r
   rcases hc with rfl | hc
   ·exact hbe
   ·rintro rfl;rcases he with z | z
    ·exact nown c b hc z
    ·rw [hc] at z;cases z;exact hb rfl
end
structure Un (fs ex:List Addr) (H H':Hp) (h h':Heap):Prop where
 keep:∀b o,h.get? b=some o->H b=none->b∉fs->b∉ex->h'.get? b=some o
 slot:∀b o,h.get? b=some o->H b=none->b∈fs->b∉ex->∃sl,h'.get? b=some { o with slots:=sl }
 free:∀b o,h.get? b=some o->H b=none->b∉ex->H' b=none
 there:∀b o,h.get? b=some o->b∉ex->∃o',h'.get? b=some o'
 tups:∀b xs,H b=some (.tup xs)->H' b=some (.tup xs)
 frzs:∀b o u,H b=some (.frz o u)->H' b=some (.frz o u)
 tbls:∀b ps,H b=some (.tbl ps)->∃more,H' b=some (.tbl (ps++more))
section
variable {fs fs' ex ex':List Addr} {H H1 H2:Hp} {h h1 h2 h':Heap} {a x e:Addr} {o:HO}
theorem Un.any (u:Un fs ex H H1 h h1) {b:Addr} {ob:Obj} (q:h.get? b=some ob) (n:H b=none) (hx:b∉ex):∃sl,h1.get? b=some { ob with slots:=sl }:=by
 by_cases hb:b∈fs
 ·exact u.slot b ob q n hb hx
 ·exact ⟨ob.slots,u.keep b ob q n hb hx⟩
theorem Un.kept (k:∀b u,h.get? b=some u->h'.get? b=some u):Un fs ex H H h h' :=
 ⟨λb ob q _ _ _=>k b ob q,λb ob q _ _ _=>⟨ob.slots,k b ob q⟩,λ_ _ _ n _=>n,λb ob q _=>⟨ob,k b ob q⟩,λ_ _ q=>q,λ_ _ _ q=>q,λ_ ps q=>⟨#[],by rw [q];simp⟩⟩
theorem Un.refl:Un fs ex H H h h:=Un.kept λ_ _ q=>q
theorem Un.laid (k:∀b u,h.get? b=some u->h'.get? b=some u) (hp:h.objs.size<=a) (hn:H a=none):Un fs ex H (upd H a o) h h' where
 keep:=λb u q _ _ _=>k b u q
 slot:=λb u q _ _ _=>⟨u.slots,k b u q⟩
 free:=λb u q n _=>by rw [A0j (Z0h (Z0q (Z0a q) hp))];exact n
 there:=λb u q _=>⟨u,k b u q⟩
 tups:=λb xs q=>by rw [A0j (A0g q hn)];exact q
 frzs:=λb u xs q=>by rw [A0j (A0g q hn)];exact q
 tbls:=λb ps q=>⟨#[],by rw [A0j (A0g q hn),q];simp⟩
theorem Un.write (mu:Mut (H x)) (he:e=x\/H e=some (.own x)) (k:∀b u,b≠e->h.get? b=some u->h'.get? b=some u) (heo:∃u,h'.get? e=some u):Un fs ex H (upd H x o) h h':=by
 have hx:∀b,H b=none->b≠x:=λb n z=>by subst z;rw [n] at mu;exact mu
 have hb:∀b,H b=none->b≠e:=λb n z=>by
  subst z;rcases he with r | r
  ·exact hx b n r
  ·rw [n] at r;cases r
 have hm:∀b u,H b=some u->¬Mut (some u)->b≠x:=λb u q nm z=>by subst z;rw [q] at mu;exact nm mu
 refine ⟨λb u q n _ _=>k b u (hb b n) q,λb u q n _ _=>⟨u.slots,k b u (hb b n) q⟩,λb u q n _=>by rw [A0j (hx b n)];exact n,λb u q _=> ?_,
  λb xs q=>by rw [A0j (hm b _ q λz=>z)];exact q,λb u xs q=>by rw [A0j (hm b _ q λz=>z)];exact q,λb ps q=>⟨#[],by rw [A0j (hm b _ q λz=>z),q];simp⟩⟩
 by_cases hbe:b=e
 ·subst hbe;exact heo
 ·exact ⟨u,k b u hbe q⟩
end
def trk (h:Heap) (H:Hp):List Addr:=(List.range h.objs.size).filter λa=>(H a).isSome
def C3s (h:Heap) (H:Hp):Heap:=PySem.W.hideAll h (trk h H)
theorem C1v (h:Heap) (H:Hp):(C3s h H).objs.size=h.objs.size:=PySem.W.hideAll_size _ _
theorem C3m {h:Heap} {H:Hp} {b:Addr} {o:Obj} (e:h.get? b=some o) (n:H b=none):(C3s h H).get? b=some o :=
 PySem.W.hideAll_get _ e λhm=>by
  have q:(H b).isSome=true:=(List.mem_filter.mp hm).2;rw [n] at q;simp at q
theorem C6p {h:Heap} {H:Hp} {b:Addr} {o:Obj} (e:(C3s h H).get? b=some o):h.get? b=some o/\H b=none:=by
 have e':h.get? b=some o:=PySem.W.of_hideAll (trk h H) e;refine ⟨e',?_⟩
 cases q:H b with
 | none=>rfl
 | some x =>
  have hm:b∈trk h H:=List.mem_filter.mpr ⟨List.mem_range.mpr (Z0a e'),by simp [q]⟩;have z:(C3s h H).get? b=none:=PySem.W.hideAll_none (trk h H) hm;rw [z] at e;cases e
structure Mod (K:PySem.W.Frag) (mg:Str->Option Value) (base:Heap):Prop where
 kin:K.In base
 glob:base.Ns mainGlobals mg
 blt:∃mb,base.Ns builtinsNs mb/\∀x:Str,x≠"__name__"->mb x=bootBuiltins x
 nolimit:base.NoLimit
structure Cx where
 prog:Program
 w:World
 K:PySem.W.Frag
 mg:Str->Option Value
 base:Heap
 A:Around
 N:List Str
 s₀:Shared
 H₀:Hp
 env:Env
 outer:List Env
 stack:List Env
 ex:List Addr
 fn:Str->Bool
 calm:Bool
 pn:List (Addr×Obj)
 xe:Value->Shared->Prop
def frs (l:List Env):List Addr:=l.filterMap (·.frame)
abbrev Cx.fs (X:Cx):List Addr:=frs X.outer
def Vis (sc:Scope) (x:Str):Prop:=sc.names.lookup x=some .local\/sc.names.lookup x=some .cell\/sc.names.lookup x=some .free
def Loc (sc:Scope) (x:Str):Prop:=sc.names.lookup x=some .local\/sc.names.lookup x=some .cell
def Look (env:Env) (h:Heap) (m:Str->Option Value) (x:Str) (u:Value):Prop :=
 (env.kindOf x=some .local/\m x=some u)\/((env.kindOf x=some .cell\/env.kindOf x=some .free)/\∃c,env.cells.lookup x=some c/\h.IsCell c (some u))
structure Cx.Ok (X:Cx):Prop where
 mod:Mod X.K X.mg X.base
 kind:X.env.scope.kind= .function
 glob:X.env.globals=mainGlobals
 blt:X.env.builtins=builtinsNs
 above:X.s₀.heap.objs.size<=X.env.locals
 inj:∀x y c,X.env.cells.lookup x=some c->X.env.cells.lookup y=some c->x=y
 has:∀x,(X.env.kindOf x=some .cell\/X.env.kindOf x=some .free)->∃c,X.env.cells.lookup x=some c
 cab:∀x c,X.fn x=true->X.env.cells.lookup x=some c->X.s₀.heap.objs.size<=c
 hd:X.calm=true->X.A.handled=none
 frames:X.A.frames=some X.stack
 stk:X.stack=X.outer\/(X.stack=X.env::X.outer/\X.env.frame=some X.env.locals)
 exf:∀b∈X.ex,b≠X.env.locals/\∀x c,X.env.cells.lookup x=some c->c≠b
 bs:∀b o,X.base.get? b=some o->X.s₀.heap.get? b=some o/\X.H₀ b=none
 bsz:X.base.objs.size<=X.s₀.heap.objs.size
 noex:∀b o,X.base.get? b=some o->b∉X.ex
 exfs:∀b∈X.ex,b∉X.fs
 funs:X.s₀.heap.FunFrames X.base X.outer
 frf:∀b∈X.fs,X.H₀ b=none
structure Inv (X:Cx) (pins:List (Addr×Obj)) (σ:List (Option V)) (H:Hp) (s:Shared):Prop where
 ok:X.Ok
 os:s.os=X.s₀.os
 bare:AllBare s.gens
 base:Un X.fs X.ex X.H₀ H X.s₀.heap s.heap
 loc:∃m,s.heap.Ns X.env.locals m/\∀(i:Nat) (x:Str) (v:V),X.N[i]? =some x->σ[i]? =some (some v)->Vis X.env.scope x->∃u,A2v v u/\Look X.env s.heap m x u
 cell:∀x c,X.env.cells.lookup x=some c->∃v,s.heap.IsCell c v
 free:H X.env.locals=none
 freeC:∀x c,X.env.cells.lookup x=some c->H c=none
 pin:∀p∈X.pn++pins,s.heap.get? p.1=some p.2/\H p.1=none/\p.1≠X.env.locals/\p.1∉X.fs/\∀v,p.2.data≠.cell v
 hok:HOk X.prog X.w H s.heap
 len:σ.length=X.N.length
section
variable {X:Cx} {pins:List (Addr×Obj)} {σ:List (Option V)} {H H':Hp} {s:Shared} {h':Heap}
theorem Cx.Ok.nofr (ok:X.Ok) {b:Addr} {o:Obj} (e:X.base.get? b=some o):b∉X.fs:=λhb=>by
 have:=(ok.funs.mem hb).1;rw [e] at this;cases this
theorem Inv.bs (I:Inv X pins σ H s):∀b o,X.base.get? b=some o->s.heap.get? b=some o/\H b=none:=λb o e =>
 ⟨I.base.keep b o (I.ok.bs b o e).1 (I.ok.bs b o e).2 (I.ok.nofr e) (I.ok.noex b o e),I.base.free b o (I.ok.bs b o e).1 (I.ok.bs b o e).2 (I.ok.noex b o e)⟩
theorem Inv.bk (I:Inv X pins σ H s):∀b o,X.base.get? b=some o->s.heap.get? b=some o:=λb o e=>(I.bs b o e).1
theorem Inv.mod (I:Inv X pins σ H s):Mod X.K X.mg X.base:=I.ok.mod
theorem Inv.kIn (I:Inv X pins σ H s):X.K.In s.heap:=I.ok.mod.kin.keeps I.bk
theorem Inv.lt (I:Inv X pins σ H s):X.env.locals<s.heap.objs.size:=let ⟨_,hn,_⟩:=I.loc;hn.lt
theorem Inv.sz (I:Inv X pins σ H s):X.s₀.heap.objs.size<=s.heap.objs.size:=Z1n I.ok.above (Nat.le_of_lt I.lt)
theorem Inv.nofs (I:Inv X pins σ H s) {a:Addr} (h:s.heap.objs.size<=a):a∉X.fs:=λhb=>by
 obtain ⟨_,o,ho,_⟩:=I.ok.funs.mem hb;exact absurd (Z0q (Z0a ho) (Z1n I.sz h)) (Nat.lt_irrefl _)
theorem Inv.cne (I:Inv X pins σ H s):∀x c,X.env.cells.lookup x=some c->c≠X.env.locals:=λx c e z=>by
 obtain ⟨v,o,ho,hd⟩:=I.cell x c e;obtain ⟨m,⟨o',es,ep,ho',hd',_⟩,_⟩:=I.loc;rw [z,ho'] at ho;cases ho;rw [hd'] at hd;cases hd
theorem Inv.funs (I:Inv X pins σ H s):s.heap.FunFrames X.base X.outer:=by
 have all:∀(l:List Env),(∀b∈frs l,b∈X.fs)->X.s₀.heap.FunFrames X.base l->s.heap.FunFrames X.base l:=by
  intro l
  induction l with
  | nil=>intro _ _;trivial
  | cons env r ih =>
   intro hs hl;obtain ⟨hk,⟨L,o,hf,hn,ho,hd⟩,hr⟩:=hl;have hL:L∈X.fs:=hs L (by unfold frs;rw [List.filterMap_cons,hf];exact Z27);obtain ⟨sl,e⟩:=I.base.slot L o ho (I.ok.frf L hL) hL λz=>I.ok.exfs L z hL;exact ⟨hk,⟨L,_,hf,hn,e,hd⟩,ih (λb hb=>hs b (by unfold frs;rw [List.filterMap_cons,hf];exact Z1f _ hb)) hr⟩
 exact all X.outer (λ_ hb=>hb) I.ok.funs
theorem Inv.stack (I:Inv X pins σ H s):s.heap.FunFrames X.base X.stack:=by
 rcases I.ok.stk with e | ⟨e,hf⟩
 ·rw [e];exact I.funs
 ·rw [e];obtain ⟨m,hn,_⟩:=I.loc;refine .cons (by rw [I.ok.kind];decide) hf hn ?_ I.funs;exact Heap.get?_none_of_le (Z1n I.ok.bsz I.ok.above)
theorem Inv.stkSub (I:Inv X pins σ H s):∀b∈frs X.stack,b∈X.env.locals::X.fs:=λb hb=>by
 rcases I.ok.stk with e | ⟨e,hf⟩
 ·rw [e] at hb;exact Z1f _ hb
 ·rw [e] at hb;unfold frs at hb;rw [List.filterMap_cons,hf] at hb;exact hb
theorem Inv.stkFree (I:Inv X pins σ H s):∀b∈frs X.stack,H b=none:=λb hb=>by
 rcases Z0e.mp (I.stkSub b hb) with e | hb
 ·rw [e];exact I.free
 ·obtain ⟨_,o,ho,_⟩:=I.ok.funs.mem hb;exact I.base.free b o ho (I.ok.frf b hb) λz=>I.ok.exfs b z hb
theorem Inv.step {g':Array GenState} {t':Nat} {d':Drawn} {ch:List Addr} (I:Inv X pins σ H s)
  (hch:∀b∈ch,(b∈X.ex\/X.s₀.heap.objs.size<=b)/\b≠X.env.locals/\(∀x c,X.env.cells.lookup x=some c->c≠b)/\∀p∈X.pn++pins,p.1≠b)
  (keep:∀b o,b≠X.env.locals->b∉X.fs->b∉ch->s.heap.get? b=some o->H b=none->h'.get? b=some o)
  (slot:∀b o,b≠X.env.locals->b∈X.fs->b∉ch->s.heap.get? b=some o->H b=none->∃sl,h'.get? b=some { o with slots:=sl }) (free:∀b o,b∉ch->s.heap.get? b=some o->H b=none->H' b=none)
  (there:∀b o,b∉ch->s.heap.get? b=some o->∃o',h'.get? b=some o')
  (tups:∀b xs,H b=some (.tup xs)->H' b=some (.tup xs)) (frzs:∀b o u,H b=some (.frz o u)->H' b=some (.frz o u)) (tbls:∀b ps,H b=some (.tbl ps)->∃more,H' b=some (.tbl (ps++more)))
  (ns:∀m,s.heap.Ns X.env.locals m->h'.Ns X.env.locals m) (hok:HOk X.prog X.w H' h') (hg:AllBare g') :
  Inv X pins σ H' { s with heap:=h',gens:=g',drawn:=d',toks:=t' }:=by
 have neL:∀b o,X.s₀.heap.get? b=some o->b≠X.env.locals:=λb o e=>Z0h (Z0q (Z0a e) I.ok.above)
 have neC:∀b o,X.s₀.heap.get? b=some o->b∉X.ex->b∉ch:=λb o e hx hb=>by
  rcases (hch b hb).1 with z | z
  ·exact hx z
  ·exact absurd (Z0q (Z0a e) z) (Nat.lt_irrefl _)
 have cellK:∀x c,X.env.cells.lookup x=some c->∀v,s.heap.IsCell c v->h'.IsCell c v:=λx c e v ⟨o,ho,hd⟩=>by
  have nch:c∉ch:=λz=>(hch c z).2.2.1 x c e rfl;by_cases hc:c∈X.fs
  ·obtain ⟨sl,q⟩:=slot c o (I.cne x c e) hc nch ho (I.freeC x c e);exact ⟨_,q,hd⟩
  ·exact ⟨o,keep c o (I.cne x c e) hc nch ho (I.freeC x c e),hd⟩
 refine ⟨I.ok,I.os,hg,⟨λb o e n hb hx=> ?_,λb o e n hb hx=> ?_,λb o e n hx=> ?_,λb o e hx=> ?_,λb xs e=>tups b xs (I.base.tups b xs e),λb o xs e=>frzs b o xs (I.base.frzs b o xs e),λb ps e=> ?_⟩,?_,λx c e=> ?_,?_,λx c e=> ?_,λp hp=> ?_,hok,I.len⟩
 ·exact keep b o (neL b o e) hb (neC b o e hx) (I.base.keep b o e n hb hx) (I.base.free b o e n hx)
 ·obtain ⟨sl,e1⟩:=I.base.slot b o e n hb hx;obtain ⟨sl',e2⟩:=slot b _ (neL b o e) hb (neC b o e hx) e1 (I.base.free b o e n hx);exact ⟨sl',e2⟩
 ·obtain ⟨o',e1⟩:=I.base.there b o e hx;exact free b o' (neC b o e hx) e1 (I.base.free b o e n hx)
 ·obtain ⟨o',e1⟩:=I.base.there b o e hx;exact there b o' (neC b o e hx) e1
 ·obtain ⟨m1,e1⟩:=I.base.tbls b ps e;obtain ⟨m2,e2⟩:=tbls b _ e1;exact ⟨m1++m2,by rw [e2,Array.append_assoc]⟩
 ·obtain ⟨m,hn,hl⟩:=I.loc;refine ⟨m,ns m hn,λi x v e1 e2 e3=> ?_⟩;obtain ⟨u,r,l⟩:=hl i x v e1 e2 e3;refine ⟨u,r,?_⟩;rcases l with l | ⟨k,c,e,z⟩
  ·exact .inl l
  ·exact .inr ⟨k,c,e,cellK x c e _ z⟩
 ·obtain ⟨v,z⟩:=I.cell x c e;exact ⟨v,cellK x c e v z⟩
 ·obtain ⟨m,⟨o,_,_,ho,_⟩,_⟩:=I.loc;exact free _ o (λz=>(hch _ z).2.1 rfl) ho I.free
 ·obtain ⟨v,o,ho,hd⟩:=I.cell x c e;exact free c o (λz=>(hch c z).2.2.1 x c e rfl) ho (I.freeC x c e)
 ·obtain ⟨e,n,ne,nf,d⟩:=I.pin p hp;have nch:p.1∉ch:=λz=>(hch p.1 z).2.2.2 p hp rfl;exact ⟨keep p.1 p.2 ne nf nch e n,free p.1 p.2 nch e n,ne,nf,d⟩
theorem Inv.un {t':Nat} (I:Inv X pins σ H s) (u:Un X.fs [] H H' s.heap h') (hok:HOk X.prog X.w H' h'):Inv X pins σ H' { s with heap:=h',toks:=t' }:=by
 obtain ⟨m,⟨o,es,ep,ho,r⟩,_⟩:=id I.loc;obtain ⟨sl,hL⟩:=u.any ho I.free (by simp)
 exact I.step (g':=s.gens) (d':=s.drawn) (ch:=[]) (λ_ z=>nomatch z) (λb o _ hb _ e n=>u.keep b o e n hb (by simp)) (λb o _ hb _ e n=>u.slot b o e n hb (by simp)) (λb o _ e n=>u.free b o e n (by simp)) (λb o _ e=>u.there b o e (by simp)) u.tups u.frzs u.tbls (λm' hm=>by
  obtain ⟨o',es',ep',ho',r'⟩:=hm;rw [ho] at ho';cases ho'
  exact ⟨_,es',ep',hL,r'⟩) hok I.bare
theorem Inv.call {g':Array GenState} {t':Nat} {d':Drawn} {ch:List Addr} (I:Inv X pins σ H s) (u:Un (frs X.stack) ch H H' s.heap h') (hok:HOk X.prog X.w H' h') (hg:AllBare g')
  (hch:∀b∈ch,(b∈X.ex\/X.s₀.heap.objs.size<=b)/\b≠X.env.locals/\(∀x c,X.env.cells.lookup x=some c->c≠b)/\∀p∈X.pn++pins,p.1≠b) :
  Inv X pins σ H' { s with heap:=h',gens:=g',drawn:=d',toks:=t' }:=by
 obtain ⟨m,⟨o,es,ep,ho,r⟩,_⟩:=id I.loc;obtain ⟨sl,hL⟩:=u.any ho I.free λz=>(hch _ z).2.1 rfl
 exact I.step (ch:=ch) hch (λb o hL hb hc e n=>u.keep b o e n (λz=>(Z0e.mp (I.stkSub b z)).elim hL hb) hc) (λb o _ _ hc e n=>u.any e n hc) (λb o hc e n=>u.free b o e n hc) (λb o hc e=>u.there b o e hc) u.tups u.frzs u.tbls (λm' hm=>by
  obtain ⟨o',es',ep',ho',r'⟩:=hm;rw [ho] at ho';cases ho'
  exact ⟨_,es',ep',hL,r'⟩) hok hg
theorem Inv.turned {t':Nat} {it:Addr} (I:Inv X pins σ H s) (k:∀b o,b≠it->s.heap.get? b=some o->h'.get? b=some o) (hn:H it=none) (hL:it≠X.env.locals)
  (h1:it∈X.ex\/X.s₀.heap.objs.size<=it) (h2:∀x c,X.env.cells.lookup x=some c->c≠it) (h3:∀p∈X.pn++pins,p.1≠it):Inv X pins σ H { s with heap:=h',toks:=t' }:=by
 have nit:∀b u,H b=some u->b≠it:=λb u e z=>by rw [z,hn] at e;cases e
 refine I.step (g':=s.gens) (d':=s.drawn) (ch:=[it]) (λb hb=> ?_) (λb o _ _ hc e _=>k b o (λz=>hc (by simp [z])) e) (λb o _ _ hc e _=>⟨o.slots,k b o (λz=>hc (by simp [z])) e⟩) (λ_ _ _ _ n=>n)
  (λb o hc e=>⟨o,k b o (λz=>hc (by simp [z])) e⟩) (λ_ _ e=>e) (λ_ _ _ e=>e) (λb ps e=>⟨#[],by rw [e];simp⟩) (λm hm=> ?_) (λb u e=> ?_) I.bare
 ·have e:b=it:=by simpa using hb
  subst e;exact ⟨h1,hL,h2,h3⟩
 ·obtain ⟨o,es,ep,ho,r⟩:=hm;exact ⟨o,es,ep,k _ o (Ne.symm hL) ho,r⟩
 ·refine (I.hok b u e).stay (λc v hc q=>k c v ?_ q) (λ_ q=>q) λ_ _ q=>q;rcases hc with z | z
  ·rw [z];exact nit b u e
  ·exact nit c _ z
theorem Inv.tok (I:Inv X pins σ H s) (t:Nat):Inv X pins σ H { s with toks:=t }:=I.un (h':=s.heap) (t':=t) Un.refl I.hok
theorem Inv.kept {t':Nat} (I:Inv X pins σ H s) (k:∀b u,s.heap.get? b=some u->h'.get? b=some u):Inv X pins σ H { s with heap:=h',toks:=t' }:=I.un (Un.kept k) (I.hok.kept k)
theorem Inv.laid {a:Addr} {o:HO} {t':Nat} (I:Inv X pins σ H s) (k:∀b u,s.heap.get? b=some u->h'.get? b=some u) (hp:s.heap.objs.size<=a) (new:A2l X.prog X.w (upd H a o) h' a o) :
  Inv X pins σ (upd H a o) { s with heap:=h',toks:=t' }:=I.un (Un.laid k hp (I.hok.fresh hp)) (I.hok.laid k hp new)
theorem Inv.write {x e:Addr} {o:HO} {t':Nat} (I:Inv X pins σ H s) (mu:Mut (H x)) (he:e=x\/H e=some (.own x)) (k:∀b u,b≠e->s.heap.get? b=some u->h'.get? b=some u) (heo:∃u,h'.get? e=some u)
  (new:A2l X.prog X.w (upd H x o) h' x o):Inv X pins σ (upd H x o) { s with heap:=h',toks:=t' }:=I.un (Un.write mu he k heo) (I.hok.write mu he k heo new)
theorem Inv.weak {σ':List (Option V)} (I:Inv X pins σ H s) (hl:σ'.length=σ.length) (w:∀(i:Nat) v,σ'[i]? =some (some v)->σ[i]? =some (some v)):Inv X pins σ' H s :=
 ⟨I.ok,I.os,I.bare,I.base,let ⟨m,hn,hl'⟩:=I.loc;⟨m,hn,λi x v e1 e2 e3=>hl' i x v e1 (w i v e2) e3⟩,I.cell,I.free,I.freeC,I.pin,I.hok,hl.trans I.len⟩
theorem Inv.pins_of {pins':List (Addr×Obj)} (I:Inv X pins σ H s) (h:∀p∈pins',s.heap.get? p.1=some p.2/\H p.1=none/\p.1≠X.env.locals/\p.1∉X.fs/\∀v,p.2.data≠.cell v):Inv X pins' σ H s :=
 ⟨I.ok,I.os,I.bare,I.base,I.loc,I.cell,I.free,I.freeC,λp hp=>(Z07.mp hp).elim (λz=>I.pin p (Z05 _ z)) (h p),I.hok,I.len⟩
theorem B2u {N:List Str} (hN:N.Nodup) {i j:Nat} {x:Str} (a:N[i]? =some x) (b:N[j]? =some x):i=j:=by
 obtain ⟨h1,e1⟩:=Z03.mp a;obtain ⟨h2,e2⟩:=Z03.mp b;exact (List.getElem_inj hN).mp (e1.trans e2.symm)
theorem B4o {M:Model} {A:Around} {E:Value->Shared->Prop} {i:Nat} {x:Str} {v:V} {u:Value} {Q:Unit->Shared->Prop} (I:Inv X pins σ H s) (hN:X.N.Nodup) (hi:X.N[i]? =some x) (hx:Loc X.env.scope x) (r:A2v v u)
  (h:∀s',Inv X pins (σ.set i (some v)) H s'->(∃a,Heap.SameBut a s.heap s'.heap/\(a=X.env.locals\/X.env.cells.lookup x=some a))->Q () s') (hf:X.fn x=true\/X.env.scope.names.lookup x=some .local:=by first | exact .inl rfl | exact .inr rfl | assumption):wpAny M A (storeName X.env x u) Q E s:=by
 obtain ⟨m,hn,hl⟩:=id I.loc;have hcls:(X.env.scope.kind == .class||(X.env.scope.kind == .module&&X.env.locals != X.env.globals))=false:=by rw [I.ok.kind];rfl
 have hiσ:i<σ.length:=by rw [I.len];exact (Z03.mp hi).1
 have cne:=I.cne
 have tracked:∀{a:Addr} {h':Heap},(∃o,s.heap.get? a=some o/\H a=none)->Heap.SameBut a s.heap h'->HOk X.prog X.w H h':=λ{a h'} ha hs b ob e=>by
  obtain ⟨_,_,hfree⟩:=ha;refine (I.hok b ob e).stay (λc w' hc q=>(hs.2 c ?_).trans q) (λ_ q=>q) λ_ _ q=>q;rintro rfl;rcases hc with rfl | hc
  ·rw [hfree] at e;cases e
  ·rw [hfree] at hc;cases hc
 rcases hx with hk | hk
 ·refine wpAny_storeName_local hk hn (λh' hn' hs=> ?_) hcls;obtain ⟨oL,_,_,hoL,_⟩:=id hn;refine h _ ⟨I.ok,I.os,I.bare,⟨λb o e n hb hx=> ?_,λb o e n hb hx=> ?_,I.base.free,λb o e hx=> ?_,I.base.tups,I.base.frzs,I.base.tbls⟩,⟨_,hn',λj y v' e1 e2 e3=> ?_⟩,λy c e=> ?_,I.free,I.freeC,λp hp=> ?_,tracked ⟨oL,hoL,I.free⟩ hs,by simpa using I.len⟩ ⟨_,hs,.inl rfl⟩
  ·exact (hs.2 b (Z0h (Z0q (Z0a e) I.ok.above))).trans (I.base.keep b o e n hb hx)
  ·obtain ⟨sl,e1⟩:=I.base.slot b o e n hb hx;exact ⟨sl,(hs.2 b (Z0h (Z0q (Z0a e) I.ok.above))).trans e1⟩
  ·obtain ⟨o',e1⟩:=I.base.there b o e hx;exact ⟨o',(hs.2 b (Z0h (Z0q (Z0a e) I.ok.above))).trans e1⟩
  ·by_cases hj:j=i
   ·subst hj;rw [hi] at e1;cases e1;rw [Z23 hiσ] at e2;cases e2;exact ⟨u,r,.inl ⟨hk,by simp⟩⟩
   ·rw [Z2a (Ne.symm hj)] at e2;obtain ⟨u',r',q⟩:=hl j y v' e1 e2 e3;refine ⟨u',r',?_⟩;rcases q with ⟨k,e⟩ | ⟨k,c,e,z⟩
    ·refine .inl ⟨k,?_⟩;have:y≠x:=λe=>hj (B2u hN e1 (e▸hi));simp [this,e]
    ·exact .inr ⟨k,c,e,z.sameBut hs (cne y c e)⟩
  ·obtain ⟨w',z⟩:=I.cell y c e;exact ⟨w',z.sameBut hs (cne y c e)⟩
  ·obtain ⟨e,n,ne,nf,d⟩:=I.pin p hp;exact ⟨(hs.2 p.1 ne).trans e,n,ne,nf,d⟩
 ·have hfn:X.fn x=true:=by
   rcases hf with z | z
   ·exact z
   ·rw [z] at hk;cases hk
  obtain ⟨c,hc⟩:=I.ok.has x (.inl hk);obtain ⟨w',z⟩:=I.cell x c hc;refine wpAny_storeName_cell I.ok.kind hk hc z (λh' hc' hs=> ?_);obtain ⟨oc,hoc,hocd⟩:=id z;refine h { s with heap:=h' } ⟨I.ok,I.os,I.bare,⟨λb o e n hb hx=> ?_,λb o e n hb hx=> ?_,I.base.free,λb o e hx=> ?_,I.base.tups,I.base.frzs,I.base.tbls⟩,⟨m,hn.sameBut hs (Ne.symm (cne x c hc)),λj y v' e1 e2 e3=> ?_⟩,λy c' e=> ?_,I.free,I.freeC,λp hp=> ?_,tracked ⟨oc,hoc,I.freeC x c hc⟩ hs,by simpa using I.len⟩ ⟨c,hs,.inr hc⟩
  ·exact (hs.2 b (Z0h (Z0q (Z0a e) (I.ok.cab x c hfn hc)))).trans (I.base.keep b o e n hb hx)
  ·obtain ⟨sl,e1⟩:=I.base.slot b o e n hb hx;exact ⟨sl,(hs.2 b (Z0h (Z0q (Z0a e) (I.ok.cab x c hfn hc)))).trans e1⟩
  ·obtain ⟨o',e1⟩:=I.base.there b o e hx;exact ⟨o',(hs.2 b (Z0h (Z0q (Z0a e) (I.ok.cab x c hfn hc)))).trans e1⟩
  ·by_cases hj:j=i
   ·subst hj;rw [hi] at e1;cases e1;rw [Z23 hiσ] at e2;cases e2;exact ⟨u,r,.inr ⟨.inl hk,c,hc,hc'⟩⟩
   ·rw [Z2a (Ne.symm hj)] at e2;obtain ⟨u',r',q⟩:=hl j y v' e1 e2 e3;refine ⟨u',r',?_⟩;rcases q with q | ⟨k,c',e,z'⟩
    ·exact .inl q
    ·refine .inr ⟨k,c',e,z'.sameBut hs ?_⟩;rintro rfl;exact hj (B2u hN e1 (I.ok.inj _ _ _ e hc▸hi))
  ·by_cases hcc:c'=c
   ·subst hcc;exact ⟨_,hc'⟩
   ·obtain ⟨w2,z2⟩:=I.cell y c' e;exact ⟨w2,z2.sameBut hs hcc⟩
  ·obtain ⟨e,n,ne,nf,d⟩:=I.pin p hp;refine ⟨(hs.2 p.1 ?_).trans e,n,ne,nf,d⟩;intro q;rw [q,hoc] at e;have q':oc=p.2:=Z1a e;exact d w' (by rw [<-q'];exact hocd)
theorem A8q {M:Model} {A:Around} {E:Value->Shared->Prop} {i:Nat} {x:Str} {v:V} {u:Value} {Q:Unit->Shared->Prop} (I:Inv X pins σ H s) (hN:X.N.Nodup) (hi:X.N[i]? =some x) (hx:Loc X.env.scope x) (r:A2v v u)
  (h:∀s',Inv X pins (σ.set i (some v)) H s'->Q () s') (hf:X.fn x=true\/X.env.scope.names.lookup x=some .local:=by first | exact .inl rfl | exact .inr rfl | assumption):wpAny M A (storeName X.env x u) Q E s :=
 B4o I hN hi hx r (λs' I' _=>h s' I') hf
theorem Inv.call' {s':Shared} {ch:List Addr} (I:Inv X pins σ H s) (ho:s'.os=s.os) (u:Un (frs X.stack) ch H H' s.heap s'.heap) (hok:HOk X.prog X.w H' s'.heap) (hg:AllBare s'.gens)
  (hch:∀b∈ch,(b∈X.ex\/X.s₀.heap.objs.size<=b)/\b≠X.env.locals/\(∀x c,X.env.cells.lookup x=some c->c≠b)/\∀p∈X.pn++pins,p.1≠b):Inv X pins σ H' s':=by
 obtain ⟨h',g',d',t',o'⟩:=s';have e:o'=s.os:=ho;subst e;exact I.call (g':=g') (t':=t') (d':=d') u hok hg hch
end
abbrev XK:=Value->Option Addr->Hp->Prop
abbrev St:=List (Option V)
abbrev VK:=V->Hp->Prop
abbrev TE:=St->Hp->VK->Prop
abbrev TT:=St->Hp->(Bool->Hp->Prop)->Prop
abbrev TA:=St->Hp->(List V->Hp->Prop)->Prop
structure B7u where
 nx:St->Hp->Prop
 rt:VK
 bk:St->Hp->Prop:=λ_ _=>False
 ct:St->Hp->Prop:=λ_ _=>False
abbrev TS:=B7u->St->Hp->Prop
def EP (X:Cx) (pins:List (Addr×Obj)) (σ:St) (Q:VK) (u:Value) (s':Shared):Prop:=∃v H',Inv X pins σ H' s'/\A2v v u/\Q v H'
def TP (X:Cx) (pins:List (Addr×Obj)) (σ:St) (Q:Bool->Hp->Prop) (b:Bool) (s':Shared):Prop:=∃H',Inv X pins σ H' s'/\Q b H'
def AP (X:Cx) (pins:List (Addr×Obj)) (σ:St) (Q:List V->Hp->Prop) (us:List Value) (s':Shared):Prop:=∃vs H',Inv X pins σ H' s'/\A3a vs us/\Q vs H'
def SP (X:Cx) (pins:List (Addr×Obj)) (D:B7u) (f:Flow) (s':Shared):Prop :=
 match f with
 | .next=>∃σ' H',Inv X pins σ' H' s'/\D.nx σ' H'
 | .brk=>∃σ' H',Inv X pins σ' H' s'/\D.bk σ' H'
 | .cont=>∃σ' H',Inv X pins σ' H' s'/\D.ct σ' H'
 | .ret u=>∃v σ' H',Inv X pins σ' H' s'/\A2v v u/\D.rt v H'
def PE (X:Cx) (e:Expr) (t:TE):Prop :=
 ∀(pins:List (Addr×Obj)) (s:Shared) (σ:St) (H:Hp) (Q:VK),Inv X pins σ H s->t σ H Q->wpAny (model X.prog X.w) X.A (eval e X.env) (EP X pins σ Q) X.xe s
def PT (X:Cx) (e:Expr) (t:TT):Prop :=
 ∀(pins:List (Addr×Obj)) (s:Shared) (σ:St) (H:Hp) (Q:Bool->Hp->Prop),Inv X pins σ H s->t σ H Q->wpAny (model X.prog X.w) X.A (isTrue e X.env (eval e X.env)) (TP X pins σ Q) X.xe s
def PW (X:Cx) (e:Expr) (t:TT):Prop :=
 ∀(whole:Sem Value) (pins:List (Addr×Obj)) (s:Shared) (σ:St) (H:Hp) (Q:Bool->Hp->Prop),Inv X pins σ H s->t σ H Q->wpAny (model X.prog X.w) X.A (isTrue e X.env whole) (TP X pins σ Q) X.xe s
theorem PW.pt {X:Cx} {e:Expr} {t:TT} (h:PW X e t):PT X e t:=h _
def PA (X:Cx) (es:List Expr) (t:TA):Prop :=
 ∀(pos:Pos) (pins:List (Addr×Obj)) (s:Shared) (σ:St) (H:Hp) (Q:List V->Hp->Prop),Inv X pins σ H s->t σ H Q->wpAny (model X.prog X.w) X.A (spliced (backTo pos (starEach es X.env))) (AP X pins σ Q) X.xe s
def PS (X:Cx) (st:Stmt) (t:TS):Prop :=
 ∀(pins:List (Addr×Obj)) (s:Shared) (σ:St) (H:Hp) (D:B7u),Inv X pins σ H s->t D σ H->wpAny (model X.prog X.w) X.A (exec st X.env) (SP X pins D) X.xe s
def PSs (X:Cx) (st:List Stmt) (t:TS):Prop :=
 ∀(pins:List (Addr×Obj)) (s:Shared) (σ:St) (H:Hp) (D:B7u),Inv X pins σ H s->t D σ H->wpAny (model X.prog X.w) X.A (execs st X.env) (SP X pins D) X.xe s
theorem thn {α:Type} {t:Sem α} {Q Q':α->Shared->Prop} {M:Model} {A:Around} {E:Value->Shared->Prop} {s:Shared} (h:wpAny M A t Q E s) (hQ:∀a s,Q a s->Q' a s):wpAny M A t Q' E s:=Z10 h hQ λ_ _ x=>x
section
variable {X:Cx}
def D0b (i:Nat):TE:=λσ H Q=>∃v,σ[i]? =some (some v)/\Q v H
def tC (v:V):TE:=λ_ H Q=>Q v H
theorem C8f {i:Nat} {x:Str} {pos:Pos} (hN:X.N[i]? =some x) (hv:Vis X.env.scope x) (hd:(x == ("__debug__":Str))=false:=by decide) (hcd:(x == ("__classdict__":Str))=false:=by decide):PE X (.Name x pos) (D0b i):=by
 intro pins s σ H Q I h;obtain ⟨v,e,h⟩:=h;obtain ⟨m,hn,hl⟩:=I.loc;obtain ⟨u,r,l⟩:=hl i x v hN e hv;have fin:EP X pins σ Q u s:=⟨v,H,I,r,h⟩;rcases l with ⟨hk,hm⟩ | ⟨hk,c,hc,hcell⟩
 ·exact wpAny_Name (wpAny_loadName_local I.ok.kind hk hn hm fin) hd
 ·rcases hk with hk | hk
  ·exact wpAny_Name (wpAny_loadName_cell I.ok.kind hk hc hcell fin) hd
  ·exact wpAny_Name (wpAny_loadName_free I.ok.kind hk hc hcell fin hcd) hd
theorem A0i {i j pos}:PE X (.Constant (.int i) j pos) (tC (.int i)):=λ_ _ _ H _ I h=>wpAny_Constant_int ⟨.int i,H,I.tok _,⟨_,rfl⟩,h⟩
theorem A5o {b j pos}:PE X (.Constant (.bool b) j pos) (tC (.bl b)):=λ_ _ _ H _ I h=>Constant_bool ⟨.bl b,H,I,rfl,h⟩
theorem C4w {j pos}:PE X (.Constant .none j pos) (tC .non):=λ_ _ _ H _ I h=>Constant_none ⟨.non,H,I,rfl,h⟩
theorem A0r {x j pos}:PE X (.Constant (.str x) j pos) (tC (.str x)):=λ_ _ _ H _ I h=>Calls.Constant_str ⟨.str x,H,I.tok _,⟨_,rfl⟩,h⟩
def Gl (X:Cx) (x:Str):Prop:=X.env.kindOf x=some .globalImplicit
theorem A6r {E:Value->Shared->Prop} {pins:List (Addr×Obj)} {s:Shared} {σ:St} {H:Hp} {x:Str} {u:Value} {pos:Pos} {Q:Value->Shared->Prop} (I:Inv X pins σ H s) (hg:Gl X x) (hm:X.mg x=some u) (h:Q u s)
  (hd:(x == ("__debug__":Str))=false:=by decide):wpAny (model X.prog X.w) X.A (eval (.Name x pos) X.env) Q E s :=
 Calls.Name_function_global I.ok.kind hg (Calls.loadGlobal_global (by rw [I.ok.glob];exact I.mod.glob.keeps I.bk) hm h) hd
theorem B1v {E:Value->Shared->Prop} {pins:List (Addr×Obj)} {s:Shared} {σ:St} {H:Hp} {x:Str} {u:Value} {pos:Pos} {Q:Value->Shared->Prop} (I:Inv X pins σ H s) (hg:Gl X x) (hm:X.mg x=none) (hv:bootBuiltins x=some u) (h:Q u s)
  (hn:x≠"__name__":=by decide) (hd:(x == ("__debug__":Str))=false:=by decide):wpAny (model X.prog X.w) X.A (eval (.Name x pos) X.env) Q E s:=by
 obtain ⟨mb,h1,h2⟩:=I.mod.blt;exact Calls.Name_function_global I.ok.kind hg (Calls.loadGlobal_builtin (by rw [I.ok.glob];exact I.mod.glob.keeps I.bk) hm (by rw [I.ok.blt];exact h1.keeps I.bk) ((h2 x hn).trans hv) h) hd
theorem A3z {x:Str} {v:V} {u:Value} {pos:Pos} (hg:Gl X x) (hm:X.mg x=some u) (r:A2v v u) (hd:(x == ("__debug__":Str))=false:=by decide):PE X (.Name x pos) (tC v) :=
 λ_ _ _ H _ I h=>A6r I hg hm ⟨v,H,I,r,h⟩ hd
theorem A4v {x:Str} {v:V} {u:Value} {pos:Pos} (hg:Gl X x) (hm:X.mg x=none) (hv:bootBuiltins x=some u) (r:A2v v u) (hn:x≠"__name__":=by decide) (hd:(x == ("__debug__":Str))=false:=by decide):PE X (.Name x pos) (tC v) :=
 λ_ _ _ H _ I h=>B1v I hg hm hv ⟨v,H,I,r,h⟩ hn hd
variable {a b:Expr} {ta tb:TE} {pos:Pos}
def PC (X:Cx) (op:CmpOp) (a b:Expr) (t:TE):Prop :=
 ∀(pins:List (Addr×Obj)) (s:Shared) (σ:St) (H:Hp) (Q:VK),Inv X pins σ H s->t σ H Q->
  wpAny (model X.prog X.w) X.A (eval a X.env) (λv s₁=>wpAny (model X.prog X.w) X.A (eval b X.env) (λu s₂=>wpAny (model X.prog X.w) X.A (compareOp op v u) (EP X pins σ Q) X.xe s₂) X.xe s₁) X.xe s
def tB (t:TE):TT:=λσ H Q=>t σ H λx H1=>∃c,x= .bl c/\Q c H1
theorem C4m {op:CmpOp} {t:TE} (h:PC X op a b t) (h1:behindInMarks op b=false:=by first | exact nobehind _ (by decide) (by decide) | rfl):PT X (.Compare a [op] [b] pos) (tB t):=by
 intro pins s σ H Q I hw;refine wpAny_isTrue_Compare1 (thn (h pins s σ H _ I hw) λv s1 h1=>thn h1 λu s2 h2=>thn h2 λc s3 ⟨x,H1,I1,r1,q1⟩=> ?_) h1;obtain ⟨d,rfl,q⟩:=q1;cases r1;exact wpAny_truthy_bool ⟨H1,I1,q⟩
theorem A2d {e:Expr} {t:TE} (h:PE X e t) (he:∀whole,isTrue e X.env whole=(do let v<-whole;standAt e.pos;holding [v] (truthy v)):=by intro _;rfl):PT X e (tB t):=by
 intro pins s σ H Q I hw;refine isTrue_plain (thn (h pins s σ H _ I hw) λv s1 ⟨x,H1,I1,r1,q1⟩=> ?_) (he _);obtain ⟨d,rfl,q⟩:=q1;cases r1;exact wpAny_truthy_bool ⟨H1,I1,q⟩
variable {tA tB':TT} {rest:List Expr}
def tAnd (t u:TT):TT:=λσ H Q=>t σ H λc H1=>if c=true then u σ H1 Q else Q false H1
def tOr (t u:TT):TT:=λσ H Q=>t σ H λc H1=>if c=true then Q true H1 else u σ H1 Q
def tNot (t:TT):TT:=λσ H Q=>t σ H λc H1=>Q (!c) H1
theorem A4p (ha:PT X a tA):PW X (.BoolOp .And [a] pos) tA:=by
 intro wh pins s σ H Q I h;refine isTrue_and (thn (ha pins s σ H Q I h) λc s1 e=> ?_)
 cases c with
 | true=>exact isTrue_and_nil e
 | false=>exact e
theorem B3n (ha:PT X a tA):PW X (.BoolOp .Or [a] pos) tA:=by
 intro wh pins s σ H Q I h;refine isTrue_or (thn (ha pins s σ H Q I h) λc s1 e=> ?_)
 cases c with
 | false=>exact isTrue_or_nil e
 | true=>exact e
theorem A6h (ha:PT X a tA) (hb:PW X (.BoolOp .And (b::rest) pos) tB'):PW X (.BoolOp .And (a::b::rest) pos) (tAnd tA tB'):=by
 intro wh pins s σ H Q I h;refine isTrue_and (thn (ha pins s σ H _ I h) λc s1 ⟨H1,I1,q1⟩=> ?_)
 cases c with
 | true=>exact hb wh pins s1 σ H1 Q I1 q1
 | false=>exact ⟨H1,I1,q1⟩
theorem C1d (ha:PT X a tA) (hb:PW X (.BoolOp .Or (b::rest) pos) tB'):PW X (.BoolOp .Or (a::b::rest) pos) (tOr tA tB'):=by
 intro wh pins s σ H Q I h;refine isTrue_or (thn (ha pins s σ H _ I h) λc s1 ⟨H1,I1,q1⟩=> ?_)
 cases c with
 | true=>exact ⟨H1,I1,q1⟩
 | false=>exact hb wh pins s1 σ H1 Q I1 q1
theorem B6t (ha:PT X a tA):PT X (.UnaryOp .Not a pos) (tNot tA):=by
 intro pins s σ H Q I h;exact isTrue_not (ha pins s σ H (λc H1=>Q (!c) H1) I h)
def D1a (ta tb:TE):TE:=λσ H Q=>ta σ H λx H1=>∃c,x= .bl c/\if c=true then tb σ H1 Q else Q (.bl false) H1
def tOrV (ta tb:TE):TE:=λσ H Q=>ta σ H λx H1=>∃c,x= .bl c/\if c=true then Q (.bl true) H1 else tb σ H1 Q
theorem B0x {op} {t:TE} (h:PE X a t):PE X (.BoolOp op [a] pos) t:=λpins s σ H Q I hw=>BoolOp_one (h pins s σ H Q I hw)
theorem B0k (ha:PE X a ta) (hb:PE X (.BoolOp .And (b::rest) pos) tb):PE X (.BoolOp .And (a::b::rest) pos) (D1a ta tb):=by
 intro pins s σ H Q I h;refine BoolOp_and (thn (ha pins s σ H _ I h) λv s1 ⟨x,H1,I1,r1,q1⟩=> ?_);obtain ⟨c,rfl,q1⟩:=q1;cases r1;refine wpAny_truthy_bool ?_
 cases c with
 | true=>exact hb pins s1 σ H1 Q I1 q1
 | false=>exact ⟨.bl false,H1,I1,rfl,q1⟩
theorem D0w (ha:PE X a ta) (hb:PE X (.BoolOp .Or (b::rest) pos) tb):PE X (.BoolOp .Or (a::b::rest) pos) (tOrV ta tb):=by
 intro pins s σ H Q I h;refine BoolOp_or (thn (ha pins s σ H _ I h) λv s1 ⟨x,H1,I1,r1,q1⟩=> ?_);obtain ⟨c,rfl,q1⟩:=q1;cases r1;refine wpAny_truthy_bool ?_
 cases c with
 | false=>exact hb pins s1 σ H1 Q I1 q1
 | true=>exact ⟨.bl true,H1,I1,rfl,q1⟩
end
def SqL (K:PySem.W.Frag) (H:Hp) (a:Addr) (xs:List V):Prop :=
 Rd H a (.lst xs)\/
  ∃(o:Obj) (its:Array Value) (n:Nat),K.lookup a=some o/\o.cls= .type "list"/\o.dict=none/\o.data= .seq its n/\its.size<=sizeLine/\A3a xs its.toList
def SqT (K:PySem.W.Frag) (H:Hp) (a:Addr) (xs:List V):Prop :=
 Rd H a (.tup xs)\/
  ∃(o:Obj) (its:Array Value) (n:Nat),K.lookup a=some o/\o.cls= .type "tuple"/\o.data= .seq its n/\its.size<=sizeLine/\A3a xs its.toList
def absV:Value->Option V
 | .none=>some .non
 | .bool b=>some (.bl b)
 | .int i _=>some (.int i)
 | .str x _=>some (.str x)
 | .bytes b _=>some (.byt b)
 | .float b _=>some (.flt b)
 | .ref a=>some (.ref a)
 | .type n=>some (.ty n)
 | _=>none
theorem A2v.abs {x:V} {u:Value} (r:A2v x u):absV u=some x:=by
 cases x with
 | non=>cases r;rfl
 | bl _=>cases r;rfl
 | int _=>obtain ⟨t,rfl⟩:=r;rfl
 | str _=>obtain ⟨t,rfl⟩:=r;rfl
 | byt _=>obtain ⟨t,rfl⟩:=r;rfl
 | flt _=>obtain ⟨t,rfl⟩:=r;rfl
 | ref _=>cases r;rfl
 | ty _=>cases r;rfl
theorem A2v.inj {x y:V} {u:Value} (r:A2v x u) (q:A2v y u):x=y:=Z1a (r.abs.symm.trans q.abs)
theorem A3a.inj:∀{xs ys:List V} {us:List Value},A3a xs us->A3a ys us->xs=ys
 | _,_,_,.nil,.nil=>rfl
 | _,_,_,.cons r t,.cons r' t'=>by rw [r.inj r',A3a.inj t t']
section
variable {X:Cx} {pins:List (Addr×Obj)} {σ:St} {H:Hp} {s:Shared} {a:Addr} {xs ys:List V}
theorem SqL.of {K:PySem.W.Frag} (h:H a=some (.lst xs)):SqL K H a xs:= .inl (.inl h)
theorem SqT.of {K:PySem.W.Frag} (h:H a=some (.tup xs)):SqT K H a xs:= .inl (.inl h)
theorem Inv.list (I:Inv X pins σ H s) (h:SqL X.K H a xs):∃its:List Value,A3a xs its/\PlainL s.heap a its.toArray/\xs.length<=sizeLine:=by
 rcases h with h | ⟨o,its,n,hk,hc,hd,hs,hz,r⟩
 ·obtain ⟨z,its,n,r,e⟩:=h.ok I.hok;exact ⟨its,r,⟨_,n,e,rfl,rfl,rfl⟩,z⟩
 ·refine ⟨its.toList,r,⟨o,n,I.kIn a o hk,hc,hd,by simpa using hs⟩,?_⟩;have e:=r.length;simp only [Array.length_toList] at e;omega
theorem Inv.tuple (I:Inv X pins σ H s) (h:SqT X.K H a xs):∃its:List Value,A3a xs its/\IsTup s.heap a its.toArray/\xs.length<=sizeLine:=by
 rcases h with h | ⟨o,its,n,hk,hc,hs,hz,r⟩
 ·obtain ⟨z,its,r,p⟩:=h.ok I.hok;exact ⟨its,r,p,z⟩
 ·refine ⟨its.toList,r,⟨o,I.kIn a o hk,hc,n,by simpa using hs⟩,?_⟩;have e:=r.length;simp only [Array.length_toList] at e;omega
theorem Inv.list_inj (I:Inv X pins σ H s) (h:SqL X.K H a xs) (h':SqL X.K H a ys):xs=ys:=by
 obtain ⟨its,r,⟨o,n,e,_,_,d⟩,_⟩:=I.list h;obtain ⟨its',r',⟨o',n',e',_,_,d'⟩,_⟩:=I.list h';rw [e] at e';cases e';rw [d] at d';injection d' with d1 _;have:its=its':=by simpa using congrArg Array.toList d1
 subst this;exact r.inj r'
theorem Inv.tuple_inj (I:Inv X pins σ H s) (h:SqT X.K H a xs) (h':SqT X.K H a ys):xs=ys:=by
 obtain ⟨its,r,⟨o,e,_,n,d⟩,_⟩:=I.tuple h;obtain ⟨its',r',⟨o',e',_,n',d'⟩,_⟩:=I.tuple h';rw [e] at e';cases e';rw [d] at d';injection d' with d1 _;have:its=its':=by simpa using congrArg Array.toList d1
 subst this;exact r.inj r'
end
abbrev Cx.wish (X:Cx) (E:Value->Shared->Prop):Cx:={ X with xe:=E }
abbrev Cx.nox (X:Cx):Cx:=X.wish λ_ _=>False
theorem Cx.Ok.wish {X:Cx} (ok:X.Ok) (E:Value->Shared->Prop):(X.wish E).Ok :=
 ⟨ok.mod,ok.kind,ok.glob,ok.blt,ok.above,ok.inj,ok.has,ok.cab,ok.hd,ok.frames,ok.stk,ok.exf,ok.bs,ok.bsz,ok.noex,ok.exfs,ok.funs,ok.frf⟩
theorem Cx.Ok.unwish {X:Cx} {E:Value->Shared->Prop} (ok:(X.wish E).Ok):X.Ok :=
 ⟨ok.mod,ok.kind,ok.glob,ok.blt,ok.above,ok.inj,ok.has,ok.cab,ok.hd,ok.frames,ok.stk,ok.exf,ok.bs,ok.bsz,ok.noex,ok.exfs,ok.funs,ok.frf⟩
section
variable {X:Cx} {pins:List (Addr×Obj)} {σ:St} {H:Hp} {s:Shared} {E:Value->Shared->Prop}
theorem Inv.wish (I:Inv X pins σ H s) (E:Value->Shared->Prop):Inv (X.wish E) pins σ H s:=⟨I.ok.wish E,I.os,I.bare,I.base,I.loc,I.cell,I.free,I.freeC,I.pin,I.hok,I.len⟩
theorem Inv.unwish (I:Inv (X.wish E) pins σ H s):Inv X pins σ H s:=⟨I.ok.unwish,I.os,I.bare,I.base,I.loc,I.cell,I.free,I.freeC,I.pin,I.hok,I.len⟩
theorem SP.unwish {D:B7u} {f:Flow} {s':Shared} (h:SP (X.wish E) pins D f s'):SP X pins D f s':=by
 cases f with
 | next=>obtain ⟨σ',H',I,q⟩:=h;exact ⟨σ',H',I.unwish,q⟩
 | brk=>obtain ⟨σ',H',I,q⟩:=h;exact ⟨σ',H',I.unwish,q⟩
 | cont=>obtain ⟨σ',H',I,q⟩:=h;exact ⟨σ',H',I.unwish,q⟩
 | ret u=>obtain ⟨v,σ',H',I,r,q⟩:=h;exact ⟨v,σ',H',I.unwish,r,q⟩
theorem PSs.nox {st:List Stmt} {t:TS} (h:PSs X.nox st t):PSs X st t:=λpins s σ H D I hw =>
 Z10 (h pins s σ H D (I.wish _) hw) (λ_ _ q=>q.unwish) λ_ _ z=>False.elim z
end
section
variable {X:Cx} {st:Stmt} {rest:List Stmt} {t u:TS} {e:Expr} {te:TE} {pos:Pos}
def D1o:TS:=λD σ H=>D.nx σ H
def tSeq (t u:TS):TS:=λD σ H=>t { D with nx:=u D } σ H
theorem A0n:PSs X [] D1o:=λ_ _ σ H _ I h=>Z2b ⟨σ,H,I,h⟩
theorem A0c (h1:PS X st t) (h2:PSs X rest u):PSs X (st::rest) (tSeq t u):=by
 intro pins s σ H D I h;refine wpAny_execs_cons (thn (h1 pins s σ H { D with nx:=u D } I h) λf s1 q=> ?_)
 cases f with
 | next =>
  obtain ⟨σ',H',I',q⟩:=q;exact h2 pins s1 σ' H' D I' q
 | ret v=>exact q
 | brk=>exact q
 | cont=>exact q
theorem A0f (h1:PS X st t):PSs X [st] t:=by
 intro pins s σ H D I h;refine wpAny_execs_cons (thn (h1 pins s σ H D I h) λf s1 q=> ?_)
 cases f with
 | next=>exact Z2b q
 | ret v=>exact q
 | brk=>exact q
 | cont=>exact q
theorem Inv.quiet {pins:List (Addr×Obj)} {σ:St} {H:Hp} {s:Shared} (I:Inv X pins σ H s):interactive X.env=false:=by simp [interactive,I.ok.kind]
def D0i (te:TE):TS:=λD σ H=>te σ H λ_ H1=>D.nx σ H1
theorem A2k (he:PE X e te) (hs:swapsWith e none pos.line X.env=pure false:=by rfl):PS X (.Expr e pos) (D0i te):=by
 intro pins s σ H D I h;exact wpAny_Expr_any (thn (he pins s σ H _ I h) λv s1 ⟨x,H1,I1,r1,q1⟩=>⟨σ,H1,I1,q1⟩) I.quiet hs
def tRet (te:TE):TS:=λD σ H=>te σ H D.rt
theorem A0v (he:PE X e te):PS X (.Return (some e) pos) (tRet te):=by
 intro pins s σ H D I h;exact wpAny_Return_some (thn (he pins s σ H _ I h) λv s1 ⟨x,H1,I1,r1,q1⟩=>⟨x,σ,H1,I1,r1,q1⟩)
def tIfS (c:TT) (t u:TS):TS:=λD σ H=>c σ H λb H1=>if b=true then t D σ H1 else u D σ H1
theorem A1f {c:Expr} {a b:List Stmt} {tc:TT} (hc:PT X c tc) (ha:PSs X a t) (hb:PSs X b u):PS X (.If c a b pos) (tIfS tc t u):=by
 intro pins s σ H D I h;refine wpAny_If (thn (hc pins s σ H _ I h) λd s1 ⟨H1,I1,q1⟩=> ?_)
 cases d with
 | true=>exact ha pins s1 σ H1 D I1 q1
 | false=>exact hb pins s1 σ H1 D I1 q1
def C8n:TS:=λ_ _ _=>False
theorem A8u:PS X st C8n:=λ_ _ _ _ _ _ h=>h.elim
end
abbrev TG:=V->St->Hp->(St->Hp->Prop)->Prop
abbrev TGs:=List V->St->Hp->(St->Hp->Prop)->Prop
def PG (X:Cx) (target:Expr) (t:TG):Prop :=
 ∀(pins:List (Addr×Obj)) (s:Shared) (σ:St) (H:Hp) (v:V) (u:Value) (Q:St->Hp->Prop),Inv X pins σ H s->A2v v u->t v σ H Q->
  wpAny (model X.prog X.w) X.A (assign target X.env u) (λ_ s'=>∃σ' H',Inv X pins σ' H' s'/\Q σ' H') X.xe s
def PGs (X:Cx) (ts:List Expr) (t:TGs):Prop :=
 ∀(pins:List (Addr×Obj)) (s:Shared) (σ:St) (H:Hp) (vs:List V) (us:List Value) (Q:St->Hp->Prop),Inv X pins σ H s->A3a vs us->t vs σ H Q->
  wpAny (model X.prog X.w) X.A (assignInOrder ((assignEach ts X.env).map (·.2)) us) (λ_ s'=>∃σ' H',Inv X pins σ' H' s'/\Q σ' H') X.xe s
section
variable {X:Cx} {pos:Pos}
def B4e (i:Nat):TG:=λv σ H Q=>Q (σ.set i (some v)) H
theorem A1a {i:Nat} {x:Str} (hN:X.N.Nodup) (hi:X.N[i]? =some x) (hx:Loc X.env.scope x) (hf:X.fn x=true\/X.env.scope.names.lookup x=some .local:=by first | exact .inl rfl | exact .inr rfl | assumption):PG X (.Name x pos) (B4e i):=by
 intro pins s σ H v u Q I r h;exact wpAny_assign_Name (A8q I hN hi hx r (λs' I'=>⟨_,H,I',h⟩) hf)
def D0r:TGs:=λvs σ H Q=>vs=[]/\Q σ H
def C1y (t:TG) (u:TGs):TGs:=λvs σ H Q=>∃v r,vs=v::r/\t v σ H λσ' H'=>u r σ' H' Q
theorem A5z:PGs X [] D0r:=by
 intro pins s σ H vs us Q I r h;obtain ⟨e,h⟩:=h;subst e;cases r;exact assignInOrder_nil ⟨σ,H,I,h⟩
theorem A2c {e:Expr} {es:List Expr} {t:TG} {u:TGs} (h1:PG X e t) (h2:PGs X es u)
  (hs:(assignEach (e::es) X.env).map (·.2)=assign e X.env::(assignEach es X.env).map (·.2):=by rfl):PGs X (e::es) (C1y t u):=by
 intro pins s σ H vs us Q I r h;obtain ⟨v,vr,e1,h⟩:=h;subst e1
 cases r with
 | cons r rr =>
  rw [hs];refine assignInOrder_cons (thn (h1 pins s σ H _ _ _ I r h) λ_ s1 ⟨σ1,H1,I1,q1⟩=> ?_);exact h2 pins s1 σ1 H1 _ _ Q I1 rr q1
def D0q (K:PySem.W.Frag) (n:Nat) (t:TGs):TG:=λv σ H Q=>∃a xs,v= .ref a/\SqT K H a xs/\xs.length=n/\t xs σ H Q
theorem A8e {es:List Expr} {k:Nat} {t:TGs} {n:Nat} (hc:X.calm=true) (h:PGs X es t)
  (hn:(assignEach es X.env).length=n:=by rfl) (hst:(assignEach es X.env).findIdx? (·.1)=none:=by rfl):PG X (.Tuple es k pos) (D0q X.K n t):=by
 intro pins s σ H v u Q I r hw;obtain ⟨a,xs,e1,hq,hl,hw⟩:=hw;subst e1;cases r;obtain ⟨its,rv,ht,hz⟩:=I.tuple hq;refine assign_Tuple_tuple (I.ok.hd hc) ht (by simp [hn,<-hl,rv.length]) hst λh' hx=> ?_;have I1:Inv X pins σ H { s with heap:=h' }:=I.kept (t':=s.toks) λb o e=>hx b o (Z0h (Z0a e)) e
 exact h pins _ σ H xs _ Q I1 (by simpa using rv) hw
def D1i (te:TE) (g:TG):TS:=λD σ H=>te σ H λx H1=>g x σ H1 D.nx
theorem A0x {i:Nat} {x:Str} {e:Expr} {te:TE} {pos':Pos} (hN:X.N.Nodup) (hi:X.N[i]? =some x) (hx:Loc X.env.scope x) (he:PE X e te) (hs:swapsWith e (some (.Name x pos')) pos.line X.env=pure false:=by rfl) (hf:X.fn x=true\/X.env.scope.names.lookup x=some .local:=by first | exact .inl rfl | exact .inr rfl | assumption) :
  PS X (.Assign [.Name x pos'] e pos) (D1i te (B4e i)):=by
 intro pins s σ H D I h;refine wpAny_Assign_Name (thn (he pins s σ H _ I h) λv s1 ⟨y,H1,I1,r1,q1⟩=> ?_) hs;exact A8q I1 hN hi hx r1 (λs2 I2=>⟨_,H1,I2,q1⟩) hf
def C7w (c:TT) (tb:TS):TS:=λD σ H=>∃W:Nat->St->Hp->Prop,(∃m,W m σ H)/\∀m σ H,W m σ H->
 c σ H λb H1=>if b=true then∃N:St->Hp->Prop,(∀σ' H',N σ' H'->∃m',m'<m/\W m' σ' H')/\tb { D with nx:=N,ct:=N,bk:=D.nx } σ H1 else D.nx σ H1
theorem C2p {c:Expr} {body:List Stmt} {tc:TT} {tb:TS} (hp:PassesOwn (model X.prog X.w) X.A X.env X.xe) (hc:PT X c tc) (hb:PSs X body tb):PS X (.While c body [] pos) (C7w tc tb):=by
 intro pins s σ H D I h;obtain ⟨W,⟨m0,w0⟩,turn⟩:=h;refine wpAny_While (codeAny_whileLoop (λn s'=>∃σ' H',Inv X pins σ' H' s'/\W n σ' H') ?_ m0 ⟨σ,H,I,w0⟩);rintro n s1 ⟨σ1,H1,I1,w1⟩;refine wpAny_passesOwn hp (thn (hc pins s1 σ1 H1 _ I1 (turn n σ1 H1 w1)) λb s2 ⟨H2,I2,q2⟩=> ?_)
 cases b with
 | true =>
  obtain ⟨N,hN,q2⟩:=q2;rw [Z12 rfl];refine wpAny_passesOwn hp (thn (hb pins s2 σ1 H2 _ I2 q2) λf s3 q3=> ?_)
  cases f with
  | next =>
   obtain ⟨σ3,H3,I3,n3⟩:=q3;obtain ⟨m',hm,w3⟩:=hN σ3 H3 n3;exact ⟨m',hm,σ3,H3,I3,w3⟩
  | cont =>
   obtain ⟨σ3,H3,I3,n3⟩:=q3;obtain ⟨m',hm,w3⟩:=hN σ3 H3 n3;exact ⟨m',hm,σ3,H3,I3,w3⟩
  | brk=>exact q3
  | ret v=>exact q3
 | false =>
  rw [Z0t Z0v];exact Z2b ⟨σ1,H2,I2,q2⟩
end
structure It where
 go:Nat->Hp->Prop
 yld:Nat->Hp->V->Hp->Prop
 stop:Nat->Hp->Prop
def B3s (X:Cx) (pins:List (Addr×Obj)) (H:Hp) (b:Addr):Prop :=
 H b=none/\b≠X.env.locals/\b∉X.fs/\(b∈X.ex\/X.s₀.heap.objs.size<=b)/\(∀x c,X.env.cells.lookup x=some c->c≠b)/\∀p∈X.pn++pins,p.1≠b
theorem Inv.fpOk {X:Cx} {pins:List (Addr×Obj)} {σ:St} {H H':Hp} {s:Shared} {b:Addr} (I:Inv X pins σ H s) (hb:s.heap.objs.size<=b) (hn:H' b=none):B3s X pins H' b:=by
 refine ⟨hn,Z1q (Z0q I.lt hb),I.nofs hb,.inr (Z1n I.sz hb),λx c e z=> ?_,λp hp z=> ?_⟩
 ·obtain ⟨v,q⟩:=I.cell x c e;exact absurd (Z0q q.lt (by rw [z];exact hb)) (Nat.lt_irrefl _)
 ·exact absurd (Z0q (Z0a (I.pin p hp).1) (by rw [z];exact hb)) (Nat.lt_irrefl _)
structure C4v (P:Program) (w:World) (K:PySem.W.Frag) (tg:Expr) (J:It) (fp:List Addr) (it:Addr) (tn:Nat->Heap->Prop):Prop where
 mem:it∈fp
 obj:∀i h,tn i h->∀b∈fp,∃o,h.get? b=some o/\∀v,o.data≠.cell v
 keep:∀i h h',tn i h->(∀b∈fp,∀o,h.get? b=some o->h'.get? b=some o)->tn i h'
 item:∀(X:Cx),X.prog=P->X.w=w->X.K=K->X.calm=true->∀(i:Nat) (pins:List (Addr×Obj)) (s:Shared) (σ:St) (H:Hp) (E:Value->Shared->Prop),Inv X pins σ H s->(∀b∈fp,B3s X pins H b)->tn i s.heap->J.go i H->
  wpAny (model P w) X.A (pyNext (.ref it)) (λr s1=>∃u,r=some u/\
   wpAny (model P w) X.A (letOwnedTupleGo tg (.ref it) u) (λ_ s2=>∃x H',Inv X pins σ H' s2/\A2v x u/\J.yld i H x H'/\tn (i+1) s2.heap/\∀b∈fp,H' b=none) E s1) E s
 done:∀(X:Cx),X.prog=P->X.w=w->X.K=K->X.calm=true->∀(i:Nat) (pins:List (Addr×Obj)) (s:Shared) (σ:St) (H:Hp) (E:Value->Shared->Prop),Inv X pins σ H s->(∀b∈fp,B3s X pins H b)->tn i s.heap->J.stop i H->
  wpAny (model P w) X.A (pyNext (.ref it)) (λr s1=>r=none/\Inv X pins σ H s1) E s
 self:∀(A:Around) (i:Nat) (s:Shared) (Q:Value->Shared->Prop) (E:Value->Shared->Prop),tn i s.heap->Q (.ref it) s->wpAny (model P w) A (pyIter (.ref it)) Q E s
abbrev TI:=St->Hp->(It->Hp->Prop)->Prop
def PIE (X:Cx) (pins:List (Addr×Obj)) (σ:St) (tg:Expr) (R:It->Hp->Prop) (itv:Value) (s2:Shared):Prop :=
 ∃(it:Addr) (fp:List Addr) (tn:Nat->Heap->Prop) (J:It) (H':Hp),itv= .ref it/\Inv X pins σ H' s2/\C4v X.prog X.w X.K tg J fp it tn/\tn 0 s2.heap/\(∀b∈fp,B3s X pins H' b)/\R J H'
def PI (X:Cx) (tg iter:Expr) (wi:TI):Prop :=
 ∀(pins:List (Addr×Obj)) (s:Shared) (σ:St) (H:Hp) (R:It->Hp->Prop),Inv X pins σ H s->wi σ H R->
  wpAny (model X.prog X.w) X.A (eval iter X.env) (λv s1=>wpAny (model X.prog X.w) X.A (pyIter v) (PIE X pins σ tg R) X.xe s1) X.xe s
theorem B8g {M:Model} {A:Around} {E:Value->Shared->Prop} {s:Shared} {tg:Expr} {it:Addr} {u:Value} {o:Obj} {n:String} {vs:Array Value} {Q:Unit->Shared->Prop} (ho:s.heap.get? it=some o) (hc:o.cls= .type n) (hd:o.data= .fields vs)
  (hn:["enumerate","zip","dict_itemiterator","dict_reverseitemiterator","odict_iterator","itertools.zip_longest","itertools.pairwise"].contains n=false) (hQ:Q () s):wpAny M A (letOwnedTupleGo tg (.ref it) u) Q E s:=by
 unfold letOwnedTupleGo
 cases tg <;> first
  | exact Z04 hQ
  | (cases u <;> first
    | exact Z04 hQ
    | (refine Z00 (wpAny_load ho ?_);rw [hc,hd];show wpAny M A (if (["enumerate","zip","dict_itemiterator","dict_reverseitemiterator","odict_iterator","itertools.zip_longest","itertools.pairwise"].contains n&&vs[0]? == some (rawInt _))=true then _ else _) Q E s;rw [Z0t (by intro h;rw [hn,Bool.false_and] at h;cases h)];exact Z04 hQ))
def Itl (K:PySem.W.Frag) (a:Addr):It :=
 ⟨λi H=>∃xs x,SqL K H a xs/\xs[i]? =some x,λi H x H'=>H'=H/\∀xs,SqL K H a xs->xs[i]? =some x,λi H=>∃xs,SqL K H a xs/\xs.length<=i⟩
def Itt (K:PySem.W.Frag) (a:Addr):It :=
 ⟨λi H=>∃xs x,SqT K H a xs/\xs[i]? =some x,λi H x H'=>H'=H/\∀xs,SqT K H a xs->xs[i]? =some x,λi H=>∃xs,SqT K H a xs/\xs.length<=i⟩
def Itr (lo:Int) (n:Nat):It:=⟨λi _=>i<n,λi H x H'=>H'=H/\x= .int (lo+i),λi _=>n<=i⟩
theorem C1b {P:Program} {w:World} {K:PySem.W.Frag} {tg:Expr} (a it:Addr):C4v P w K tg (Itl K a) [it] it (λi h=>h.IsListIter it a i) where
 mem:=by simp
 obj:=λi h st b hb=>by
  have e:b=it:=by simpa using hb
  subst e;obtain ⟨o,e,c,d⟩:=st;exact ⟨o,e,λv z=>by rw [d] at z;cases z⟩
 keep:=λi h h' st k=>st.at λo e=>k it (by simp) o e
 item:=by
  intro X hP hw hK hc i pins s σ H E I hf st hg;subst hP hw hK;obtain ⟨xs,x,hq,hx⟩:=hg;obtain ⟨its,rv,p,hz⟩:=I.list hq;obtain ⟨u,hu,ru⟩:=rv.get hx;obtain ⟨f0,f1,f2,f3,f4,f5⟩:=hf it (by simp);refine wpAny_pyNext_list_item st p.isList (x:=u) (by simpa using hu) λh' st' sb=> ?_;have I1:Inv X pins σ H { s with heap:=h' }:=I.turned (t':=s.toks) (λb o hb e=>(sb.2 b hb).trans e) f0 f1 f3 f4 f5
  obtain ⟨o,e,c,d⟩:=id st';exact ⟨u,rfl,B8g (s:={ s with heap:=h' }) e c d (by decide) ⟨x,H,I1,ru,⟨rfl,λys hy=>by rw [I.list_inj hy hq];exact hx⟩,st',λb hb=>(hf b hb).1⟩⟩
 done:=by
  intro X hP hw hK hc i pins s σ H E I hf st hg;subst hP hw hK;obtain ⟨xs,hq,hx⟩:=hg;obtain ⟨its,rv,p,hz⟩:=I.list hq;obtain ⟨f0,f1,f2,f3,f4,f5⟩:=hf it (by simp);have hl:=rv.length;exact wpAny_pyNext_list_end (I.ok.hd hc) st p.isList (by simp;omega) λh' eb=>⟨rfl,I.turned (t':=s.toks) (λb o hb e=>eb b o hb e) f0 f1 f3 f4 f5⟩
 self:=λ_ _ _ _ _ st h=>wpAny_pyIter_listiter st h
theorem B7s {P:Program} {w:World} {K:PySem.W.Frag} {tg:Expr} (a it:Addr):C4v P w K tg (Itt K a) [it] it (λi h=>h.IsTupleIter it a i) where
 mem:=by simp
 obj:=λi h st b hb=>by
  have e:b=it:=by simpa using hb
  subst e;obtain ⟨o,e,c,d⟩:=st;exact ⟨o,e,λv z=>by rw [d] at z;cases z⟩
 keep:=λi h h' st k=>st.at λo e=>k it (by simp) o e
 item:=by
  intro X hP hw hK hc i pins s σ H E I hf st hg;subst hP hw hK;obtain ⟨xs,x,hq,hx⟩:=hg;obtain ⟨its,rv,p,hz⟩:=I.tuple hq;obtain ⟨u,hu,ru⟩:=rv.get hx;obtain ⟨f0,f1,f2,f3,f4,f5⟩:=hf it (by simp);refine wpAny_pyNext_tuple_item st (show s.heap.IsTuple a its.toArray from p) (x:=u) (by simpa using hu) λh' st' sb=> ?_;have I1:Inv X pins σ H { s with heap:=h' }:=I.turned (t':=s.toks) (λb o hb e=>(sb.2 b hb).trans e) f0 f1 f3 f4 f5
  obtain ⟨o,e,c,d⟩:=id st';exact ⟨u,rfl,B8g (s:={ s with heap:=h' }) e c d (by decide) ⟨x,H,I1,ru,⟨rfl,λys hy=>by rw [I.tuple_inj hy hq];exact hx⟩,st',λb hb=>(hf b hb).1⟩⟩
 done:=by
  intro X hP hw hK hc i pins s σ H E I hf st hg;subst hP hw hK;obtain ⟨xs,hq,hx⟩:=hg;obtain ⟨its,rv,p,hz⟩:=I.tuple hq;obtain ⟨f0,f1,f2,f3,f4,f5⟩:=hf it (by simp);have hl:=rv.length;exact wpAny_pyNext_tuple_end (I.ok.hd hc) st (show s.heap.IsTuple a its.toArray from p) (by simp;omega) λh' eb=>⟨rfl,I.turned (t':=s.toks) (λb o hb e=>eb b o hb e) f0 f1 f3 f4 f5⟩
 self:=λ_ _ _ _ _ st h=>wpAny_pyIter_tupleiter st h
theorem B7w {P:Program} {w:World} {K:PySem.W.Frag} {tg:Expr} (it:Addr) (lo:Int) (n:Nat):C4v P w K tg (Itr lo n) [it] it (λi h=>IsRangeIter h it (lo+(i:Nat)*1) ((n:Int)-(i:Nat)) 1) where
 mem:=by simp
 obj:=λi h st b hb=>by
  have e:b=it:=by simpa using hb
  subst e
  exact ⟨_,st,λv z=>by
   have z':Data.fields _=Data.cell v:=z
   cases z'⟩
 keep:=λi h h' st k=>k it (by simp) _ st
 item:=by
  intro X hP hw hK hc i pins s σ H E I hf st hg;subst hP hw hK;obtain ⟨f0,f1,f2,f3,f4,f5⟩:=hf it (by simp);have W:=Walks.range (prog:=X.prog) (w:=X.w) (I.ok.hd hc) it lo 1 n;refine W.item i s _ _ hg st λv h' tk hv st' kk=> ?_;obtain ⟨t,rfl⟩:=hv;have I1:Inv X pins σ H { s with heap:=h',toks:=tk }:=I.turned (λb o hb e=>kk b o (by simpa using hb) e) f0 f1 f3 f4 f5
  refine ⟨_,rfl,B8g (s:={ s with heap:=h',toks:=tk }) (n:="range_iterator") st' rfl rfl (by decide) ⟨.int (lo+i),H,I1,⟨t,?_⟩,⟨rfl,rfl⟩,st',λb hb=>(hf b hb).1⟩⟩
  rw [Int.mul_one]
 done:=by
  intro X hP hw hK hc i pins s σ H E I hf st hg;subst hP hw hK;obtain ⟨f0,f1,f2,f3,f4,f5⟩:=hf it (by simp);exact wpAny_pyNext_range_end (I.ok.hd hc) st (by have:n<=i:=hg;omega) λh' eb=>⟨rfl,I.turned (t':=s.toks) (λb o hb e=>eb b o hb e) f0 f1 f3 f4 f5⟩
 self:=λ_ _ _ _ _ st h=>wpAny_pyIter_rangeiter st h
section
variable {X:Cx} {tg:Expr}
def C9j (K:PySem.W.Frag) (tl:TE):TI:=λσ H R=>tl σ H λx H1=>∃a,x= .ref a/\(∃xs,SqL K H1 a xs)/\R (Itl K a) H1
def D2c (K:PySem.W.Frag) (tl:TE):TI:=λσ H R=>tl σ H λx H1=>∃a,x= .ref a/\(∃xs,SqT K H1 a xs)/\R (Itt K a) H1
theorem A3e {l:Expr} {tl:TE} (hl:PE X l tl):PI X tg l (C9j X.K tl):=by
 intro pins s σ H R I h;refine thn (hl pins s σ H _ I h) λv s1 ⟨x,H1,I1,r1,q1⟩=> ?_;obtain ⟨a,e,⟨xs,hq⟩,q⟩:=q1;subst e;cases r1;obtain ⟨its,rv,p,hz⟩:=I1.list hq;refine wpAny_pyIter_list p.isList ?_;refine ⟨s1.heap.objs.size,[s1.heap.objs.size],_,_,H1,rfl,I1.kept (t':=s1.toks) λb o e=>Z01 _ e,C1b a _,⟨_,Z0c _ rfl,rfl,rfl⟩,λb hb=> ?_,q⟩;have e:b=s1.heap.objs.size:=by simpa using hb
 subst e;exact I1.fpOk (Z09 _) (I1.hok.fresh (Z09 _))
theorem C9b {l:Expr} {tl:TE} (hl:PE X l tl):PI X tg l (D2c X.K tl):=by
 intro pins s σ H R I h;refine thn (hl pins s σ H _ I h) λv s1 ⟨x,H1,I1,r1,q1⟩=> ?_;obtain ⟨a,e,⟨xs,hq⟩,q⟩:=q1;subst e;cases r1;obtain ⟨its,rv,p,hz⟩:=I1.tuple hq;refine wpAny_pyIter_tuple (show s1.heap.IsTuple a its.toArray from p) ?_;refine ⟨s1.heap.objs.size,[s1.heap.objs.size],_,_,H1,rfl,I1.kept (t':=s1.toks) λb o e=>Z01 _ e,B7s a _,⟨_,Z0c _ rfl,rfl,rfl⟩,λb hb=> ?_,q⟩;have e:b=s1.heap.objs.size:=by simpa using hb
 subst e;exact I1.fpOk (Z09 _) (I1.hok.fresh (Z09 _))
theorem C2t {pins:List (Addr×Obj)} {σ:St} {H:Hp} {s:Shared} {R:It->Hp->Prop} {E:Value->Shared->Prop} {lo hi:Int} {t u v:Tok} {tk:Nat} (I:Inv X pins σ H s) (h1: -(2^62)<=lo) (h2:lo<2^62) (h3: -(2^62)<=hi) (h4:hi<2^62)
  (q:R (Itr lo (hi-lo).toNat) H):wpAny (model X.prog X.w) X.A (pyIter (.ref s.heap.objs.size)) (PIE X pins σ tg R) E { s with heap:=s.heap.push { cls:= .type "range",data:= .fields #[.int lo t,.int hi u,.int 1 v] },toks:=tk }:=by
 refine wpAny_pyIter_range (IsRange.new ..) (small_one h1 h2 h3 h4) ?_;have I1:Inv X pins σ H { s with heap:=s.heap.push { cls:= .type "range",data:= .fields #[.int lo t,.int hi u,.int 1 v] },toks:=tk }:=I.kept λb o e=>Z01 _ e
 refine ⟨(s.heap.push { cls:= .type "range",data:= .fields #[.int lo t,.int hi u,.int 1 v] }).objs.size,[(s.heap.push { cls:= .type "range",data:= .fields #[.int lo t,.int hi u,.int 1 v] }).objs.size],_,_,H,rfl,
  I1.kept (t':=tk) λb o e=>Z01 _ e,B7w _ lo (hi-lo).toNat,?_,λb hb=> ?_,q⟩
 ·have e1:lo+((0:Nat):Int)*1=lo:=by simp
  have e2:(((hi-lo).toNat:Nat):Int)-((0:Nat):Int)=Builtin.Range.rangeSize lo hi 1:=by rw [rangeSize_one];split <;> omega
  show IsRangeIter _ _ (lo+((0:Nat):Int)*1) ((((hi-lo).toNat:Nat):Int)-((0:Nat):Int)) 1;rw [e1,e2];exact Z0c _ rfl
 ·have e:b=(s.heap.push { cls:= .type "range",data:= .fields #[.int lo t,.int hi u,.int 1 v] }).objs.size:=by simpa using hb
  subst e;exact I1.fpOk (Z09 _) (I1.hok.fresh (Z09 _))
def D1q (ta:TA):TI:=λσ H R=>ta σ H λvs H1=>∃j:Int,vs=[.int j]/\-(2^62)<=j/\j<2^62/\R (Itr 0 j.toNat) H1
theorem A3k {a:Expr} {ta:TA} {p pos:Pos} (hg:Gl X "range") (hm:X.mg "range"=none) (ha:PA X [a] ta) (hs:starEach [a] X.env=[(false,eval a X.env)]:=by rfl):PI X tg (.Call (.Name "range" p) [a] [] pos) (D1q ta):=by
 intro pins s σ H R I h;refine Call_ (B1v I hg hm boot_range (PyProof.Rows.callWith_type1 (thn (ha pos pins s σ H _ I h) λus s1 ⟨vs,H1,I1,r1,q1⟩=> ?_) hs rfl));obtain ⟨j,e,q1,q2,q⟩:=q1;subst e
 cases r1 with
 | cons r rr =>
  cases rr
  obtain ⟨t,rfl⟩:=r;exact call_range_1 (C2t I1 (by omega) (by omega) q1 q2 (by simpa using q))
def tFor (wi:TI) (g:TG) (tb:TS):TS:=λD σ H=>wi σ H λJ H1=>∃W:Nat->Nat->St->Hp->Prop,(∃m,W 0 m σ H1)/\∀i m σ H,W i m σ H->
 (J.stop i H/\D.nx σ H)\/(J.go i H/\∃N:St->Hp->Prop,(∀σ' H',N σ' H'->∃m',m'<m/\W (i+1) m' σ' H')/\∀x H',J.yld i H x H'->g x σ H' λσ2 H2=>tb { D with nx:=N,ct:=N,bk:=D.nx } σ2 H2)
def B3j (fp:List Addr) (h:Heap):List (Addr×Obj):=fp.filterMap λb=>(h.get? b).map λo=>(b,o)
theorem A4f {fp:List Addr} {h:Heap} {b:Addr} {o:Obj} (hb:b∈fp) (e:h.get? b=some o):(b,o)∈B3j fp h:=List.mem_filterMap.mpr ⟨b,hb,by rw [e];rfl⟩
theorem C0d {fp:List Addr} {h:Heap} {p:Addr×Obj} (hp:p∈B3j fp h):p.1∈fp/\h.get? p.1=some p.2:=by
 obtain ⟨b,hb,e⟩:=List.mem_filterMap.mp hp
 cases q:h.get? b with
 | none=>rw [q] at e;cases e
 | some o =>
  rw [q] at e;have e':(b,o)=p:=Z1a e;subst e';exact ⟨hb,q⟩
theorem Inv.pinned {pins:List (Addr×Obj)} {σ:St} {H:Hp} {s:Shared} {fp:List Addr} (I:Inv X pins σ H s) (hf:∀b∈fp,B3s X pins H b) (ho:∀b∈fp,∃o,s.heap.get? b=some o/\∀v,o.data≠.cell v):Inv X (pins++B3j fp s.heap) σ H s :=
 I.pins_of λp hp=>(Z07.mp hp).elim (λz=>I.pin p (Z02 _ z)) λz=>by
  obtain ⟨hb,e⟩:=C0d z;obtain ⟨f0,f1,f2,_⟩:=hf p.1 hb;obtain ⟨o,e',d⟩:=ho p.1 hb;rw [e] at e';cases e';exact ⟨e,f0,f1,f2,d⟩
theorem Inv.unpinned {pins pl:List (Addr×Obj)} {σ:St} {H:Hp} {s:Shared} (I:Inv X (pins++pl) σ H s):Inv X pins σ H s:=I.pins_of λp hp=>I.pin p (Z02 _ (Z05 _ hp))
theorem A4n {iter:Expr} {body:List Stmt} {wi:TI} {g:TG} {tb:TS} {pos:Pos} (hp:PassesOwn (model X.prog X.w) X.A X.env X.xe) (hc:X.calm=true) (hi:PI X tg iter wi) (hg:PG X tg g) (hb:PSs X body tb)
  (hs:∀x,foldedSetIterable iter X.env x=pure x:=by intro _;rfl):PS X (.For tg iter body [] pos) (tFor wi g tb):=by
 intro pins s σ H D I h;refine wpAny_For (thn (hi pins s σ H _ I h) λv s1 h1=>thn h1 λitv s2 h2=> ?_) hs;obtain ⟨it,fp,tn,J,H2,e,I2,T,st2,f2,W,⟨m0,w0⟩,turn⟩:=h2;subst e;have stat:∀{H':Hp},(∀b∈fp,H' b=none)->∀b∈fp,B3s X pins H' b:=λhn b hb=>⟨hn b hb,(f2 b hb).2⟩;refine codeAny_forLoop_any (λn s'=>∃i σ' H',Inv X pins σ' H' s'/\tn i s'.heap/\(∀b∈fp,H' b=none)/\W i n σ' H') ?_ m0 ⟨0,σ,H2,I2,st2,λb hb=>(f2 b hb).1,w0⟩;rintro n s3 ⟨i,σ3,H3,I3,st3,fr3,w3⟩;rcases turn i n σ3 H3 w3 with ⟨stop,qn⟩ | ⟨go,N,hN,step⟩
 ·refine wpAny_passesOwn hp (thn (T.done X rfl rfl rfl hc i pins s3 σ3 H3 X.xe I3 (stat fr3) st3 stop) λr s4 ⟨hr,I4⟩=> ?_);subst hr;exact Z2b ⟨σ3,H3,I4,qn⟩
 ·refine wpAny_passesOwn hp (thn (T.item X rfl rfl rfl hc i pins s3 σ3 H3 X.xe I3 (stat fr3) st3 go) λr s4 ⟨u,hr,h4⟩=> ?_);subst hr;refine wpAny_passesOwn hp (thn h4 λ_ s5 ⟨x,H5,I5,r5,y5,st5,fr5⟩=> ?_);have I5':=I5.pinned (stat fr5) (T.obj _ _ st5);refine wpAny_passesOwn hp (thn (hg _ s5 σ3 H5 x u _ I5' r5 (step x H5 y5)) λ_ s6 ⟨σ6,H6,I6,q6⟩=> ?_);refine wpAny_passesOwn hp (thn (hb _ s6 σ6 H6 _ I6 q6) λf s7 q7=> ?_)
  have again:∀{σ7:St} {H7:Hp},Inv X (pins++B3j fp s5.heap) σ7 H7 s7->N σ7 H7->∃m,m<n/\∃i σ' H',Inv X pins σ' H' s7/\tn i s7.heap/\(∀b∈fp,H' b=none)/\W i m σ' H':=λ{σ7 H7} I7 n7=>by
   obtain ⟨m',hm,w7⟩:=hN σ7 H7 n7;refine ⟨m',hm,i+1,σ7,H7,I7.unpinned,T.keep _ _ _ st5 λb hb o e=>(I7.pin (b,o) (Z02 _ (Z02 _ (A4f hb e)))).1,λb hb=> ?_,w7⟩;obtain ⟨o,e,d⟩:=T.obj _ _ st5 b hb;exact (I7.pin (b,o) (Z02 _ (Z02 _ (A4f hb e)))).2.1
  cases f with
  | next=>obtain ⟨σ7,H7,I7,n7⟩:=q7;exact again I7 n7
  | cont=>obtain ⟨σ7,H7,I7,n7⟩:=q7;exact again I7 n7
  | brk=>obtain ⟨σ7,H7,I7,q7⟩:=q7;exact ⟨σ7,H7,I7.unpinned,q7⟩
  | ret v=>obtain ⟨x7,σ7,H7,I7,r7,q7⟩:=q7;exact ⟨x7,σ7,H7,I7.unpinned,r7,q7⟩
end
theorem A3r {K:PySem.W.Frag} {a:Addr} {xs:List V} {g:TG} {tb:TS} {D:B7u} {σ:St} {H:Hp} (Pv:Nat->St->Hp->Prop) (h0:Pv 0 σ H) (hl:∀i σ H,i<=xs.length->Pv i σ H->SqL K H a xs)
  (hs:∀i x σ H,xs[i]? =some x->Pv i σ H->g x σ H λσ2 H2=>tb { D with nx:=Pv (i+1),ct:=Pv (i+1),bk:=D.nx } σ2 H2) (hd:∀σ H,Pv xs.length σ H->D.nx σ H) :
  ∃W:Nat->Nat->St->Hp->Prop,(∃m,W 0 m σ H)/\∀i m σ H,W i m σ H->
   ((Itl K a).stop i H/\D.nx σ H)\/((Itl K a).go i H/\∃N:St->Hp->Prop,(∀σ' H',N σ' H'->∃m',m'<m/\W (i+1) m' σ' H')/\∀x H',(Itl K a).yld i H x H'->g x σ H' λσ2 H2=>tb { D with nx:=N,ct:=N,bk:=D.nx } σ2 H2):=by
 refine ⟨λi m σ H=>m=xs.length-i/\i<=xs.length/\Pv i σ H,⟨xs.length,by simp,Z1e _,h0⟩,?_⟩;rintro i m σ H ⟨rfl,hi,p⟩;have q:=hl i σ H hi p;by_cases hlt:i<xs.length
 ·refine .inr ⟨⟨xs,xs[i],q,by simp [hlt]⟩,Pv (i+1),λσ' H' p'=>⟨xs.length-(i+1),by omega,rfl,hlt,p'⟩,λx H' y=> ?_⟩;obtain ⟨e,y⟩:=y;subst e;exact hs i x σ _ (y xs q) p
 ·have e:i=xs.length:=by omega
  subst e;exact .inl ⟨⟨xs,q,Z09 _⟩,hd σ H p⟩
theorem B3y {lo:Int} {n:Nat} {g:TG} {tb:TS} {D:B7u} {σ:St} {H:Hp} (Pv:Nat->St->Hp->Prop) (h0:Pv 0 σ H)
  (hs:∀i σ H,i<n->Pv i σ H->g (.int (lo+i)) σ H λσ2 H2=>tb { D with nx:=Pv (i+1),ct:=Pv (i+1),bk:=D.nx } σ2 H2) (hd:∀σ H,Pv n σ H->D.nx σ H) :
  ∃W:Nat->Nat->St->Hp->Prop,(∃m,W 0 m σ H)/\∀i m σ H,W i m σ H->
   ((Itr lo n).stop i H/\D.nx σ H)\/((Itr lo n).go i H/\∃N:St->Hp->Prop,(∀σ' H',N σ' H'->∃m',m'<m/\W (i+1) m' σ' H')/\∀x H',(Itr lo n).yld i H x H'->g x σ H' λσ2 H2=>tb { D with nx:=N,ct:=N,bk:=D.nx } σ2 H2):=by
 refine ⟨λi m σ H=>m=n-i/\i<=n/\Pv i σ H,⟨n,by simp,Z1e _,h0⟩,?_⟩;rintro i m σ H ⟨rfl,hi,p⟩;by_cases hlt:i<n
 ·refine .inr ⟨hlt,Pv (i+1),λσ' H' p'=>⟨n-(i+1),by omega,rfl,hlt,p'⟩,λx H' y=> ?_⟩;obtain ⟨e,y⟩:=y;subst e y;exact hs i σ _ hlt p
 ·have e:i=n:=by omega
  subst e;exact .inl ⟨Z09 _,hd σ H p⟩
abbrev R2:=V->V->Hp->VK->Prop
def OpR (X:Cx) (f:Value->Value->Sem Value) (r:R2):Prop :=
 ∀(pins:List (Addr×Obj)) (s:Shared) (σ:St) (H:Hp) (x y:V) (v u:Value) (Q:VK),Inv X pins σ H s->A2v x v->A2v y u->r x y H Q->
  wpAny (model X.prog X.w) X.A (f v u) (EP X pins σ Q) X.xe s
def UnR (X:Cx) (f:Value->Sem Value) (r:V->Hp->VK->Prop):Prop :=
 ∀(pins:List (Addr×Obj)) (s:Shared) (σ:St) (H:Hp) (x:V) (v:Value) (Q:VK),Inv X pins σ H s->A2v x v->r x H Q->
  wpAny (model X.prog X.w) X.A (f v) (EP X pins σ Q) X.xe s
def A7h (X:Cx) (f:Value) (r:List V->Hp->VK->Prop):Prop :=
 ∀(pins:List (Addr×Obj)) (s:Shared) (σ:St) (H:Hp) (xs:List V) (us:List Value) (Q:VK),Inv X pins σ H s->A3a xs us->r xs H Q->
  wpAny (model X.prog X.w) X.A (call f us) (EP X pins σ Q) X.xe s
def tOp (r:R2) (ta tb:TE):TE:=λσ H Q=>ta σ H λx H1=>tb σ H1 λy H2=>r x y H2 Q
def tUn (r:V->Hp->VK->Prop) (ta:TE):TE:=λσ H Q=>ta σ H λx H1=>r x H1 Q
def rI (C:Int->Int->Prop) (g:Int->Int->V):R2:=λx y H Q=>∃i j,x= .int i/\y= .int j/\C i j/\Q (g i j) H
def rI0 (g:Int->Int->V):R2:=λx y H Q=>∃i j,x= .int i/\y= .int j/\Q (g i j) H
def rU (g:Int->V):V->Hp->VK->Prop:=λx H Q=>∃i,x= .int i/\Q (g i) H
section
variable {X:Cx} {a b c:Expr} {ta tb tc:TE} {pos:Pos}
theorem D0t (ha:PE X a ta) (hb:PE X b tb) {pins:List (Addr×Obj)} {s:Shared} {σ:St} {H:Hp} {R:V->V->Hp->Prop} (I:Inv X pins σ H s)
  (h:ta σ H λx H1=>tb σ H1 λy H2=>R x y H2) {Q:Value->Shared->Prop} {f:Value->Value->Sem Value}
  (hf:∀v u s2 x y H2,Inv X pins σ H2 s2->A2v x v->A2v y u->R x y H2->wpAny (model X.prog X.w) X.A (f v u) Q X.xe s2) :
  wpAny (model X.prog X.w) X.A (eval a X.env) (λv s₁=>wpAny (model X.prog X.w) X.A (eval b X.env) (λu s₂=>wpAny (model X.prog X.w) X.A (f v u) Q X.xe s₂) X.xe s₁) X.xe s:=by
 refine thn (ha pins s σ H _ I h) λv s1 ⟨x,H1,I1,r1,q1⟩=> ?_;refine thn (hb pins s1 σ H1 _ I1 q1) λu s2 ⟨y,H2,I2,r2,q2⟩=> ?_;exact hf v u s2 x y H2 I2 r1 r2 q2
theorem A0y {op:Operator} {r:R2} (ho:OpR X (binaryOp op) r) (ha:PE X a ta) (hb:PE X b tb):PE X (.BinOp a op b pos) (tOp r ta tb):=by
 intro pins s σ H Q I h;exact wpAny_BinOp (D0t ha hb I h λv u s2 x y H2 I2 rx ry q=>ho pins s2 σ H2 x y v u Q I2 rx ry q)
theorem D0j {op:UnaryOp} {r:V->Hp->VK->Prop} (ho:UnR X (unaryOp op) r) (ha:PE X a ta):PE X (.UnaryOp op a pos) (tUn r ta):=by
 intro pins s σ H Q I h;exact UnaryOp_ (thn (ha pins s σ H _ I h) λv s1 ⟨x,H1,I1,r1,q1⟩=>ho pins s1 σ H1 x v Q I1 r1 q1)
theorem opI {f:Value->Value->Sem Value} {C:Int->Int->Prop} {g:Int->Int->Int}
  (rule:∀(i j:Int) (t u:Tok) (s:Shared) (Q:Value->Shared->Prop) (E:Value->Shared->Prop),C i j->Q (.int (g i j) s.toks) { s with toks:=s.toks+1 }->wpAny (model X.prog X.w) X.A (f (.int i t) (.int j u)) Q E s) :
  OpR X f (rI C λi j=> .int (g i j)):=by
 intro pins s σ H x y v u Q I rx ry h;obtain ⟨i,j,rfl,rfl,hc,q⟩:=h;obtain ⟨t,rfl⟩:=rx;obtain ⟨t',rfl⟩:=ry;exact rule i j t t' s _ _ hc ⟨.int (g i j),H,I.tok _,⟨_,rfl⟩,q⟩
theorem D1y {f:Value->Value->Sem Value} {g:Int->Int->Int}
  (rule:∀(i j:Int) (t u:Tok) (s:Shared) (Q:Value->Shared->Prop) (E:Value->Shared->Prop),Q (.int (g i j) s.toks) { s with toks:=s.toks+1 }->wpAny (model X.prog X.w) X.A (f (.int i t) (.int j u)) Q E s) :
  OpR X f (rI0 λi j=> .int (g i j)):=by
 intro pins s σ H x y v u Q I rx ry h;obtain ⟨i,j,rfl,rfl,q⟩:=h;obtain ⟨t,rfl⟩:=rx;obtain ⟨t',rfl⟩:=ry;exact rule i j t t' s _ _ ⟨.int (g i j),H,I.tok _,⟨_,rfl⟩,q⟩
theorem D1d {f:Value->Value->Sem Value} {g:Int->Int->Bool}
  (rule:∀(i j:Int) (t u:Tok) (s:Shared) (Q:Value->Shared->Prop) (E:Value->Shared->Prop),Q (.bool (g i j)) s->wpAny (model X.prog X.w) X.A (f (.int i t) (.int j u)) Q E s) :
  OpR X f (rI0 λi j=> .bl (g i j)):=by
 intro pins s σ H x y v u Q I rx ry h;obtain ⟨i,j,rfl,rfl,q⟩:=h;obtain ⟨t,rfl⟩:=rx;obtain ⟨t',rfl⟩:=ry;exact rule i j t t' s _ _ ⟨.bl (g i j),H,I,rfl,q⟩
def CDiv (i j:Int):Prop:=0<j/\j<1073741824
def CPow (i j:Int):Prop:=0<=j/\j<=1000000/\i.natAbs<2^64
def D0p (i j:Int):Prop:=(-(2^64)<i/\i<2^64)\/(-(2^64)<j/\j<2^64)
theorem D0p.ok {i j:Int} (h:D0p i j):IntMulOk i j:=by
 rcases h with ⟨h1,h2⟩ | ⟨h1,h2⟩
 ·exact .of_left (intBits_le_64 h1 h2)
 ·exact .of_right (intBits_le_64 h1 h2)
theorem A5k:OpR X (binaryOp .Add) (rI0 λi j=> .int (i+j)):=D1y λ_ _ _ _ _ _ _ q=>add_int q
theorem A6i:OpR X (binaryOp .Sub) (rI0 λi j=> .int (i-j)):=D1y λ_ _ _ _ _ _ _ q=>sub_int q
theorem B1p:OpR X (binaryOp .Mult) (rI D0p λi j=> .int (i*j)):=opI λ_ _ _ _ _ _ _ hc q=>mul_int q hc.ok
theorem A2o:OpR X (binaryOp .FloorDiv) (rI CDiv λi j=> .int (i/j)):=opI λi j _ _ _ _ _ hc q=>by
 have h1:(0:Int)<j:=hc.1;have h2:j<1073741824:=hc.2;exact floordiv_int (by omega) (by rw [Int.fdiv_eq_ediv_of_nonneg i (by omega)];exact q) (.inl (PyProof.noPylong_small (by omega)))
theorem A2a:OpR X (binaryOp .Mod) (rI (λ_ j=>0<j) λi j=> .int (i%j)):=opI λi j _ _ _ _ _ hc q=>by
 have h1:(0:Int)<j:=hc;exact mod_int' (by omega) (by rw [Int.fmod_eq_emod_of_nonneg i (by omega)];exact q)
theorem A9o:OpR X (binaryOp .Pow) (rI CPow λi j=> .int (i^j.toNat)):=opI λ_ _ _ _ _ _ _ hc q=>pow_int_small hc.1 hc.2.1 hc.2.2 q
theorem unI {f:Value->Sem Value} {g:Int->Int}
  (rule:∀(i:Int) (t:Tok) (s:Shared) (Q:Value->Shared->Prop) (E:Value->Shared->Prop),Q (.int (g i) s.toks) { s with toks:=s.toks+1 }->wpAny (model X.prog X.w) X.A (f (.int i t)) Q E s) :
  UnR X f (rU λi=> .int (g i)):=by
 intro pins s σ H x v Q I rx h;obtain ⟨i,rfl,q⟩:=h;obtain ⟨t,rfl⟩:=rx;exact rule i t s _ _ ⟨.int (g i),H,I.tok _,⟨_,rfl⟩,q⟩
theorem C9v:UnR X (unaryOp .USub) (rU λi=> .int (-i)):=unI λ_ _ _ _ _ q=>neg_int q
end
def D1x:V->V->Bool
 | .non,.non=>true | .non,.int _=>true | .int _,.non=>true | .non,.bl _=>true | .bl _,.non=>true | .non,.str _=>true | .str _,.non=>true
 | .int _,.int _=>true | .bl _,.bl _=>true | .str _,.str _=>true | .byt _,.byt _=>true
 | .int _,.str _=>true | .str _,.int _=>true | .bl _,.str _=>true | .str _,.bl _=>true
 | _,_=>false
def rEq:R2:=λx y H Q=>D1x x y=true/\Q (.bl (decide (x=y))) H
def rNe:R2:=λx y H Q=>D1x x y=true/\Q (.bl (!decide (x=y))) H
theorem C0s {i j:Int}:decide (V.int i=V.int j)=(i == j):=by
 rw [Bool.eq_iff_iff];simp
theorem C4s {i j:Bool}:decide (V.bl i=V.bl j)=(i == j):=by
 rw [Bool.eq_iff_iff];simp
theorem C0q {i j:Str}:decide (V.str i=V.str j)=(i == j):=by
 rw [Bool.eq_iff_iff];simp
theorem B8v {i j:Array UInt8}:decide (V.byt i=V.byt j)=(i.toList == j.toList):=by
 rw [Bool.eq_iff_iff];cases i;cases j;simp
section
variable {X:Cx} {a b c:Expr} {ta tb tc:TE} {pos:Pos}
theorem A1z {pins:List (Addr×Obj)} {σ:St} {H:Hp} {s:Shared} {Q:VK} {k k':Bool} (I:Inv X pins σ H s) (q:Q (.bl k) H) (e:k=k'):EP X pins σ Q (.bool k') s:=by
 subst e;exact ⟨.bl k,H,I,rfl,q⟩
theorem A2s:OpR X (compareOp .Eq) rEq:=by
 intro pins s σ H x y v u Q I rx ry h;obtain ⟨hs,q⟩:=h
 cases x with
 | non =>
  cases rx
  cases y with
  | non=>cases ry;exact PySem.EqNone.eq_none_none (A1z I q (by simp))
  | bl j=>cases ry;exact PySem.EqNone.eq_none_bool (A1z I q (by simp))
  | int j=>obtain ⟨t',rfl⟩:=ry;exact PySem.EqNone.eq_none_int (A1z I q (by simp))
  | str j=>obtain ⟨t',rfl⟩:=ry;exact PySem.EqNone.eq_none_str (A1z I q (by simp))
  | _=>exact absurd (show false=true from hs) Z0v
 | bl i =>
  cases rx
  cases y with
  | non=>cases ry;exact PySem.EqNone.eq_bool_none (A1z I q (by simp))
  | bl j=>cases ry;exact eq_bool (A1z I q C4s)
  | str j=>obtain ⟨t',rfl⟩:=ry;exact PySem.EqMixed.eq_bool_str (A1z I q (by simp))
  | _=>exact absurd (show false=true from hs) Z0v
 | int i =>
  obtain ⟨t,rfl⟩:=rx
  cases y with
  | non=>cases ry;exact PySem.EqNone.eq_int_none (A1z I q (by simp))
  | int j=>obtain ⟨t',rfl⟩:=ry;exact eq_int (A1z I q C0s)
  | str j=>obtain ⟨t',rfl⟩:=ry;exact PySem.EqMixed.eq_int_str (A1z I q (by simp))
  | _=>exact absurd (show false=true from hs) Z0v
 | str i =>
  obtain ⟨t,rfl⟩:=rx
  cases y with
  | non=>cases ry;exact PySem.EqNone.eq_str_none (A1z I q (by simp))
  | bl j=>cases ry;exact PySem.EqMixed.eq_str_bool (A1z I q (by simp))
  | int j=>obtain ⟨t',rfl⟩:=ry;exact PySem.EqMixed.eq_str_int (A1z I q (by simp))
  | str j=>obtain ⟨t',rfl⟩:=ry;exact eq_str (A1z I q C0q)
  | _=>exact absurd (show false=true from hs) Z0v
 | byt i =>
  obtain ⟨t,rfl⟩:=rx
  cases y with
  | byt j=>obtain ⟨t',rfl⟩:=ry;exact PySem.W.eq_bytes (A1z I q B8v)
  | _=>exact absurd (show false=true from hs) Z0v
 | _=>cases y <;> exact absurd (show false=true from hs) Z0v
theorem B1d:OpR X (compareOp .NotEq) rNe:=by
 intro pins s σ H x y v u Q I rx ry h;obtain ⟨hs,q⟩:=h
 cases x with
 | non =>
  cases rx
  cases y with
  | non=>cases ry;exact PySem.EqNone.ne_none_none (A1z I q (by simp))
  | bl j=>cases ry;exact PySem.EqNone.ne_none_bool (A1z I q (by simp))
  | int j=>obtain ⟨t',rfl⟩:=ry;exact PySem.EqNone.ne_none_int (A1z I q (by simp))
  | str j=>obtain ⟨t',rfl⟩:=ry;exact PySem.EqNone.ne_none_str (A1z I q (by simp))
  | _=>exact absurd (show false=true from hs) Z0v
 | bl i =>
  cases rx
  cases y with
  | non=>cases ry;exact PySem.EqNone.ne_bool_none (A1z I q (by simp))
  | bl j=>cases ry;exact ne_bool (A1z I q (congrArg not C4s))
  | str j=>obtain ⟨t',rfl⟩:=ry;exact PySem.EqMixed.ne_bool_str (A1z I q (by simp))
  | _=>exact absurd (show false=true from hs) Z0v
 | int i =>
  obtain ⟨t,rfl⟩:=rx
  cases y with
  | non=>cases ry;exact PySem.EqNone.ne_int_none (A1z I q (by simp))
  | int j=>obtain ⟨t',rfl⟩:=ry;exact ne_int (A1z I q (congrArg not C0s))
  | str j=>obtain ⟨t',rfl⟩:=ry;exact PySem.EqMixed.ne_int_str (A1z I q (by simp))
  | _=>exact absurd (show false=true from hs) Z0v
 | str i =>
  obtain ⟨t,rfl⟩:=rx
  cases y with
  | non=>cases ry;exact PySem.EqNone.ne_str_none (A1z I q (by simp))
  | bl j=>cases ry;exact PySem.EqMixed.ne_str_bool (A1z I q (by simp))
  | int j=>obtain ⟨t',rfl⟩:=ry;exact PySem.EqMixed.ne_str_int (A1z I q (by simp))
  | str j=>obtain ⟨t',rfl⟩:=ry;exact ne_str (A1z I q (congrArg not C0q))
  | _=>exact absurd (show false=true from hs) Z0v
 | byt i =>
  obtain ⟨t,rfl⟩:=rx
  cases y with
  | byt j=>obtain ⟨t',rfl⟩:=ry;exact PySem.W.ne_bytes (A1z I q (congrArg not B8v))
  | _=>exact absurd (show false=true from hs) Z0v
 | _=>cases y <;> exact absurd (show false=true from hs) Z0v
theorem D1g:OpR X (compareOp .Lt) (rI0 λi j=> .bl (decide (i<j))):=D1d λ_ _ _ _ _ _ _ q=>lt_int q
theorem D0e:OpR X (compareOp .LtE) (rI0 λi j=> .bl (decide (i<=j))):=D1d λ_ _ _ _ _ _ _ q=>le_int q
theorem C3f:OpR X (compareOp .Gt) (rI0 λi j=> .bl (decide (j<i))):=D1d λ_ _ _ _ _ _ _ q=>gt_int q
theorem C8l:OpR X (compareOp .Is) (λx y H Q=>y= .non/\Q (.bl (decide (x= .non))) H):=by
 intro pins s σ H x y v u Q I rx ry h;obtain ⟨rfl,q⟩:=h;cases ry;refine is_none_gen (A1z I q ?_)
 cases x <;> first
  | (cases rx;rfl)
  | (obtain ⟨t,rfl⟩:=rx;rfl)
theorem A1c (b:Expr) {op:CmpOp} (h:op≠.In:=by decide) (h2:op≠.NotIn:=by decide):behindInMarks op b=false:=by
 have e1:(op == CmpOp.In)=false:=by cases op <;> first | rfl | exact absurd rfl h
 have e2:(op == CmpOp.NotIn)=false:=by cases op <;> first | rfl | exact absurd rfl h2
 cases b <;> simp [behindInMarks,e1,e2]
theorem A7r {op:CmpOp} {r:R2} (ho:OpR X (compareOp op) r) (ha:PE X a ta) (hb:PE X b tb) (hm:behindInMarks op b=false):PE X (.Compare a [op] [b] pos) (tOp r ta tb):=by
 intro pins s σ H Q I h;exact wpAny_Compare1 (D0t ha hb I h λv u s2 x y H2 I2 rx ry q=>ho pins s2 σ H2 x y v u Q I2 rx ry q) hm
def C7u (t:TE):TT:=λσ H Q=>t σ H λx H'=>∃k,x= .bl k/\Q k H'
theorem A0s {op:CmpOp} {r:R2} (ho:OpR X (compareOp op) r) (ha:PE X a ta) (hb:PE X b tb) (hm:behindInMarks op b=false):PT X (.Compare a [op] [b] pos) (C7u (tOp r ta tb)):=by
 intro pins s σ H Q I h
 refine wpAny_isTrue_Compare1 (thn (ha pins s σ H _ I h) λv s1 ⟨x,H1,I1,r1,q1⟩=>thn (hb pins s1 σ H1 _ I1 q1) λu s2 ⟨y,H2,I2,r2,q2⟩ =>
  thn (ho pins s2 σ H2 x y v u _ I2 r1 r2 q2) λc s3 ⟨z,H3,I3,r3,k,e,q3⟩=> ?_) hm
 subst e;cases r3;exact wpAny_truthy_bool ⟨H3,I3,q3⟩
def C7o (r r':R2) (ta tb tc:TE):TE:=λσ H Q=>ta σ H λx H1=>tb σ H1 λy H2=>r x y H2 λz H3=>∃k,z= .bl k/\
 (if k=true then tc σ H3 λw' H4=>r' y w' H4 Q else Q (.bl false) H3)
theorem C3i {op op':CmpOp} {r r':R2} (ho:OpR X (compareOp op) r) (ho':OpR X (compareOp op') r') (ha:PE X a ta) (hb:PE X b tb) (hc:PE X c tc)
  (hm:lastMarks [op,op'] [b,c]=false:=by with_unfolding_all rfl):PE X (.Compare a [op,op'] [b,c] pos) (C7o r r' ta tb tc):=by
 intro pins s σ H Q I h
 refine Compare_chain (thn (ha pins s σ H _ I h) λv s1 ⟨x,H1,I1,r1,q1⟩=>chain_link (thn (hb pins s1 σ H1 _ I1 q1) λu s2 ⟨y,H2,I2,r2,q2⟩ =>
  thn (ho pins s2 σ H2 x y v u _ I2 r1 r2 q2) λd s3 ⟨z,H3,I3,r3,k,e,q3⟩=> ?_)) hm
 subst e;cases r3;refine wpAny_truthy_bool ?_
 cases k with
 | false=>exact ite_ff ⟨.bl false,H3,I3,rfl,q3⟩
 | true=>exact ite_tt (chain_last (thn (hc pins s3 σ H3 _ I3 q3) λw' s4 ⟨z',H4,I4,r4,q4⟩=>ho' pins s4 σ H4 y z' u w' Q I4 r2 r4 q4))
theorem B3r:(sizeLine:Nat)<2^63:=by rw [sizeLine_eq];decide
theorem B1t:OpR X (binaryOp .Add) (λx y H Q=>∃i j,x= .str i/\y= .str j/\i.length+j.length<=sizeLine/\Q (.str (i++j)) H):=by
 intro pins s σ H x y v u Q I rx ry h;obtain ⟨i,j,rfl,rfl,hz,q⟩:=h;obtain ⟨t,rfl⟩:=rx;obtain ⟨t',rfl⟩:=ry;exact add_str (λt' tk=>⟨.str (i++j),H,I.tok _,⟨_,rfl⟩,q⟩) hz
theorem B2x {x:V} {us:List Value} (r:A3a [x] us):∃u,us=[u]/\A2v x u:=by
 cases r with
 | cons r1 r2=>cases r2;exact ⟨_,rfl,r1⟩
theorem B7l {x y:V} {us:List Value} (r:A3a [x,y] us):∃u w',us=[u,w']/\A2v x u/\A2v y w':=by
 cases r with
 | cons r1 r2 =>
  cases r2 with
  | cons r3 r4=>cases r4;exact ⟨_,_,rfl,r1,r3⟩
theorem B0z (hc:X.calm=true):A7h X (.builtin "max") (λxs H Q=>∃i j,xs=[.int i,.int j]/\Q (.int (if j>i then j else i)) H):=by
 intro pins s σ H xs us Q I r h;obtain ⟨i,j,rfl,q⟩:=h;obtain ⟨u,w',rfl,⟨t,rfl⟩,⟨t',rfl⟩⟩:=B7l r;refine max_two_ints (I.ok.hd hc) λh' tk k=>⟨_,H,I.kept k,?_,q⟩;by_cases hj:j>i
 ·rw [Z12 hj,Z12 hj];exact ⟨_,rfl⟩
 ·rw [Z0t hj,Z0t hj];exact ⟨_,rfl⟩
theorem C1q (hc:X.calm=true):A7h X (.builtin "min") (λxs H Q=>∃i j,xs=[.int i,.int j]/\Q (.int (if j<i then j else i)) H):=by
 intro pins s σ H xs us Q I r h;obtain ⟨i,j,rfl,q⟩:=h;obtain ⟨u,w',rfl,⟨t,rfl⟩,⟨t',rfl⟩⟩:=B7l r;refine min_two_ints (I.ok.hd hc) λh' tk k=>⟨_,H,I.kept k,?_,q⟩;by_cases hj:j<i
 ·rw [Z12 hj,Z12 hj];exact ⟨_,rfl⟩
 ·rw [Z0t hj,Z0t hj];exact ⟨_,rfl⟩
end
structure C7m (h:Heap) (x dx C:Addr) (mA:Str->Option Value):Prop where
 obj:h.get? x=some (PySem.W.instObj C dx)
 ns:h.Ns1 dx mA
 ne:dx≠x
theorem B8u {h:Heap} {dx:Addr} {mA:Str->Option Value} (n:h.Ns1 dx mA):∃od,h.get? dx=some od/\∀name,PySem.W.lookIn name od=some (mA name):=by
 obtain ⟨o,es,ep,ho,hd,hk,_,hm⟩:=n;refine ⟨o,ho,λname=> ?_⟩;have e:=hm name;unfold nsFind findBy at e;rw [<-Array.find?_toList] at e;unfold PySem.W.lookIn;rw [hd];dsimp only;split
 ·rename_i y q;rw [q] at e;exact congrArg some e
 ·rename_i q;rw [q] at e
  have a:es.toList.any (·.refKey)=false:=by
   rw [List.any_eq_false];intro y hy;obtain ⟨z,t,hkey⟩:=hk y (Array.mem_toList_iff.mp hy);simp [DictEntry.refKey,hkey]
  have a':¬es.toList.any (·.refKey)=true:=by rw [a];exact Z0v
  rw [Z0t a'];exact congrArg some e
theorem C7m.look {h:Heap} {x dx C:Addr} {mA:Str->Option Value} (I:C7m h x dx C mA):∃od,PySem.W.InstAt h x (PySem.W.instObj C dx) C (some od)/\∀name,PySem.W.lookIn name od=some (mA name) :=
 let ⟨od,ho,hl⟩:=B8u I.ns
 ⟨od,⟨I.obj,rfl,rfl,ho⟩,hl⟩
section
variable {prog:Program} {w:World} {A:Around} {E:Value->Shared->Prop} {s:Shared} {K:PySem.W.Frag} {x dx C f:Addr} {mA:Str->Option Value} {name:Str} {v:Value}
theorem B2n {expr:Bool} {Q:Value->Shared->Prop} (X:K.In s.heap) (I:C7m s.heap x dx C mA) (hg:PySem.W.plainGet K C name=true) (hh:PySem.W.hasDictIn K C=true)
  (ha:PySem.W.findIn K (.ref C) name=some none) (hv:mA name=some v) (hv':PySem.W.handedIn v=true) (h:Q v { s with toks:=s.toks+1 }) :
  wpAny (model prog w) A (getAttr (.ref x) name expr) Q E s:=by
 obtain ⟨od,J,hl⟩:=I.look;exact PySem.W.get_value X J (PySem.W.plainGet_of hg).1 (PySem.W.findObj_own hh ha rfl (by rw [hl,hv])) hv' h
theorem C5n {ns:List Str} {Q:Unit->Shared->Prop} (X:K.In s.heap) (I:C7m s.heap x dx C mA)
  (hs:PySem.W.findIn K (.ref C) "__setattr__"=some (some (.builtin "object.__setattr__"))) (hp:PySem.W.plainOver K C=true) (ht:PySem.W.takerIn K C name=some none) (hh:PySem.W.hasDictIn K C=true)
  (hw:PySem.Within mA ns) (hsz:ns.length<=sizeLine)
  (h:∀h',C7m h' x dx C (λy=>if y=name then some v else mA y)->Heap.SameBut dx s.heap h'->Q () { s with heap:=h',toks:=s.toks+2 }) :
  wpAny (model prog w) A (setAttr (.ref x) name v) Q E s:=by
 obtain ⟨od,J,hl⟩:=I.look;refine PySem.W.set_plain X J hs (PySem.W.osa_open (s:={ s with toks:=s.toks+1 }) (r:=none) X J hp ht λb=> ?_)
 obtain ⟨cd,hc,hd'⟩:=PySem.W.any_some hh;have hx:s.heap.get? x=some ⟨.ref C,some dx,.plain,#[]⟩:=I.obj;refine Z00 (Z04 (Z00 (Z00 (wpAny_loadPart hx (Z00 (PySem.W.Looks.here (s:={ s with toks:=s.toks+1 }) (PySem.W.looks_clsIn X hc) ?_))))));rw [hd'];refine Z04 (a:=some dx) (Z00 (Z04 (Z00 ?_)));refine wpAny_nsSet1 (s:={ s with toks:=s.toks+1 }) I.ns λh' hn2 hs2=> ?_
 obtain ⟨oD,esD,epD,hoD,hdD,hcD⟩:=hn2.count (PySem.Within.cons name v hw);refine Z00 (wpAny_lookBehind hoD (by rw [hdD];exact pastItsLine_dict (Z1n hcD (by rw [Z0y];omega))) ?_);exact Z04 (h _ ⟨(hs2.2 _ (Ne.symm I.ne)).trans I.obj,hn2,I.ne⟩ hs2)
theorem C2k {R:Result->Shared->Prop} {vs:List Value} {kw:List (Str×Value)} (X:K.In s.heap) (hm:PySem.W.makesIn K C=true)
  (hi:PySem.W.findIn K (.ref C) "__init__"=some (some (.ref f))) (hf:PySem.W.typeIn K (.ref f)=some (.type "function"))
  (h:codeAny (model prog w) (A.under (.builtin "type.__call__" ⟨.ref C::vs,kw⟩)) (.call (.ref f) ⟨.ref (s.heap.objs.size+1)::vs,kw⟩) (PySem.W.InitBack (s.heap.objs.size+1) R)
   { s with heap:=(s.heap.push PySem.W.emptyDict).push (PySem.W.instObj C s.heap.objs.size) }) :
  codeAny (model prog w) A (.call (.ref C) ⟨vs,kw⟩) R s:=by
 obtain ⟨hh,g,d,t,os⟩:=s;exact PySem.W.make_core (PySem.W.makes_of X hm) (PySem.W.looks_findIn X hi) (λself=>PySem.W.bind_fn X self hf) (.inl rfl) h
end
def A4w (f:Str) (v:V):List (Str×V)->List (Str×V)
 | []=>[(f,v)]
 | (g,x)::r=>if g=f then (g,v)::r else (g,x)::A4w f v r
theorem B0s (f g:Str) (v:V):∀fs:List (Str×V),(A4w f v fs).lookup g=if g=f then some v else fs.lookup g
 | []=>by
  show List.lookup g [(f,v)]=_;by_cases h:g=f
  ·have hb:(g == f)=true:=beq_iff_eq.mpr h;simp only [List.lookup,hb,Z12 h]
  ·have hb:(g == f)=false:=Z22.mpr h;simp only [List.lookup,hb,Z0t h]
 | (k,x)::r=>by
  have ih:=B0s f g v r;rw [show A4w f v ((k,x)::r)=(if k=f then (k,v)::r else (k,x)::A4w f v r) from rfl];by_cases hk:k=f
  ·rw [Z12 hk];by_cases h:g=k
   ·have hb:(g == k)=true:=beq_iff_eq.mpr h;simp only [List.lookup,hb,Z12 (h.trans hk)]
   ·have hb:(g == k)=false:=Z22.mpr h;simp only [List.lookup,hb,Z0t (λe:g=f=>h (e.trans hk.symm))]
  ·rw [Z0t hk];by_cases h:g=k
   ·have hb:(g == k)=true:=beq_iff_eq.mpr h;simp only [List.lookup,hb,Z0t (λe:g=f=>hk (h.symm.trans e))]
   ·have hb:(g == k)=false:=Z22.mpr h;simp only [List.lookup,hb];exact ih
theorem B0q (f:Str) (v:V):∀fs:List (Str×V),f∈(A4w f v fs).map (·.1)/\∀g,g∈fs.map (·.1)->g∈(A4w f v fs).map (·.1)
 | []=>⟨by simp [A4w],λg h=>by simp at h⟩
 | (k,x)::r=>by
  obtain ⟨i1,i2⟩:=B0q f v r;rw [show A4w f v ((k,x)::r)=(if k=f then (k,v)::r else (k,x)::A4w f v r) from rfl];by_cases hk:k=f
  ·rw [Z12 hk];subst hk;exact ⟨by simp,λg h=>by simpa using h⟩
  ·rw [Z0t hk];refine ⟨?_,λg h=> ?_⟩
   ·rw [Z0p];exact Z1f _ i1
   ·rw [Z0p] at h⊢;rcases Z0e.mp h with e | e
    ·exact Z0e.mpr (.inl e)
    ·exact Z1f _ (i2 g e)
theorem B1a (f:Str) (v:V):∀fs:List (Str×V),(A4w f v fs).length<=fs.length+1
 | []=>by simp [A4w]
 | (k,x)::r=>by
  have ih:=B1a f v r;rw [show A4w f v ((k,x)::r)=(if k=f then (k,v)::r else (k,x)::A4w f v r) from rfl];by_cases hk:k=f
  ·rw [Z12 hk,Z0y,Z0y];omega
  ·rw [Z0t hk,Z0y,Z0y];omega
theorem B8d.some_of {v:V} {o:Option Value} (r:B8d (some v) o):∃u,o=some u/\A2v v u:=by
 cases o with
 | none=>exact (show False from r).elim
 | some u=>exact ⟨u,rfl,r⟩
theorem B9c {v:V} {u:Value} (r:A2v v u):PySem.W.handedIn u=true:=by
 cases v with
 | non=>cases (show u=Value.none from r);rfl
 | bl b=>cases (show u=Value.bool b from r);rfl
 | int i=>obtain ⟨t,e⟩:=(show∃t,u=Value.int i t from r);cases e;rfl
 | str x=>obtain ⟨t,e⟩:=(show∃t,u=Value.str x t from r);cases e;rfl
 | byt b=>obtain ⟨t,e⟩:=(show∃t,u=Value.bytes b t from r);cases e;rfl
 | flt b=>obtain ⟨t,e⟩:=(show∃t,u=Value.float b t from r);cases e;rfl
 | ref a=>cases (show u=Value.ref a from r);rfl
 | ty n=>cases (show u=Value.type n from r);rfl
section
variable {P:Program} {w:World} {H H':Hp} {h h':Heap} {a C dx:Addr} {fs fs':List (Str×V)}
theorem B3e (hok:HOk P w H h) (e:H a=some (.ins C dx fs)):∃mA,C7m h a dx C mA/\(∀f,B8d (fs.lookup f) (mA f))/\PySem.Within mA (fs.map (·.1))/\fs.length<=1000/\H dx=some (.own a):=by
 obtain ⟨d,z,ne,ob,mA,n,r,q⟩:=(show A2l P w H h a (.ins C dx fs) from hok a _ e);exact ⟨mA,⟨ob,n,ne⟩,r,q,z,d⟩
end
structure Cls (K:PySem.W.Frag) (C:Addr):Prop where
 pg:PySem.W.plainGet K C Str.empty=true
 hd:PySem.W.hasDictIn K C=true
 po:PySem.W.plainOver K C=true
 sa:PySem.W.findIn K (.ref C) "__setattr__"=some (some (.builtin "object.__setattr__"))
theorem Cls.get {K:PySem.W.Frag} {C:Addr} (c:Cls K C) (f:Str):PySem.W.plainGet K C f=true:=c.pg
def A1r (K:PySem.W.Frag) (C:Addr) (f:Str):Prop:=PySem.W.findIn K (.ref C) f=some none
theorem A1r.taker {K:PySem.W.Frag} {C:Addr} {f:Str} (n:A1r K C f):PySem.W.takerIn K C f=some none:=by
 unfold PySem.W.takerIn;rw [show PySem.W.findIn K (.ref C) f=some none from n];rfl
section
variable {X:Cx} {pins:List (Addr×Obj)} {σ:St} {H:Hp} {s:Shared} {a C dx:Addr} {fs:List (Str×V)} {f:Str} {v:V} {A:Around} {E:Value->Shared->Prop}
theorem B7n {b:Bool} {Q:Value->Shared->Prop} (I:Inv X pins σ H s) (e:H a=some (.ins C dx fs)) (c:Cls X.K C) (n:A1r X.K C f) (l:fs.lookup f=some v)
  (h:∀u s',Inv X pins σ H s'->A2v v u->Q u s'):wpAny (model X.prog X.w) A (getAttr (.ref a) f b) Q E s:=by
 obtain ⟨mA,O,r,_,_,_⟩:=B3e I.hok e;obtain ⟨u,hu,ru⟩:=B8d.some_of (v:=v) (o:=mA f) (by rw [<-l];exact r f);exact B2n I.kIn O (c.get f) c.hd n hu (B9c ru) (h u _ (I.tok _) ru)
theorem B7y {y:V} {u:Value} {Q:Unit->Shared->Prop} (I:Inv X pins σ H s) (e:H a=some (.ins C dx fs)) (c:Cls X.K C) (n:A1r X.K C f) (hl:fs.length<1000) (ry:A2v y u)
  (h:∀s',Inv X pins σ (upd H a (.ins C dx (A4w f y fs))) s'->Q () s'):wpAny (model X.prog X.w) A (setAttr (.ref a) f u) Q E s:=by
 obtain ⟨mA,O,r,wi,_,ho⟩:=B3e I.hok e;have hz:(fs.map (·.1)).length<=sizeLine:=by rw [Z08,sizeLine_eq];omega
 refine C5n I.kIn O c.sa c.po n.taker c.hd wi hz λh' O' sb=>h _ ?_;have hd:∃o,h'.get? dx=some o:=let ⟨o,_,_,e',_⟩:=O'.ns;⟨o,e'⟩;refine I.write (x:=a) (e:=dx) (by rw [e];exact True.intro) (.inr ho) (λb q hb z=>(sb.2 b hb).trans z) hd ?_;refine ⟨by rw [A0j O.ne];exact ho,?_,O.ne,O'.obj,_,O'.ns,λg=> ?_,λg hg=> ?_⟩
 ·have:=B1a f y fs;omega
 ·show B8d ((A4w f y fs).lookup g) (if g=f then some u else mA g);rw [B0s];by_cases q:g=f
  ·rw [Z12 q,Z12 q];exact ry
  ·rw [Z0t q,Z0t q];exact r g
 ·by_cases q:g=f
  ·rw [q];exact (B0q f y fs).1
  ·refine (B0q f y fs).2 g (wi g λz=>hg ?_);show (if g=f then some u else mA g)=none;rw [Z0t q];exact z
theorem Inv.made (I:Inv X pins σ H s):Inv X pins σ (upd (upd H s.heap.objs.size (.own (s.heap.objs.size+1))) (s.heap.objs.size+1) (.ins C s.heap.objs.size []))
  { s with heap:=(s.heap.push PySem.W.emptyDict).push (PySem.W.instObj C s.heap.objs.size) }:=by
 have e1:(s.heap.push PySem.W.emptyDict).get? s.heap.objs.size=some PySem.W.emptyDict:=Z0c s.heap rfl
 have e2:((s.heap.push PySem.W.emptyDict).push (PySem.W.instObj C s.heap.objs.size)).get? (s.heap.objs.size+1)=some (PySem.W.instObj C s.heap.objs.size):=by
  have:=Z0c (s.heap.push PySem.W.emptyDict) (o:=PySem.W.instObj C s.heap.objs.size) rfl
  rwa [Z1s] at this
 have e3:(s.heap.push PySem.W.emptyDict).Ns s.heap.objs.size (λ_=>none):=⟨PySem.W.emptyDict,#[],_,e1,rfl,(λe he=>absurd he (by simp)),λ_=>rfl⟩;have I1:=I.laid (a:=s.heap.objs.size) (o:= .own (s.heap.objs.size+1)) (h':=s.heap.push PySem.W.emptyDict) (t':=s.toks) (λb u q=>Z01 _ q) (Z09 _) ⟨_,e1⟩;refine I1.laid (a:=s.heap.objs.size+1) (o:= .ins C s.heap.objs.size []) (t':=s.toks) (λb u q=>Z01 _ q) (Nat.le_of_eq (Z1s _ _)) ?_;have ne:s.heap.objs.size≠s.heap.objs.size+1:=Z0h (Nat.lt_succ_self _);refine ⟨by rw [A0j ne,A0b],Z1e _,ne,e2,λ_=>none,(Heap.Ns1.of_empty e3).at λo q=>Z01 _ q,λ_=>True.intro,λy hy=>absurd rfl hy⟩
theorem C7l {prog:Program} {w:World} {env:Env} {e:Expr} {f:Str} {pos:Pos} {s:Shared} {Q:Value->Shared->Prop} (hb:attributeBase e f env (eval e env)=eval e env)
  (h:wpAny (model prog w) A (eval e env) (λo s₁=>wpAny (model prog w) A (getAttr o f true) Q E s₁) E s):wpAny (model prog w) A (eval (.Attribute e f pos) env) Q E s :=
 Attribute_any_ h (by rw [arm_eval_Attribute,hb])
end
def D1t (K:PySem.W.Frag) (ta:TE) (f:Str):TE:=λσ H Q=>ta σ H λx H1=>∃a C dx fs v,x= .ref a/\H1 a=some (.ins C dx fs)/\Cls K C/\A1r K C f/\fs.lookup f=some v/\Q v H1
def sFld (K:PySem.W.Frag) (ta tv:TE) (f:Str):TS:=λD σ H=>tv σ H λy H1=>ta σ H1 λx H2=>∃a C dx fs,x= .ref a/\H2 a=some (.ins C dx fs)/\Cls K C/\A1r K C f/\fs.length<1000/\
 D.nx σ (upd H2 a (.ins C dx (A4w f y fs)))
section
variable {X:Cx} {o e value:Expr} {f:Str} {pos pos' tpos:Pos} {ta tv:TE}
theorem A1j (he:PE X e ta) (hb:attributeBase e f X.env (eval e X.env)=eval e X.env):PE X (.Attribute e f pos) (D1t X.K ta f):=by
 intro pins s σ H Q I h;refine C7l hb (thn (he pins s σ H _ I h) λu s1 ⟨x,H1,I1,rx,a,C,dx,fs,v,ex,ea,c,n,l,q⟩=> ?_);subst ex;obtain rfl:u=Value.ref a:=rx;exact B7n I1 ea c n l λu' s2 I2 ru=>⟨v,H1,I2,ru,q⟩
theorem A2t (ha:PE X o ta) (hv:PE X value tv) (hs:swapsWith value (some (.Attribute o f pos')) pos.line X.env=pure false):PS X (.Assign [.Attribute o f pos'] value pos) (sFld X.K ta tv f):=by
 intro pins s σ H D I h;refine plainObj_wpAny_Assign_Attribute (thn (hv pins s σ H _ I h) λu s1 ⟨y,H1,I1,ry,q⟩=>thn (ha pins s1 σ H1 _ I1 q) λov s2 ⟨x,H2,I2,rx,a,C,dx,fs,ex,ea,c,n,l,q2⟩=> ?_) hs;subst ex;obtain rfl:ov=Value.ref a:=rx;exact B7y I2 ea c n l ry λs3 I3=>⟨σ,_,I3,q2⟩
end
section
variable {X:Cx} {pins:List (Addr×Obj)} {σ:St} {H:Hp} {s:Shared} {A:Around} {E:Value->Shared->Prop} {Q:Value->Shared->Prop} {c:Value} {b:Bool}
inductive A7z (K:PySem.W.Frag) (H:Hp):V->Value->Prop where
 | non:A7z K H .non (.type "NoneType")
 | bl (x:Bool):A7z K H (.bl x) (.type "bool")
 | int (i:Int):A7z K H (.int i) (.type "int")
 | str (x:Str):A7z K H (.str x) (.type "str")
 | flt (x:UInt64):A7z K H (.flt x) (.type "float")
 | lst {a:Addr} {xs:List V} (e:H a=some (.lst xs)):A7z K H (.ref a) (.type "list")
 | frz {a:Addr} {o:Obj} {xs:List V} (e:H a=some (.frz o (.lst xs))):A7z K H (.ref a) (.type "list")
 | tup {a:Addr} {xs:List V} (e:H a=some (.tup xs)):A7z K H (.ref a) (.type "tuple")
 | dK {a:Addr} {kvs:List (Key×V)} (e:H a=some (.dK kvs)):A7z K H (.ref a) (.type "dict")
 | dT {a:Addr} {kvs:List (List Key×V)} (e:H a=some (.dT kvs)):A7z K H (.ref a) (.type "dict")
 | ins {a C dx:Addr} {fs:List (Str×V)} (e:H a=some (.ins C dx fs)) (cl:Cls K C) (ha:PySem.W.findIn K (.ref C) "__class__"=some (some (.builtin "object.__class__")))
   (hn:PySem.W.specialIn K (.builtin "object.__class__") "__get__"=some (some (.builtin "getset_descriptor.__get__"))) (htk:PySem.W.takesIn K (.builtin "object.__class__")=some true)
   (hm:PySem.W.mroIn K C (.type "object")=some true):A7z K H (.ref a) (.ref C)
theorem C1j {x:V} {u t:Value} (I:Inv X pins σ H s) (rx:A2v x u) (ty:A7z X.K H x t) (e:PySem.W.kitOne X.K t c=some b) (h:∀tk,Q (.bool b) { s with toks:=tk }) :
  wpAny (model X.prog X.w) A (call (.builtin "isinstance") [u,c]) Q E s:=by
 cases ty with
 | non=>cases (show u=Value.none from rx);exact PySem.W.kia_one PySem.W.kitx_none I.kIn True.intro e (λz=>nomatch z) h
 | bl y=>cases (show u=Value.bool y from rx);exact PySem.W.kia_one PySem.W.kitx_bool I.kIn True.intro e (λz=>nomatch z) h
 | int i=>obtain ⟨t,q⟩:=(show∃t,u=Value.int i t from rx);cases q;exact PySem.W.kia_one PySem.W.kitx_int I.kIn True.intro e (λz=>nomatch z) h
 | str y=>obtain ⟨t,q⟩:=(show∃t,u=Value.str y t from rx);cases q;exact PySem.W.kia_one PySem.W.kitx_str I.kIn True.intro e (λz=>nomatch z) h
 | flt y=>obtain ⟨t,q⟩:=(show∃t,u=Value.float y t from rx);cases q;exact PySem.W.kia_one PySem.W.kitx_float I.kIn True.intro e (λz=>nomatch z) h
 | @lst a xs ea =>
  cases (show u=Value.ref a from rx)
  obtain ⟨_,_,n,_,h1⟩:=(show A2l X.prog X.w H s.heap a (.lst xs) from I.hok a _ ea);exact PySem.W.kia_one PySem.W.kitx_list I.kIn ⟨_,h1,rfl⟩ e (λz=>nomatch z) h
 | @frz a ob xs ea =>
  cases (show u=Value.ref a from rx)
  obtain ⟨_,_,_,n,_,h1⟩:=(show A2l X.prog X.w H s.heap a (.frz ob (.lst xs)) from I.hok a _ ea);exact PySem.W.kia_one PySem.W.kitx_list I.kIn ⟨_,h1,rfl⟩ e (λz=>nomatch z) h
 | @tup a xs ea =>
  cases (show u=Value.ref a from rx)
  obtain ⟨_,_,_,p⟩:=(show A2l X.prog X.w H s.heap a (.tup xs) from I.hok a _ ea);obtain ⟨o,h1,h2,_⟩:=p;exact PySem.W.kia_one PySem.W.kitx_tuple I.kIn ⟨o,h1,h2⟩ e (λz=>nomatch z) h
 | @dK a kvs ea =>
  cases (show u=Value.ref a from rx)
  obtain ⟨_,_,vs,_,p⟩:=(show A2l X.prog X.w H s.heap a (.dK kvs) from I.hok a _ ea);obtain ⟨o,es,ep,h1,h2,_⟩:=p;exact PySem.W.kia_one PySem.W.kitx_dict I.kIn ⟨o,h1,h2.1⟩ e (λz=>nomatch z) h
 | @dT a kvs ea =>
  cases (show u=Value.ref a from rx)
  obtain ⟨_,_,xs,_,o,es,ep,h1,h2,_⟩:=(show A2l X.prog X.w H s.heap a (.dT kvs) from I.hok a _ ea);exact PySem.W.kia_one PySem.W.kitx_dict I.kIn ⟨o,h1,h2.1⟩ e (λz=>nomatch z) h
 | @ins a C dx fs ea cl ha hn htk hm =>
  cases (show u=Value.ref a from rx)
  obtain ⟨mA,O,_⟩:=B3e I.hok ea;obtain ⟨od,J,_⟩:=O.look;exact PySem.W.kia_one (PySem.W.kitx_own (cl.get _) cl.hd ha hn htk hm) I.kIn J e (λz=>nomatch z) h
end
structure A9k (k:Nat) (A:Around):Prop where
 hd:A.handled=none
 dp:A.depth+3*k+5<recursionLimit
 un:A.units+16*k+200<cLine
 gd:A.guards=some []
theorem A9k.mono {j k:Nat} {A:Around} (r:A9k k A) (h:j<=k):A9k j A:=⟨r.hd,by have:=r.dp;omega,by have:=r.un;omega,r.gd⟩
theorem A9k.deeper {k:Nat} {A:Around} (r:A9k (k+1) A) (env:Env):A9k k (A.deeper env) :=
 ⟨r.hd,by have:=r.dp;show A.depth+1+3*k+5<_;omega,by have:=r.un;show A.units+3+16*k+200<_;omega,r.gd⟩
theorem B7h {A:Around} {C:Addr} {us:List Value} {kw:List (Str×Value)}:(A.under (.builtin "type.__call__" ⟨.ref C::us,kw⟩)).depth=A.depth+1:=by
 first | rfl | simp [Around.under,Code.weight,Code.isCreation,Code.isGuard,Code.isCaller,Code.frames,Code.isFrame,guardIds]
theorem B8f {A:Around} {C:Addr} {us:List Value} {kw:List (Str×Value)}:(A.under (.builtin "type.__call__" ⟨.ref C::us,kw⟩)).units=A.units+1:=by
 first | rfl | simp [Around.under,Code.cUnits,Code.frames,Code.isFrame]
theorem B4z {A:Around} {C:Addr} {us:List Value} {kw:List (Str×Value)}:(A.under (.builtin "type.__call__" ⟨.ref C::us,kw⟩)).guards=A.guards:=by
 show pushGuards (Code.guards (.builtin "type.__call__" ⟨.ref C::us,kw⟩)) A.guards=A.guards;have h:Code.isGuard (.builtin "type.__call__" ⟨.ref C::us,kw⟩)=false:=by first | rfl | (simp [Code.isGuard,guardIds]) | decide
 unfold Code.guards;rw [h];cases A.guards <;> rfl
theorem A9k.make {k:Nat} {A:Around} (r:A9k (k+1) A) (C:Addr) (us:List Value) (kw:List (Str×Value)):A9k k (A.under (.builtin "type.__call__" ⟨.ref C::us,kw⟩)) :=
 ⟨r.hd,by have:=r.dp;rw [B7h];omega,by have:=r.un;rw [B8f];omega,by rw [B4z];exact r.gd⟩
theorem A9k.depth {k:Nat} {A:Around} (r:A9k k A):A.depth<recursionLimit:=by have:=r.dp;omega
theorem A9k.units {k:Nat} {A:Around} (r:A9k k A):A.units+64<cLine:=by have:=r.un;omega
theorem A9k.units0 {k:Nat} {A:Around} (r:A9k k A):A.units<cLine:=by have:=r.un;omega
def tNil:TA:=λ_ H Q=>Q [] H
def D0z (ta:TE) (tr:TA):TA:=λσ H Q=>ta σ H λx H1=>tr σ H1 λxs H2=>Q (x::xs) H2
section
variable {X:Cx} {e:Expr} {es:List Expr} {te:TE} {t:TA} {pos:Pos}
theorem A0e:PA X [] tNil:=λ_ _ _ _ H Q I h=>Calls.spliced_nil ⟨[],H,I,.nil,h⟩
theorem A0a (ha:PE X e te) (hr:PA X es t) (hs:starEach (e::es) X.env=(false,eval e X.env)::starEach es X.env:=by rfl):PA X (e::es) (D0z te t):=by
 intro pos pins s σ H Q I h;rw [hs];show wpAny _ _ (spliced ((false,eval e X.env)::backTo pos (starEach es X.env))) _ _ s;refine Calls.spliced_cons (thn (ha pins s σ H _ I h) λu s1 ⟨x,H1,I1,r1,q1⟩=> ?_);exact thn (hr pos pins s1 σ H1 _ I1 q1) λus s2 ⟨xs,H2,I2,r2,q2⟩=>⟨x::xs,H2,I2,.cons r1 r2,q2⟩
def tTup (t:TA):TE:=λσ H Q=>t σ H λxs H1=>xs.length<=sizeLine/\∀p,H1 p=none->Q (.ref p) (upd H1 p (.tup xs))
def tLst (t:TA):TE:=λσ H Q=>t σ H λxs H1=>xs.length<=sizeLine/\∀p,H1 p=none->Q (.ref p) (upd H1 p (.lst xs))
theorem A4k {x1} (h:PA X es t):PE X (.Tuple es x1 pos) (tTup t):=by
 intro pins s σ H Q I hq;refine wpAny_Tuple_spliced (thn (h pos pins s σ H _ I hq) λus s1 ⟨xs,H1,I1,r,z,q⟩=>⟨by rw [<-r.length];exact z,?_⟩);have hf:H1 s1.heap.objs.size=none:=I1.hok.fresh (Z09 _);refine ⟨.ref s1.heap.objs.size,upd H1 s1.heap.objs.size (.tup xs),I1.laid (t':=s1.toks) (λb u e=>Z01 _ e) (Z09 _) ?_,rfl,q _ hf⟩;exact ⟨z,us,r,⟨_,Z0c _ rfl,rfl,_,rfl⟩⟩
theorem A2r (h:PA X es t):PE X (.List es pos) (tLst t):=by
 intro pins s σ H Q I hq;refine wpAny_List_spliced (thn (h pos pins s σ H _ I hq) λus s1 ⟨xs,H1,I1,r,z,q⟩=>⟨by rw [<-r.length];exact z,?_⟩);have hf:H1 s1.heap.objs.size=none:=I1.hok.fresh (Z09 _);refine ⟨.ref s1.heap.objs.size,upd H1 s1.heap.objs.size (.lst xs),I1.laid (t':=s1.toks) (λb u e=>Z01 _ e) (Z09 _) ?_,rfl,q _ hf⟩;exact ⟨z,us,0,r,Z0c _ rfl⟩
end
abbrev Sp:=List V->Hp->VK->XK->Prop
abbrev CXT:=List Env->Hp->Shared->XK->Value->Shared->Prop
structure C5o (P:Program) (w:World) (K:PySem.W.Frag) (mg:Str->Option Value) (base:Heap) (A:Around) (outer:List Env) (s:Shared) (H:Hp):Prop where
 frames:A.frames=some outer
 mod:Mod K mg base
 bs:∀b o,base.get? b=some o->s.heap.get? b=some o/\H b=none
 bsz:base.objs.size<=s.heap.objs.size
 funs:s.heap.FunFrames base outer
 frf:∀b∈frs outer,H b=none
 hok:HOk P w H s.heap
 bare:AllBare s.gens
def CE (outer:List Env) (P:Program) (w:World) (H:Hp) (s:Shared) (Q:VK) (u:Value) (s':Shared):Prop :=
 ∃v H',s'.os=s.os/\AllBare s'.gens/\Un (frs outer) [] H H' s.heap s'.heap/\HOk P w H' s'.heap/\A2v v u/\Q v H'
def CR (CX:CXT) (outer:List Env) (P:Program) (w:World) (H:Hp) (s:Shared) (Q:VK) (E:XK) (r:Result) (s':Shared):Prop :=
 match r with
 | .ok (.ret u)=>CE outer P w H s Q u s'
 | .ok _=>False
 | .error e=>CX outer H s E e s'
structure A2f (P:Program) (w:World) (K:PySem.W.Frag) (mg:Str->Option Value) (base:Heap) (CX:CXT) (k:Nat) (f:Addr) (fd:FuncData) (ps:List Str) (sp:Sp):Prop where
 len:∀vs H Q E,sp vs H Q E->vs.length=ps.length
 run:∀(A:Around) (outer:List Env) (s:Shared) (H:Hp) (args:Args) (us:List Value) (vs:List V) (Q:VK) (E:XK),A9k k A->C5o P w K mg base A outer s H->BindsTo s fd args (ps.zip us)->A3a vs us->sp vs H Q E->
  codeAny (model P w) A (.call (.ref f) args) (CR CX outer P w H s Q E) s
theorem A2f.mono {P:Program} {w:World} {K:PySem.W.Frag} {mg:Str->Option Value} {base:Heap} {CX:CXT} {j k:Nat} {f:Addr} {fd:FuncData} {ps:List Str} {sp:Sp} (F:A2f P w K mg base CX j f fd ps sp) (h:j<=k) :
  A2f P w K mg base CX k f fd ps sp:=⟨F.len,λA outer s H args us vs Q E hr=>F.run A outer s H args us vs Q E (hr.mono h)⟩
theorem C5o.make {P:Program} {w:World} {K:PySem.W.Frag} {mg:Str->Option Value} {base:Heap} {A:Around} {outer:List Env} {s:Shared} {H:Hp} (e:C5o P w K mg base A outer s H) (C:Addr) (us:List Value) (kw:List (Str×Value)) :
  C5o P w K mg base (A.under (.builtin "type.__call__" ⟨.ref C::us,kw⟩)) outer s H:=⟨by first | exact e.frames | (simpa [Around.under,Code.envs,Code.isFrame,pushEnvs] using e.frames),e.mod,e.bs,e.bsz,e.funs,e.frf,e.hok,e.bare⟩
section
variable {X:Cx} {pins:List (Addr×Obj)} {σ:St} {H:Hp} {s s':Shared}
theorem Inv.env0 (I:Inv X pins σ H s):C5o X.prog X.w X.K X.mg X.base X.A X.stack s H :=
 ⟨I.ok.frames,I.ok.mod,I.bs,Z1n I.ok.bsz I.sz,I.stack,I.stkFree,I.hok,I.bare⟩
theorem Inv.after {Q:VK} {u:Value} (I:Inv X pins σ H s) (h:CE X.stack X.prog X.w H s Q u s'):EP X pins σ Q u s':=by
 obtain ⟨v,H',os,bare,un,hok,r,q⟩:=h;obtain ⟨hh,g,d,t,os'⟩:=s';obtain rfl:os'=s.os:=os;exact ⟨v,H',I.call (h':=hh) (g':=g) (d':=d) (t':=t) (ch:=[]) un hok bare (λb z=>absurd z (by simp)),r,q⟩
end
def D0l (sp:Sp) (dvs:List V) (E:XK) (t:TA):TE:=λσ H Q=>t σ H λvs H1=>sp (vs++dvs) H1 Q E
def D1c (C:Addr) (sp:Sp) (dvs:List V) (E:XK) (t:TA):TE:=λσ H Q=>t σ H λvs H1=>∀x dx,H1 x=none->H1 dx=none->dx≠x->
 sp (.ref x::(vs++dvs)) (upd (upd H1 dx (.own x)) x (.ins C dx [])) (λv H2=>v= .non/\Q (.ref x) H2) E
def A1u (K:PySem.W.Frag) (fd:FuncData) (ps:List Str) (ds:List Value):Prop :=
 ∀(s:Shared) (us:List Value),K.In s.heap->(us++ds).length=ps.length->BindsTo s fd ⟨us,[]⟩ (ps.zip (us++ds))
theorem A1u.all {K:PySem.W.Frag} {fd:FuncData} {ps:List Str} (h:∀us:List Value,us.length=ps.length->bindArgs fd ⟨us,[]⟩=pure (ps.zip us)):A1u K fd ps []:=λs us _ hl=>by
 rw [Z0u] at hl⊢;exact .of_eq (h us hl)
def B1n (CX:CXT) (X:Cx) (E:XK):Prop:=∀(pins:List (Addr×Obj)) (σ:St) (H:Hp) (s:Shared) (e:Value) (s':Shared),Inv X pins σ H s->CX X.stack H s E e s'->X.xe e s'
section
variable {X:Cx} {CX:CXT} {k:Nat} {f C:Addr} {fd:FuncData} {ps:List Str} {sp:Sp} {dvs:List V} {ds:List Value} {E:XK} {x m:Str} {p pos apos:Pos} {e o:Expr} {es:List Expr} {ta:TE} {t:TA}
theorem C9f {pins:List (Addr×Obj)} {σ:St} {H:Hp} {s:Shared} {Q:VK} {us:List Value} {vs:List V} (F:A2f X.prog X.w X.K X.mg X.base CX k f fd ps sp) (hr:A9k k X.A) (hb:A1u X.K fd ps ds) (hd:A3a dvs ds) (hx:B1n CX X E)
  (I:Inv X pins σ H s) (r:A3a vs us) (h:sp (vs++dvs) H Q E):wpAny (model X.prog X.w) X.A (call (.ref f) us) (EP X pins σ Q) X.xe s:=by
 have r2:A3a (vs++dvs) (us++ds):=r.append hd;have hl:(us++ds).length=ps.length:=by rw [<-r2.length];exact F.len _ _ _ _ h
 refine wpAny_call (codeAny_mono (F.run X.A X.stack s H ⟨us,[]⟩ (us++ds) (vs++dvs) Q E hr I.env0 (hb s us I.kIn hl) r2 h) λr s' hq=> ?_)
 cases r with
 | error e=>exact hx pins σ H s e s' I hq
 | ok fl =>
  cases fl with
  | ret u=>exact I.after hq
  | next=>exact False.elim hq
  | brk=>exact False.elim hq
  | cont=>exact False.elim hq
theorem A0p (F:A2f X.prog X.w X.K X.mg X.base CX k f fd ps sp) (hr:A9k k X.A) (hg:Gl X x) (hm:X.mg x=some (.ref f)) (hk:PySem.W.keepIn X.K (.ref f)=true) (hb:A1u X.K fd ps ds) (hd:A3a dvs ds) (hx:B1n CX X E)
  (ha:PA X (e::es) t) (hdb:(x == ("__debug__":Str))=false:=by decide) (he:starEach (e::es) X.env=(false,eval e X.env)::starEach es X.env:=by rfl) (hpl:(backTo pos (starEach es X.env)).any (·.1)=false:=by rfl) :
  PE X (.Call (.Name x p) (e::es) [] pos) (D0l sp dvs E t):=by
 intro pins s σ H Q I h;refine wpAny_Call_Name_kw (A6r I hg hm ?_ hdb);refine PySem.W.callWith_K (h₀:=X.base) I.ok.mod.kin hk (thn (ha pos pins s σ H _ I h) λus s1 ⟨vs,H1,I1,r,q⟩=>⟨I1.kIn,?_⟩) he hpl;exact C9f F hr hb hd hx I1 r q
structure Mk (K:PySem.W.Frag) (C f:Addr):Prop where
 makes:PySem.W.makesIn K C=true
 init:PySem.W.findIn K (.ref C) "__init__"=some (some (.ref f))
 fn:PySem.W.isFn K (.ref f)=true
 kp:PySem.W.keepIn K (.ref C)=true
theorem C3w {pins:List (Addr×Obj)} {σ:St} {H:Hp} {s:Shared} {Q:VK} {us:List Value} {vs:List V} (M:Mk X.K C f) (F:A2f X.prog X.w X.K X.mg X.base CX k f fd ps sp) (hr:A9k (k+1) X.A) (hb:A1u X.K fd ps ds) (hd:A3a dvs ds)
  (hx:B1n CX X E) (I:Inv X pins σ H s) (r:A3a vs us)
  (h:∀x dx,H x=none->H dx=none->dx≠x->sp (.ref x::(vs++dvs)) (upd (upd H dx (.own x)) x (.ins C dx [])) (λv H2=>v= .non/\Q (.ref x) H2) E) :
  wpAny (model X.prog X.w) X.A (call (.ref C) us) (EP X pins σ Q) X.xe s:=by
 have hq:=h (s.heap.objs.size+1) s.heap.objs.size (I.hok.fresh (Nat.le_succ _)) (I.hok.fresh (Z09 _)) (Z0h (Nat.lt_succ_self _));have I2:=Inv.made (C:=C) I;have r2:A3a (V.ref (s.heap.objs.size+1)::(vs++dvs)) (Value.ref (s.heap.objs.size+1)::(us++ds)):= .cons rfl (r.append hd)
 have hl:(Value.ref (s.heap.objs.size+1)::us++ds).length=ps.length:=by
  have e:=r2.length;rw [F.len _ _ _ _ hq] at e;exact e.symm
 refine wpAny_call (C2k (f:=f) I.kIn M.makes M.init (beq_iff_eq.mp M.fn) (codeAny_mono (F.run _ X.stack _ _ ⟨Value.ref (s.heap.objs.size+1)::us,[]⟩ (Value.ref (s.heap.objs.size+1)::(us++ds)) _ _ E (hr.make C us [])
  (I2.env0.make C us []) (hb _ (Value.ref (s.heap.objs.size+1)::us) I2.kIn hl) r2 hq) λr s' hq'=> ?_))
 cases r with
 | error e=>exact hx pins σ _ _ e s' I2 hq'
 | ok fl =>
  cases fl with
  | ret u =>
   obtain ⟨v,H',I3,rv,ev,q3⟩:=I2.after hq';subst ev;exact ⟨rv,⟨V.ref (s.heap.objs.size+1),H',I3,rfl,q3⟩⟩
  | next=>exact False.elim hq'
  | brk=>exact False.elim hq'
  | cont=>exact False.elim hq'
theorem A2w (M:Mk X.K C f) (F:A2f X.prog X.w X.K X.mg X.base CX k f fd ps sp) (hr:A9k (k+1) X.A) (hg:Gl X x) (hm:X.mg x=some (.ref C)) (hb:A1u X.K fd ps ds) (hd:A3a dvs ds) (hx:B1n CX X E)
  (ha:PA X (e::es) t) (hdb:(x == ("__debug__":Str))=false:=by decide) (he:starEach (e::es) X.env=(false,eval e X.env)::starEach es X.env:=by rfl) (hpl:(backTo pos (starEach es X.env)).any (·.1)=false:=by rfl) :
  PE X (.Call (.Name x p) (e::es) [] pos) (D1c C sp dvs E t):=by
 intro pins s σ H Q I h;refine wpAny_Call_Name_kw (A6r I hg hm ?_ hdb);refine PySem.W.callWith_K (h₀:=X.base) I.ok.mod.kin M.kp (thn (ha pos pins s σ H _ I h) λus s1 ⟨vs,H1,I1,r,q⟩=>⟨I1.kIn,?_⟩) he hpl;exact C3w M F hr hb hd hx I1 r q
end
section
variable {X:Cx} {CX:CXT} {k:Nat} {f C:Addr} {fd:FuncData} {ps ks:List Str} {sp:Sp} {E:XK} {x m:Str} {p pos apos kpos:Pos} {e o:Expr} {es:List Expr} {kws:List Keyword} {te ta:TE} {t tk:TA} {nm:Option Str}
variable {g:List Value->List Value->List Value} {gV:List V->List V->List V}
end
structure A0z (N P:List Str) (sc:Scope):Prop where
 kind:sc.kind= .function
 co:sc.isCoroutine=false
 gen:sc.isGenerator=false
 nd:N.Nodup
 pre:N.take P.length=P
 par:∀x∈P,sc.names.lookup x=some .local\/sc.names.lookup x=some .cell
 nofree:∀y∈sc.names,y.2≠.free
theorem B4i {kindOf:Str->Option NameKind} {x:Str}:∀{binds:List (Str×Value)} {m:Str->Option Value},(∀v,(x,v)∉binds)->bindL kindOf binds m x=m x
 | [],_,_=>rfl
 | (n,v)::r,m,h=>by
  unfold bindL;rw [B4i λw hw=>h w (Z1f _ hw)];split
  ·have:x≠n:=by rintro rfl;exact h v Z27
   simp [this]
  ·rfl
theorem B4f {kindOf:Str->Option NameKind} {x:Str}:∀{binds:List (Str×Value)} {m:Str->Option Value},(∀v,(x,v)∉binds)->bindC kindOf binds m x=m x
 | [],_,_=>rfl
 | (n,v)::r,m,h=>by
  unfold bindC;rw [B4f λw hw=>h w (Z1f _ hw)];split
  ·rfl
  ·have:x≠n:=by rintro rfl;exact h v Z27
   simp [this]
theorem B3u {kindOf:Str->Option NameKind} {x:Str} {v:Value}:∀{P:List Str} {vs:List Value} {i:Nat} {m:Str->Option Value},P.Nodup->P[i]? =some x->vs[i]? =some v->kindOf x=some .local->
  bindL kindOf (P.zip vs) m x=some v
 | [],_,_,_,_,h,_,_=>by simp at h
 | _::_,[],_,_,_,_,h,_=>by simp at h
 | p::P,w::vs,0,m,nd,h1,h2,hk=>by
  simp at h1 h2;subst h1;subst h2;show bindL kindOf ((p,w)::P.zip vs) m p=_;unfold bindL;rw [B4i λv hv=>(Z15.mp nd).1 (List.of_mem_zip hv).1,Z12 hk];simp
 | p::P,w::vs,i+1,m,nd,h1,h2,hk=>by
  show bindL kindOf ((p,w)::P.zip vs) m x=_;unfold bindL;exact B3u (i:=i) (Z15.mp nd).2 (by simpa using h1) (by simpa using h2) hk
theorem B3m {kindOf:Str->Option NameKind} {x:Str} {v:Value}:∀{P:List Str} {vs:List Value} {i:Nat} {m:Str->Option Value},P.Nodup->P[i]? =some x->vs[i]? =some v->kindOf x≠some .local->
  bindC kindOf (P.zip vs) m x=some v
 | [],_,_,_,_,h,_,_=>by simp at h
 | _::_,[],_,_,_,_,h,_=>by simp at h
 | p::P,w::vs,0,m,nd,h1,h2,hk=>by
  simp at h1 h2;subst h1;subst h2;show bindC kindOf ((p,w)::P.zip vs) m p=_;unfold bindC;rw [B4f λv hv=>(Z15.mp nd).1 (List.of_mem_zip hv).1,Z0t hk];simp
 | p::P,w::vs,i+1,m,nd,h1,h2,hk=>by
  show bindC kindOf ((p,w)::P.zip vs) m x=_;unfold bindC;exact B3m (i:=i) (Z15.mp nd).2 (by simpa using h1) (by simpa using h2) hk
def B2v (N:List Str) (vs:List V):St:=vs.map some++List.replicate (N.length-vs.length) none
def C1z (CX:CXT) (P:Program) (w:World) (K:PySem.W.Frag) (mg:Str->Option Value) (base:Heap) (N:List Str) (qual:Str) (scope:Scope) (f:Addr) (cd:Value) (A:Around) (outer:List Env) (s:Shared) (H:Hp) (E:XK):Cx where
 prog:=P
 w:=w
 K:=K
 mg:=mg
 base:=base
 A:=A.deeper (envOfC qual scope s.heap.objs.size f cd)
 N:=N
 s₀:=s
 H₀:=H
 env:=envOfC qual scope s.heap.objs.size f cd
 outer:=outer
 stack:=envOfC qual scope s.heap.objs.size f cd::outer
 ex:=[]
 calm:=true
 fn:=λ_=>true
 pn:=[]
 xe:=λe s'=>wpAny (model P w) (A.deeper (envOfC qual scope s.heap.objs.size f cd)) (leaving (envOfC qual scope s.heap.objs.size f cd) e) (λ_ s''=>CX outer H s E e s'') (λe' s''=>CX outer H s E e' s'') s'
theorem B6l {sc:Scope} {n:Nat} {x:Str} (h:sc.names.lookup x=some .cell):∃c,(cellsFrom n sc.names []).lookup x=some c:=by
 have q:=PySem.W.cellsFrom_some sc.names n [] (.inl h);exact Option.isSome_iff_exists.mp q
theorem C1r {CX:CXT} {P:Program} {w:World} {K:PySem.W.Frag} {mg:Str->Option Value} {base:Heap} {N ps:List Str} {qual:Str} {scope:Scope} {f:Addr} {cd:Value} {A:Around} {outer:List Env} {s s1:Shared} {H:Hp} {E:XK} {us:List Value} {vs:List V}
  (S:A0z N ps scope) (hd:A.handled=none) (e0:C5o P w K mg base A outer s H) (hl:vs.length=ps.length) (r:A3a vs us)
  (x:InCallC s s.heap.objs.size (bindL (envOfC qual scope s.heap.objs.size f cd).kindOf (ps.zip us) λ_=>none) (cellsFrom (s.heap.objs.size+1) scope.names []) (bindC (envOfC qual scope s.heap.objs.size f cd).kindOf (ps.zip us) λ_=>none) s1) :
  Inv (C1z CX P w K mg base N qual scope f cd A outer s H E) [] (B2v N vs) H s1:=by
 have hpl:ps.length<=N.length:=by have:=congrArg List.length S.pre;rw [Z0x] at this;omega
 obtain ⟨h1,tk,rfl,hk⟩:=x.done;have noA:∀b:Addr,b∉(C1z CX P w K mg base N qual scope f cd A outer s H E).ex:=λb z=>absurd (show b∈([]:List Addr) from z) (by simp)
 refine ⟨⟨e0.mod,S.kind,rfl,rfl,Z09 _,λy z c h1 h2=> ?_,λy hy=> ?_,λy c _ h=> ?_,λ_=>hd,Around.frames_deeper e0.frames,.inr ⟨rfl,rfl⟩,λb z=>absurd z (noA b),e0.bs,e0.bsz,λb _ _=>noA b,λb z=>absurd z (noA b),e0.funs,e0.frf⟩,
  rfl,e0.bare,Un.kept hk,⟨_,x.toInCall.ns,λi y v h1 h2 h3=> ?_⟩,λy c h=>⟨_,x.cell y c h⟩,e0.hok.fresh (Z09 _),λy c h=> ?_,λp hp=>absurd (show p∈([]:List (Addr×Obj)) from hp) (by simp),e0.hok.kept hk,?_⟩
 ·exact name_of_addr x.apart (PySem.mem_of_lookup h1) (PySem.mem_of_lookup h2)
 ·have hy:scope.names.lookup y=some .cell\/scope.names.lookup y=some .free:=hy;rcases hy with hy | hy
  ·exact B6l hy
  ·exact absurd rfl (S.nofree _ (PySem.mem_of_lookup hy))
 ·exact Nat.le_of_lt (x.above y c (PySem.mem_of_lookup h))
 ·have hi:i<vs.length:=by
   unfold B2v at h2;by_cases hi:i<vs.length
   ·exact hi
   ·rw [Z1l (by simpa using hi)] at h2;rw [List.getElem?_replicate] at h2;split at h2 <;> cases h2
  have ha:vs[i]? =some v:=by
   unfold B2v at h2;rw [Z26 (by simpa using hi),Z1z] at h2
   cases e:vs[i]? with
   | none=>rw [e] at h2;cases h2
   | some a=>rw [e] at h2;cases h2;rfl
  obtain ⟨u,hu,rv⟩:=r.get ha
  have hp:ps[i]? =some y:=by
   rw [<-S.pre,List.getElem?_take_of_lt (by omega)];exact h1
  have ndP:ps.Nodup:=by rw [<-S.pre];exact S.nd.sublist (List.take_sublist _ _)
  refine ⟨u,rv,?_⟩;rcases S.par y (Z13 hp) with k | k
  ·exact .inl ⟨k,B3u ndP hp hu k⟩
  ·obtain ⟨c,e⟩:=B6l (n:=s.heap.objs.size+1) k;refine .inr ⟨.inl k,c,e,?_⟩;have q:=x.cell y c e;rw [B3m ndP hp hu (by show scope.names.lookup y≠_;rw [k];decide)] at q;exact q
 ·exact e0.hok.fresh (Nat.le_of_lt (x.above y c (PySem.mem_of_lookup h)))
 ·unfold B2v;show _=N.length;rw [Z06,Z08,List.length_replicate];omega
theorem C9x {CX:CXT} {P:Program} {w:World} {K:PySem.W.Frag} {mg:Str->Option Value} {base:Heap} {k:Nat} {f:Addr} {name qual:Str} {params:Arguments} {body:List Stmt} {scope:Scope} {dV kV doc pm cdv ct oc:Value} {an od:Option Addr}
  {osl:Array (Option Value)} {N ps:List Str} {sp:Sp} (lk:K.lookup f=some ⟨oc,od,.func (PySem.W.fnOf name qual params body scope dV kV doc pm an cdv ct),osl⟩) (hcd:PySem.W.codeIn K cdv qual=true) (S:A0z N ps scope)
  (len:∀vs H Q E,sp vs H Q E->vs.length=ps.length)
  (hbody:∀(A:Around) (outer:List Env) (s:Shared) (H:Hp) (vs:List V) (Q:VK) (E:XK),A9k k (A.deeper (envOfC qual scope s.heap.objs.size f cdv))->sp vs H Q E->
   ∃t,PSs (C1z CX P w K mg base N qual scope f cdv A outer s H E) body t/\t { nx:=λ_ H'=>Q .non H',rt:=Q } (B2v N vs) H) :
  A2f P w K mg base CX (k+1) f (PySem.W.fnOf name qual params body scope dV kV doc pm an cdv ct) ps sp:=by
 refine ⟨len,λA outer s H args us vs Q E hr e0 hb r hsp=> ?_⟩;have hl:=len _ _ _ _ hsp;have KX:K.In s.heap:=e0.mod.kin.keeps λb o e=>(e0.bs b o e).1;have lim:s.heap.NoLimit:=e0.mod.nolimit.keeps λb o e=>(e0.bs b o e).1
 have hkind:∀y∈ps.zip us,scope.names.lookup y.1=some .local\/(scope.names.lookup y.1=some .cell/\((cellsFrom (s.heap.objs.size+1) scope.names []).lookup y.1).isSome=true):=λ⟨n,v⟩ hy=>by
  rcases S.par n (List.of_mem_zip hy).1 with q | q
  ·exact .inl q
  ·exact .inr ⟨q,PySem.W.cellsFrom_some _ _ _ (.inl q)⟩
 refine codeAny_call_function hr.depth (KX _ _ lk) rfl S.co S.gen rfl (PySem.W.codeRec_of KX hcd) (hb _ _ _ _ ?_);refine wpAny_newFunctionEnv_cells S.kind hkind λenv he s1 x=> ?_;subst he;refine ⟨lim.keeps x.toInCall.keep,codeAny_func ?_⟩;obtain ⟨t,ht,hq⟩:=hbody A outer s H vs Q E (hr.deeper _) hsp;have I:Inv (C1z CX P w K mg base N qual scope f cdv A outer s H E) [] (B2v N vs) H s1:=C1r S hr.hd e0 hl r x;refine Z10 (ht [] s1 (B2v N vs) H _ I hq) (λfl s' hs=> ?_) λe s' hs=>hs
 have fin:∀{σ':St} {H':Hp} {v:V} {u:Value},Inv (C1z CX P w K mg base N qual scope f cdv A outer s H E) [] σ' H' s'->A2v v u->Q v H'->CE outer P w H s Q u s' :=
  λ{σ' H' v u} J rv q=>⟨v,H',J.os,J.bare,J.base,J.hok,rv,q⟩
 cases fl with
 | ret u =>
  obtain ⟨v,σ',H',J,rv,q⟩:=hs;exact fin J rv q
 | next =>
  obtain ⟨σ',H',J,q⟩:=hs;exact fin (v:=V.non) (u:=Value.none) J rfl q
 | brk =>
  obtain ⟨_,_,_,q⟩:=hs;exact False.elim q
 | cont =>
  obtain ⟨_,_,_,q⟩:=hs;exact False.elim q
section
variable {X:Cx} {x:Str} {p pos:Pos} {e:Expr} {es:List Expr} {t:TA} {id T:String} {r:List V->Hp->VK->Prop}
def tCB (r:List V->Hp->VK->Prop) (t:TA):TE:=λσ H Q=>t σ H λvs H1=>r vs H1 Q
theorem A0u (hc:A7h X (.builtin id) r) (hg:Gl X x) (hm:X.mg x=none) (hv:bootBuiltins x=some (.builtin id)) (ha:PA X (e::es) t) (hn:x≠"__name__":=by decide) (hdb:(x == ("__debug__":Str))=false:=by decide)
  (he:starEach (e::es) X.env=(false,eval e X.env)::starEach es X.env:=by rfl) (hpl:(backTo pos (starEach es X.env)).any (·.1)=false:=by rfl):PE X (.Call (.Name x p) (e::es) [] pos) (tCB r t):=by
 intro pins s σ H Q I h;refine wpAny_Call_Name_kw (B1v I hg hm hv ?_ hn hdb);exact PyProof.Rows.callWith_builtin1 (thn (ha pos pins s σ H _ I h) λus s1 ⟨vs,H1,I1,r1,q1⟩=>hc pins s1 σ H1 vs us Q I1 r1 q1) he hpl
theorem A3l (hc:A7h X (.type T) r) (hg:Gl X x) (hm:X.mg x=none) (hv:bootBuiltins x=some (.type T)) (ha:PA X (e::es) t) (hn:x≠"__name__":=by decide) (hdb:(x == ("__debug__":Str))=false:=by decide)
  (he:starEach (e::es) X.env=(false,eval e X.env)::starEach es X.env:=by rfl) (hpl:(backTo pos (starEach es X.env)).any (·.1)=false:=by rfl):PE X (.Call (.Name x p) (e::es) [] pos) (tCB r t):=by
 intro pins s σ H Q I h;refine wpAny_Call_Name_kw (B1v I hg hm hv ?_ hn hdb);exact PyProof.Rows.callWith_type1 (thn (ha pos pins s σ H _ I h) λus s1 ⟨vs,H1,I1,r1,q1⟩=>hc pins s1 σ H1 vs us Q I1 r1 q1) he hpl
end
end L2
namespace HT
open PySem PyProof.Rows
section
open PySem.SeqAt
open PySem.AutoSeq1 (wpAny_loadPart')
open PySem.MeetsSeq PySem.MeetsSeq2 PySem.MeetsSeq3
end
section
variable {prog:Program} {w:World} {A:Around} {E:Value->Shared->Prop} {s:Shared}
def sIx (n d:Nat):Option Int->Nat
 | none=>d
 | some v=>if v<0 then (v+(n:Int)).toNat else min v.toNat n
end
end HT
namespace L2
open PySem PySem.Spec PyProof.Rows
abbrev TO:=St->Hp->(Option Int->Hp->Prop)->Prop
def PO (X:Cx) (e:Option Expr) (t:TO):Prop :=
 ∀(pins:List (Addr×Obj)) (s:Shared) (σ:St) (H:Hp) (Q:Option Int->Hp->Prop),Inv X pins σ H s->t σ H Q->
  wpAny (model X.prog X.w) X.A (evalPart e X.env) (λu s'=>∃o H',Inv X pins σ H' s'/\IsPart u o/\Q o H') X.xe s
def C5z:TO:=λ_ H Q=>Q none H
def D1h (t:TE):TO:=λσ H Q=>t σ H λx H1=>∃i,x= .int i/\Q (some i) H1
section
variable {X:Cx} {e:Expr} {te:TE} {lo hi:Option Expr} {tl th:TO} {pos p2:Pos}
theorem A5e:PO X none C5z:=by
 intro pins s σ H Q I h;rw [evalPart_none];exact Z04 ⟨none,H,I,.none,h⟩
theorem A5d (h:PE X e te):PO X (some e) (D1h te):=by
 intro pins s σ H Q I hw;rw [evalPart_some];refine thn (h pins s σ H _ I hw) λu s1 ⟨x,H1,I1,r1,q1⟩=> ?_;obtain ⟨i,rfl,q⟩:=q1;obtain ⟨t,rfl⟩:=r1;exact ⟨some i,H1,I1,.int i t,q⟩
def SlR (X:Cx) (r:V->Option Int->Option Int->Hp->VK->Prop):Prop :=
 ∀(pins:List (Addr×Obj)) (s:Shared) (σ:St) (H:Hp) (x:V) (v vl vu:Value) (lo hi:Option Int) (sl:Addr) (Q:VK),Inv X pins σ H s->A2v x v->s.heap.IsSliceOf sl vl vu .none->IsPart vl lo->IsPart vu hi->r x lo hi H Q->
  ∃T id,typeLookup (.type T) "__getitem__"=pure (some (.builtin id))/\s.TypeIs v T/\wpAny (model X.prog X.w) X.A (getItem v (.ref sl)) (EP X pins σ Q) X.xe s
def tSl (r:V->Option Int->Option Int->Hp->VK->Prop) (te:TE) (tl th:TO):TE:=λσ H Q=>te σ H λx H1=>tl σ H1 λl H2=>th σ H2 λu H3=>r x l u H3 Q
theorem A4e {r:V->Option Int->Option Int->Hp->VK->Prop} (hr:SlR X r) (he:PE X e te) (hl:PO X lo tl) (hu:PO X hi th):PE X (.Subscript e (.Slice lo hi none p2) pos) (tSl r te tl th):=by
 intro pins s σ H Q I h;refine Subscript_ (thn (he pins s σ H _ I h) λv s1 ⟨x,H1,I1,r1,q1⟩=> ?_);refine wpAny_Slice (thn (hl pins s1 σ H1 _ I1 q1) λvl s2 ⟨l,H2,I2,pl,q2⟩=>thn (hu pins s2 σ H2 _ I2 q2) λvu s3 ⟨u,H3,I3,pu,q3⟩=> ?_);rw [evalPart_none];refine Z04 ?_;have I4:Inv X pins σ H3 { s3 with heap:=s3.heap.push { cls:= .type "slice",data:= .fields #[vl,vu,.none] } }:=I3.kept (t':=s3.toks) λb ob q=>Z01 _ q
 obtain ⟨T,id,hT,ht,hg⟩:=hr pins { s3 with heap:=s3.heap.push { cls:= .type "slice",data:= .fields #[vl,vu,.none] } } σ H3 x v vl vu l u s3.heap.objs.size Q I4 r1 (Heap.IsSliceOf.new ..) pl pu q3;show wpAny (model X.prog X.w) X.A (subscriptTail e (.Slice lo hi none p2) v (.ref s3.heap.objs.size)) (EP X pins σ Q) X.xe { s3 with heap:=s3.heap.push { cls:= .type "slice",data:= .fields #[vl,vu,.none] } };exact tail_any (ops:=[.ref s3.heap.objs.size,v]) ht hT hg (by with_unfolding_all rfl)
def C0z (xs:List V) (lo hi:Option Int):List V:=(xs.drop (HT.sIx xs.length 0 lo)).take (HT.sIx xs.length xs.length hi-HT.sIx xs.length 0 lo)
theorem B5k (xs:List V) (lo hi:Option Int):(C0z xs lo hi).length<=xs.length:=by
 unfold C0z;rw [Z0x,Z19];omega
end
def ixN (n:Nat) (i:Int):Option Nat:=if 0<=i then (if i<n then some i.toNat else none) else if -(n:Int)<=i then some (i+n).toNat else none
def atI {α:Type} (xs:List α) (i:Int):Option α:=(ixN xs.length i).bind λj=>xs[j]?
theorem C5x {n:Nat} {i:Int} {j:Nat} (h:ixN n i=some j):seqIndex? i n=some j/\j<n/\-(n:Int)<=i/\i<n:=by
 unfold ixN at h;by_cases h0:0<=i
 ·rw [Z12 h0] at h;by_cases h1:i<n
  ·rw [Z12 h1] at h;have e:i.toNat=j:=Z1a h;exact ⟨by rw [seqIndex_of h0 h1,e],by omega,by omega,h1⟩
  ·rw [Z0t h1] at h;cases h
 ·rw [Z0t h0] at h;by_cases h1: -(n:Int)<=i
  ·rw [Z12 h1] at h;have e:(i+n).toNat=j:=Z1a h;exact ⟨by rw [seqIndex_neg (by omega) h1,e],by omega,h1,by omega⟩
  ·rw [Z0t h1] at h;cases h
theorem B6a {α:Type} {xs:List α} {i:Int} {v:α} (h:atI xs i=some v):∃j,seqIndex? i xs.length=some j/\xs[j]? =some v/\j<xs.length/\-(xs.length:Int)<=i/\i<xs.length:=by
 unfold atI at h
 cases e:ixN xs.length i with
 | none=>rw [e] at h;cases h
 | some j =>
  rw [e] at h;obtain ⟨h1,h2,h3,h4⟩:=C5x e;exact ⟨j,h1,h,h2,h3,h4⟩
theorem A1d {α:Type} {xs:List α} {j:Nat} {v:α} (h:xs[j]? =some v):atI xs (j:Int)=some v:=by
 have hj:j<xs.length:=(Z03.mp h).1
 have e:ixN xs.length (j:Int)=some j:=by
  unfold ixN;rw [Z12 (by omega),Z12 (by omega)];simp
 unfold atI;rw [e];exact h
theorem C3k {α:Type} (xs:List α) (v:α):atI (xs++[v]) (-1)=some v:=by
 have hl:(xs++[v]).length=xs.length+1:=by simp
 have e:ixN (xs++[v]).length (-1)=some xs.length:=by
  unfold ixN;rw [hl,Z0t (by decide),Z12 (by omega)];congr 1;omega
 unfold atI;rw [e];show (xs++[v])[xs.length]? =some v;simp
def C6o (b:Expr):Prop:=∀o i,subscripted b false o i=operate [o,i] (getItem o i)
def IxR (X:Cx) (r:R2):Prop :=
 ∀(value slice:Expr) (pins:List (Addr×Obj)) (s:Shared) (σ:St) (H:Hp) (x y:V) (v u:Value) (Q:VK),Inv X pins σ H s->A2v x v->A2v y u->r x y H Q->
  subscripted slice false v u=operate [v,u] (getItem v u)->wpAny (model X.prog X.w) X.A (subscriptTail value slice v u) (EP X pins σ Q) X.xe s
def MtR (X:Cx) (id:String) (r:V->List V->Hp->VK->Prop):Prop :=
 ∀(pins:List (Addr×Obj)) (s:Shared) (σ:St) (H:Hp) (x:V) (xs:List V) (v:Value) (us:List Value) (Q:VK),Inv X pins σ H s->A2v x v->A3a xs us->r x xs H Q->
  wpAny (model X.prog X.w) X.A (call (.builtin id) (v::us)) (EP X pins σ Q) X.xe s
section
variable {X:Cx} {a b:Expr} {ta tb:TE} {pos:Pos}
theorem A1n {r:R2} (hr:IxR X r) (ha:PE X a ta) (hb:PE X b tb) (hs:C6o b):PE X (.Subscript a b pos) (tOp r ta tb):=by
 intro pins s σ H Q I h;exact Subscript_ (D0t ha hb I h λv u s2 x y H2 I2 rx ry q=>hr a b pins s2 σ H2 x y v u Q I2 rx ry q (hs _ _))
def D2a (K:PySem.W.Frag):R2:=λx y H Q=>∃p xs i v,x= .ref p/\y= .int i/\SqL K H p xs/\atI xs i=some v/\Q v H
def D1u (K:PySem.W.Frag):R2:=λx y H Q=>∃p xs i v,x= .ref p/\y= .int i/\SqT K H p xs/\atI xs i=some v/\Q v H
def rIxS:R2:=λx y H Q=>∃z i c,x= .str z/\y= .int i/\z.length<=sizeLine/\atI z.cps.toList i=some c/\Q (.str ⟨#[c]⟩) H
theorem A4s:IxR X (D2a X.K):=by
 intro value slice pins s σ H x y v u Q I rx ry h hs;obtain ⟨p,xs,i,z,rfl,rfl,hq,he,q⟩:=h;cases rx;obtain ⟨t,rfl⟩:=ry;obtain ⟨its,r,pl,hz⟩:=I.list hq;obtain ⟨j,h1,h2,h3,h4,h5⟩:=B6a he;obtain ⟨w,ew,rw'⟩:=r.get h2;have hl:=r.length;have hn:=B3r;have fin:EP X pins σ Q w s:=⟨z,H,I,rw',q⟩;by_cases h0:0<=i
 ·have hj:i.toNat=j:=by
   rw [seqIndex_of h0 h5] at h1;exact Z1a h1
  exact item_listR pl.isList h0 (by omega) (by rw [hj];simpa using ew) fin hs
 ·have hj:(i+(its.toArray.size:Int)).toNat=j:=by
   rw [seqIndex_neg (by omega) h4] at h1;rw [Z0g,<-hl];exact Z1a h1
  exact subscriptTail_builtinR (x:=w) pl.isList.typeIs slot_list_getitem.lookup
   (wpAny_getItem_list_neg (Q:=λr s'=>r=w/\EP X pins σ Q r s') pl.isList (by omega) (by rw [Z0g] <;> omega) (by omega) (by rw [hj];simpa using ew) ⟨rfl,fin⟩) hs
theorem A1i:IxR X (D1u X.K):=by
 intro value slice pins s σ H x y v u Q I rx ry h hs;obtain ⟨p,xs,i,z,rfl,rfl,hq,he,q⟩:=h;cases rx;obtain ⟨t,rfl⟩:=ry;obtain ⟨its,r,pl,hz⟩:=I.tuple hq;obtain ⟨j,h1,h2,h3,h4,h5⟩:=B6a he;obtain ⟨w,ew,rw'⟩:=r.get h2;have hl:=r.length;have hn:=B3r;have fin:EP X pins σ Q w s:=⟨z,H,I,rw',q⟩
 exact subscriptTail_builtinR (x:=w) pl.typeIs slot_tuple_getitem.lookup
  (getItem_tuple (j:=j) (Q:=λr s'=>r=w/\EP X pins σ Q r s') pl (by omega) (by omega) (by rw [Z0g,<-hl];exact h1) (by simpa using ew) ⟨rfl,fin⟩) hs
theorem C5f:IxR X rIxS:=by
 intro value slice pins s σ H x y v u Q I rx ry h hs;obtain ⟨z,i,c,rfl,rfl,hz,he,q⟩:=h;obtain ⟨t,rfl⟩:=rx;obtain ⟨t',rfl⟩:=ry;obtain ⟨j,h1,h2,h3,h4,h5⟩:=B6a he;have hl:z.cps.toList.length=z.length:=by simp [Str.length]
 rw [hl] at h1 h4 h5;have hn:=B3r
 exact tail_any (typeIs_str s z t) slot_str_getitem.lookup (getItem_str (c:=c) (by
  have e1:decide (i< -(2^63:Int))=false:=Z1j (by omega);have e2:decide (i≥2^63)=false:=Z1j (by omega)
  rw [e1,e2,Bool.or_false]) (by rw [h1];simpa using h2) ⟨.str ⟨#[c]⟩,H,I.tok _,⟨_,rfl⟩,q⟩) hs
theorem B3k (lo hi:Option Int) (n:Nat):(sliceBounds lo hi none n).1=((HT.sIx n 0 lo:Nat):Int)/\(sliceBounds lo hi none n).2.1=((HT.sIx n n hi:Nat):Int)/\(sliceBounds lo hi none n).2.2=1:=by
 refine ⟨?_,?_,rfl⟩
 ·cases lo with
  | none=>simp [sliceBounds,HT.sIx]
  | some i =>
   simp only [sliceBounds,HT.sIx,Option.getD_none,show (1:Int)>0 by decide,if_true];by_cases h:i<0
   ·simp only [h,if_true] <;> omega
   ·simp only [h,if_false] <;> omega
 ·cases hi with
  | none=>simp [sliceBounds,HT.sIx]
  | some i =>
   simp only [sliceBounds,HT.sIx,Option.getD_none,show (1:Int)>0 by decide,if_true];by_cases h:i<0
   ·simp only [h,if_true] <;> omega
   ·simp only [h,if_false] <;> omega
theorem B2m (its:List Value) (lo hi:Option Int):slicePick its.toArray lo hi none=((its.drop (HT.sIx its.length 0 lo)).take (HT.sIx its.length its.length hi-HT.sIx its.length 0 lo)).toArray:=by
 obtain ⟨h1,h2,h3⟩:=B3k lo hi its.toArray.size;unfold slicePick;rw [h1,h2,h3];simp only [sliceRange_one,pick_run,Z0g] <;> rfl
def D2b (K:PySem.W.Frag):V->Option Int->Option Int->Hp->VK->Prop:=λx lo hi H Q=>∃a xs,x= .ref a/\SqL K H a xs/\∀p,H p=none->Q (.ref p) (upd H p (.lst (C0z xs lo hi)))
theorem A6f:SlR X (D2b X.K):=by
 intro pins s σ H x v vl vu lo hi sl Q I rx hs pl pu h;obtain ⟨a,xs,rfl,hx,q⟩:=h;cases rx;obtain ⟨its,r,ht,hz⟩:=I.list hx;have hlen:=r.length;refine ⟨"list",_,slot_list_getitem.lookup,ht.isList.typeIs,?_⟩;refine wpAny_getItem_list_slice ht.isList hs pl pu .none (by simp) ?_ (by rw [Z0g] <;> omega);rw [B2m,<-hlen];refine ⟨.ref s.heap.objs.size,_,I.laid (t':=s.toks) (o:= .lst (C0z xs lo hi)) (λb ob q=>Z01 _ q) (Z09 _) ?_,rfl,q _ (I.hok.fresh (Z09 _))⟩;exact ⟨Z1n (B5k xs lo hi) hz,_,0,(r.drop (HT.sIx xs.length 0 lo)).take (HT.sIx xs.length xs.length hi-HT.sIx xs.length 0 lo),Z0c _ rfl⟩
def B3f:V->Bool
 | .non=>true
 | .bl _=>true
 | .int _=>true
 | .str _=>true
 | _=>false
def eqV:V->V->Bool
 | .non,.non=>true
 | .bl a,.bl b=>a == b
 | .bl a,.int b=>(if a then 1 else 0) == b
 | .int a,.bl b=>a == (if b then 1 else 0)
 | .int a,.int b=>a == b
 | .str a,.str b=>a == b
 | _,_=>false
theorem C7y {A:Around} {s:Shared} {y x:V} {u v:Value} (ry:A2v y u) (rx:A2v x v) (fy:B3f y=true) (fx:B3f x=true):SeqAt.EqAt A s u v (eqV y x):=by
 cases y with
 | non =>
  cases ry
  cases x with
  | non=>cases rx;exact SeqAt.EqAt.same _
  | bl b=>cases rx;exact SeqAt.EqAt.none_bool b
  | int b=>obtain ⟨t,rfl⟩:=rx;exact SeqAt.EqAt.none_int b t
  | str b=>obtain ⟨t,rfl⟩:=rx;exact SeqAt.EqAt.none_str b t
  | _=>exact absurd (show false=true from fx) Z0v
 | bl a =>
  cases ry
  cases x with
  | non=>cases rx;exact SeqAt.EqAt.bool_none a
  | bl b=>cases rx;exact SeqAt.EqAt.bool_bool a b
  | int b=>obtain ⟨t,rfl⟩:=rx;exact SeqAt.EqAt.bool_int a b t
  | str b=>obtain ⟨t,rfl⟩:=rx;exact SeqAt.EqAt.bool_str a b t
  | _=>exact absurd (show false=true from fx) Z0v
 | int a =>
  obtain ⟨t',rfl⟩:=ry
  cases x with
  | non=>cases rx;exact SeqAt.EqAt.int_none a t'
  | bl b=>cases rx;exact SeqAt.EqAt.int_bool a t' b
  | int b=>obtain ⟨t,rfl⟩:=rx;exact SeqAt.EqAt.int_int a t' b t
  | str b=>obtain ⟨t,rfl⟩:=rx;exact SeqAt.EqAt.int_str a t' b t
  | _=>exact absurd (show false=true from fx) Z0v
 | str a =>
  obtain ⟨t',rfl⟩:=ry
  cases x with
  | non=>cases rx;exact SeqAt.EqAt.str_none a t'
  | bl b=>cases rx;exact SeqAt.EqAt.str_bool a t' b
  | int b=>obtain ⟨t,rfl⟩:=rx;exact SeqAt.EqAt.str_int a t' b t
  | str b=>obtain ⟨t,rfl⟩:=rx;exact SeqAt.EqAt.str_str a t' b t
  | _=>exact absurd (show false=true from fx) Z0v
 | _=>exact absurd (show false=true from fy) Z0v
def eqU (x:V) (u:Value):Bool:=match u with
 | .none=>eqV .non x
 | .bool b=>eqV (.bl b) x
 | .int i _=>eqV (.int i) x
 | .str z _=>eqV (.str z) x
 | _=>false
theorem C5e {x y:V} {u:Value} (r:A2v y u) (f:B3f y=true):eqU x u=eqV y x:=by
 cases y with
 | non=>cases r;rfl
 | bl b=>cases r;rfl
 | int i=>obtain ⟨t,rfl⟩:=r;rfl
 | str z=>obtain ⟨t,rfl⟩:=r;rfl
 | _=>exact absurd (show false=true from f) Z0v
theorem B0u {x:V}:∀{xs:List V} {us:List Value},A3a xs us->xs.all B3f=true->us.any (eqU x)=xs.any λy=>eqV y x
 | _,_,.nil,_=>rfl
 | y::xs,u::us,.cons r t,f=>by
  rw [List.all_cons,Z1x] at f;rw [List.any_cons,List.any_cons,C5e r f.1,B0u t f.2]
theorem A8d {A:Around} {s:Shared} {x:V} {v:Value} (rx:A2v x v) (fx:B3f x=true):∀{xs:List V} {us:List Value},A3a xs us->xs.all B3f=true->∀u∈us,SeqAt.EqAt A s u v (eqU x u)
 | _,_,.nil,_=>λu hu=>by cases hu
 | y::xs,u::us,.cons r t,f=>λu' hu=>by
  rw [List.all_cons,Z1x] at f;rcases Z0e.mp hu with rfl | hu
  ·rw [C5e r f.1];exact C7y r rx f.1 fx
  ·exact A8d rx fx t f.2 u' hu
def inV (x:V) (xs:List V):Bool:=xs.any λy=>eqV y x
def rIn (K:PySem.W.Frag) (neg:Bool):R2:=λx y H Q=>∃p xs,y= .ref p/\(SqL K H p xs\/SqT K H p xs)/\B3f x=true/\xs.all B3f=true/\Q (.bl (if neg then !inV x xs else inV x xs)) H
theorem A6w:OpR X (compareOp .In) (rIn X.K false):=by
 intro pins s σ H x y v u Q I rx ry h;obtain ⟨p,xs,rfl,hq,fx,fs,q⟩:=h;cases ry;rcases hq with hq | hq
 ·obtain ⟨its,r,pl,hz⟩:=I.list hq;refine SeqAt.in_listAt (eqU x) pl.isList (λw hw=>A8d rx fx r fs w (by simpa using hw)) ⟨.bl _,H,I,rfl,?_⟩;rw [show its.toArray.any (eqU x)=its.any (eqU x) by simp,B0u r fs];exact q
 ·obtain ⟨its,r,pl,hz⟩:=I.tuple hq;refine SeqAt.in_tupleAt (eqU x) pl (λw hw=>A8d rx fx r fs w (by simpa using hw)) ⟨.bl _,H,I,rfl,?_⟩;rw [show its.toArray.any (eqU x)=its.any (eqU x) by simp,B0u r fs];exact q
theorem A1x:OpR X (compareOp .NotIn) (rIn X.K true):=by
 intro pins s σ H x y v u Q I rx ry h;obtain ⟨p,xs,rfl,hq,fx,fs,q⟩:=h;cases ry;rcases hq with hq | hq
 ·obtain ⟨its,r,pl,hz⟩:=I.list hq;refine SeqAt.notIn_listAt (eqU x) pl.isList (λw hw=>A8d rx fx r fs w (by simpa using hw)) ⟨.bl _,H,I,rfl,?_⟩;rw [show its.toArray.any (eqU x)=its.any (eqU x) by simp,B0u r fs];exact q
 ·obtain ⟨its,r,pl,hz⟩:=I.tuple hq;refine SeqAt.notIn_tupleAt (eqU x) pl (λw hw=>A8d rx fx r fs w (by simpa using hw)) ⟨.bl _,H,I,rfl,?_⟩;rw [show its.toArray.any (eqU x)=its.any (eqU x) by simp,B0u r fs];exact q
theorem A1b:A7h X (.builtin "len") (λxs H Q=>∃p ys,xs=[.ref p]/\(SqL X.K H p ys\/SqT X.K H p ys)/\Q (.int ys.length) H):=by
 intro pins s σ H xs us Q I r h;obtain ⟨p,ys,rfl,hq,q⟩:=h;obtain ⟨u,rfl,rx⟩:=B2x r;cases rx;have hn:=B3r;rcases hq with hq | hq
 ·obtain ⟨its,r',pl,hz⟩:=I.list hq;have hlen:=r'.length;exact Calls.call_len_list pl.isList (by simp only [Z0g] <;> omega) ⟨.int ys.length,H,I.tok _,⟨s.toks+1,by rw [Z0g,hlen]⟩,q⟩
 ·obtain ⟨its,r',pl,hz⟩:=I.tuple hq;have hlen:=r'.length;exact len_tuple pl (by simp only [Z0g] <;> omega) ⟨.int ys.length,H,I.tok _,⟨s.toks+1,by rw [Z0g,hlen]⟩,q⟩
theorem B3h:A7h X (.builtin "len") (λxs H Q=>∃z,xs=[.str z]/\z.length<=sizeLine/\Q (.int z.length) H):=by
 intro pins s σ H xs us Q I r h;obtain ⟨z,rfl,hz,q⟩:=h;obtain ⟨u,rfl,t,rfl⟩:=B2x r;have hn:=B3r;exact len_str (by omega) ⟨.int z.length,H,I.tok _,⟨_,rfl⟩,q⟩
theorem A3y:A7h X (.type "list") (λxs H Q=>∃p ys,xs=[.ref p]/\(SqL X.K H p ys\/SqT X.K H p ys)/\∀l,H l=none->Q (.ref l) (upd H l (.lst ys))):=by
 intro pins s σ H xs us Q I r h;obtain ⟨p,ys,rfl,hq,q⟩:=h;obtain ⟨u,rfl,rx⟩:=B2x r;cases rx
 have fin:∀(its:List Value),A3a ys its->ys.length<=sizeLine->∀(h':Heap) (c':Nat),(∀b o',s.heap.get? b=some o'->h'.get? b=some o')->
   h'.get? s.heap.objs.size=some { cls:= .type "list",dict:=none,data:= .seq its.toArray c',slots:= #[] }->EP X pins σ Q (.ref s.heap.objs.size) { s with heap:=h' }:=λits r' hz h' c' kp e =>
  ⟨.ref s.heap.objs.size,_,I.laid (t':=s.toks) kp (Z09 _) (show A2l X.prog X.w _ h' _ (.lst ys) from ⟨hz,its,c',r',e⟩),rfl,q _ (I.hok.fresh (Z09 _))⟩
 rcases hq with hq | hq
 ·obtain ⟨its,r',pl,hz⟩:=I.list hq;have hlen:=r'.length;obtain ⟨o,ho,hc,n,hd⟩:=pl.isList;exact call_list_seq p (.inl rfl) ho hc hd (λh' c' kp e=>fin its r' hz h' c' kp e) (by simp only [Z0g] <;> omega)
 ·obtain ⟨its,r',pl,hz⟩:=I.tuple hq;have hlen:=r'.length;obtain ⟨o,ho,hc,n,hd⟩:=pl;exact call_list_seq p (.inr rfl) ho hc hd (λh' c' kp e=>fin its r' hz h' c' kp e) (by simp only [Z0g] <;> omega)
theorem A6a:A7h X (.type "tuple") (λxs H Q=>∃p ys,xs=[.ref p]/\((SqL X.K H p ys/\∀l,H l=none->Q (.ref l) (upd H l (.tup ys)))\/(SqT X.K H p ys/\Q (.ref p) H))):=by
 intro pins s σ H xs us Q I r h;obtain ⟨p,ys,rfl,h⟩:=h;obtain ⟨u,rfl,rx⟩:=B2x r;cases rx;rcases h with ⟨hq,q⟩ | ⟨hq,q⟩
 ·obtain ⟨its,r',pl,hz⟩:=I.list hq;have hlen:=r'.length;refine call_tuple_list pl.isList (λh' kp=> ?_) (by simp only [Z0g] <;> omega);have I1:Inv X pins σ H { s with heap:=h' }:=I.kept (t':=s.toks) kp
  have I2:Inv X pins σ (upd H h'.objs.size (.tup ys)) { s with heap:=h'.push { cls:= .type "tuple",data:= .seq its.toArray } } :=
   I1.laid (t':=s.toks) (λb o e=>Z01 _ e) (Z09 _) (show A2l X.prog X.w _ _ _ (.tup ys) from ⟨hz,its,r',IsTup.new _ _⟩)
  exact ⟨.ref h'.objs.size,_,I2,rfl,q _ (I1.hok.fresh (Z09 _))⟩
 ·obtain ⟨its,r',pl,hz⟩:=I.tuple hq;exact call_tuple_same pl ⟨.ref p,H,I,rfl,q⟩
def tyV (K:PySem.W.Frag) (T:String) (x:V) (H:Hp):Prop:=match x with
 | .str _=>T="str"
 | .int _=>T="int"
 | .ref p=>(T="list"/\∃xs,SqL K H p xs)\/(T="tuple"/\∃o,K.lookup p=some o/\o.cls= .type "tuple"/\o.dict=none)\/
   (T="dict"/\((∃kvs,H p=some (.dK kvs))\/∃kvs,H p=some (.dT kvs)))\/(T="set"/\∃S n,H p=some (.set S n))
 | _=>False
theorem C4c {pins:List (Addr×Obj)} {σ:St} {H:Hp} {s:Shared} {T:String} {x:V} {v:Value} (I:Inv X pins σ H s) (r:A2v x v) (ty:tyV X.K T x H) :
  s.TypeIs v T/\∀a,v= .ref a->∃ob,s.heap.get? a=some ob/\ob.dict=none:=by
 cases x with
 | str z =>
  obtain ⟨t,rfl⟩:=r;cases (show T="str" from ty);exact ⟨typeIs_str s z t,λ_ e=>nomatch e⟩
 | int i =>
  obtain ⟨t,rfl⟩:=r;cases (show T="int" from ty);exact ⟨typeIs_int s i t,λ_ e=>nomatch e⟩
 | ref p =>
  cases r
  rcases ty with ⟨rfl,xs,hq⟩ | ⟨rfl,o,hk,hc,hd⟩ | ⟨rfl,hk⟩ | ⟨rfl,S,n,hk⟩
  ·obtain ⟨its,_,pl,_⟩:=I.list hq;refine ⟨pl.isList.typeIs,λa e=> ?_⟩;cases e;obtain ⟨o,n,e,c,hd,_⟩:=pl;exact ⟨o,e,hd⟩
  ·refine ⟨⟨o,I.kIn p o hk,hc⟩,λa e=> ?_⟩;cases e;exact ⟨o,I.kIn _ o hk,hd⟩
  ·have z:∃o,s.heap.get? p=some o/\o.ExactDict:=by
    rcases hk with ⟨kvs,hk⟩ | ⟨kvs,hk⟩
    ·obtain ⟨_,_,_,_,o,_,_,e,ex,_⟩:=I.hok p _ hk;exact ⟨o,e,ex⟩
    ·obtain ⟨_,_,_,_,o,_,_,e,ex,_⟩:=I.hok p _ hk;exact ⟨o,e,ex⟩
   obtain ⟨o,e,ex⟩:=z;refine ⟨⟨o,e,ex.1⟩,λa e2=> ?_⟩;cases e2;exact ⟨o,e,ex.2.1⟩
  ·obtain ⟨o,_,_,_,e,ex,_⟩:=I.hok p _ hk;refine ⟨⟨o,e,ex.1⟩,λa e2=> ?_⟩;cases e2;exact ⟨o,e,ex.2.1⟩
 | _=>exact False.elim ty
def tBM0 (K:PySem.W.Frag) (T:String) (r:V->List V->Hp->VK->Prop) (to:TE):TE:=λσ H Q=>to σ H λx H1=>tyV K T x H1/\r x [] H1 Q
def tBM (K:PySem.W.Frag) (T:String) (r:V->List V->Hp->VK->Prop) (to:TE) (t:TA):TE:=λσ H Q=>to σ H λx H1=>tyV K T x H1/\t σ H1 λxs H2=>r x xs H2 Q
variable {o e:Expr} {es:List Expr} {to:TE} {t:TA} {name:Str} {apos cpos:Pos} {T id:String} {r:V->List V->Hp->VK->Prop}
theorem B9l (pa:PlainAttrs T) (slot:Slot T name id) (hty:typeOf (.builtin id)=pure (.type "method_descriptor")) (hm:MtR X id r) (ho:PE X o to)
  (hbase:attributeBase o name X.env (eval o X.env)=eval o X.env:=by rfl) (hline:(apos.endLine == cpos.line)=true:=by rfl):PE X (.Call (.Attribute o name apos) [] [] cpos) (tBM0 X.K T r to):=by
 intro pins s σ H Q I h;refine wpAny_Call_method0_late hbase hline (thn (ho pins s σ H _ I h) λv s1 ⟨x,H1,I1,r1,ty,q1⟩=> ?_);obtain ⟨h1,h2⟩:=C4c I1 r1 ty;exact ⟨T,id,pa,slot,hty,h1,h2,Calls.callWith_builtin rfl (PySem.evalArgs_none (hm pins s1 σ H1 x [] v [] Q I1 r1 .nil q1))⟩
theorem B1l (pa:PlainAttrs T) (slot:Slot T name id) (hty:typeOf (.builtin id)=pure (.type "method_descriptor")) (hm:MtR X id r) (ho:PE X o to) (ha:PA X (e::es) t)
  (hbase:attributeBase o name X.env (eval o X.env)=eval o X.env:=by rfl)
  (hfew:((backTo cpos (starEach (e::es) X.env)).all (λx=> !x.1)&&(backToKw cpos (keywordEach [] X.env)).all (λx=>x.1.isSome)
   && decide ((e::es).length+([]:List Keyword).length+(if ([]:List Keyword).isEmpty then 0 else 1)<30))=true:=by rfl)
  (hline:(apos.endLine == cpos.line)=true:=by rfl) (hs:starEach (e::es) X.env=(false,eval e X.env)::starEach es X.env:=by rfl) (hplain:(backTo cpos (starEach es X.env)).any (·.1)=false:=by rfl) :
  PE X (.Call (.Attribute o name apos) (e::es) [] cpos) (tBM X.K T r to t):=by
 intro pins s σ H Q I h;refine wpAny_Call_method_late hbase hfew hline rfl (thn (ho pins s σ H _ I h) λv s1 ⟨x,H1,I1,r1,ty,q1⟩=> ?_);obtain ⟨h1,h2⟩:=C4c I1 r1 ty;refine ⟨T,id,pa,slot,hty,h1,h2,?_⟩;have hA:=ha cpos pins s1 σ H1 _ I1 q1;rw [hs] at hA⊢;refine Calls.callWith_builtin (by show (false||(backTo cpos (starEach es X.env)).any (·.1))=false;rw [hplain] <;> rfl) (Calls.evalArgs_plain ?_);exact thn hA λus s2 ⟨vs,H2,I2,r2,q2⟩=>hm pins s2 σ H2 x vs v us Q I2 r1 r2 q2
end
def MtM (X:Cx) (id:String) (r:V->List V->Hp->VK->Prop):Prop :=
 ∀(pins:List (Addr×Obj)) (s:Shared) (σ:St) (H:Hp) (x:V) (xs:List V) (v:Value) (us:List Value) (Q:VK),Inv X pins σ H s->A2v x v->A3a xs us->r x xs H Q->
  wpAny (model X.prog X.w) X.A (call (.builtin id) (v::us)) (EP X pins σ Q) X.xe s
theorem A3a.one:∀{x:V} {us:List Value},A3a [x] us->∃u,us=[u]/\A2v x u
 | _,_,.cons r .nil=>⟨_,rfl,r⟩
theorem A3a.zero:∀{us:List Value},A3a [] us->us=[]
 | _,.nil=>rfl
theorem A3a.dropLast {xs:List V} {us:List Value} (h:A3a xs us):A3a xs.dropLast us.dropLast:=by
 induction h with
 | nil=>exact .nil
 | cons r t ih =>
  cases t with
  | nil=>exact .nil
  | cons q t'=>exact .cons r ih
theorem B7t {α:Type} (l:List α):l.eraseIdx (l.length-1)=l.dropLast:=by
 induction l with
 | nil=>rfl
 | cons a r ih =>
  cases r with
  | nil=>rfl
  | cons b r =>
   have e:(a::b::r).length-1=((b::r).length-1)+1:=by
    have h1:(a::b::r).length=r.length+2:=rfl;have h2:(b::r).length=r.length+1:=rfl;omega
   rw [e,List.eraseIdx_cons_succ,ih]
   all_goals rfl
section
variable {X:Cx} {pins:List (Addr×Obj)} {σ:St} {H:Hp} {s:Shared} {l b:Addr} {xs ys zs:List V}
theorem Inv.lset {its its':List Value} {n:Nat} {f:Array Value->Array Value} {t':Nat} (I:Inv X pins σ H s) (hH:H l=some (.lst xs))
  (e:s.heap.get? l=some { cls:= .type "list",data:= .seq its.toArray n }) (hf:f its.toArray=its'.toArray) (hv:A3a ys its') (hz:ys.length<=sizeLine) :
  Inv X pins σ (upd H l (.lst ys)) { s with heap:=s.heap.update l (Obj.mapSeq f),toks:=t' }:=by
 have q:=PySem.IsL.update e f;rw [hf] at q;refine I.write (x:=l) (e:=l) (by rw [hH];exact trivial) (.inl rfl) (λb' u hb hu=>(Heap.get?_update_other s.heap (Obj.mapSeq f) (Ne.symm hb)).trans hu) ⟨_,q⟩ ?_;exact ⟨hz,its',_,hv,q⟩
theorem Inv.lnew {its:List Value} {t':Nat} (I:Inv X pins σ H s) (hv:A3a ys its) (hz:ys.length<=sizeLine) :
  Inv X pins σ (upd H s.heap.objs.size (.lst ys)) { s with heap:=s.heap.push { cls:= .type "list",data:= .seq its.toArray },toks:=t' } :=
 I.laid (λ_ _ q=>Z01 _ q) (Z09 _) ⟨hz,its,0,hv,Z0c _ rfl⟩
theorem Inv.fresh (I:Inv X pins σ H s):H s.heap.objs.size=none:=I.hok.fresh (Z09 _)
theorem Inv.lstM (I:Inv X pins σ H s) (hH:H l=some (.lst xs)):xs.length<=sizeLine/\∃(its:List Value) (n:Nat),A3a xs its/\xs.length=its.length/\s.heap.get? l=some { cls:= .type "list",data:= .seq its.toArray n }:=by
 obtain ⟨z,its,n,r,e⟩:=I.hok l _ hH;exact ⟨z,its,n,r,r.length,e⟩
theorem C2h {n:Nat} (h:n<=sizeLine):Builtin.List.listTooLong n=false:=by
 unfold Builtin.List.listTooLong;exact Z1j (by omega)
end
section
variable {X:Cx}
def C5l:V->List V->Hp->VK->Prop:=λx vs H Q=>∃l xs y,x= .ref l/\vs=[y]/\H l=some (.lst xs)/\xs.length<sizeLine/\Q .non (upd H l (.lst (xs++[y])))
theorem A3u:MtM X "list.append" C5l:=by
 intro pins s σ H x vs v us Q I rx rv h;obtain ⟨l,xs,y,rfl,rfl,hH,hz,q⟩:=h;cases rx;obtain ⟨u,rfl,ru⟩:=rv.one;obtain ⟨z,its,n,r,hl,e⟩:=I.lstM hH;refine call_meets F.slot_list_append ⟨_,e,rfl⟩ F.entry_list_append (F.args_list_append_2 _ _) (PySem.list_append l its.toArray n u (by rw [Z0g];omega)) ⟨e,?_⟩;refine ⟨.non,_,I.lset (its':=its++[u]) hH e (by simp) (r.append (.cons ru .nil)) ?_,rfl,q⟩;rw [Z06,Z0j];omega
def C6s:V->List V->Hp->VK->Prop:=λx vs H Q=>∃l b xs zs,x= .ref l/\vs=[.ref b]/\H l=some (.lst xs)/\H b=some (.lst zs)/\xs.length+zs.length<=sizeLine/\Q .non (upd H l (.lst (xs++zs)))
theorem B3t:MtM X "list.extend" C6s:=by
 intro pins s σ H x vs v us Q I rx rv h;obtain ⟨l,b,xs,zs,rfl,rfl,hH,hB,hz,q⟩:=h;cases rx;obtain ⟨u,rfl,ru⟩:=rv.one;cases ru;obtain ⟨z,its,n,r,hl,e⟩:=I.lstM hH;obtain ⟨z2,its2,n2,r2,hl2,e2⟩:=I.lstM hB;have hsz:its.toArray.size+its2.toArray.size<=sizeLine:=by rw [Z0g,Z0g];omega
 have hlong:¬(!its.toArray.isEmpty&&Builtin.List.listTooLong (its.toArray.size+its2.toArray.size))=true:=by
  rw [C2h hsz,Bool.and_false];exact Z0v
 refine call_meets F.slot_list_extend ⟨_,e,rfl⟩ F.entry_list_extend (F.args_list_extend_2 _ _)
  (AutoSeq1.list_extend_list_list_0 l its.toArray n b its2.toArray n2 hlong (by rw [Z0g];omega) (by omega)) ⟨e,e2,?_⟩
 refine ⟨.non,_,I.lset (its':=its++its2) hH e (by simp) (r.append r2) ?_,rfl,q⟩;rw [Z06];omega
def rPop:V->List V->Hp->VK->Prop:=λx vs H Q=>∃l xs y,x= .ref l/\vs=[]/\H l=some (.lst xs)/\xs[xs.length-1]? =some y/\Q y (upd H l (.lst xs.dropLast))
theorem C7t:MtM X "list.pop" rPop:=by
 intro pins s σ H x vs v us Q I rx rv h;obtain ⟨l,xs,y,rfl,rfl,hH,hy,q⟩:=h;cases rx;have hus:=rv.zero;subst hus;obtain ⟨z,its,n,r,hl,e⟩:=I.lstM hH;obtain ⟨u,hu,ru⟩:=r.get hy
 have hy':its.toArray[its.toArray.size-1]? =some u:=by
  show its.toArray[its.length-1]? =some u;rw [<-Array.getElem?_toList,<-hl];exact hu
 refine call_meets F.slot_list_pop ⟨_,e,rfl⟩ F.entry_list_pop (F.args_list_pop_1 _) (MeetsSeq.list_pop_last l its.toArray n u hy' (by rw [Z0g];omega)) ⟨e,?_⟩;refine ⟨y,_,I.lset (its':=its.dropLast) hH e ?_ r.dropLast ?_,ru,q⟩
 ·show its.toArray.eraseIdxIfInBounds (its.toArray.size-1)=its.dropLast.toArray;rw [Z0g,List.eraseIdxIfInBounds_toArray,B7t]
 ·rw [List.length_dropLast];omega
def C8d:V->List V->Hp->VK->Prop:=λx vs H Q=>∃l xs,x= .ref l/\vs=[]/\H l=some (.lst xs)/\Q .non (upd H l (.lst []))
theorem C3r:MtM X "list.clear" C8d:=by
 intro pins s σ H x vs v us Q I rx rv h;obtain ⟨l,xs,rfl,rfl,hH,q⟩:=h;cases rx;have hus:=rv.zero;subst hus;obtain ⟨z,its,n,r,hl,e⟩:=I.lstM hH;refine call_meets F.slot_list_clear ⟨_,e,rfl⟩ F.entry_list_clear (F.args_list_clear_1 _) (AutoSeq1.list_clear_list_0 l its.toArray n (by rw [Z0g];omega)) ⟨e,?_⟩;exact ⟨.non,_,I.lset (its':=[]) (ys:=[]) hH e rfl .nil (Z1e _),rfl,q⟩
def rCat:R2:=λx y H Q=>∃l b xs zs,x= .ref l/\y= .ref b/\H l=some (.lst xs)/\H b=some (.lst zs)/\xs.length+zs.length<=sizeLine/\∀p,H p=none->Q (.ref p) (upd H p (.lst (xs++zs)))
theorem A5g:OpR X (binaryOp .Add) rCat:=by
 intro pins s σ H x y v u Q I rx ry h;obtain ⟨l,b,xs,zs,rfl,rfl,hH,hB,hz,q⟩:=h;cases rx;cases ry;obtain ⟨z,its,n,r,hl,e⟩:=I.lstM hH;obtain ⟨z2,its2,n2,r2,hl2,e2⟩:=I.lstM hB;refine PySem.P.add_list e e2 ?_ (by rw [Z0g,Z0g];omega);have ea:its.toArray++its2.toArray=(its++its2).toArray:=by simp
 rw [ea];exact ⟨.ref _,_,I.lnew (t':=s.toks) (r.append r2) (by rw [Z06];omega),rfl,q _ I.fresh⟩
end
section
variable {prog:Program} {w:World} {A:Around} {E:Value->Shared->Prop} {s:Shared}
set_option maxRecDepth 100000 in
end
section
variable {X:Cx}
end
section
variable {κ:Type} [DecidableEq κ]
def A9p (kvs:List (κ×V)) (k:κ):Option V:=(kvs.find? λkv=>decide (kv.1=k)).map (·.2)
def A4o (kvs:List (κ×V)) (k:κ) (v:V):List (κ×V) :=
 if (kvs.any λkv=>decide (kv.1=k))=true then kvs.map (λkv=>if kv.1=k then (kv.1,v) else kv) else kvs++[(k,v)]
theorem A8n {p:κ×V} {r:List (κ×V)} {k:κ} (e:p.1=k):A9p (p::r) k=some p.2:=by simp [A9p,List.find?_cons,e]
theorem A8i {p:κ×V} {r:List (κ×V)} {k:κ} (e:¬p.1=k):A9p (p::r) k=A9p r k:=by simp [A9p,List.find?_cons,e]
theorem B2l (k:κ):∀kvs:List (κ×V),(kvs.any λkv=>decide (kv.1=k))=(A9p kvs k).isSome
 | []=>rfl
 | p::r=>by
  rw [List.any_cons];by_cases e:p.1=k
  ·simp only [A8n e,Z20 e,Bool.true_or,Option.isSome_some]
  ·rw [A8i e,Z1j e,Bool.false_or];exact B2l k r
theorem A7x (kvs:List (κ×V)) (k:κ) (v:V):(A4o kvs k v).length<=kvs.length+1:=by
 unfold A4o;split
 ·rw [Z08];omega
 ·rw [Z06,Z0y,List.length_nil];omega
theorem C3q {kvs:List (κ×V)} {k:κ} (v:V) (h:A9p kvs k=none):A4o kvs k v=kvs++[(k,v)]:=by
 unfold A4o;rw [B2l,h];exact Z0t (by decide)
theorem B8d.isSome_eq {o:Option V} {u:Option Value} (r:B8d o u):o.isSome=u.isSome:=by
 cases o with
 | none=>cases u with
  | none=>rfl
  | some _=>exact (show False from r).elim
 | some _=>cases u with
  | none=>exact (show False from r).elim
  | some _=>rfl
theorem KV.val {kvs:List (κ×V)} {vs:List (κ×Value)} (r:KV kvs vs) (k:κ):B8d (A9p kvs k) (valueAt vs k):=by
 unfold KV at r
 induction r with
 | nil=>exact True.intro
 | @cons p q ps qs h t ih =>
  obtain ⟨h1,h2⟩:=h;by_cases e:p.1=k
  ·have e':q.1=k:=h1.symm.trans e;have b:valueAt (q::qs) k=some q.2:=by simp [valueAt,List.find?_cons,e']
   rw [A8n e,b];exact h2
  ·have e':¬q.1=k:=λz=>e (h1.trans z);have b:valueAt (q::qs) k=valueAt qs k:=by simp [valueAt,List.find?_cons,e']
   rw [A8i e,b];exact ih
theorem KV.any {kvs:List (κ×V)} {vs:List (κ×Value)} (r:KV kvs vs) (k:κ):(kvs.any λkv=>decide (kv.1=k))=vs.any λkv=>decide (kv.1=k):=by
 unfold KV at r
 induction r with
 | nil=>rfl
 | cons h t ih=>rw [List.any_cons,List.any_cons,ih,h.1]
theorem KV.repl {kvs:List (κ×V)} {vs:List (κ×Value)} (r:KV kvs vs) (k:κ) {y:V} {u:Value} (ry:A2v y u) :
  KV (kvs.map λkv=>if kv.1=k then (kv.1,y) else kv) (vs.map λkv=>if kv.1=k then (kv.1,u) else kv):=by
 unfold KV at r⊢
 induction r with
 | nil=>exact .nil
 | @cons p q ps qs h t ih =>
  rw [Z0p,Z0p];refine .cons ?_ ih;obtain ⟨h1,h2⟩:=h;by_cases e:p.1=k
  ·rw [Z12 e,Z12 (h1.symm.trans e)];exact ⟨h1,ry⟩
  ·rw [Z0t e,Z0t (λz=>e (h1.trans z))];exact ⟨h1,h2⟩
theorem KV.put {kvs:List (κ×V)} {vs:List (κ×Value)} (r:KV kvs vs) (k:κ) {y:V} {u:Value} (ry:A2v y u):KV (A4o kvs k y) (stored vs k u):=by
 unfold A4o stored;rw [r.any k];by_cases e:(vs.any λkv=>decide (kv.1=k))=true
 ·rw [Z12 e,Z12 e];exact r.repl k ry
 ·rw [Z0t e,Z0t e];exact Paired.snoc r ⟨rfl,ry⟩
theorem KV.length {kvs:List (κ×V)} {vs:List (κ×Value)} (r:KV kvs vs):kvs.length=vs.length:=Paired.length r
end
theorem B5a {P:Program} {w:World} {k:Key} {u:Value} (r:A2v (kV k) u):(A2h P w).is k u=true:=by
 cases k with
 | inl i=>obtain ⟨t,e⟩:=(show∃t,u=Value.int i t from r);subst e;exact B5r P w i t
 | inr x=>obtain ⟨t,e⟩:=(show∃t,u=Value.str x t from r);subst e;exact B5n P w x t
theorem B4r {P:Program} {w:World}:∀{ks:List Key} {us:List Value},A3a (ks.map kV) us->ItemsAre (A2h P w) ks us
 | [],_,r=>by rw [List.map_nil] at r;cases r;exact .nil
 | k::ks,_,r=>by
  rw [Z0p] at r
  cases r with
  | cons h t=>exact .cons (B5a h) (B4r t)
abbrev KT (H:Hp):List (List Key×V)->List (List Key×Addr×Value)->Prop:=Paired λp q=>p.1=q.1/\H q.2.1=some (.tup (p.1.map kV))/\A2v p.2 q.2.2
theorem KT.val {H:Hp} {kvs:List (List Key×V)} {xs:List (List Key×Addr×Value)} (r:KT H kvs xs) (k:List Key):B8d (A9p kvs k) ((atKey xs k).map (·.2)):=by
 induction r with
 | nil=>exact True.intro
 | @cons p q ps qs h t ih =>
  obtain ⟨h1,_,h2⟩:=h;by_cases e:p.1=k
  ·have e':q.1=k:=h1.symm.trans e;have b:atKey (q::qs) k=some q.2:=by simp [atKey,List.find?_cons,e']
   rw [A8n e,b];exact h2
  ·have e':¬q.1=k:=λz=>e (h1.trans z);have b:atKey (q::qs) k=atKey qs k:=by simp [atKey,List.find?_cons,e']
   rw [A8i e,b];exact ih
theorem KT.repl {H:Hp} {kvs:List (List Key×V)} {xs:List (List Key×Addr×Value)} (r:KT H kvs xs) (k:List Key) {y:V} {u:Value} (ry:A2v y u) :
  KT H (kvs.map λkv=>if kv.1=k then (kv.1,y) else kv) (xs.map (putAt k u)):=by
 induction r with
 | nil=>exact .nil
 | @cons p q ps qs h t ih =>
  rw [Z0p,Z0p];refine .cons ?_ ih;obtain ⟨h1,h2,h3⟩:=h;unfold putAt;by_cases e:p.1=k
  ·rw [Z12 e,Z12 (h1.symm.trans e)];exact ⟨h1,h2,ry⟩
  ·rw [Z0t e,Z0t (λz=>e (h1.trans z))];exact ⟨h1,h2,h3⟩
theorem KT.put {H:Hp} {kvs:List (List Key×V)} {xs:List (List Key×Addr×Value)} (r:KT H kvs xs) (k:List Key) {b:Addr} {y:V} {u:Value} (hb:H b=some (.tup (k.map kV))) (ry:A2v y u) :
  KT H (A4o kvs k y) (storedH xs k b u):=by
 have e:(kvs.any λkv=>decide (kv.1=k))=(atKey xs k).isSome:=by
  rw [B2l,(r.val k).isSome_eq,Option.isSome_map]
 unfold A4o storedH;rw [e];by_cases q:(atKey xs k).isSome=true
 ·rw [Z12 q,Z12 q];exact r.repl k ry
 ·rw [Z0t q,Z0t q];exact Paired.snoc r ⟨rfl,hb,ry⟩
theorem KT.keeps {H H':Hp} {kvs:List (List Key×V)} {xs:List (List Key×Addr×Value)} (r:KT H kvs xs) (ht:∀b ys,H b=some (.tup ys)->H' b=some (.tup ys)):KT H' kvs xs :=
 Paired.mapP r λ_ _ z=>⟨z.1,ht _ _ z.2.1,z.2.2⟩
section
variable {P:Program} {w:World} {H:Hp} {h:Heap} {a:Addr}
theorem C8v {u:HO} (ok:HOk P w H h) (e:Rd H a u):A2l P w H h a u:=e.ok ok
theorem C1w {kvs:List (Key×V)} (ok:HOk P w H h) (e:Rd H a (.dK kvs)):kvs.length<=sizeLine/\(a == sysModules)=false/\∃vs,KV kvs vs/\h.DictOf (A2h P w) a vs :=
 show A2l P w H h a (.dK kvs) from C8v ok e
theorem C6k {kvs:List (Key×V)} (ok:HOk P w H h) (e:H a=some (.dK kvs)):kvs.length<=sizeLine/\(a == sysModules)=false/\∃vs,KV kvs vs/\h.DictOf (A2h P w) a vs:=C1w ok (.inl e)
theorem B3i {ks:List Key} (ok:HOk P w H h) (e:H a=some (.tup (ks.map kV))):(tupleKind (A2h P w)).is h ks a:=by
 obtain ⟨_,its,r,o,h1,h2,n,h3⟩:=(show A2l P w H h a (.tup (ks.map kV)) from ok a _ e);exact ⟨o,its.toArray,n,h1,h2,h3,by simpa using B4r r⟩
theorem B8n {kvs:List (List Key×V)} (ok:HOk P w H h) (e:Rd H a (.dT kvs)):kvs.length<=sizeLine/\(a == sysModules)=false/\
  ∃xs,KT H kvs xs/\h.DictOfH (tupleKind (A2h P w)) a xs:=by
 obtain ⟨z,y,xs,r,o,es,ep,h1,h2,h3,h4,h5⟩:=(show A2l P w H h a (.dT kvs) from C8v ok e);refine ⟨z,y,xs,r,o,es,ep,h1,h2,h3,h4,λx hx=> ?_,h5⟩
 have all:∀{l:List (List Key×V)} {m:List (List Key×Addr×Value)},KT H l m->∀x∈m,(tupleKind (A2h P w)).is h x.1 x.2.1:=by
  intro l m q
  induction q with
  | nil=>intro x hx;exact nomatch hx
  | @cons p q ps qs hq t ih =>
   intro x hx;rcases Z0e.mp hx with e | hx
   ·subst e;exact B3i ok (by rw [<-hq.1];exact hq.2.1)
   ·exact ih x hx
 exact all r x hx
theorem D1m {kvs:List (List Key×V)} (ok:HOk P w H h) (e:H a=some (.dT kvs)):kvs.length<=sizeLine/\(a == sysModules)=false/\
  ∃xs,KT H kvs xs/\h.DictOfH (tupleKind (A2h P w)) a xs:=B8n ok (.inl e)
end
def B5b (H:Hp) (a:Addr) (y:V) (r:Option V):Prop :=
 (∃kvs k,Rd H a (.dK kvs)/\y=kV k/\r=A9p kvs k)\/∃kvs k b,Rd H a (.dT kvs)/\y= .ref b/\H b=some (.tup (k.map kV))/\r=A9p kvs k
def B6v (H:Hp) (a:Addr) (y v:V) (H':Hp):Prop :=
 (∃kvs k,H a=some (.dK kvs)/\y=kV k/\kvs.length<sizeLine/\H'=upd H a (.dK (A4o kvs k v)))\/
 ∃kvs k b,H a=some (.dT kvs)/\y= .ref b/\H b=some (.tup (k.map kV))/\kvs.length<sizeLine/\H'=upd H a (.dT (A4o kvs k v))
theorem B6v.k {H:Hp} {a:Addr} {kvs:List (Key×V)} {k:Key} {v:V} (e:H a=some (.dK kvs)) (hl:kvs.length<sizeLine):B6v H a (kV k) v (upd H a (.dK (A4o kvs k v))):= .inl ⟨kvs,k,e,rfl,hl,rfl⟩
section
variable {X:Cx} {pins:List (Addr×Obj)} {σ:St} {H:Hp} {s:Shared} {a:Addr} {y v:V} {u r:Value} {o:Option V} {A:Around} {E:Value->Shared->Prop}
theorem Inv.big (I:Inv X pins σ H s):sysModules<s.heap.objs.size:=by
 have h:mainGlobals<s.heap.objs.size:=(I.mod.glob.keeps I.bk).lt;exact Nat.lt_trans (by decide) h
theorem C1u {Q:Value->Shared->Prop} (hu:A.units+1<cLine) (I:Inv X pins σ H s) (g:B5b H a y (some v)) (ry:A2v y u) (h:∀w' s',Inv X pins σ H s'->A2v v w'->Q w' s') :
  wpAny (model X.prog X.w) A (getItem (.ref a) u) Q E s:=by
 rcases g with ⟨kvs,k,e,ey,l⟩ | ⟨kvs,k,b,e,ey,eb,l⟩
 ·subst ey;obtain ⟨z,hd,vs,rel,dd⟩:=C1w I.hok e;obtain ⟨w',hw,rw'⟩:=B8d.some_of (v:=v) (o:=valueAt vs k) (by rw [l];exact rel.val k);exact wpAny_getItem_of (B5a ry) dd.mapOf hw (h w' _ (I.tok _) rw')
 ·subst ey;cases (show u=Value.ref b from ry);obtain ⟨z,hd,xs,rel,dd⟩:=B8n I.hok e;obtain ⟨w',hw,rw'⟩:=B8d.some_of (v:=v) (o:=(atKey xs k).map (·.2)) (by rw [l];exact rel.val k);obtain ⟨p,hp,hp2⟩:=Z0i.mp hw;refine wpAny_getItem_heap (tupleKind_room_in1 hu) (B3i I.hok eb) dd hp ?_;rw [hp2];exact h w' _ (I.tok _) rw'
theorem d_in {Q:Value->Shared->Prop} (hu:A.units+1<cLine) (I:Inv X pins σ H s) (g:B5b H a y o) (ry:A2v y u) (h:∀s',Inv X pins σ H s'->Q (.bool o.isSome) s') :
  wpAny (model X.prog X.w) A (compareOp .In u (.ref a)) Q E s:=by
 rcases g with ⟨kvs,k,e,ey,l⟩ | ⟨kvs,k,b,e,ey,eb,l⟩
 ·subst ey;obtain ⟨z,hd,vs,rel,dd⟩:=C1w I.hok e;refine wpAny_in_of (B5a ry) hd dd.mapOf ?_;rw [<-(rel.val k).isSome_eq,<-l];exact h _ (I.tok _)
 ·subst ey;cases (show u=Value.ref b from ry);obtain ⟨z,hd,xs,rel,dd⟩:=B8n I.hok e;refine wpAny_in_heap (tupleKind_room_in1 hu) (B3i I.hok eb) hd dd ?_;have q:=(rel.val k).isSome_eq;rw [Option.isSome_map] at q;rw [<-q,<-l];exact h _ (I.tok _)
theorem C6r {Q:Value->Shared->Prop} (hu:A.units+1<cLine) (I:Inv X pins σ H s) (g:B5b H a y o) (ry:A2v y u) (h:∀s',Inv X pins σ H s'->Q (.bool (!o.isSome)) s') :
  wpAny (model X.prog X.w) A (compareOp .NotIn u (.ref a)) Q E s:=by
 rcases g with ⟨kvs,k,e,ey,l⟩ | ⟨kvs,k,b,e,ey,eb,l⟩
 ·subst ey;obtain ⟨z,hd,vs,rel,dd⟩:=C1w I.hok e;refine wpAny_notIn_of (B5a ry) hd dd.mapOf ?_;rw [<-(rel.val k).isSome_eq,<-l];exact h _ (I.tok _)
 ·subst ey;cases (show u=Value.ref b from ry);obtain ⟨z,hd,xs,rel,dd⟩:=B8n I.hok e;refine wpAny_notIn_heap (tupleKind_room_in1 hu) (B3i I.hok eb) hd dd ?_;have q:=(rel.val k).isSome_eq;rw [Option.isSome_map] at q;rw [<-q,<-l];exact h _ (I.tok _)
theorem B5c {h':Heap} {t':Nat} {ob:HO} (I:Inv X pins σ H s) (mu:Mut (H a)) (hs:Heap.SameBut a s.heap h') (he:∃q,h'.get? a=some q) (new:A2l X.prog X.w (upd H a ob) h' a ob) :
  Inv X pins σ (upd H a ob) { s with heap:=h',toks:=t' } :=
 I.write (x:=a) (e:=a) mu (.inl rfl) (λb q hb z=>(hs.2 b hb).trans z) he new
theorem C4q {P:Program} {w:World} {H':Hp} {h':Heap} {kvs:List (Key×V)} {vs:List (Key×Value)} (z:kvs.length<=sizeLine) (hd:(a == sysModules)=false) (rel:KV kvs vs) (dd:h'.DictOf (A2h P w) a vs) :
  A2l P w H' h' a (.dK kvs):=⟨z,hd,vs,rel,dd⟩
theorem B9f {H':Hp} {Q:Unit->Shared->Prop} (hu:A.units+1<cLine) (I:Inv X pins σ H s) (g:B6v H a y v H') (ry:A2v y u) (rv:A2v v r) (h:∀s',Inv X pins σ H' s'->Q () s') :
  wpAny (model X.prog X.w) A (setItem (.ref a) u r) Q E s:=by
 rcases g with ⟨kvs,k,e,ey,l,eH⟩ | ⟨kvs,k,b,e,ey,eb,l,eH⟩
 ·subst ey eH;obtain ⟨z,hd,vs,rel,dd⟩:=C6k I.hok e;have hz:vs.length<=sizeLine:=by rw [<-rel.length];exact z
  have hl:(A4o kvs k v).length<=sizeLine:=by have:=A7x kvs k v;omega
  refine wpAny_setItem_pairs (hsz:=hz) (B5a ry) dd λh' dd' hs=>h _ ?_;have he:∃q,h'.get? a=some q:=let ⟨q,_,_,hq,_⟩:=dd';⟨q,hq⟩;exact B5c I (by rw [e];exact True.intro) hs he (C4q hl hd (rel.put k rv) dd')
 ·subst ey eH;cases (show u=Value.ref b from ry);obtain ⟨z,hd,xs,rel,dd⟩:=D1m I.hok e;have hz:xs.length<=sizeLine:=by rw [<-Paired.length rel];exact z
  have hl:(A4o kvs k v).length<=sizeLine:=by have:=A7x kvs k v;omega
  refine wpAny_setItem_heap (hsz:=hz) (tupleKind_room_in1 hu) (B3i I.hok eb) dd λh' dd' hs=>h _ ?_;obtain ⟨q,es,ep,hq,h2,h3,h4,_,h5⟩:=dd';refine B5c I (by rw [e];exact True.intro) hs ⟨q,hq⟩ ⟨hl,hd,_,(rel.put k eb rv).keeps λc ys ec=> ?_,q,es,ep,hq,h2,h3,h4,h5⟩;rw [A0j (A1l ec e (λz=>nomatch z))];exact ec
end
section
variable {X:Cx} {pins:List (Addr×Obj)} {σ:St} {H:Hp} {s:Shared} {a:Addr} {kvs:List (Key×V)} {k:Key} {u:Value} {A:Around} {E:Value->Shared->Prop}
end
def D1v (i:Expr):Prop:=∀ov iv,subscripted i false ov iv=operate [ov,iv] (getItem ov iv)
theorem C6u {prog:Program} {w:World} {A:Around} {E:Value->Shared->Prop} {s:Shared} {env:Env} {value slice:Expr} {pos:Pos} {T id:String} {Q:Value->Shared->Prop}
  (hl:typeLookup (.type T) "__getitem__"=pure (some (.builtin id))) (hs:D1v slice)
  (h:wpAny (model prog w) A (eval value env) (λo s₁=>wpAny (model prog w) A (eval slice env) (λi s₂=>s₂.TypeIs o T/\wpAny (model prog w) A (getItem o i) Q E s₂) E s₁) E s) :
  wpAny (model prog w) A (eval (.Subscript value slice pos) env) Q E s:=by
 refine Subscript_ (Z10 h (λo s₁ h₁=>Z10 h₁ (λi s₂ h₂=> ?_) λ_ _ x=>x) λ_ _ x=>x);obtain ⟨hT,h₂⟩:=h₂;unfold subscriptTail;refine Z00 ?_;rw [getitemInPython_of_ne hT.not_modules];refine Z00 (wpAny_specialOf hT hl ?_)
 have fin:wpAny (model prog w) A (subscripted slice false o i) (λr s₃=>wpAny (model prog w) A (letTemporaryGo value o r >>= λ_=>pure r) Q E s₃) E s₂:=by
  rw [hs o i];exact wpAny_operating (Z10 h₂ (λr s₃ h₃=>Z00 (wpAny_letTemporaryGo (Z04 h₃))) λ_ _ x=>x)
 first
  | exact Z04 (Z00 fin)
  | exact Z00 (Z04 (Z00 fin))
  | exact Z00 fin
theorem B5q {X:Cx} {pins:List (Addr×Obj)} {σ:St} {H:Hp} {s:Shared} {a:Addr} {y:V} {o:Option V} (I:Inv X pins σ H s) (g:B5b H a y o):s.TypeIs (.ref a) "dict":=by
 rcases g with ⟨kvs,k,e,_,_⟩ | ⟨kvs,k,b,e,_,_,_⟩
 ·obtain ⟨_,_,vs,_,dd⟩:=C1w I.hok e;exact dd.typeIs
 ·obtain ⟨_,_,xs,_,dd⟩:=B8n I.hok e;exact dd.typeIs
def D0x (td ty:TE):TE:=λσ H Q=>td σ H λx H1=>ty σ H1 λy H2=>∃a v,x= .ref a/\B5b H2 a y (some v)/\Q v H2
def tDIn (ty td:TE):TE:=λσ H Q=>ty σ H λy H1=>td σ H1 λx H2=>∃a o,x= .ref a/\B5b H2 a y o/\Q (.bl o.isSome) H2
def C7d (ty td:TE):TE:=λσ H Q=>ty σ H λy H1=>td σ H1 λx H2=>∃a o,x= .ref a/\B5b H2 a y o/\Q (.bl (!o.isSome)) H2
def D0k (td ty tv:TE):TS:=λD σ H=>tv σ H λv H1=>td σ H1 λx H2=>ty σ H2 λy H3=>∃a H4,x= .ref a/\B6v H3 a y v H4/\D.nx σ H4
section
variable {X:Cx} {o i e value:Expr} {pos pos' tpos:Pos} {td ty tv:TE}
theorem A1p (hu:X.A.units+1<cLine) (ho:PE X o td) (hi:PE X i ty) (hs:D1v i):PE X (.Subscript o i pos) (D0x td ty):=by
 intro pins s σ H Q I h;refine C6u PySem.F.slot_dict_getitem.lookup hs (thn (ho pins s σ H _ I h) λu s1 ⟨x,H1,I1,rx,q1⟩=>thn (hi pins s1 σ H1 _ I1 q1) λiv s2 ⟨y,H2,I2,ry,a,v,ex,g,q2⟩=> ?_);subst ex;obtain rfl:u=Value.ref a:=rx;exact ⟨B5q I2 g,C1u hu I2 g ry λw' s3 I3 rw'=>⟨v,H2,I3,rw',q2⟩⟩
theorem C9m (hu:X.A.units+1<cLine) (hi:PE X i ty) (ho:PE X o td):PC X .In i o (tDIn ty td):=by
 intro pins s σ H Q I h;refine thn (hi pins s σ H _ I h) λiv s1 ⟨y,H1,I1,ry,q1⟩=>thn (ho pins s1 σ H1 _ I1 q1) λu s2 ⟨x,H2,I2,rx,a,ov,ex,g,q2⟩=> ?_;subst ex;obtain rfl:u=Value.ref a:=rx;exact d_in hu I2 g ry λs3 I3=>⟨.bl ov.isSome,H2,I3,rfl,q2⟩
theorem C0b (hu:X.A.units+1<cLine) (hi:PE X i ty) (ho:PE X o td):PC X .NotIn i o (C7d ty td):=by
 intro pins s σ H Q I h;refine thn (hi pins s σ H _ I h) λiv s1 ⟨y,H1,I1,ry,q1⟩=>thn (ho pins s1 σ H1 _ I1 q1) λu s2 ⟨x,H2,I2,rx,a,ov,ex,g,q2⟩=> ?_;subst ex;obtain rfl:u=Value.ref a:=rx;exact C6r hu I2 g ry λs3 I3=>⟨.bl (!ov.isSome),H2,I3,rfl,q2⟩
theorem A5c (hu:X.A.units+1<cLine) (ho:PE X o td) (hi:PE X i ty) (hv:PE X value tv) (hs:swapsWith value (some (.Subscript o i pos')) pos.line X.env=pure false) :
  PS X (.Assign [.Subscript o i pos'] value pos) (D0k td ty tv):=by
 intro pins s σ H D I h;refine wpAny_Assign_Subscript (thn (hv pins s σ H _ I h) λr s1 ⟨v,H1,I1,rv,q1⟩=>thn (ho pins s1 σ H1 _ I1 q1) λu s2 ⟨x,H2,I2,rx,q2⟩=>thn (hi pins s2 σ H2 _ I2 q2) λiv s3 ⟨y,H3,I3,ry,a,H4,ex,g,q3⟩=> ?_) hs;subst ex;obtain rfl:u=Value.ref a:=rx;exact B9f hu I3 g ry rv λs4 I4=>⟨σ,H4,I4,q3⟩
end
theorem B6y {P:Program} {w:World} {H:Hp} (h:Heap) (hb:sysModules<h.objs.size):A2l P w H (h.push { cls:= .type "dict",data:= .dict #[] }) h.objs.size (.dK []) :=
 ⟨Z1e _,Z22.mpr (Ne.symm (Z0h hb)),[],.nil,Heap.DictOf.new h⟩
def C8s:TE:=λ_ H Q=>∀p,H p=none->Q (.ref p) (upd H p (.dK []))
section
variable {X:Cx} {pos:Pos}
theorem B7c:PE X (.Dict [] [] pos) C8s:=λpins s σ H Q I h =>
 wpAny_Dict_empty ⟨.ref s.heap.objs.size,_,I.laid (a:=s.heap.objs.size) (o:= .dK []) (t':=s.toks) (λ_ _ q=>Z01 _ q) (Z09 _) (B6y s.heap I.big),rfl,h _ (I.hok.fresh (Z09 _))⟩
end
def B9n:List (TE×TE)->St->Hp->(List (V×V)->Hp->Prop)->Prop
 | [],_,H,Q=>Q [] H
 | (tk,tv)::r,σ,H,Q=>tk σ H λx H1=>tv σ H1 λy H2=>B9n r σ H2 λps H3=>Q ((x,y)::ps) H3
abbrev VV:List (V×V)->List (Value×Value)->Prop:=Paired λp q=>A2v p.1 q.1/\A2v p.2 q.2
def PPs (X:Cx) (pos:Pos) (keys:List (Option Expr)) (values:List Expr) (trs:List (TE×TE)):Prop :=
 ∀(pins:List (Addr×Obj)) (s:Shared) (σ:St) (H:Hp) (Q:List (V×V)->Hp->Prop),Inv X pins σ H s->B9n trs σ H Q->
  wpAny (model X.prog X.w) X.A (evalPairs (pairTrees keys values X.env pos)) (λvs s'=>∃ps H',Inv X pins σ H' s'/\VV ps vs/\Q ps H') X.xe s
theorem C7f {X:Cx} {pos:Pos}:PPs X pos [] [] []:=λpins s σ H Q I h=>pairTrees_nil_walk ⟨[],H,I,.nil,h⟩
theorem A8o {X:Cx} {pos:Pos} {k v:Expr} {ks:List (Option Expr)} {vs:List Expr} {tk tv:TE} {trs:List (TE×TE)} (hk:PE X k tk) (hv:PE X v tv) (hr:PPs X pos ks vs trs) :
  PPs X pos (some k::ks) (v::vs) ((tk,tv)::trs):=λpins s σ H Q I h =>
 pairTrees_cons_walk (thn (hk pins s σ H _ I h) λu s1 ⟨x,H1,I1,rx,q1⟩=>thn (hv pins s1 σ H1 _ I1 q1) λw2 s2 ⟨y,H2,I2,ry,q2⟩ =>
  thn (hr pins s2 σ H2 _ I2 q2) λws s3 ⟨ps,H3,I3,rel,q3⟩=>⟨(x,y)::ps,H3,I3,.cons ⟨rx,ry⟩ rel,q3⟩)
def A2z (kvs more:List (Key×V)):List (Key×V):=more.foldl (λacc kv=>A4o acc kv.1 kv.2) kvs
theorem KV.merge:∀{more:List (Key×V)} {rs:List (Key×Value)} {kvs:List (Key×V)} {vs:List (Key×Value)},KV more rs->KV kvs vs->KV (A2z kvs more) (merged vs rs):=by
 intro more rs kvs vs r;unfold KV at r
 induction r generalizing kvs vs with
 | nil=>intro q;exact q
 | @cons p q ps qs h t ih =>
  intro r0
  have e:KV (A4o kvs p.1 p.2) (stored vs q.1 q.2):=by
   have:=r0.put p.1 h.2;rw [<-h.1];exact this
  exact ih e
theorem A3j:∀(more kvs:List (Key×V)),(A2z kvs more).length<=kvs.length+more.length
 | [],kvs=>by show kvs.length<=kvs.length+0;omega
 | p::r,kvs=>by
  have h1:=A3j r (A4o kvs p.1 p.2);have h2:=A7x kvs p.1 p.2;show (A2z (A4o kvs p.1 p.2) r).length<=_;rw [Z0y];omega
theorem B1s {P:Program} {w:World}:∀{kvs:List (Key×V)} {ws:List (Value×Value)},VV (kvs.map λkv=>(kV kv.1,kv.2)) ws->∃rs,Carries (A2h P w) ws rs/\KV kvs rs
 | [],_,r=>by rw [List.map_nil] at r;cases r;exact ⟨[],True.intro,.nil⟩
 | p::kvs,_,r=>by
  rw [Z0p] at r
  cases r with
  | @cons a b as bs h t =>
   obtain ⟨rs,c,q⟩:=B1s (P:=P) (w:=w) t;obtain ⟨b1,b2⟩:=b;exact ⟨(p.1,b2)::rs,⟨B5a h.1,rfl,c⟩,.cons ⟨rfl,h.2⟩ q⟩
def D1p (trs:List (TE×TE)):TE:=λσ H Q=>∀p,H p=none->B9n trs σ (upd H p (.dK [])) λps H2=>H2 p=some (.dK [])/\∃kvs:List (Key×V),ps=kvs.map (λkv=>(kV kv.1,kv.2))/\kvs.length<=15/\Q (.ref p) (upd H2 p (.dK (A2z [] kvs)))
theorem C6g {X:Cx} {pos:Pos} {keys:List (Option Expr)} {values:List Expr} {trs:List (TE×TE)} (h:PPs X pos keys values trs) (hall:keys.all (·.isSome)=true) (hl:keys.length=values.length) (h0:keys≠[])
  (h15:keys.length<=15):PE X (.Dict keys values pos) (D1p trs):=by
 intro pins s σ H Q I q;have hn:=I.hok.fresh (Z09 s.heap.objs.size);have I1:=I.laid (a:=s.heap.objs.size) (o:= .dK []) (h':=s.heap.push { cls:= .type "dict",data:= .dict #[] }) (t':=s.toks) (λ_ _ q=>Z01 _ q) (Z09 _) (B6y s.heap I.big);refine wpAny_Dict_walk (knd:=A2h X.prog X.w) hall hl h0 h15 (thn (h pins _ σ _ _ I1 (q _ hn)) λws s2 ⟨ps,H2,I2,rel,e,kvs,ep,lk,q2⟩=> ?_);subst ep;obtain ⟨rs,c,rk⟩:=B1s (P:=X.prog) (w:=X.w) rel;obtain ⟨z,hd,vs0,r0,dd⟩:=C6k I2.hok e;cases r0;refine ⟨rs,c,dd,λh' dd' hs=>⟨.ref s.heap.objs.size,_,?_,rfl,q2⟩⟩
 have hz:(A2z [] kvs).length<=sizeLine:=by
  have h1:=A3j kvs [];rw [List.length_nil] at h1;rw [sizeLine_eq];omega
 have he:∃q,h'.get? s.heap.objs.size=some q:=let ⟨q,_,_,hq,_⟩:=dd';⟨q,hq⟩;exact B5c I2 (by rw [e];exact True.intro) hs he (C4q hz hd (rk.merge .nil) dd')
section
variable {X:Cx} {pins:List (Addr×Obj)} {σ:St} {H:Hp} {s:Shared} {a:Addr} {y d:V} {u r:Value} {o:Option V} {A:Around} {E:Value->Shared->Prop}
end
section
variable {X:Cx} {o e f:Expr} {apos cpos:Pos} {td ty tx:TE}
end
section
variable {X:Cx} {pins:List (Addr×Obj)} {σ:St} {H:Hp} {s:Shared} {a:Addr} {kvs:List (Key×V)} {A:Around} {E:Value->Shared->Prop}
end
section
variable {X:Cx} {pins:List (Addr×Obj)} {σ:St} {H:Hp} {s:Shared} {a:Addr} {y:V} {u:Value} {A:Around} {E:Value->Shared->Prop}
end
end L2
namespace Att
open PySem PySem.W PySem.Calls PyProof.Rows
theorem B0r {P:Params} {h:Heap}:∀(ns:List Int) (vs:List Value),WellAll P h vs (ns.map WData.int)->IntsAre vs ns:=by
 intro ns
 induction ns with
 | nil =>
  intro vs w;rw [List.map_nil] at w;cases w;exact .nil
 | cons n ns ih =>
  intro vs w;rw [Z0p] at w
  cases w with
  | cons a b =>
   cases a
   exact .cons _ _ (ih _ b)
theorem B9i {l:OpenLaw} {n:Nat} (hn:l.most=some n) {P:Params} {h:Heap} {args:List WData} {vals:List Value}
  (hpre:l.row.toRowW.claim.pre args=true) (hwl:WellAll P h vals args) :
  ∃a vs ns,vals=[Value.ref a]/\args=[WData.list (ns.map WData.int)]/\h.get? a=some { cls:= .type "list",data:= .seq vs.toArray }/\IntsAre vs ns/\ns.length<=n:=by
 have hsh:WShape.hasAll [] args [.list .int]=true:=(pre_splitW hpre).1;have hc:l.pre.holds [] { args:=args }=true:=(pre_splitW hpre).2;obtain ⟨d,r,rfl,h1,h2⟩:=hasAllW_cons hsh;obtain rfl:=hasAllW_nil h2;obtain ⟨xs,rfl,h3⟩:=hasW_list h1;obtain ⟨ns,rfl⟩:=items_int h3
 have hlen:ns.length<=n:=by
  unfold OpenLaw.pre at hc
  have h4:(WTm.not (.lt (.lit (.int (n:Int))) (.len (.arg 0)))).holds [] { args:=[.list (ns.map .int)] }=true:=by
   have h4:=(holds_andW hc).1;rw [hn] at h4;exact h4
  have h5:=condW_of h4 (w_not (w_lt w_lit (w_len_list (w_arg rfl))));rw [Z08] at h5;refine Nat.le_of_not_lt λq=> ?_;have q':(n:Int)<((ns.length:Nat):Int):=by omega
  first
   | (rw [Z20 q'] at h5;exact absurd h5 (by decide))
   | (simp at h5;omega)
 cases hwl with
 | cons w1 w2 =>
  cases w2
  cases w1 with
  | list ho hall=>exact ⟨_,_,ns,rfl,rfl,ho,B0r ns _ hall,hlen⟩
theorem C1f (l:OpenLaw) (args:List WData):l.row.toRowW.claim.post args (.bool true) args=true :=
 postW_of (r:=l.row.toRowW) (X:=(true == true))
  (show WShape.has [] (.bool true) .bool=true by first | rfl | decide | simp [WShape.has,WShape.arms,WShape.armsAll])
  (show (WTm.eq .res (.lit (.bool true))).value [] { args:=args,res:=some (.bool true),after:=args }=some (.bool (true == true)) from w_eq_bool (w_res rfl) w_lit) rfl
theorem attach_call {l:OpenLaw} {n:Nat} {q:Program} {loose:List Str} {XP:(Str->Option Value)->Heap->Prop} {YP:World->Heap->Prop} {d:DefRec}
  (hn:l.most=some n) (hdf:d.params.defaults=[])
  (call:∀(w:World) (s₀ s₁:Shared) (mg mb:Str->Option Value) (fa:Addr) (o:Obj) (pm cd doc:Value) (a:Addr) (vs:List Value) (ns:List Int),
   Ground q loose [] XP w s₀ mg mb s₁.heap->YP w s₁.heap->
   s₁.heap.get? fa=some o->o.data= .func (docDef d.name d.params d.body d.scope pm cd doc)->s₁.heap.CodeRec cd d.name->mg d.name=some (.ref fa)->
   s₁.heap.get? a=some { cls:= .type "list",data:= .seq vs.toArray }->IntsAre vs ns->ns.length<=n->s₁.gens= #[]->
   codeAny (model l.prog w) callerA (.call (.ref fa) ⟨[.ref a],[]⟩) (λr s'=>r= .ok (.ret (.bool true))/\OldK s₁.heap s'.heap/\s'.os=s₁.os/\AllBare s'.gens) s₁) :
  WalkO q loose XP YP l.row.toRowW d [] (λf vs=>PySem.call f vs):=by
 intro w s₀ s₁ mg mb G Y fa o pm cd doc dV kV ho hd hcd hD hmg hg args vals as hpre hlay hrd hwl hlo;obtain rfl:dV= .none:=Dflts.none hD hdf;obtain rfl:kV= .none:=Dflts.noKw hD;obtain ⟨a,vs,ns,rfl,rfl,hobj,hints,hlen⟩:=B9i hn hpre hwl;refine enter_call (codeAny_mono (call w s₀ s₁ mg mb fa o pm cd doc a vs ns G Y ho (fd_plain hd) hcd hmg hobj hints hlen hg) λr s' hq=> ?_);obtain ⟨rfl,h2,h3,h4⟩:=hq;exact ⟨.inl ⟨.bool true,.bool true,[],rfl,λ_=>rfl,.bool true,C1f l _,λ_=>⟨List.Pairwise.nil,λ_ hm=>(nomatch hm)⟩⟩,h2,h3,h4⟩
section
variable {prog:Program} {w:World} {A:Around} {E:Value->Shared->Prop} {s:Shared} {K:Frag}
end
end Att
namespace L2
open PySem PySem.Spec PyProof.Rows
theorem B4b:∀{vs:List Value} {ns:List Int},IntsAre vs ns->A3a (ns.map V.int) vs
 | _,_,.nil=> .nil
 | _,_,.cons n t h=> .cons ⟨t,rfl⟩ (B4b h)
def D0c (H:Hp):Prop:=∀b,H b=none\/∃o xs,H b=some (.frz o (.lst xs))
theorem C3v {P:Program} {w:World} {K:PySem.W.Frag} {mg mb:Str->Option Value} {CX:CXT} {k:Nat} {fa a:Addr} {fd:FuncData} {x:Str} {sp:Sp} {s₁:Shared} {vs:List Value} {ns:List Int}
  (KX:K.In s₁.heap) (hns:s₁.heap.Ns mainGlobals mg) (hb:s₁.heap.Ns builtinsNs mb) (hbb:∀x:Str,x≠"__name__"->mb x=bootBuiltins x) (hlim:s₁.heap.NoLimit) (hg:s₁.gens= #[])
  (ha:s₁.heap.get? a=some { cls:= .type "list",data:= .seq vs.toArray }) (hi:IntsAre vs ns) (hl:ns.length<=sizeLine) (hr:A9k k callerA)
  (F:∀base:Heap,K.In base->base.Ns mainGlobals mg->A2f P w K mg base CX k fa fd [x] sp) (hbind:∀(s:Shared) (u:Value),BindsTo s fd ⟨[u],[]⟩ [(x,u)])
  (hsp:∀H:Hp,D0c H->SqL K H a (ns.map V.int)->sp [.ref a] H (λv _=>v= .bl true) λ_ _ _=>False)
  (hCX:∀H e s',CX [] H s₁ (λ_ _ _=>False) e s'->False) :
  codeAny (model P w) callerA (.call (.ref fa) ⟨[.ref a],[]⟩) (λr s'=>r= .ok (.ret (.bool true))/\OldK s₁.heap s'.heap/\s'.os=s₁.os/\AllBare s'.gens) s₁:=by
 have rv:=B4b hi;have lenV:=hi.length
 have core:∀H:Hp,D0c H->SqL K H a (ns.map V.int)->HOk P w H s₁.heap->(∀b,H b≠none->b=a)->(H a≠none->K.lookup a=none)->
   codeAny (model P w) callerA (.call (.ref fa) ⟨[.ref a],[]⟩) (λr s'=>r= .ok (.ret (.bool true))/\OldK s₁.heap s'.heap/\s'.os=s₁.os/\AllBare s'.gens) s₁:=by
  intro H hO hS hok hA hK;have base_of:∀{b:Addr} {o:Obj},s₁.heap.get? b=some o->H b=none->(C3s s₁.heap H).get? b=some o:=λe n=>C3m e n
  have noA:∀{b:Addr} {o:Obj} {es:Array DictEntry} {ep:Nat},s₁.heap.get? b=some o->o.data= .dict es ep->H b=none:=λ{b o es ep} e d=>by
   cases q:H b with
   | none=>rfl
   | some u =>
    have e':b=a:=hA b (by rw [q];simp);subst e';rw [ha] at e;cases e;have d':Data.seq vs.toArray _=Data.dict es ep:=d;cases d'
  have nsK:∀{b:Addr} {m:Str->Option Value},s₁.heap.Ns b m->(C3s s₁.heap H).Ns b m:=λ{b m} ⟨o,es,ep,e,d,r⟩=>⟨o,es,ep,base_of e (noA e d),d,r⟩
  have hKb:K.In (C3s s₁.heap H):=λb o e=>base_of (KX b o e) (by
   cases q:H b with
   | none=>rfl
   | some u =>
    have e':b=a:=hA b (by rw [q];simp);subst e'
    rw [hK (by rw [q];simp)] at e;cases e)
  have hM:Mod K mg (C3s s₁.heap H):=⟨hKb,nsK hns,⟨mb,nsK hb,hbb⟩,let ⟨mc,h1,h2⟩:=hlim;⟨mc,nsK h1,h2⟩⟩;have e0:C5o P w K mg (C3s s₁.heap H) callerA [] s₁ H:=⟨rfl,hM,λb o e=>C6p e,Nat.le_of_eq (C1v _ _),trivial,λb hb=>absurd (show b∈([]:List Addr) from hb) (by simp),hok,.of_eq hg⟩;refine codeAny_mono ((F _ hKb (nsK hns)).run callerA [] s₁ H ⟨[.ref a],[]⟩ [.ref a] [.ref a] _ _ hr e0 (hbind s₁ (.ref a)) (.cons rfl .nil) (hsp H hO hS)) λr s' h=> ?_
  cases r with
  | error e=>exact (hCX H e s' h).elim
  | ok fl =>
   cases fl with
   | next=>exact False.elim h
   | brk=>exact False.elim h
   | cont=>exact False.elim h
   | ret u =>
    obtain ⟨v,H',os,bare,un,hok',r',q⟩:=h;have q':v= .bl true:=q;subst q';obtain rfl:u=Value.bool true:=r';refine ⟨rfl,OldK.of_keep λb o e=> ?_,os,bare⟩
    cases q:H b with
    | none=>exact un.keep b o e q (by intro z;exact absurd (show b∈([]:List Addr) from z) (by simp)) (by simp)
    | some u =>
     rcases hO b with z | ⟨ob,xs,z⟩
     ·rw [q] at z;cases z
     ·have z2:=un.frzs b ob _ z;obtain ⟨e1,_⟩:=hok b _ z;obtain ⟨e2,_⟩:=hok' b _ z2;rw [e] at e1;cases e1;exact e2
 cases hk:K.lookup a with
 | some o =>
  have e:=KX a o hk;rw [ha] at e;cases e;refine core (λ_=>none) (λ_=> .inl rfl) (.inr ⟨_,vs.toArray,_,hk,rfl,rfl,rfl,by rw [Z0g,lenV];exact hl,by simpa using rv⟩) (λb u z=>by have z':(none:Option HO)=some u:=z;cases z') (λb z=>absurd rfl z) λz=>absurd rfl z
 | none =>
  refine core (λb=>if b=a then some (.frz { cls:= .type "list",data:= .seq vs.toArray } (.lst (ns.map V.int))) else none) (λb=> ?_) (.inl (.inr ⟨{ cls:= .type "list",data:= .seq vs.toArray },Z12 rfl⟩)) (λb u z=> ?_) (λb z=> ?_) λ_=>hk
  ·by_cases hb:b=a
   ·exact .inr ⟨_,_,Z12 hb⟩
   ·exact .inl (Z0t hb)
  ·by_cases hb:b=a
   ·have z':=(Z12 hb).symm.trans z;cases z';subst hb;exact ⟨ha,by rw [Z08];exact hl,vs,_,rv,ha⟩
   ·have z':=(Z0t hb).symm.trans z;cases z'
  ·by_cases hb:b=a
   ·exact hb
   ·exact absurd (Z0t hb) z
theorem C6w {l:PySem.W.OpenLaw} {n k:Nat} {q:Program} {loose:List Str} {XP:(Str->Option Value)->Heap->Prop} {YP:World->Heap->Prop} {d:DefRec} {K:Params->PySem.W.Frag} {CX:World->CXT} {sp:World->Sp} {x:Str}
  (hn:l.most=some n) (hn2:n<=sizeLine) (hdf:d.params.defaults=[]) (hr:A9k k callerA)
  (hY:∀(w:World) (h:Heap),YP w h->(K w.params).In h)
  (F:∀(w:World) (mg:Str->Option Value) (fa:Addr) (h:Heap),(K w.params).In h->h.Ns mainGlobals mg->mg d.name=some (.ref fa)->
   ∃fd:FuncData,(∀(s:Shared) (u:Value),BindsTo s fd ⟨[u],[]⟩ [(x,u)])/\
    ∀base:Heap,(K w.params).In base->base.Ns mainGlobals mg->A2f l.prog w (K w.params) mg base (CX w) k fa fd [x] (sp w))
  (hsp:∀(w:World) (H:Hp) (a:Addr) (ns:List Int),ns.length<=n->D0c H->SqL (K w.params) H a (ns.map V.int)->sp w [.ref a] H (λv _=>v= .bl true) λ_ _ _=>False)
  (hCX:∀(w:World) (H:Hp) (s:Shared) (e:Value) (s':Shared),CX w [] H s (λ_ _ _=>False) e s'->False) :
  PySem.W.WalkO q loose XP YP l.row.toRowW d [] (λf vs=>PySem.call f vs):=by
 refine Att.attach_call hn hdf λw s₀ s₁ mg mb fa o pm cd doc a vs ns G Y ho hd hcd hmg hobj hints hlen hg=> ?_;have KX:=hY w _ Y;obtain ⟨fd,hb,hF⟩:=F w mg fa _ KX G.T.g hmg;exact C3v KX G.T.g G.T.b G.T.builtins G.T.nolimit hg hobj hints (Z1n hlen hn2) hr hF hb (λH hO hS=>hsp w H a ns hlen hO hS) λH e s'=>hCX w H s₁ e s'
def A5s (s:Stmt) (j:Nat):Stmt:=match s with
 | .ClassDef _ _ _ body _ _ _ _ _ _ _=>body.getD j (.Pass ⟨0,0,0,0⟩)
 | _=> .Pass ⟨0,0,0,0⟩
def A7t (s:Stmt):Arguments:=match s with
 | .FunctionDef _ a _ _ _ _ _ _ _ _=>a
 | _=>{ posonlyargs:=[],args:=[],vararg:=none,kwonlyargs:=[],kw_defaults:=[],kwarg:=none,defaults:=[] }
def A5q (s:Stmt):List Stmt:=match s with
 | .FunctionDef _ _ b _ _ _ _ _ _ _=>b
 | _=>[]
def A0q (s:Stmt):Scope:=match s with
 | .FunctionDef _ _ _ _ _ _ sc _ _ _=>sc
 | _=>{ kind:= .function,names:=[],isGenerator:=false,isCoroutine:=false }
abbrev CX0:CXT:=λ_ _ _ _ _ _=>False
abbrev E0:XK:=λ_ _ _=>False
theorem A1e {X:Cx}:B1n CX0 X E0:=λ_ _ _ _ _ _ _ h=>h.elim
structure Fun (K:PySem.W.Frag) (x qual:Str) (st:Stmt) (f:Addr) (fd:FuncData):Prop where
 ex:∃(oc:Value) (od:Option Addr) (kV doc pm:Value) (an:Option Addr) (cdv ct:Value) (osl:Array (Option Value)),
  fd=PySem.W.fnOf x qual (A7t st) (A5q st) (A0q st) .none kV doc pm an cdv ct/\K.lookup f=some ⟨oc,od,.func fd,osl⟩/\PySem.W.codeIn K cdv qual=true
 kp:PySem.W.keepIn K (.ref f)=true
section
variable {P:Program} {w:World} {K:PySem.W.Frag} {mg:Str->Option Value} {base:Heap}
theorem Fun.ok {x qual:Str} {st:Stmt} {f:Addr} {fd:FuncData} {N ps:List Str} {k:Nat} {sp:Sp} (F:Fun K x qual st f fd) (S:A0z N ps (A0q st)) (len:∀vs H Q E,sp vs H Q E->vs.length=ps.length)
  (hbody:∀(cdv:Value) (A:Around) (outer:List Env) (s:Shared) (H:Hp) (vs:List V) (Q:VK) (E:XK),A9k k (A.deeper (envOfC qual (A0q st) s.heap.objs.size f cdv))->sp vs H Q E->
   ∃t,PSs (C1z CX0 P w K mg base N qual (A0q st) f cdv A outer s H E).nox (A5q st) t/\t { nx:=λ_ H'=>Q .non H',rt:=Q } (B2v N vs) H):A2f P w K mg base CX0 (k+1) f fd ps sp:=by
 obtain ⟨oc,od,kV,doc,pm,an,cdv,ct,osl,rfl,lk,hcd⟩:=F.ex;refine C9x lk hcd S len λA outer s H vs Q E hr hsp=> ?_;obtain ⟨t,h,q⟩:=hbody cdv A outer s H vs Q E hr hsp;exact ⟨t,h.nox,q⟩
theorem Fun.binds {x qual:Str} {st:Stmt} {f:Addr} {fd:FuncData} {ps:List Str} (F:Fun K x qual st f fd)
  (h:∀(kV doc pm:Value) (an:Option Addr) (cdv ct:Value) (us:List Value),us.length=ps.length->bindArgs (PySem.W.fnOf x qual (A7t st) (A5q st) (A0q st) .none kV doc pm an cdv ct) ⟨us,[]⟩=pure (ps.zip us)):A1u K fd ps []:=by
 obtain ⟨oc,od,kV,doc,pm,an,cdv,ct,osl,rfl,lk,hcd⟩:=F.ex;exact .all (h kV doc pm an cdv ct)
theorem C4h {x qual:Str} {st:Stmt} {f:Addr} {oc:Value} {od an:Option Addr} {osl:Array (Option Value)} {kV doc pm cdv ct:Value} (l:K.lookup f=some ⟨oc,od,.func (PySem.W.fnOf x qual (A7t st) (A5q st) (A0q st) .none kV doc pm an cdv ct),osl⟩)
  (c:PySem.W.codeIn K cdv qual=true) (k:PySem.W.keepIn K (.ref f)=true):Fun K x qual st f (PySem.W.fnOf x qual (A7t st) (A5q st) (A0q st) .none kV doc pm an cdv ct):=⟨⟨oc,od,kV,doc,pm,an,cdv,ct,osl,rfl,l,c⟩,k⟩
end
theorem B1e {A:Around} {k:Nat} (hr:A9k k A):A.units+1<cLine:=Nat.lt_of_le_of_lt (Nat.add_le_add_left (by decide:1<=64) _) hr.units
section
variable {X:Cx}
theorem pv (i:Nat) {x:Str} {pos:Pos} (hN:X.N[i]? =some x:=by rfl) (hv:Vis X.env.scope x:=by first | exact Or.inl rfl | exact Or.inr (Or.inl rfl) | exact Or.inr (Or.inr rfl)) (hd:(x == ("__debug__":Str))=false:=by decide)
  (hcd:(x == ("__classdict__":Str))=false:=by decide):PE X (.Name x pos) (D0b i):=C8f hN hv hd hcd
end
theorem A2q {A B:Prop} (h:B):if false=true then A else B:=by
 rw [Z0t Z0v];exact h
theorem A8y {A B:Prop} (h:A):if true=true then A else B:=by
 rw [Z12 rfl];exact h
theorem A9w {c A B:Prop} [Decidable c] (h1:c->A) (h2:¬c->B):if c then A else B:=by
 by_cases h:c
 ·rw [Z12 h];exact h1 h
 ·rw [Z0t h];exact h2 h
def A0w (H H':Hp):Prop:=∀b o,H b=some o->H' b=some o
theorem A0w.refl (H:Hp):A0w H H:=λ_ _ h=>h
theorem A0w.trans {H H1 H2:Hp} (a:A0w H H1) (b:A0w H1 H2):A0w H H2:=λc o h=>b c o (a c o h)
theorem A0w.free {H H':Hp} (e:A0w H H') {l:Addr} (h:H' l=Option.none):H l=Option.none:=by
 cases q:H l with
 | none=>rfl
 | some o =>
  rw [e l o q] at h;cases h
section
variable {κ:Type} [DecidableEq κ]
end
section
variable {X:Cx}
def tCut (t u:TS):TS:=λD σ H=>∃M:St->Hp->Prop,t { D with nx:=M } σ H/\∀σ' H',M σ' H'->u D σ' H'
theorem A3n {st:Stmt} {rest:List Stmt} {t u:TS} (h1:PS X st t) (h2:PSs X rest u):PSs X (st::rest) (tCut t u):=by
 intro pins s σ H D I h;obtain ⟨M,h,hm⟩:=h;refine wpAny_execs_cons (thn (h1 pins s σ H { D with nx:=M } I h) λf s1 q=> ?_)
 cases f with
 | next =>
  obtain ⟨σ',H',I',q⟩:=q;exact h2 pins s1 σ' H' D I' (hm _ _ q)
 | ret v=>exact q
 | brk=>exact q
 | cont=>exact q
def rIsi (K:PySem.W.Frag):List V->Hp->VK->Prop:=λxs H Q=>∃x c t b,xs=[x,c]/\A7z K H x t/\(∀u,A2v c u->PySem.W.kitOne K t u=some b)/\Q (.bl b) H
theorem A1o:A7h X (.builtin "isinstance") (rIsi X.K):=by
 intro pins s σ H xs us Q I r h;obtain ⟨x,c,t,b,rfl,ty,e,q⟩:=h;obtain ⟨u,w',rfl,ru,rw'⟩:=B7l r;exact C1j I ru ty (e w' rw') λtk=>⟨.bl b,H,I.tok tk,rfl,q⟩
theorem B2w {K:PySem.W.Frag} (T:String):∀u,A2v (.ty T) u->PySem.W.kitOne K (.type T) u=some true:=by
 intro u h;cases (show u=Value.type T from h);unfold PySem.W.kitOne;rw [Z12 (beq_self_eq_true _)]
theorem C0r {K:PySem.W.Frag} {T U:String} {b:Bool} (h:(Value.type T == Value.type U)=false) (hm:PySem.W.kitMeta U=true) (hs:(PySem.fastBuiltinMro T).map (·.contains (Value.type U))=some b) :
  ∀u,A2v (.ty U) u->PySem.W.kitOne K (.type T) u=some b:=by
 intro u z;cases (show u=Value.type U from z);unfold PySem.W.kitOne;rw [Z0t (by rw [h];exact Z0v)];show (if PySem.W.kitMeta U=true then PySem.W.subIn K (.type T) (.type U) else none)=some b;rw [Z12 hm];exact hs
end
section
variable {prog:Program} {w:World} {A:Around} {E:Value->Shared->Prop} {s:Shared}
end
section
variable {z TI TO i1 i2 l1 l2:Addr} {st1 st2:Nat->Heap->Prop} {src1 src2:Array Value->Heap->Prop} {prog:Program} {w:World} {A:Around} {E:Value->Shared->Prop} {s:Shared}
end
section
variable {X:Cx} {pins:List (Addr×Obj)} {σ:St} {H:Hp} {s:Shared} {h':Heap}
theorem Inv.turnedNew {t':Nat} {ts:List Addr} {a:Addr} {o:HO} (I:Inv X pins σ H s) (k:∀b u,b∉ts->s.heap.get? b=some u->h'.get? b=some u) (f:∀b∈ts,B3s X pins H b) (hp:s.heap.objs.size<=a)
  (new:A2l X.prog X.w (upd H a o) h' a o):Inv X pins σ (upd H a o) { s with heap:=h',toks:=t' }:=by
 have nt:∀b u,H b=some u->b∉ts:=λb u e z=>by have:=(f b z).1;rw [e] at this;cases this
 have na:∀b u,s.heap.get? b=some u->b≠a:=λb u e=>Z0h (Z0q (Z0a e) hp);have ha:H a=none:=I.hok.fresh hp
 refine I.step (g':=s.gens) (d':=s.drawn) (ch:=ts) (λb hb=>⟨(f b hb).2.2.2.1,(f b hb).2.1,(f b hb).2.2.2.2.1,(f b hb).2.2.2.2.2⟩) (λb u _ _ hc e _=>k b u hc e) (λb u _ _ hc e _=>⟨u.slots,k b u hc e⟩)
  (λb u _ e n=>by rw [A0j (na b u e)];exact n) (λb u hc e=>⟨u,k b u hc e⟩) (λb xs e=>by rw [A0j (A0g e ha)];exact e) (λb u xs e=>by rw [A0j (A0g e ha)];exact e)
  (λb ps e=>⟨#[],by rw [A0j (A0g e ha),e];simp⟩) (λm hm=> ?_) (λb u e=> ?_) I.bare
 ·obtain ⟨ob,es,ep,ho,r⟩:=hm;exact ⟨ob,es,ep,k _ ob (λz=>(f _ z).2.1 rfl) ho,r⟩
 ·by_cases hb:b=a
  ·subst hb;rw [A0b] at e;cases e;exact new
  ·rw [A0j hb] at e;refine (I.hok b u e).stay (λc v hc q=>k c v ?_ q) (λc q=>by rw [A0j (A0g q ha)];exact q) λc xs q=>by rw [A0j (A0g q ha)];exact q
   rcases hc with rfl | hc
   ·exact nt _ _ e
   ·exact nt _ _ hc
theorem Inv.turnedL {t':Nat} {ts:List Addr} (I:Inv X pins σ H s) (k:∀b u,b∉ts->s.heap.get? b=some u->h'.get? b=some u) (f:∀b∈ts,B3s X pins H b):Inv X pins σ H { s with heap:=h',toks:=t' }:=by
 have nt:∀b u,H b=some u->b∉ts:=λb u e z=>by have:=(f b z).1;rw [e] at this;cases this
 refine I.step (g':=s.gens) (d':=s.drawn) (ch:=ts) (λb hb=>⟨(f b hb).2.2.2.1,(f b hb).2.1,(f b hb).2.2.2.2.1,(f b hb).2.2.2.2.2⟩) (λb u _ _ hc e _=>k b u hc e) (λb u _ _ hc e _=>⟨u.slots,k b u hc e⟩)
  (λb u _ e n=>n) (λb u hc e=>⟨u,k b u hc e⟩) (λb xs e=>e) (λb u xs e=>e) (λb ps e=>⟨#[],by rw [e];simp⟩) (λm hm=> ?_) (λb u e=> ?_) I.bare
 ·obtain ⟨ob,es,ep,ho,r⟩:=hm;exact ⟨ob,es,ep,k _ ob (λz=>(f _ z).2.1 rfl) ho,r⟩
 ·refine (I.hok b u e).stay (λc v hc q=>k c v ?_ q) (λc q=>q) λc xs q=>q;rcases hc with rfl | hc
  ·exact nt _ _ e
  ·exact nt _ _ hc
end
def Itv (K:PySem.W.Frag) (a:Addr) (n:Nat):It :=
 ⟨λi H=>∃xs x,SqL K H a xs/\xs.length=n/\i<n/\xs[n-1-i]? =some x,λi H x H'=>H'=H/\∀xs,SqL K H a xs->xs[n-1-i]? =some x,λi _=>i=n⟩
theorem C2b {P:Program} {w:World} {K:PySem.W.Frag} {tg:Expr} (a it:Addr) (n:Nat):C4v P w K tg (Itv K a n) [it] it (λi h=>h.IsRevIter it a ((n:Int)-1-(i:Int))) where
 mem:=by simp
 obj:=λi h st b hb=>by
  have e:b=it:=by simpa using hb
  subst e;obtain ⟨o,e,c,d⟩:=st;exact ⟨o,e,λv z=>by rw [d] at z;cases z⟩
 keep:=λi h h' st k=>st.at λo e=>k it (by simp) o e
 item:=by
  intro X hP hw hK hc i pins s σ H E I hf st hg;subst hP hw hK;obtain ⟨xs,x,hq,hn,hi,hx⟩:=hg;obtain ⟨its,rv,p,hz⟩:=I.list hq;obtain ⟨u,hu,ru⟩:=rv.get hx;obtain ⟨f0,f1,f2,f3,f4,f5⟩:=hf it (by simp);have e1:(n:Int)-1-(i:Int)=((n-1-i:Nat):Int):=by omega
  rw [e1] at st;refine wpAny_pyNext_rev_item st p.isList (x:=u) (by simpa using hu) λh' st' sb=> ?_;have I1:Inv X pins σ H { s with heap:=h' }:=I.turned (t':=s.toks) (λb o hb e=>(sb.2 b hb).trans e) f0 f1 f3 f4 f5
  have e2:((n-1-i:Nat):Int)-1=(n:Int)-1-((i+1:Nat):Int):=by omega
  rw [e2] at st';obtain ⟨o,e,c,d⟩:=id st';exact ⟨u,rfl,B8g (s:={ s with heap:=h' }) e c d (by decide) ⟨x,H,I1,ru,⟨rfl,λys hy=>by rw [I.list_inj hy hq];exact hx⟩,st',λb hb=>(hf b hb).1⟩⟩
 done:=by
  intro X hP hw hK hc i pins s σ H E I hf st hg;subst hP hw hK;have hi:i=n:=hg;subst hi;obtain ⟨f0,f1,f2,f3,f4,f5⟩:=hf it (by simp);have e1:(i:Int)-1-(i:Int)= -1:=by omega
  rw [e1] at st;exact wpAny_pyNext_rev_end (I.ok.hd hc) st λh' eb=>⟨rfl,I.turned (t':=s.toks) (λb o hb e=>eb b o hb e) f0 f1 f3 f4 f5⟩
 self:=λ_ _ _ _ _ st h=>wpAny_pyIter_revIter st h
def iRev (K:PySem.W.Frag) (ta:TA):TI:=λσ H R=>ta σ H λvs H1=>∃a xs,vs=[.ref a]/\SqL K H1 a xs/\R (Itv K a xs.length) H1
theorem C4u {X:Cx} {tg:Expr} {a:Expr} {ta:TA} {p pos:Pos} (hg:Gl X "reversed") (hm:X.mg "reversed"=none) (ha:PA X [a] ta) (hs:starEach [a] X.env=[(false,eval a X.env)]:=by rfl) :
  PI X tg (.Call (.Name "reversed" p) [a] [] pos) (iRev X.K ta):=by
 intro pins s σ H R I h;refine Call_ (B1v I hg hm boot_reversed (PyProof.Rows.callWith_type1 (thn (ha pos pins s σ H _ I h) λus s1 ⟨vs,H1,I1,r1,q1⟩=> ?_) hs rfl));obtain ⟨l,xs,e,hq,q⟩:=q1;subst e;obtain ⟨u,rfl,ru⟩:=B2x r1;cases ru;obtain ⟨its,rv,p1,_⟩:=I1.list hq;have en:(its.toArray.size:Int)-1=(xs.length:Int)-1-((0:Nat):Int):=by rw [Z0g,<-rv.length];omega
 refine call_reversed_list p1.isList ?_;rw [en];have st:(s1.heap.push (revObj l ((xs.length:Int)-1-((0:Nat):Int)))).IsRevIter s1.heap.objs.size l ((xs.length:Int)-1-((0:Nat):Int)):=⟨_,Z0c _ rfl,rfl,rfl⟩;refine wpAny_pyIter_revIter (s:={ s1 with heap:=s1.heap.push (revObj l ((xs.length:Int)-1-((0:Nat):Int))) }) st ?_;refine ⟨_,[s1.heap.objs.size],_,_,H1,rfl,I1.kept (t':=s1.toks) λb o e=>Z01 _ e,C2b l _ xs.length,st,λb hb=> ?_,q⟩
 have e:b=s1.heap.objs.size:=by simpa using hb
 subst e;exact I1.fpOk (Z09 _) (I1.hok.fresh (Z09 _))
structure C3h (X:Cx) (scope:Scope) (cl:List (Str×Addr)):Prop where
 eq:closureFor scope X.env=pure cl
 sub:∀x c,cl.lookup x=some c->X.env.cells.lookup x=some c
 has:∀x,((relabel scope X.env).names.lookup x=some .cell\/(relabel scope X.env).names.lookup x=some .free)->∃c,cl.lookup x=some c
 kind:scope.kind= .function
 ncell:∀y∈scope.names,y.2≠.cell
 names:∀y∈scope.names,y.2= .local->scope.names.lookup y.1=some .local
def blk (X:Cx) (N':List Str) (scope:Scope) (cl:List (Str×Addr)) (C:Addr) (s₀:Shared) (H₀:Hp) (fp:List Addr):Cx :=
 { X with N:=N',s₀:=s₀,H₀:=H₀,env:=compEnvC scope cl C X.env,outer:=X.stack,ex:=fp,fn:=λ_=>false,pn:=[],xe:=λ_ _=>False }
def A7g (ix:List (Option Nat)) (σ:St):St:=ix.map λo=>o.bind λj=>(σ[j]?).bind id
section
variable {X:Cx} {pins:List (Addr×Obj)} {σ:St} {H:Hp} {s:Shared} {N':List Str} {scope:Scope} {cl:List (Str×Addr)} {fp:List Addr} {ix:List (Option Nat)}
def C4g (X:Cx) (N':List Str) (scope:Scope) (ix:List (Option Nat)):Prop :=
 ix.length=N'.length/\∀i j:Nat,ix[i]? =some (some j)->∃x,N'[i]? =some x/\X.N[j]? =some x/\(X.env.scope.names.lookup x=some .cell\/X.env.scope.names.lookup x=some .free)/\
  ((relabel scope X.env).names.lookup x=some .cell\/(relabel scope X.env).names.lookup x=some .free)
theorem C8w (I:Inv X pins σ H s) (ck:C3h X scope cl) (f:∀b∈fp,B3s X pins H b) (hlt:∀b∈fp,b<s.heap.objs.size):(blk X N' scope cl s.heap.objs.size s H fp).Ok where
 mod:=I.ok.mod
 kind:=ck.kind
 glob:=I.ok.glob
 blt:=I.ok.blt
 above:=Z09 _
 inj:=λx y c h1 h2=>I.ok.inj x y c (ck.sub x c h1) (ck.sub y c h2)
 has:=λx h=>ck.has x h
 cab:=λx c h=>by cases h
 hd:=I.ok.hd
 frames:=I.ok.frames
 stk:= .inl rfl
 exf:=λb hb=>⟨Z0h (hlt b hb),λx c h=>(f b hb).2.2.2.2.1 x c (ck.sub x c h)⟩
 bs:=I.bs
 bsz:=Z1n I.ok.bsz I.sz
 noex:=λb o e hb=>by
  rcases (f b hb).2.2.2.1 with z | z
  ·exact I.ok.noex b o e z
  ·exact absurd (Z0q (Z0a (I.ok.bs b o e).1) z) (Nat.lt_irrefl _)
 exfs:=λb hb hs=>by
  rcases Z0e.mp (I.stkSub b hs) with z | z
  ·exact (f b hb).2.1 z
  ·exact (f b hb).2.2.1 z
 funs:=I.stack
 frf:=I.stkFree
theorem B3l (I:Inv X pins σ H s) (ck:C3h X scope cl) (io:C4g X N' scope ix) (f:∀b∈fp,B3s X pins H b) (hlt:∀b∈fp,b<s.heap.objs.size) {h':Heap} {m:Str->Option Value} {t':Nat}
  (hn:h'.Ns s.heap.objs.size m) (k:∀b o,s.heap.get? b=some o->h'.get? b=some o):Inv (blk X N' scope cl s.heap.objs.size s H fp) [] (A7g ix σ) H { s with heap:=h',toks:=t' }:=by
 have cl':∀x c,cl.lookup x=some c->∃v,s.heap.IsCell c v:=λx c h=>I.cell x c (ck.sub x c h);refine ⟨C8w I ck f hlt,rfl,I.bare,Un.kept k,⟨m,hn,λi x v e1 e2 e3=> ?_⟩,λx c e=> ?_,I.hok.fresh (Z09 _),λx c e=>I.freeC x c (ck.sub x c e),(λp hp=>by cases hp),I.hok.kept k,?_⟩
 ·unfold A7g at e2;rw [Z1z] at e2
  cases hi:ix[i]? with
  | none=>rw [hi] at e2;cases e2
  | some o =>
   rw [hi] at e2
   cases o with
   | none=>cases Z1a e2
   | some j =>
    have e2':(σ[j]?).bind id=some v:=Z1a e2;obtain ⟨x',n1,n2,k1,k2⟩:=io.2 i j hi;have ex:x'=x:=Z1a (n1.symm.trans e1);subst ex
    have es:σ[j]? =some (some v):=by
     cases q:σ[j]? with
     | none=>rw [q] at e2';cases e2'
     | some w =>
      rw [q] at e2';exact congrArg some e2'
    obtain ⟨m0,_,hl⟩:=I.loc;obtain ⟨u,ru,lo⟩:=hl j x' v n2 es (k1.elim (λz=> .inr (.inl z)) λz=> .inr (.inr z));refine ⟨u,ru,.inr ⟨k2,?_⟩⟩;obtain ⟨c,hc⟩:=ck.has x' k2;refine ⟨c,hc,?_⟩;rcases lo with ⟨z,_⟩ | ⟨_,c',hc',ic⟩
    ·exfalso;have z':X.env.scope.names.lookup x'=some .local:=z;rcases k1 with k1 | k1 <;> (rw [z'] at k1;cases k1)
    ·have ec:c'=c:=Z1a (hc'.symm.trans (ck.sub x' c hc));subst ec;obtain ⟨o,ho,hd⟩:=ic;exact ⟨o,k _ _ ho,hd⟩
 ·obtain ⟨v,o,ho,hd⟩:=cl' x c e;exact ⟨v,o,k _ _ ho,hd⟩
 ·unfold A7g;rw [Z08];exact io.1
theorem B9b (I:Inv X pins σ H s) (f:∀b∈fp,B3s X pins H b) {σ':St} {H':Hp} {s':Shared} {pl:List (Addr×Obj)} (J:Inv (blk X N' scope cl s.heap.objs.size s H fp) pl σ' H' s') {h':Heap} (sb:Heap.SameBut s.heap.objs.size s'.heap h') :
  Inv X pins σ H' { s' with heap:=h' }:=by
 have nC:∀b o,s.heap.get? b=some o->b≠s.heap.objs.size:=λb o e=>Z0h (Z0a e);have hC:H' s.heap.objs.size=none:=J.free;have u:Un (frs X.stack) fp H H' s.heap s'.heap:=J.base
 refine I.call' (ch:=fp) (s':={ s' with heap:=h' }) J.os ⟨λb o e n hb hx=>(sb.2 b (nC b o e)).trans (u.keep b o e n hb hx),λb o e n hb hx=> ?_,u.free,λb o e hx=> ?_,u.tups,u.frzs,u.tbls⟩ (λb o e=> ?_) J.bare
  (λb hb=>⟨(f b hb).2.2.2.1,(f b hb).2.1,(f b hb).2.2.2.2.1,(f b hb).2.2.2.2.2⟩)
 ·obtain ⟨sl,q⟩:=u.slot b o e n hb hx;exact ⟨sl,(sb.2 b (nC b o e)).trans q⟩
 ·obtain ⟨o',q⟩:=u.there b o e hx;exact ⟨o',(sb.2 b (nC b o e)).trans q⟩
 ·refine (J.hok b o e).stay (λc v hc q=>(sb.2 c ?_).trans q) (λc q=>q) λc xs q=>q;rcases hc with rfl | hc
  ·exact A0g e hC
  ·exact A0g hc hC
end
def A2y:St->St->Prop
 | [],_=>True
 | none::r,_::r'=>A2y r r'
 | none::r,[]=>A2y r []
 | some v::r,w::r'=>w=some v/\A2y r r'
 | some _::_,[]=>False
theorem A2y.get:∀{a b:St},A2y a b->∀(j:Nat) v,a[j]? =some (some v)->b[j]? =some (some v)
 | [],_,_,_,_,e=>by simp at e
 | none::r,_::r',h,0,v,e=>by simp at e
 | none::r,_::r',h,j+1,v,e=>by simpa using A2y.get (a:=r) (b:=r') h j v (by simpa using e)
 | none::r,[],h,0,v,e=>by simp at e
 | none::r,[],h,j+1,v,e=>by have:=A2y.get (a:=r) (b:=[]) h j v (by simpa using e);simp at this
 | some w::r,_::r',h,0,v,e=>by
  have e':w=v:=by simpa using e
  subst e'
  simpa using h.1
 | some _::r,_::r',h,j+1,v,e=>by simpa using A2y.get (a:=r) (b:=r') h.2 j v (by simpa using e)
section
variable {X:Cx}
def C9l (ix:List (Option Nat)) (wi:TI) (g:TG) (te:TE):TE:=λσ H Q=>wi σ H λJ H1=>∀D,H1 D=none->∃W:Nat->Nat->Hp->Prop,(∃m,W 0 m (upd H1 D (.lst [])))/\∀i m H2,W i m H2->
 (J.stop i H2/\Q (.ref D) H2)\/(J.go i H2/\∃N:VK,(∀y H5,N y H5->∃xs,H5 D=some (.lst xs)/\xs.length<sizeLine/\∃m',m'<m/\W (i+1) m' (upd H5 D (.lst (xs++[y]))))/\∀x H3,J.yld i H2 x H3->g x (A7g ix σ) H3 λσ4 H4=>A2y (A7g ix σ) σ4/\te σ4 H4 N)
theorem A2x {elt iter tg:Expr} {scope:Scope} {pos:Pos} {N':List Str} {ix:List (Option Nat)} {cl:List (Str×Addr)} {wi:TI} {g:TG} {te:TE} (hc:X.calm=true) (ck:C3h X scope cl) (io:C4g X N' scope ix) (hi:PI X tg iter wi)
  (hg:∀C s₀ H₀ fp,PG (blk X N' scope cl C s₀ H₀ fp) tg g) (he:∀C s₀ H₀ fp,PE (blk X N' scope cl C s₀ H₀ fp) elt te) (hs:∀x,foldedSetIterable iter X.env x=pure x:=by intro _;rfl) :
  PE X (.ListComp elt [⟨tg,iter,[],0⟩] scope pos) (C9l ix wi g te):=by
 intro pins s σ H Q I h;rw [eval_ListComp];refine wpAny_comprehension_free (use:=none) rfl hs ck.eq ck.kind ck.names (thn (hi pins s σ H _ I h) λxv s1 h1=>thn h1 λitv s2 h2=> ?_);obtain ⟨it,fp,tn,J,H1,rfl,I1,T,st1,f1,R⟩:=h2;refine wpAny_newObj_type ?_;have hD:H1 s2.heap.objs.size=none:=I1.hok.fresh (Z09 _);obtain ⟨W,⟨m0,w0⟩,turn⟩:=R _ hD;have hfD:∀b∈fp,b<s2.heap.objs.size:=λb hb=>let ⟨o,e,_⟩:=T.obj _ _ st1 b hb;Z0a e;have I2:Inv X pins σ (upd H1 s2.heap.objs.size (.lst [])) { s2 with heap:=s2.heap.push { cls:= .type "list",data:= .seq ([]:List Value).toArray },toks:=s2.toks }:=I1.lnew (its:=[]) .nil (Z1e _);have f2:∀b∈fp,B3s X pins (upd H1 s2.heap.objs.size (.lst [])) b:=λb hb=>⟨by rw [A0j (Z0h (hfD b hb))];exact (f1 b hb).1,(f1 b hb).2⟩
 have lt2:∀b∈fp,b<(s2.heap.push { cls:= .type "list",data:= .seq ([]:List Value).toArray }).objs.size:=λb hb=>by rw [Z1s];exact Nat.lt_succ_of_lt (hfD b hb)
 refine wpAny_newFunctionEnv ck.ncell (by intro y hy;simp at hy) (λh3 hns sb3=> ?_) ck.kind;dsimp only at hns sb3⊢;have k3:∀b o,(s2.heap.push { cls:= .type "list",data:= .seq ([]:List Value).toArray }).get? b=some o->h3.get? b=some o:=λb o e=>(sb3.2 b (Z0h (Z0a e))).trans (Z01 _ e);generalize hs2:({ s2 with heap:=s2.heap.push { cls:= .type "list",data:= .seq ([]:List Value).toArray },toks:=s2.toks }:Shared)=s3 at I2;have e3:s2.heap.push { cls:= .type "list",data:= .seq ([]:List Value).toArray }=s3.heap:=by rw [<-hs2]
 rw [e3] at hns k3 lt2;have I3:=B3l (N':=N') (ix:=ix) I2 ck io f2 lt2 (h':=h3) (t':=s2.toks+([]:List (Str×Value)).length) hns k3;have e4:({ s3 with heap:=h3,toks:=s2.toks+([]:List (Str×Value)).length }:Shared)={ s2 with heap:=h3,toks:=s2.toks+([]:List (Str×Value)).length }:=by rw [<-hs2]
 rw [e4] at I3;have st3:tn 0 h3:=T.keep _ _ _ st1 λb hb o e=>k3 b o (by rw [<-e3];exact Z01 _ e)
 have loop:∀s4:Shared,s4={ s2 with heap:=h3,toks:=s2.toks+([]:List (Str×Value)).length }->
   codeAny (model X.prog X.w) X.A (.compLoop (.ListComp elt [⟨tg,iter,[],0⟩] scope pos) 0 (.ref it) (.ref s2.heap.objs.size) (compEnvC scope cl s3.heap.objs.size X.env))
    (compPost (model X.prog X.w) X.A X.xe none (EP X pins σ Q) (.ref s2.heap.objs.size) s3.heap.objs.size) s4:=by
  rintro s4 rfl
  have stat:∀{H':Hp},(∀b∈fp,H' b=none)->∀b∈fp,B3s (blk X N' scope cl s3.heap.objs.size s3 (upd H1 s2.heap.objs.size (.lst [])) fp) [] H' b:=λhn b hb =>
   ⟨hn b hb,Z0h (lt2 b hb),λhs=>I3.ok.exfs b hb hs,.inl hb,λx c e=>(f2 b hb).2.2.2.2.1 x c (ck.sub x c e),(λp hp=>by cases hp)⟩
  refine codeAny_loop rfl (λn s'=>∃i σ' H',Inv (blk X N' scope cl s3.heap.objs.size s3 (upd H1 s2.heap.objs.size (.lst [])) fp) [] σ' H' s'/\(∀(j:Nat) v,(A7g ix σ)[j]? =some (some v)->σ'[j]? =some (some v))/\tn i s'.heap/\(∀b∈fp,H' b=none)/\W i n H')
   (λn s' hI=> ?_) m0 ⟨0,_,_,I3,λ_ _ z=>z,st3,λb hb=>(f2 b hb).1,w0⟩
  obtain ⟨i,σ5,H5,I5,wk,st5,fr5,w5⟩:=hI;show wpAny _ _ ((compTurn (.ListComp elt [⟨tg,iter,[],0⟩] scope pos) 0 (.ref it) (.ref s2.heap.objs.size) (compEnvC scope cl s3.heap.objs.size X.env)).onRaise (λx=>do noteFrame x (compEnvC scope cl s3.heap.objs.size X.env);theTreesLotGoes x)) _ _ s';refine wpAny_noted ?_;rw [compTurn_list1];refine Z00 (Z1y ?_);rcases turn i n H5 w5 with ⟨stop,qn⟩ | ⟨go,NN,hNN,step⟩
  ·refine Z00 (Z10 (T.done (blk X N' scope cl s3.heap.objs.size s3 (upd H1 s2.heap.objs.size (.lst [])) fp) rfl rfl rfl hc i [] s' σ5 H5 (λ_ _=>False) I5 (stat fr5) st5 stop) (λr s6 h6=> ?_) λ_ _ z=>z.elim);obtain ⟨rfl,I6⟩:=h6;refine Z04 ?_;obtain ⟨mm,hm,_⟩:=id I6.loc;exact ⟨mm,hm,λh' sb=>⟨.ref s2.heap.objs.size,H5,B9b I2 f2 I6 sb,rfl,qn⟩⟩
  ·refine Z00 (Z10 (T.item (blk X N' scope cl s3.heap.objs.size s3 (upd H1 s2.heap.objs.size (.lst [])) fp) rfl rfl rfl hc i [] s' σ5 H5 (λ_ _=>False) I5 (stat fr5) st5 go) (λr s6 h6=> ?_) λ_ _ z=>z.elim);obtain ⟨u,rfl,h6⟩:=h6;refine Z00 (Z10 h6 (λ_ s7 h7=> ?_) λ_ _ z=>z.elim);obtain ⟨x,H7,I7,r7,y7,st7,fr7⟩:=h7;have I7w:Inv (blk X N' scope cl s3.heap.objs.size s3 (upd H1 s2.heap.objs.size (.lst [])) fp) [] (A7g ix σ) H7 s7:=I7.weak (by rw [I7.len];unfold A7g;rw [Z08];exact io.1) wk;have I7p:=I7w.pinned (stat fr7) (T.obj _ _ st7);refine Z00 (Z10 (hg _ _ _ _ _ s7 _ H7 x u _ I7p r7 (step x H7 y7)) (λ_ s8 h8=> ?_) λ_ _ z=>z.elim);obtain ⟨σ8,H8,I8,kp8,q8⟩:=h8;refine Z00 (Z00 (Z10 (he _ _ _ _ _ s8 σ8 H8 _ I8 q8) (λyv s9 h9=> ?_) λ_ _ z=>z.elim));obtain ⟨y,H9,I9,r9,n9⟩:=h9;obtain ⟨xs,hx9,hz9,m',hm',w9⟩:=hNN _ _ n9;refine Z00 (Z10 (A3u (X:=blk X N' scope cl s3.heap.objs.size s3 (upd H1 s2.heap.objs.size (.lst [])) fp) _ s9 σ8 H9 (.ref s2.heap.objs.size) [y] (.ref s2.heap.objs.size) [yv] (λ_ H'=>W (i+1) m' H') I9 rfl (.cons r9 .nil) ⟨_,xs,y,rfl,rfl,hx9,hz9,w9⟩) (λ_ s10 h10=> ?_) λ_ _ z=>z.elim);obtain ⟨_,H10,I10,_,w10⟩:=h10;refine Z04 (Z04 ⟨rfl,m',hm',i+1,σ8,H10,I10.unpinned,?_,T.keep _ _ _ st7 λb hb o e=>(I10.pin (b,o) (Z02 _ (Z02 _ (A4f hb e)))).1,λb hb=> ?_,w10⟩)
   ·exact kp8.get
   ·obtain ⟨o,e,d⟩:=T.obj _ _ st7 b hb;exact (I10.pin (b,o) (Z02 _ (Z02 _ (A4f hb e)))).2.1
 have e5:s3.heap.objs.size=(s2.heap.push { cls:= .type "list",data:= .seq ([]:List Value).toArray }).objs.size:=by rw [e3]
 rw [e5] at loop;exact codeAny_compStart_list (loop _ rfl) (T.self X.A 0 _ _ _ st3 (loop _ rfl))
end
section
variable {X:Cx} {m:Str} {pos apos:Pos} {e o:Expr} {es:List Expr} {ta:TE} {t:TA}
end
mutual
inductive Rep (H:Hp):V->PyData->Prop
 | non:Rep H .non .none
 | bl (b:Bool):Rep H (.bl b) (.bool b)
 | int (i:Int):Rep H (.int i) (.int i)
 | str (x:Str):Rep H (.str x) (.str x)
 | lst {p:Addr} {xs:List V} {ds:List PyData}:H p=some (.lst xs)->A3x H xs ds->Rep H (.ref p) (.list ds)
 | tup {p:Addr} {xs:List V} {ds:List PyData}:H p=some (.tup xs)->A3x H xs ds->Rep H (.ref p) (.tuple ds)
inductive A3x (H:Hp):List V->List PyData->Prop
 | nil:A3x H [] []
 | cons {v:V} {vs:List V} {d:PyData} {ds:List PyData}:Rep H v d->A3x H vs ds->A3x H (v::vs) (d::ds)
end
mutual
theorem Rep.imp {H H':Hp} (f:∀p o,H p=some o->H' p=some o):∀{v:V} {d:PyData},Rep H v d->Rep H' v d
 | _,_,.non=> .non
 | _,_,.bl b=> .bl b
 | _,_,.int i=> .int i
 | _,_,.str x=> .str x
 | _,_,.lst e r=> .lst (f _ _ e) (A3x.imp f r)
 | _,_,.tup e r=> .tup (f _ _ e) (A3x.imp f r)
theorem A3x.imp {H H':Hp} (f:∀p o,H p=some o->H' p=some o):∀{vs:List V} {ds:List PyData},A3x H vs ds->A3x H' vs ds
 | _,_,.nil=> .nil
 | _,_,.cons a r=> .cons (Rep.imp f a) (A3x.imp f r)
end
theorem Rep.same {H H':Hp} {v:V} {d:PyData} (h:Rep H v d) (s:A0w H H'):Rep H' v d:=h.imp s
theorem A3x.same {H H':Hp} {v:List V} {d:List PyData} (h:A3x H v d) (s:A0w H H'):A3x H' v d:=h.imp s
theorem A3x.len {H:Hp}:∀{vs:List V} {ds:List PyData},A3x H vs ds->vs.length=ds.length
 | _,_,.nil=>rfl
 | _,_,.cons _ r=>by rw [Z0y,Z0y,A3x.len r]
theorem A3x.snoc {H:Hp} {v:V} {d:PyData} (a:Rep H v d):∀{vs:List V} {ds:List PyData},A3x H vs ds->A3x H (vs++[v]) (ds++[d])
 | _,_,.nil=> .cons a .nil
 | _,_,.cons b r=> .cons b (A3x.snoc a r)
theorem A3x.strs {H:Hp}:∀xs:List Str,A3x H (xs.map V.str) (xs.map PyData.str)
 | []=> .nil
 | x::r=> .cons (.str x) (A3x.strs r)
section
variable {X:Cx} {pins:List (Addr×Obj)} {σ:St} {H:Hp} {s:Shared}
mutual
theorem A6k (I:Inv X pins σ H s):∀{v:V} {d:PyData} {u:Value},Rep H v d->A2v v u->∃as,Reads s.heap u d as
 | _,_,u,.non,r=>by cases (show u=Value.none from r);exact ⟨_,.none⟩
 | _,_,u,.bl b,r=>by cases (show u=Value.bool b from r);exact ⟨_,.bool b⟩
 | _,_,u,.int i,r=>by obtain ⟨t,q⟩:=(show∃t,u=Value.int i t from r);cases q;exact ⟨_,.int i t⟩
 | _,_,u,.str x,r=>by obtain ⟨t,q⟩:=(show∃t,u=Value.str x t from r);cases q;exact ⟨_,.str x t⟩
 | _,_,u,@Rep.lst _ p xs ds e q,r=>by
  cases (show u=Value.ref p from r)
  obtain ⟨_,its,n,rv,ho⟩:=(show A2l X.prog X.w H s.heap p (.lst xs) from I.hok p _ e);obtain ⟨as,z⟩:=A9f I q rv;exact ⟨_,Reads.list ho rfl rfl (by simpa using z)⟩
 | _,_,u,@Rep.tup _ p xs ds e q,r=>by
  cases (show u=Value.ref p from r)
  obtain ⟨_,its,rv,o,ho,hc,n,hd⟩:=(show A2l X.prog X.w H s.heap p (.tup xs) from I.hok p _ e);obtain ⟨as,z⟩:=A9f I q rv;exact ⟨_,Reads.tuple ho hc hd (by simpa using z)⟩
theorem A9f (I:Inv X pins σ H s):∀{vs:List V} {ds:List PyData} {us:List Value},A3x H vs ds->A3a vs us->∃as,ReadsAll s.heap us ds as
 | _,_,_,.nil,.nil=>⟨_,.nil⟩
 | _,_,_,.cons a r,.cons q rv=>by
  obtain ⟨as,z⟩:=A6k I a q;obtain ⟨bs,y⟩:=A9f I r rv;exact ⟨_,.cons z y⟩
end
end
def D1w (neg:Bool):R2:=λx y H Q=>∃d e,Rep H x d/\Rep H y e/\SeqAt.shaped d=true/\SeqAt.shaped e=true/\Q (.bl (if neg then !PyData.eqv d e else PyData.eqv d e)) H
section
variable {X:Cx}
theorem C9g (hu:X.A.units+64<cLine):OpR X (compareOp .Eq) (D1w false):=by
 intro pins s σ H x y v u Q I rx ry h;obtain ⟨d,e,h1,h2,s1,s2,q⟩:=h;obtain ⟨as,r1⟩:=A6k I h1 rx;obtain ⟨bs,r2⟩:=A6k I h2 ry;exact eq_dataH r1 r2 s1 s2 hu ⟨.bl (PyData.eqv d e),H,I,rfl,q⟩
theorem C8p (hu:X.A.units+64<cLine):OpR X (compareOp .NotEq) (D1w true):=by
 intro pins s σ H x y v u Q I rx ry h;obtain ⟨d,e,h1,h2,s1,s2,q⟩:=h;obtain ⟨as,r1⟩:=A6k I h1 rx;obtain ⟨bs,r2⟩:=A6k I h2 ry;exact ne_dataH r1 r2 s1 s2 hu ⟨.bl (!PyData.eqv d e),H,I,rfl,q⟩
def D0f (K:PySem.W.Frag):V->List V->Hp->VK->Prop:=λx vs H Q=>∃(z:Str) (p:Addr) (ys:List Str),x= .str z/\vs=[.ref p]/\SqL K H p (ys.map V.str)/\(ys.map (·.length)).sum+ys.length*z.length<=16777216/\Q (.str (Txt.join z ys)) H
theorem B8c {ys:List Str}:∀{us:List Value},A3a (ys.map V.str) us->StrsAre us ys:=by
 induction ys with
 | nil=>intro us r;cases r;exact .nil
 | cons y r ih =>
  intro us q
  cases q with
  | cons q1 q2 =>
   obtain ⟨t,rfl⟩:=q1;exact .cons _ _ (ih q2)
theorem B8o:MtR X "str.join" (D0f X.K):=by
 intro pins s σ H x xs v us Q I rx rv h;obtain ⟨z,p,ys,rfl,rfl,hq,hz,q⟩:=h;obtain ⟨t,rfl⟩:=(show∃t,v=Value.str z t from rx);obtain ⟨u,rfl,ru⟩:=B2x rv;cases ru;obtain ⟨its,rv,p1,_⟩:=I.list hq;exact join_list p1.isList (B8c rv) hz λt' k=>⟨.str (Txt.join z ys),H,I.tok k,⟨t',rfl⟩,q⟩
end
theorem A2j {X:Cx} {scope:Scope} (hk:scope.kind= .function) (hn:∀y∈scope.names,y.2≠.free/\y.2≠.cell) (hl:∀y∈scope.names,y.2= .local->scope.names.lookup y.1=some .local):C3h X scope [] where
 eq:=closureFor_none λy hy=>(hn y hy).1
 sub:=λx c h=>by cases h
 has:=λx h=>by
  exfalso
  have e:(relabel scope X.env).names=scope.names:=map_eq_self λy hy=>by
   obtain ⟨n,k⟩:=y;have z:=(hn _ hy).1;have z':(k == NameKind.free)=false:=by simpa using z
   simp [z']
  rw [e] at h
  have mem:∀{k:NameKind},scope.names.lookup x=some k->(x,k)∈scope.names:=λ{k} q=>by
   generalize scope.names=l at q
   induction l with
   | nil=>cases q
   | cons a r ih =>
    obtain ⟨n,k'⟩:=a;rw [Z28] at q;split at q
    ·rename_i hb;have hb':x=n:=by simpa using hb
     cases q
     subst hb';exact .head _
    ·exact .tail _ (ih q)
  rcases h with h | h
  ·exact (hn _ (mem h)).2 rfl
  ·exact (hn _ (mem h)).1 rfl
 kind:=hk
 ncell:=λy hy=>(hn y hy).2
 names:=hl
theorem A2m {X:Cx} {N':List Str} {scope:Scope} {n:Nat} (h:n=N'.length):C4g X N' scope (List.replicate n none):=⟨by rw [List.length_replicate];exact h,λi j e=>by
 rw [List.getElem?_replicate] at e
 split at e <;> cases e⟩
section
variable {K:PySem.W.Frag} {a D:Addr} {xs:List V} {g:TG} {te:TE} {Q:VK} {σ₀:St} {H:Hp}
theorem C0k (Pv:Nat->List V->Hp->Prop) (h0:Pv 0 [] (upd H D (.lst []))) (hl:∀i ys H,Pv i ys H->SqL K H a xs)
  (hs:∀i x ys H,xs[i]? =some x->Pv i ys H->g x σ₀ H λσ4 H4=>A2y σ₀ σ4/\te σ4 H4 λy H5=>H5 D=some (.lst ys)/\ys.length<sizeLine/\Pv (i+1) (ys++[y]) (upd H5 D (.lst (ys++[y])))) (hd:∀ys H,Pv xs.length ys H->Q (.ref D) H) :
  ∃W:Nat->Nat->Hp->Prop,(∃m,W 0 m (upd H D (.lst [])))/\∀i m H2,W i m H2->
   ((Itl K a).stop i H2/\Q (.ref D) H2)\/((Itl K a).go i H2/\∃N:VK,(∀y H5,N y H5->∃xs,H5 D=some (.lst xs)/\xs.length<sizeLine/\∃m',m'<m/\W (i+1) m' (upd H5 D (.lst (xs++[y]))))/\
    ∀x H3,(Itl K a).yld i H2 x H3->g x σ₀ H3 λσ4 H4=>A2y σ₀ σ4/\te σ4 H4 N):=by
 refine ⟨λi m H=>m=xs.length-i/\i<=xs.length/\∃ys,Pv i ys H,⟨xs.length,by simp,Z1e _,[],h0⟩,?_⟩;rintro i m H2 ⟨rfl,hi,ys,p⟩;have q:=hl i ys H2 p;by_cases hlt:i<xs.length
 ·refine .inr ⟨⟨xs,xs[i],q,by simp [hlt]⟩,λy H5=>H5 D=some (.lst ys)/\ys.length<sizeLine/\Pv (i+1) (ys++[y]) (upd H5 D (.lst (ys++[y]))),λy H5 n=>⟨ys,n.1,n.2.1,xs.length-(i+1),by omega,rfl,hlt,_,n.2.2⟩,λx H3 z=> ?_⟩;obtain ⟨e,z⟩:=z;subst e;exact hs i x ys _ (z xs q) p
 ·have e:i=xs.length:=by omega
  subst e;exact .inl ⟨⟨xs,q,Z09 _⟩,hd ys H2 p⟩
theorem C2r (Pv:Nat->List V->Hp->Prop) (h0:Pv 0 [] (upd H D (.lst []))) (hl:∀i ys H,Pv i ys H->SqT K H a xs)
  (hs:∀i x ys H,xs[i]? =some x->Pv i ys H->g x σ₀ H λσ4 H4=>A2y σ₀ σ4/\te σ4 H4 λy H5=>H5 D=some (.lst ys)/\ys.length<sizeLine/\Pv (i+1) (ys++[y]) (upd H5 D (.lst (ys++[y])))) (hd:∀ys H,Pv xs.length ys H->Q (.ref D) H) :
  ∃W:Nat->Nat->Hp->Prop,(∃m,W 0 m (upd H D (.lst [])))/\∀i m H2,W i m H2->
   ((Itt K a).stop i H2/\Q (.ref D) H2)\/((Itt K a).go i H2/\∃N:VK,(∀y H5,N y H5->∃xs,H5 D=some (.lst xs)/\xs.length<sizeLine/\∃m',m'<m/\W (i+1) m' (upd H5 D (.lst (xs++[y]))))/\
    ∀x H3,(Itt K a).yld i H2 x H3->g x σ₀ H3 λσ4 H4=>A2y σ₀ σ4/\te σ4 H4 N):=by
 refine ⟨λi m H=>m=xs.length-i/\i<=xs.length/\∃ys,Pv i ys H,⟨xs.length,by simp,Z1e _,[],h0⟩,?_⟩;rintro i m H2 ⟨rfl,hi,ys,p⟩;have q:=hl i ys H2 p;by_cases hlt:i<xs.length
 ·refine .inr ⟨⟨xs,xs[i],q,by simp [hlt]⟩,λy H5=>H5 D=some (.lst ys)/\ys.length<sizeLine/\Pv (i+1) (ys++[y]) (upd H5 D (.lst (ys++[y]))),λy H5 n=>⟨ys,n.1,n.2.1,xs.length-(i+1),by omega,rfl,hlt,_,n.2.2⟩,λx H3 z=> ?_⟩;obtain ⟨e,z⟩:=z;subst e;exact hs i x ys _ (z xs q) p
 ·have e:i=xs.length:=by omega
  subst e;exact .inl ⟨⟨xs,q,Z09 _⟩,hd ys H2 p⟩
end
abbrev TJ:=St->Hp->Str->(Str->Hp->Prop)->Prop
def PJ (X:Cx) (es:List Expr) (t:TJ):Prop :=
 ∀(pins:List (Addr×Obj)) (s:Shared) (σ:St) (H:Hp) (out:Str) (Q:Str->Hp->Prop),Inv X pins σ H s->t σ H out Q->wpAny (model X.prog X.w) X.A (joinParts out (evalEach es X.env)) (EP X pins σ λv H'=>∃z,v= .str z/\Q z H') X.xe s
def D0s:TJ:=λ_ H out Q=>out.length<=sizeLine/\Q out H
def D1r (x:Str) (tr:TJ):TJ:=λσ H out Q=>(out++x).length<=sizeLine/\tr σ H (out++x) Q
section
variable {X:Cx} {e:Expr} {es:List Expr} {te:TE} {tr:TJ} {pos p2:Pos}
theorem A5h:PJ X [] D0s:=λpins s σ H out Q I h=>joinParts_nil ⟨.str out,H,I.tok _,⟨_,rfl⟩,out,rfl,h.2⟩ h.1
theorem A3h {x:Str} {j:Nat} (hr:PJ X es tr) (hs:evalEach (.Constant (.str x) j pos::es) X.env=eval (.Constant (.str x) j pos) X.env::evalEach es X.env:=by rfl):PJ X (.Constant (.str x) j pos::es) (D1r x tr):=by
 intro pins s σ H out Q I h;rw [hs];refine joinParts_cons (thn (A0r pins s σ H (λv H'=>v= .str x/\H'=H) I ⟨rfl,rfl⟩) λv s1 ⟨y,H1,I1,rx,ey,eH⟩=> ?_);subst ey eH;obtain ⟨t,rfl⟩:=(show∃t,v=Value.str x t from rx);exact ⟨h.1,hr pins s1 σ H1 _ Q I1 h.2⟩
def D0h (tj:TJ):TE:=λσ H Q=>tj σ H Str.empty λz H'=>Q (.str z) H'
theorem A3p {a b:Expr} {tj:TJ} (h:PJ X (a::b::es) tj) (hs:evalEach (a::b::es) X.env=eval a X.env::eval b X.env::evalEach es X.env:=by rfl):PE X (.JoinedStr (a::b::es) pos) (D0h tj):=by
 intro pins s σ H Q I hq;refine JoinedStr_many ?_;rw [<-hs];exact thn (h pins s σ H _ _ I hq) λu s1 ⟨v,H1,I1,rv,z,ez,q⟩=>by subst ez;exact ⟨.str z,H1,I1,rv,q⟩
end
theorem A5i {x:Str} {k:NameKind}:∀{l:List (Str×NameKind)},l.lookup x=some k->(x,k)∈l
 | [],q=>by cases q
 | (n,k')::r,q=>by
  rw [Z28] at q;split at q
  ·rename_i hb;have hb':x=n:=by simpa using hb
   cases q
   subst hb';exact .head _
  ·exact .tail _ (A5i q)
theorem A8l {X:Cx} {scope:Scope} {x:Str} {c:Addr} (he:closureFor scope X.env=pure [(x,c)]) (hc:X.env.cells.lookup x=some c) (hk:scope.kind= .function) (hn:∀y∈scope.names,y.2≠.cell/\(y.2= .free->y.1=x))
  (hl:∀y∈scope.names,y.2= .local->scope.names.lookup y.1=some .local):C3h X scope [(x,c)] where
 eq:=he
 sub:=λy d h=>by
  rw [Z28] at h;split at h
  ·rename_i hb;have hb':y=x:=by simpa using hb
   cases h
   subst hb';exact hc
  ·cases h
 has:=λy h=>by
  have key:y=x:=by
   have m:∃k,(y,k)∈(relabel scope X.env).names/\(k= .cell\/k= .free):=h.elim (λz=>⟨_,A5i z,.inl rfl⟩) λz=>⟨_,A5i z,.inr rfl⟩;obtain ⟨k,hm,hk⟩:=m;obtain ⟨⟨n,k0⟩,h0,e⟩:=Z2c.mp hm;dsimp only at e;by_cases hf:k0= .free
   ·have en:n=y:=by
     split at e
     ·exact congrArg Prod.fst e
     ·exact congrArg Prod.fst e
    rw [<-en];exact (hn _ h0).2 hf
   ·have hb:(k0 == NameKind.free)=false:=by simpa using hf
    simp only [hb,Bool.false_and,Bool.false_eq_true,if_false] at e;have e2:k0=k:=congrArg Prod.snd e;subst e2;rcases hk with hk | hk
    ·exact absurd hk (hn _ h0).1
    ·exact absurd hk hf
  subst key;exact ⟨c,by simp [Z28]⟩
 kind:=hk
 ncell:=λy hy=>(hn y hy).1
 names:=hl
theorem A6s {X:Cx} {N0:List Str} {x:Str} {scope:Scope} {j:Nat} (hN:X.N[j]? =some x) (h1:X.env.scope.names.lookup x=some .cell\/X.env.scope.names.lookup x=some .free)
  (h2:(relabel scope X.env).names.lookup x=some .cell\/(relabel scope X.env).names.lookup x=some .free):C4g X (N0++[x]) scope (List.replicate N0.length none++[some j]):=by
 refine ⟨by simp,λi k e=> ?_⟩;by_cases hi:i<N0.length
 ·rw [Z26 (by simpa using hi),List.getElem?_replicate] at e;split at e <;> cases e
 ·have hi':i=N0.length:=by
   have:=(Z03.mp e).1;simp at this;omega
  subst hi';rw [Z1l (by simp)] at e;have ek:j=k:=by simpa using e
  subst ek;exact ⟨x,by simp,hN,h1,h2⟩
theorem A0t {H H':Hp} {l:Addr} {o:HO} (s:A0w H H') (hl:H l=none):A0w H (upd H' l o):=λb u e=>by
 rw [A0j (A0g e hl)];exact s b u e
theorem A0d {H:Hp} {l:Addr} {o:HO} (hl:H l=none):A0w H (upd H l o):=A0t (A0w.refl H) hl
theorem B8y {H:Hp} {x dx:Addr} {o u v:HO} (hx:H x=none) (hd:H dx=none):A0w H (upd (upd (upd H dx o) x u) x v):=A0t (A0t (A0d hd) hx) hx
theorem A0h {n:Nat} (h:n<=1000000):n<=sizeLine:=by rw [sizeLine_eq];omega
theorem A1h {n:Nat} (h:n<=1000000):n<sizeLine:=by rw [sizeLine_eq];omega
theorem Paired.snoc {α β:Type} {F:α->β->Prop} {a:α} {b:β} (h:F a b):∀{xs:List α} {ys:List β},Paired F xs ys->Paired F (xs++[a]) (ys++[b])
 | _,_,.nil=> .cons h .nil
 | _,_,.cons r t=> .cons r (Paired.snoc h t)
noncomputable def restr (S:Addr->Prop) (H:Hp):Hp:=λa=> @ite _ (S a) (Classical.propDecidable _) (H a) none
theorem B6e {S:Addr->Prop} {H:Hp} {a:Addr} (h:S a):restr S H a=H a:=by unfold restr;rw [Z12 h]
theorem C0v {S:Addr->Prop} {H:Hp} {a:Addr} (h:¬S a):restr S H a=none:=by unfold restr;rw [Z0t h]
theorem A0k {S:Addr->Prop} {H:Hp} {a:Addr} {o:HO} (h:restr S H a=some o):S a/\H a=some o:=by
 by_cases hs:S a
 ·rw [B6e hs] at h;exact ⟨hs,h⟩
 ·rw [C0v hs] at h;cases h
theorem A0l {S:Addr->Prop} {H:Hp} {a:Addr} {o:HO} (hs:S a) (h:H a=some o):restr S H a=some o:=by rw [B6e hs];exact h
theorem A1g {S:Addr->Prop} {H:Hp}:A0w (restr S H) H:=λ_ _ e=>(A0k e).2
theorem A0m {S:Addr->Prop} {H H':Hp} (s:A0w H H'):A0w (restr S H) (restr S H'):=λb o e=>A0l (A0k e).1 (s _ _ (A0k e).2)
theorem A6z {S S':Addr->Prop} {H H':Hp} (s:A0w H H') (h:∀a o,H a=some o->S a->S' a):A0w (restr S H) (restr S' H'):=λb o e=>A0l (h _ _ (A0k e).2 (A0k e).1) (s _ _ (A0k e).2)
theorem A6v {S:Addr->Prop} {H H':Hp} {l:Addr} {o:HO} (s:A0w (restr S H) (restr S H')) (h:¬S l):A0w (restr S H) (restr S (upd H' l o)):=λb u e=>by
 have q:=A0k (s _ _ e);have hne:b≠l:=λz=>h (by rw [<-z];exact q.1);exact A0l q.1 (by rw [A0j hne];exact q.2)
def Fr (S:Addr->Prop) (H:Hp):Prop:=∀a,H a=none->S a
mutual
theorem Rep.imp2 {H H':Hp} (f:∀p xs,H p=some (.lst xs)->H' p=some (.lst xs)) (g:∀p xs,H p=some (.tup xs)->H' p=some (.tup xs)):∀{v:V} {d:PyData},Rep H v d->Rep H' v d
 | _,_,.non=> .non
 | _,_,.bl b=> .bl b
 | _,_,.int i=> .int i
 | _,_,.str x=> .str x
 | _,_,.lst e r=> .lst (f _ _ e) (A3x.imp2 f g r)
 | _,_,.tup e r=> .tup (g _ _ e) (A3x.imp2 f g r)
theorem A3x.imp2 {H H':Hp} (f:∀p xs,H p=some (.lst xs)->H' p=some (.lst xs)) (g:∀p xs,H p=some (.tup xs)->H' p=some (.tup xs)):∀{vs:List V} {ds:List PyData},A3x H vs ds->A3x H' vs ds
 | _,_,.nil=> .nil
 | _,_,.cons a r=> .cons (Rep.imp2 f g a) (A3x.imp2 f g r)
end
theorem Rep.ins {H:Hp} {v:V} {d:PyData} {p C dx:Addr} {fs:List (Str×V)} {o:HO} (h:Rep H v d) (e:H p=some (.ins C dx fs)):Rep (upd H p o) v d :=
 h.imp2 (λq xs z=>by rw [A0j (A1l z e (by intro w;cases w))];exact z) (λq xs z=>by rw [A0j (A1l z e (by intro w;cases w))];exact z)
section
variable {G:Hp} {v:V} {vs:List V} {d:PyData} {ds:List PyData}
theorem A9i (h:Rep G v (.tuple ds)):∃p xs,v= .ref p/\G p=some (.tup xs)/\A3x G xs ds:=by
 cases h with
 | tup e r=>exact ⟨_,_,rfl,e,r⟩
theorem A4a (h:Rep G v (.list ds)):∃p xs,v= .ref p/\G p=some (.lst xs)/\A3x G xs ds:=by
 cases h with
 | lst e r=>exact ⟨_,_,rfl,e,r⟩
end
mutual
def cnt:PyData->Nat
 | .none=>1
 | .bool _=>1
 | .int _=>1
 | .str _=>1
 | .list xs=>A3g xs+1
 | .tuple xs=>A3g xs+1
 | .dict _=>1
def A3g:List PyData->Nat
 | []=>0
 | x::xs=>cnt x+A3g xs
end
theorem C6e (d:PyData):1<=cnt d:=by cases d <;> simp [cnt]
theorem B5e:∀ds:List PyData,ds.length<=A3g ds
 | []=>by simp [A3g]
 | d::r=>by
  have:=B5e r;have:=C6e d;simp only [A3g,Z0y];omega
theorem C0j:∀{ds:List PyData} {i:Nat} {d:PyData},ds[i]? =some d->cnt d<=A3g ds/\PyData.depth d<=PyData.depthAll ds
 | [],_,_,e=>by simp at e
 | d::r,0,_,e=>by
  simp at e;subst e;simp only [A3g,PyData.depthAll];omega
 | x::r,i+1,d,e=>by
  have:=C0j (ds:=r) (i:=i) (d:=d) (by simpa using e);simp only [A3g,PyData.depthAll];omega
theorem A3x.get2 {H:Hp}:∀{vs:List V} {ds:List PyData} {i:Nat} {v:V},A3x H vs ds->vs[i]? =some v->∃d,ds[i]? =some d/\Rep H v d
 | _,_,_,_,.nil,e=>by simp at e
 | _,_,0,_,.cons a _,e=>by simp at e;subst e;exact ⟨_,rfl,a⟩
 | _,_,i+1,v,.cons _ r,e=>by
  obtain ⟨d,h1,h2⟩:=A3x.get2 (i:=i) (v:=v) r (by simpa using e);exact ⟨d,by simpa using h1,h2⟩
theorem lk0 {k:Str} {v:V} {r:List (Str×V)}:List.lookup k ((k,v)::r)=some v:=by simp [Z28]
theorem lk1 {k j:Str} {v:V} {r:List (Str×V)} {o:Option V} (h:(k == j)=false) (e:List.lookup k r=o):List.lookup k ((j,v)::r)=o:=by
 rw [Z28,h];exact e
theorem A1s {f:Str} {v:V}:A4w f v []=[(f,v)]:=rfl
theorem A1q {f g:Str} {v x:V} {r:List (Str×V)} (h:¬g=f):A4w f v ((g,x)::r)=(g,x)::A4w f v r:=by rw [A4w,Z0t h]
theorem A8a {c A B:Prop} [Decidable c] (h1:c->A) (h2:¬c->B):if decide c=true then A else B :=
 A9w (λh=>h1 (of_decide_eq_true h)) (λh=>h2 λhc=>h (Z20 hc))
theorem A4l {c A B:Prop} [Decidable c] (h1:¬c->A) (h2:c->B):if (!decide c)=true then A else B :=
 A9w (λh=>h1 λhc=>by rw [Z20 hc] at h;cases h) (λh=>h2 (by
  by_cases hc:c
  ·exact hc
  ·rw [Z1j hc] at h;exact absurd rfl h))
section
variable {X:Cx}
theorem B1r {tg l:Expr} {tl:TE} (hl:PE X l tl):PI X tg l (λσ H R=>C9j X.K tl σ H R\/D2c X.K tl σ H R):=λpins s σ H R I h=>h.elim (A3e hl pins s σ H R I) (C9b hl pins s σ H R I)
end
theorem C5g {α:Type} {xs:List α} {i:Int} (h0:0<=i) (h1:i<xs.length):∃v,xs[i.toNat]? =some v/\atI xs i=some v:=by
 obtain ⟨n,rfl⟩:=Int.eq_ofNat_of_zero_le h0;have hn:n<xs.length:=by omega
 exact ⟨xs[n],by simp [hn],A1d (by simp [hn])⟩
theorem A9j {α:Type} {f:α->V} {xs:List α} {i:Int} (h0:0<=i) (h1:i<xs.length):∃x,xs[i.toNat]? =some x/\atI (xs.map f) i=some (f x):=by
 obtain ⟨n,rfl⟩:=Int.eq_ofNat_of_zero_le h0;have hn:n<xs.length:=by omega
 exact ⟨xs[n],by simp [hn],A1d (by simp [hn])⟩
section
variable {K:PySem.W.Frag} {a D:Addr} {xs:List V} {g:TG} {te:TE} {QD:Hp->Prop} {σ₀:St} {H:Hp}
theorem A4g (Pv:Nat->List V->Hp->Prop) (h0:Pv 0 [] (upd H D (.lst []))) (hl:∀i ys H,Pv i ys H->SqL K H a xs)
  (hs:∀i x ys H,xs[i]? =some x->Pv i ys H->g x σ₀ H λσ4 H4=>A2y σ₀ σ4/\te σ4 H4 λy H5=>H5 D=some (.lst ys)/\ys.length<sizeLine/\Pv (i+1) (ys++[y]) (upd H5 D (.lst (ys++[y])))) (hd:∀ys H,Pv xs.length ys H->QD H) :
  ∃W:Nat->Nat->Hp->Prop,(∃m,W 0 m (upd H D (.lst [])))/\∀i m H2,W i m H2->
   ((Itl K a).stop i H2/\QD H2)\/((Itl K a).go i H2/\∃N:VK,(∀y H5,N y H5->∃xs,H5 D=some (.lst xs)/\xs.length<sizeLine/\∃m',m'<m/\W (i+1) m' (upd H5 D (.lst (xs++[y]))))/\
    ∀x H3,(Itl K a).yld i H2 x H3->g x σ₀ H3 λσ4 H4=>A2y σ₀ σ4/\te σ4 H4 N):=C0k (Q:=λ_ H=>QD H) Pv h0 hl hs hd
theorem B9t (Pv:Nat->List V->Hp->Prop) (h0:Pv 0 [] (upd H D (.lst []))) (hl:∀i ys H,Pv i ys H->SqT K H a xs)
  (hs:∀i x ys H,xs[i]? =some x->Pv i ys H->g x σ₀ H λσ4 H4=>A2y σ₀ σ4/\te σ4 H4 λy H5=>H5 D=some (.lst ys)/\ys.length<sizeLine/\Pv (i+1) (ys++[y]) (upd H5 D (.lst (ys++[y])))) (hd:∀ys H,Pv xs.length ys H->QD H) :
  ∃W:Nat->Nat->Hp->Prop,(∃m,W 0 m (upd H D (.lst [])))/\∀i m H2,W i m H2->
   ((Itt K a).stop i H2/\QD H2)\/((Itt K a).go i H2/\∃N:VK,(∀y H5,N y H5->∃xs,H5 D=some (.lst xs)/\xs.length<sizeLine/\∃m',m'<m/\W (i+1) m' (upd H5 D (.lst (xs++[y]))))/\
    ∀x H3,(Itt K a).yld i H2 x H3->g x σ₀ H3 λσ4 H4=>A2y σ₀ σ4/\te σ4 H4 N):=C2r (Q:=λ_ H=>QD H) Pv h0 hl hs hd
end
theorem A5v {K:PySem.W.Frag} {C D:Addr} (h1:PySem.W.isClsIn K D=true) (h2:PySem.W.typeIn K (.ref D)=some (.type "type")) (h3:PySem.W.mroIn K C (.ref D)=some true):PySem.W.kitOne K (.ref C) (.ref D)=some true:=by
 unfold PySem.W.kitOne;split
 ·rfl
 ·show (if ((PySem.W.clsIn K D).isSome&&PySem.W.typeIn K (.ref D) == some (.type "type"))=true then PySem.W.subIn K (.ref C) (.ref D) else none)=some true;have h1':(PySem.W.clsIn K D).isSome=true:=h1;rw [Z12 (by rw [h1',h2];rfl)];exact h3
theorem A0o {K:PySem.W.Frag} {C D:Addr} (h0:(Value.ref C == Value.ref D)=false) (h1:PySem.W.isClsIn K D=true) (h2:PySem.W.typeIn K (.ref D)=some (.type "type")) (h3:PySem.W.mroIn K C (.ref D)=some false):PySem.W.kitOne K (.ref C) (.ref D)=some false:=by
 unfold PySem.W.kitOne;rw [Z0t (by rw [h0];exact Z0v)];show (if ((PySem.W.clsIn K D).isSome&&PySem.W.typeIn K (.ref D) == some (.type "type"))=true then PySem.W.subIn K (.ref C) (.ref D) else none)=some false;have h1':(PySem.W.clsIn K D).isSome=true:=h1;rw [Z12 (by rw [h1',h2];rfl)];exact h3
section
variable {X:Cx}
theorem Inv.frozen {pins:List (Addr×Obj)} {σ:St} {H:Hp} {s:Shared} {a:Addr} {o:Obj} {kvs:List (Key×V)} (I:Inv X pins σ H s) (ha:H a=some (.dK kvs)) (ho:s.heap.get? a=some o):Inv X pins σ (upd H a (.frz o (.dK kvs))) s :=
 I.write (t':=s.toks) (h':=s.heap) (e:=a) (by rw [ha];trivial) (.inl rfl) (λ_ _ _ e=>e) ⟨o,ho⟩ ⟨ho,(show A2l X.prog X.w H s.heap a (.dK kvs) from I.hok a _ ha)⟩
theorem Inv.thaw {pins:List (Addr×Obj)} {σ:St} {H:Hp} {s:Shared} {a:Addr} {o:Obj} {u:HO} (I:Inv X pins σ H s) (ha:H a=some (.frz o u)) (hu:∃kvs,u= .dK kvs) (h0:∀o' u',X.H₀ a≠some (.frz o' u')):Inv X pins σ (upd H a u) s:=by
 have nf:∀b,H b=none->upd H a u b=none:=λb e=>by rw [A0j (λz=>by subst z;rw [ha] at e;cases e)];exact e
 obtain ⟨kvs,rfl⟩:=hu
 refine ⟨I.ok,I.os,I.bare,⟨I.base.keep,I.base.slot,λb ob e n hx=>nf b (I.base.free b ob e n hx),I.base.there,λb xs e=> ?_,λb ob u' e=> ?_,λb ps e=> ?_⟩,I.loc,I.cell,nf _ I.free,λx c e=>nf _ (I.freeC x c e),
  λp hp=>⟨(I.pin p hp).1,nf _ (I.pin p hp).2.1,(I.pin p hp).2.2⟩,λb v e=> ?_,I.len⟩
 ·have q:=I.base.tups b xs e;rw [A0j (A1l q ha (by intro z;cases z))];exact q
 ·have q:=I.base.frzs b ob u' e;rw [A0j (λz=>by subst z;exact h0 _ _ e)];exact q
 ·obtain ⟨more,q⟩:=I.base.tbls b ps e;exact ⟨more,by rw [A0j (A1l q ha (by intro z;cases z))];exact q⟩
 ·by_cases hb:b=a
  ·subst hb;rw [A0b] at e;cases e;obtain ⟨_,q⟩:=(show A2l X.prog X.w H s.heap b (.frz o (.dK kvs)) from I.hok b _ ha);exact q
  ·rw [A0j hb] at e;exact (I.hok b v e).stay (λ_ _ _ q=>q) (λc q=>by rw [A0j (A1l q ha (by intro z;cases z))];exact q) λc xs q=>by rw [A0j (A1l q ha (by intro z;cases z))];exact q
def D1b (X:Cx) (t:TS):TS:=λD σ H=>∃a o kvs,H a=some (.frz o (.dK kvs))/\(∀o' u',X.H₀ a≠some (.frz o' u'))/\t D σ (upd H a (.dK kvs))
theorem C2y {sts:List Stmt} {t:TS} (h:PSs X sts t):PSs X sts (D1b X t):=by
 intro pins s σ H D I hw;obtain ⟨a,o,kvs,ha,h0,q⟩:=hw;exact h pins s σ _ D (I.thaw ha ⟨kvs,rfl⟩ h0) q
theorem KV.at {kvs:List (Key×V)} {vs:List (Key×Value)}:KV kvs vs->∀{i:Nat} {k:Key} {v:V},kvs[i]? =some (k,v)->∃u,vs[i]? =some (k,u)/\A2v v u:=by
 intro r;unfold KV at r
 induction r with
 | nil=>intro i k v e;simp at e
 | @cons p q ps qs h t ih =>
  intro i k v e
  cases i with
  | zero =>
   simp at e;subst e;obtain ⟨h1,h2⟩:=h;obtain ⟨q1,q2⟩:=q;cases h1;exact ⟨q2,rfl,h2⟩
  | succ j =>
   obtain ⟨u,e1,e2⟩:=ih (i:=j) (by simpa using e);exact ⟨u,by simpa using e1,e2⟩
end
theorem C0e {P:Program} {w:World} {H:Hp} {h:Heap} {a:Addr} {o:Obj} {kvs:List (Key×V)} {es:Array DictEntry} {ep:Nat} (ok:HOk P w H h) (ha:H a=some (.frz o (.dK kvs))) (ho:o.data= .dict es ep) :
  (a == sysModules)=false/\∃vs,KV kvs vs/\h.DictAt (A2h P w) a vs ep:=by
 obtain ⟨e1,hz,hs,vs,rel,o',es',ep',e2,c,d,r⟩:=(show A2l P w H h a (.frz o (.dK kvs)) from ok a _ ha);rw [e1] at e2;cases e2;rw [ho] at d;cases d;exact ⟨hs,vs,rel,o,es,e1,c,ho,r⟩
section
variable {X:Cx}
def C7h (ix:List (Option Nat)) (wi:TI) (g:TG) (tc:TT) (te:TE):TE:=λσ H Q=>wi σ H λJ H1=>∀D,H1 D=none->∃W:Nat->Nat->Hp->Prop,(∃m,W 0 m (upd H1 D (.lst [])))/\∀i m H2,W i m H2->
 (J.stop i H2/\Q (.ref D) H2)\/(J.go i H2/\∃(N:VK) (M:Hp->Prop),(∀y H5,N y H5->∃xs,H5 D=some (.lst xs)/\xs.length<sizeLine/\∃m',m'<m/\W (i+1) m' (upd H5 D (.lst (xs++[y]))))/\(∀H5,M H5->∃m',m'<m/\W (i+1) m' H5)/\∀x H3,J.yld i H2 x H3->g x (A7g ix σ) H3 λσ4 H4=>A2y (A7g ix σ) σ4/\tc σ4 H4 λb H5=>if b=true then te σ4 H5 N else M H5)
end
section
variable {K:PySem.W.Frag} {a D:Addr} {xs:List V} {g:TG} {tc:TT} {te:TE} {QD:Hp->Prop} {σ₀:St} {H:Hp}
theorem B0c (Pv:Nat->List V->Hp->Prop) (h0:Pv 0 [] (upd H D (.lst []))) (hl:∀i ys H,Pv i ys H->SqL K H a xs)
  (hs:∀i x ys H,xs[i]? =some x->Pv i ys H->g x σ₀ H λσ4 H4=>A2y σ₀ σ4/\tc σ4 H4 λb H5=>if b=true then te σ4 H5 (λy H5=>H5 D=some (.lst ys)/\ys.length<sizeLine/\Pv (i+1) (ys++[y]) (upd H5 D (.lst (ys++[y])))) else Pv (i+1) ys H5) (hd:∀ys H,Pv xs.length ys H->QD H) :
  ∃W:Nat->Nat->Hp->Prop,(∃m,W 0 m (upd H D (.lst [])))/\∀i m H2,W i m H2->
   ((Itl K a).stop i H2/\QD H2)\/((Itl K a).go i H2/\∃(N:VK) (M:Hp->Prop),(∀y H5,N y H5->∃xs,H5 D=some (.lst xs)/\xs.length<sizeLine/\∃m',m'<m/\W (i+1) m' (upd H5 D (.lst (xs++[y]))))/\(∀H5,M H5->∃m',m'<m/\W (i+1) m' H5)/\
    ∀x H3,(Itl K a).yld i H2 x H3->g x σ₀ H3 λσ4 H4=>A2y σ₀ σ4/\tc σ4 H4 λb H5=>if b=true then te σ4 H5 N else M H5):=by
 refine ⟨λi m H=>m=xs.length-i/\i<=xs.length/\∃ys,Pv i ys H,⟨xs.length,by simp,Z1e _,[],h0⟩,?_⟩;rintro i m H2 ⟨rfl,hi,ys,p⟩;have q:=hl i ys H2 p;by_cases hlt:i<xs.length
 ·refine .inr ⟨⟨xs,xs[i],q,by simp [hlt]⟩,λy H5=>H5 D=some (.lst ys)/\ys.length<sizeLine/\Pv (i+1) (ys++[y]) (upd H5 D (.lst (ys++[y]))),λH5=>Pv (i+1) ys H5,λy H5 n=>⟨ys,n.1,n.2.1,xs.length-(i+1),by omega,rfl,hlt,_,n.2.2⟩,λH5 n=>⟨xs.length-(i+1),by omega,rfl,hlt,_,n⟩,λx H3 z=> ?_⟩;obtain ⟨e,z⟩:=z;subst e;exact hs i x ys _ (z xs q) p
 ·have e:i=xs.length:=by omega
  subst e;exact .inl ⟨⟨xs,q,Z09 _⟩,hd ys H2 p⟩
end
section
variable {prog:Program} {w:World} {A:Around} {E:Value->Shared->Prop} {s:Shared}
end
section
variable {X:Cx}
theorem B3w {α β:Type} {F:α->β->Prop}:∀{l:List α} {m:List β},Paired F l m->∀{i:Nat} {y:β},m[i]? =some y->∃x,l[i]? =some x/\F x y
 | _,_,.nil,i,y,e=>by simp at e
 | _,_,.cons r t,0,y,e=>by simp at e;subst e;exact ⟨_,rfl,r⟩
 | _,_,.cons r t,i+1,y,e=>by
  obtain ⟨x,e1,e2⟩:=B3w t (i:=i) (by simpa using e);exact ⟨x,by simpa using e1,e2⟩
end
section
def Its (z:Str):It:=⟨λi _=>i<z.cps.size,λi H x H'=>H'=H/\∃c,z.cps[i]? =some c/\x= .str ⟨#[c]⟩,λi _=>i=z.cps.size⟩
theorem B6x {P:Program} {w:World} {K:PySem.W.Frag} {tg:Expr} {ty:String} (it:Addr) (z:Str) (t:Tok)
  (hty:["enumerate","zip","dict_itemiterator","dict_reverseitemiterator","odict_iterator","itertools.zip_longest","itertools.pairwise"].contains ty=false)
  (W:∀A':Around,A'.handled=none->Walks P w A' it [it] [it] z.cps.size (SignAt z) (λi h=>h.IsStrIter it ty z t i))
  (Wi:∀(A:Around) (i:Nat) (s:Shared) (Q:Value->Shared->Prop) (E:Value->Shared->Prop),s.heap.IsStrIter it ty z t i->Q (.ref it) s->wpAny (model P w) A (pyIter (.ref it)) Q E s) :
  C4v P w K tg (Its z) [it] it (λi h=>h.IsStrIter it ty z t i) where
 mem:=by simp
 obj:=λi h st b hb=>by
  have e:b=it:=by simpa using hb
  subst e;obtain ⟨ob,e,_,d⟩:=st;exact ⟨ob,e,λv z=>by rw [d] at z;cases z⟩
 keep:=λi h h' st k=>let ⟨o,ho,r⟩:=st;⟨o,k it (by simp) o ho,r⟩
 item:=by
  intro X hP hw hK hc i pins s σ H E I hf st hg;subst hP hw hK;obtain ⟨f0,f1,f2,f3,f4,f5⟩:=hf it (by simp);refine (W _ (I.ok.hd hc)).item i s _ E hg st λv h' tk hv hst kp=> ?_;obtain ⟨c,u,hc1,rfl⟩:=hv;have I1:Inv X pins σ H { s with heap:=h',toks:=tk }:=I.turned (t':=tk) (λb ob hb e=>kp b ob (by simpa using hb) e) f0 f1 f3 f4 f5
  obtain ⟨ob,e,c',d⟩:=id hst;exact ⟨_,rfl,B8g (s:={ s with heap:=h',toks:=tk }) e c' d hty ⟨.str ⟨#[c]⟩,H,I1,⟨u,rfl⟩,⟨rfl,c,hc1,rfl⟩,hst,λb hb=>(hf b hb).1⟩⟩
 done:=by
  intro X hP hw hK hc i pins s σ H E I hf st hg;subst hP hw hK;obtain ⟨f0,f1,f2,f3,f4,f5⟩:=hf it (by simp);cases (show i=z.cps.size from hg);exact (W _ (I.ok.hd hc)).done s _ E st λh' tk kp=>⟨rfl,I.turned (t':=tk) (λb ob hb e=>kp b ob (by simpa using hb) e) f0 f1 f3 f4 f5⟩
 self:=λA i s Q E st h=>Wi A i s Q E st h
def iStr (tl:TE):TI:=λσ H R=>tl σ H λx H1=>∃z,x= .str z/\R (Its z) H1
theorem C9i {X:Cx} {tg l:Expr} {tl:TE} (hl:PE X l tl):PI X tg l (iStr tl):=by
 intro pins s σ H R I h;refine thn (hl pins s σ H _ I h) λy s1 ⟨x,H1,I1,rx,z,ex,q⟩=> ?_;subst ex;obtain ⟨t,rfl⟩:=(show∃t,y=Value.str z t from rx)
 have fp:∀b∈[s1.heap.objs.size],B3s X pins H1 b:=λb hb=>by
  have e:b=s1.heap.objs.size:=by simpa using hb
  subst e;exact I1.fpOk (Z09 _) (I1.hok.fresh (Z09 _))
 cases ha:z.cps.all (· <128)
 ·refine wpAny_pyIter_wide ha ?_;have I2:Inv X pins σ H1 { s1 with heap:=s1.heap.push { cls:= .type "str_iterator",data:= .fields #[.str z t,.int 0 0] },toks:=s1.toks }:=I1.kept λb ob e=>Z01 _ e
  exact ⟨_,[s1.heap.objs.size],_,_,_,rfl,I2,B6x _ z t (by decide) (λA' hA=>Walks.strWide hA _ z t) (λ_ _ _ _ _ st h=>wpAny_pyIter_striter_wide st h),⟨_,Z0c _ rfl,rfl,rfl⟩,fp,q⟩
 ·refine wpAny_pyIter_ascii ha ?_;have I2:Inv X pins σ H1 { s1 with heap:=s1.heap.push { cls:= .type "str_ascii_iterator",data:= .fields #[.str z t,.int 0 0] },toks:=s1.toks }:=I1.kept λb ob e=>Z01 _ e
  exact ⟨_,[s1.heap.objs.size],_,_,_,rfl,I2,B6x _ z t (by decide) (λA' hA=>Walks.strAscii hA _ z t) (λ_ _ _ _ _ st h=>wpAny_pyIter_striter_ascii st h),⟨_,Z0c _ rfl,rfl,rfl⟩,fp,q⟩
end
theorem C0x:typeLookup (.type "list") "keys"=pure none:=by rw [typeLookup_type,builtinLookup_eq_fast];kernel_rfl
theorem A7j:entryFor table "dict.update.loop"=some Builtin.«dict.update.loop»:=entryFor_of_tree (by kernel_rfl)
theorem A3s:plainId "dict.update.loop"=true:=by decide +kernel
theorem C0p {prog:Program} {w:World} {A:Around} {E:Value->Shared->Prop} {s:Shared} {a:Addr} {o:Obj} {xs:Array Value} {k:Nat} {Q:Option Value->Shared->Prop}
  (hx:s.heap.get? a=some o) (hc:o.cls= .type "list") (hdat:o.data= .seq xs k) (hd:o.dict=none) (hA:A.handled=none)
  (h:∀h' tk,(∀b ob,s.heap.get? b=some ob->h'.get? b=some ob)->Q none { s with heap:=h',toks:=tk }):wpAny (model prog w) A (getAttr? (.ref a) "keys") Q E s:=by
 obtain ⟨c,dct,dat,sl⟩:=o;simp only at hc hdat hd;subst hc hdat hd;obtain ⟨hp,g,d,tk,os⟩:=s;have hT:∀tk',(⟨hp,g,d,tk',os⟩:Shared).TypeIs (.ref a) "list":=λ_=>⟨_,hx,rfl⟩;have f1:=sub_AttributeError;have f3:=F.slot_list_getattribute.lookup;have f4:=F.slot_list_getattribute.bind (.ref a);have f5:=am_list_getattr_none;unfold getAttr? getAttrBy? getAttrBy
 repeat (any_goals (first | assumption | exact hT _ | ((with_reducible show wpAny _ _ (call (Value.builtin "list.__getattribute__") _ _) _ _ _);refine call_meets F.slot_list_getattribute (hT _) am_entry_list_getattribute (F.args_list_getattribute_2 _ _) (meets_getattribute_miss_list a xs k sl "keys" _ C0x (by decide) (by decide)) ⟨hx,hA,λh' tk' e hx'=> ?_⟩) | wp_step))
 obtain ⟨t',u',he⟩:=hx'.there;show wpAny _ _ (getattributeRaised _ _ _ _ _ _ _) _ _ _;unfold getattributeRaised
 repeat (any_goals (first | assumption | wp_step))
 all_goals exact h _ _ hx'.1
section
variable {prog:Program} {w:World} {K:Type} [DecidableEq K] {knd:KeyKind prog w K} {A:Around} {R:Result->Shared->Prop} {I l d:Addr} {items:Array Value} {rs:List (K×Value)} {h₀:Heap} {g:Array GenState} {dr:Drawn} {os:OsState}
def C5y (knd:KeyKind prog w K) (h:Heap) (I d:Addr) (items:Array Value) (rs:List (K×Value)):Prop:=items.size=rs.length/\∀(i:Nat) (v:Value) (k:K) (u:Value),items[i]? =some v->rs[i]? =some (k,u)->
 ∃(b:Addr) (o:Obj) (n:Nat) (kv:Value),v= .ref b/\b≠I/\b≠d/\h.get? b=some o/\o.cls= .type "tuple"/\o.data= .seq #[kv,u] n/\knd.is k kv=true
theorem C3x (hh:A.handled=none) (hne:l≠I) (hdI:d≠I) (hdl:d≠l) (hsz:rs.length<=sizeLine) (pa:C5y knd h₀ I d items rs) (hl:h₀.IsList l items)
  (fin:∀h' tk,h'.DictOf knd d (merged [] rs)->(∀b o,b≠I->b≠d->h₀.get? b=some o->h'.get? b=some o)->R (.ok (.ret .none)) ⟨h',g,dr,tk,os⟩) :
  ∀(k i:Nat) (h:Heap) (tk:Nat),rs.length-i=k->i<=rs.length->h.IsListIter I l i->(∀b o,b≠I->b≠d->h₀.get? b=some o->h.get? b=some o)->h.DictOf knd d (merged [] (rs.take i))->
   codeAny (model prog w) A (.builtin "dict.update.loop" ⟨[.ref d,.ref I,rawInt i,.none],[]⟩) R ⟨h,g,dr,tk,os⟩:=by
 have W:=Walks.list (prog:=prog) (w:=w) (A:=A.in1) hh I l hne items;intro k
 induction k with
 | zero =>
  intro i h tk hk hi hit kp hD;have hin:i=items.size:=by have:=pa.1;omega
  have hin':i=rs.length:=by omega
  refine codeAny_builtin A7j ?_;rw [Around.under_plainId A3s _];show wpAny _ A.in1 (pyNext (.ref I) >>= _) _ _ _;refine Z00 (W.done ⟨h,g,dr,tk,os⟩ _ _ (by rw [<-hin];exact ⟨hit,hl.at λo e=>kp l o hne (Ne.symm hdl) e⟩) λh' tk' kp'=> ?_);show wpAny _ A.in1 (Builtin.Dict.addKeywords d [] >>= λ_=>ret Value.none) _ _ _;rw [hin',Z18] at hD;obtain ⟨od,es,ep,ho,r⟩:=hD;refine Z00 (Z04 (Z04 (fin h' tk' ⟨od,es,ep,kp' d od (by simpa using hdI) ho,r⟩ λb o h1 h2 e=>kp' b o (by simpa using h1) (kp b o h1 h2 e))))
 | succ k ih =>
  intro i h tk hk hi hit kp hD;have hlt:i<items.size:=by have:=pa.1;omega
  refine codeAny_builtin A7j ?_;rw [Around.under_plainId A3s _];show wpAny _ A.in1 (pyNext (.ref I) >>= _) _ _ _;refine Z00 (W.item i ⟨h,g,dr,tk,os⟩ _ _ hlt ⟨hit,hl.at λo e=>kp l o hne (Ne.symm hdl) e⟩ λv h' tk' hv hst' kp'=> ?_);obtain ⟨⟨k',u⟩,hku⟩:∃p,rs[i]? =some p:=⟨rs[i]'(by have:=pa.1;omega),Z0b _⟩;obtain ⟨b,o,n,kv,rfl,hbI,hbd,hb,hcl,hdat,his⟩:=pa.2 i v k' u hv hku;have hb':h'.get? b=some o:=kp' b o (by simpa using hbI) (kp b o hbI hbd hb);have hT:(⟨h',g,dr,tk',os⟩:Shared).TypeIs (.ref b) "tuple":=⟨_,hb',hcl⟩;show wpAny _ A.in1 (holding [Value.ref b] _ >>= _) _ _ _;refine Z00 (wpAny_holding (Z00 (wpAny_tryCatch ?_)));unfold Builtin.Dict.pairItems;refine Z00 (wpAny_typeOf hT ?_);rw [Z12 (by decide)];refine Z00 (wpAny_seqItems hb' hdat (Z04 ?_));show wpAny _ A.in1 (holding [kv,u] (dictSet d kv u)) _ _ _
  have hD':h'.DictOf knd d (merged [] (rs.take i)):=by
   obtain ⟨od,es,ep,ho,r⟩:=hD;exact ⟨od,es,ep,kp' d od (by simpa using hdI) ho,r⟩
  have hlen:(merged [] (rs.take i)).length<=sizeLine:=by
   have e1:=merged_length_le ([]:List (K×Value)) (rs.take i);have e2:(rs.take i).length<=rs.length:=by rw [Z0x];omega
   simp only [List.length_nil,Nat.zero_add] at e1;omega
  refine wpAny_holding (wpAny_dictSet_pairs (hsz:=hlen) (s:=⟨h',g,dr,tk',os⟩) his hD' λh2 hD2 sb=> ?_);rw [<-merged_take_succ [] rs i (k',u) hku] at hD2;refine Z04 ⟨plainId_quiet A3s _,ih (i+1) h2 _ (by omega) (by have:=pa.1;omega) ?_ ?_ hD2⟩
  ·exact hst'.1.at λo e=>(sb.2 I (Ne.symm hdI)).trans e
  ·intro c oc h1 h2' e;exact (sb.2 c h2').trans (kp' c oc (by simpa using h1) (kp c oc h1 h2' e))
end
def B0h (env:Env):List (Str×Addr)->Prop
 | []=>True
 | p::r=>env.cells.lookup p.1=some p.2/\B0h env r
theorem B0h.get {env:Env}:∀{cl:List (Str×Addr)},B0h env cl->∀{x:Str} {c:Addr},cl.lookup x=some c->env.cells.lookup x=some c
 | [],_,_,_,h=>by cases h
 | (y,d)::r,h,x,c,e=>by
  rw [Z28] at e;split at e
  ·rename_i hb;have hb':x=y:=by simpa using hb
   cases e
   subst hb';exact h.1
  ·exact B0h.get h.2 e
theorem A8p {x:Str}:∀{cl:List (Str×Addr)},x∈cl.map (·.1)->∃c,cl.lookup x=some c
 | [],h=>by cases h
 | (y,d)::r,h=>by
  rw [Z28]
  cases hb:(x == y) with
  | true=>exact ⟨d,rfl⟩
  | false =>
   have hne:x≠y:=by simpa using hb
   rcases Z0e.mp h with e | e
   ·exact absurd e hne
   ·exact A8p e
theorem B0g {X:Cx} {scope:Scope} {cl:List (Str×Addr)} {xs:List Str} (he:closureFor scope X.env=pure cl) (hc:B0h X.env cl) (hx:cl.map (·.1)=xs) (hk:scope.kind= .function) (hn:∀y∈scope.names,y.2≠.cell/\(y.2= .free->y.1∈xs))
  (hl:∀y∈scope.names,y.2= .local->scope.names.lookup y.1=some .local):C3h X scope cl where
 eq:=he
 sub:=λy d h=>hc.get h
 has:=λy h=>by
  have key:y∈xs:=by
   have m:∃k,(y,k)∈(relabel scope X.env).names/\(k= .cell\/k= .free):=h.elim (λz=>⟨_,A5i z,.inl rfl⟩) λz=>⟨_,A5i z,.inr rfl⟩;obtain ⟨k,hm,hk⟩:=m;obtain ⟨⟨n,k0⟩,h0,e⟩:=Z2c.mp hm;dsimp only at e;by_cases hf:k0= .free
   ·have en:n=y:=by
     split at e
     ·exact congrArg Prod.fst e
     ·exact congrArg Prod.fst e
    rw [<-en];exact (hn _ h0).2 hf
   ·have hb:(k0 == NameKind.free)=false:=by simpa using hf
    simp only [hb,Bool.false_and,Bool.false_eq_true,if_false] at e;have e2:k0=k:=congrArg Prod.snd e;subst e2;rcases hk with hk | hk
    ·exact absurd hk (hn _ h0).1
    ·exact absurd hk hf
  rw [<-hx] at key;exact A8p key
 kind:=hk
 ncell:=λy hy=>(hn y hy).1
 names:=hl
def B4q (X:Cx) (scope:Scope):List Str->List Nat->Prop
 | [],[]=>True
 | x::xs,j::js=>(X.N[j]? =some x/\(X.env.scope.names.lookup x=some .cell\/X.env.scope.names.lookup x=some .free)/\((relabel scope X.env).names.lookup x=some .cell\/(relabel scope X.env).names.lookup x=some .free))/\B4q X scope xs js
 | _,_=>False
theorem B4q.get {X:Cx} {scope:Scope}:∀{xs:List Str} {js:List Nat},B4q X scope xs js->xs.length=js.length/\∀(i j:Nat),js[i]? =some j->∃x,xs[i]? =some x/\X.N[j]? =some x/\(X.env.scope.names.lookup x=some .cell\/X.env.scope.names.lookup x=some .free)/\((relabel scope X.env).names.lookup x=some .cell\/(relabel scope X.env).names.lookup x=some .free)
 | [],[],_=>⟨rfl,λi j e=>by simp at e⟩
 | x::xs,j::js,h=>by
  obtain ⟨e,f⟩:=B4q.get h.2;refine ⟨by simp [e],λi k ek=> ?_⟩
  cases i with
  | zero=>simp at ek;subst ek;exact ⟨x,rfl,h.1⟩
  | succ i=>exact f i k (by simpa using ek)
 | [],_::_,h=>h.elim
 | _::_,[],h=>h.elim
theorem B0t {X:Cx} {N0 xs:List Str} {js:List Nat} {scope:Scope} (h:B4q X scope xs js):C4g X (N0++xs) scope (List.replicate N0.length none++js.map some):=by
 obtain ⟨hl,hf⟩:=h.get;refine ⟨by simp [hl],λi k e=> ?_⟩;by_cases hi:i<N0.length
 ·rw [Z26 (by simpa using hi),List.getElem?_replicate] at e;split at e <;> cases e
 ·rw [Z1l (by simpa using hi),List.length_replicate,Z1z] at e;obtain ⟨j,ej,ek⟩:=Z0i.mp e;cases ek;obtain ⟨x,h1,h2,h3,h4⟩:=hf _ _ ej;exact ⟨x,by rw [Z1l (by omega)];exact h1,h2,h3,h4⟩
abbrev PL (H:Hp) (xs:List V) (kvs:List (Key×V)):Prop:=Paired (λ(x:V) (p:Key×V)=>∃b,x= .ref b/\H b=some (.tup [kV p.1,p.2])) xs kvs
section
variable {X:Cx}
theorem C4d {pins:List (Addr×Obj)} {σ:St} {H:Hp} {s:Shared} (I:Inv X pins σ H s):∀{xs:List V} {kvs:List (Key×V)} {its:List Value},PL H xs kvs->A3a xs its->
  ∃rs,KV kvs rs/\Paired (λ(v:Value) (p:Key×Value)=>∃(b:Addr) (o:Obj) (n:Nat) (kv:Value),v= .ref b/\s.heap.get? b=some o/\o.cls= .type "tuple"/\o.data= .seq #[kv,p.2] n/\(A2h X.prog X.w).is p.1 kv=true) its rs
 | _,_,_,.nil,.nil=>⟨[],.nil,.nil⟩
 | _,_,_,@Paired.cons _ _ _ x p _ _ ⟨b,e,hb⟩ t,.cons rv vs=>by
  obtain ⟨rs,h1,h2⟩:=C4d I t vs;subst e;cases rv;obtain ⟨_,its,r,o,g1,g2,n,g3⟩:=(show A2l X.prog X.w H s.heap b (.tup [kV p.1,p.2]) from I.hok b _ hb)
  cases r with
  | cons r1 r =>
   cases r with
   | cons r2 r =>
    cases r
    exact ⟨(p.1,_)::rs,.cons ⟨rfl,r2⟩ h1,.cons ⟨b,o,n,_,rfl,g1,g2,g3,B5a r1⟩ h2⟩
theorem B7j (hc:X.calm=true):A7h X (.type "dict") (λvs H Q=>∃a xs kvs,vs=[V.ref a]/\H a=some (.lst xs)/\PL H xs kvs/\∀p,H p=none->Q (.ref p) (upd H p (.dK (A2z [] kvs)))):=by
 intro pins s σ H vs us Q I r h;obtain ⟨a,xs,kvs,rfl,ha,pl,q⟩:=h;obtain ⟨u,rfl,ru⟩:=B2x r;cases ru;obtain ⟨z,its,n,rv,hl,e⟩:=I.lstM ha;obtain ⟨rs,kv,rp⟩:=C4d I pl rv;have hh:X.A.handled=none:=I.ok.hd hc;have lk:kvs.length=xs.length:=(Paired.length pl).symm;have lr:rs.length=kvs.length:=kv.length.symm;have hn:=I.hok.fresh (Z09 s.heap.objs.size);refine callType_codes (Q₁:=λobj s₁=>obj= .ref s.heap.objs.size/\s₁={ s with heap:=s.heap.push { cls:= .type "dict",data:= .dict #[] } }) F.kt_called_dict (F.kt_typeCall_dict_1 _) F.entry_dict_init (kt_code_dict_new _ ⟨rfl,rfl⟩) ?_;rintro obj s₁ ⟨rfl,rfl⟩;have hnew:(s.heap.push { cls:= .type "dict",data:= .dict #[] }).DictOf (A2h X.prog X.w) s.heap.objs.size []:=Heap.DictOf.new s.heap;have e1:(s.heap.push { cls:= .type "dict",data:= .dict #[] }).get? a=some { cls:= .type "list",data:= .seq its.toArray n }:=Z01 _ e;have hTl:Shared.TypeIs { s with heap:=s.heap.push { cls:= .type "dict",data:= .dict #[] } } (.ref a) "list":=⟨_,e1,rfl⟩;refine ⟨hnew.typeIs,F.args_dict_init_2 _ _,?_⟩;unfold Builtin.«dict.__init__»;refine Z00 ?_;unfold Builtin.Dict.selfAndRest;refine Z00 (wpAny_notOrdered_dict hnew.typeIs ?_);show wpAny _ _ (pure (s.heap.objs.size,[Value.ref a])) _ _ _;refine Z04 ?_;show wpAny _ _ (Builtin.Dict.updateFrom "dict.__init__" s.heap.objs.size (.ref a) [] .none) _ _ _;unfold Builtin.Dict.updateFrom;refine Z00 (wpAny_typeOf hTl ?_);rw [Z12 (by decide)];refine Z00 (C0p (o:={ cls:= .type "list",data:= .seq its.toArray n }) e1 rfl rfl rfl (by simpa using hh) λh1 tk1 kp1=> ?_)
 rw [Z12 (show (none:Option Value).isNone=true from rfl)];refine Z00 (wpAny_rule ?_);have hl1:h1.IsList a its.toArray:=⟨_,kp1 _ _ e1,rfl,n,rfl⟩;refine Z00 (wpAny_pyIter_list (s:={ s with heap:=h1,toks:=tk1 }) hl1 ?_);have la:a<h1.objs.size:=Z0a (kp1 _ _ e1);have ld:s.heap.objs.size<h1.objs.size:=let ⟨_,_,_,g,_⟩:=hnew;Z0a (kp1 _ _ g);have las:a<s.heap.objs.size:=Z0a e;refine Z04 ⟨plainId_quiet A3s _,C3x (knd:=A2h X.prog X.w) (rs:=rs) (l:=a) (items:=its.toArray) (h₀:=h1.push { cls:= .type "list_iterator",data:= .fields #[.ref a,.int 0 0] }) (by simpa using hh) (Z0h la) (Z0h ld) (Z1q las) (by omega) ?_ (hl1.push _) ?_ rs.length 0 _ _ (by omega) (Z1e _) ⟨_,Z0c _ rfl,rfl,rfl⟩ (λ_ _ _ _ z=>z) ?_⟩
 ·refine ⟨by simp;omega,λi v k u hv hku=> ?_⟩;obtain ⟨x,hx,b,o,m,kv,ev,g1,g2,g3,g4⟩:=B3w rp hku
  have ex:x=v:=by
   have hv:its[i]? =some v:=by simpa using hv
   rw [hx] at hv;exact Z1a hv
  subst ex;have lb:=Z0a g1;exact ⟨b,o,m,kv,ev,Z0h (Nat.lt_trans lb ld),Z0h lb,Z01 _ (kp1 _ _ (Z01 _ g1)),g2,g3,g4⟩
 ·intro h' tk dd kp;refine ⟨rfl,.ref s.heap.objs.size,_,I.laid (t':=tk) (o:= .dK (A2z [] kvs)) (λb u eb=>kp b u (Z0h (Nat.lt_trans (Z0a eb) ld)) (Z0h (Z0a eb)) (Z01 _ (kp1 _ _ (Z01 _ eb)))) (Z09 _) ⟨?_,?_,_,KV.merge kv .nil,dd⟩,rfl,q _ hn⟩
  ·have:=A3j kvs [];simp only [List.length_nil] at this;omega
  ·have:=I.big;have hne:s.heap.objs.size≠sysModules:=Z1q this
   simpa using hne
 ·obtain ⟨od,es,ep,g,r⟩:=hnew;exact ⟨od,es,ep,Z01 _ (kp1 _ _ g),r⟩
end
section
variable {D:Addr} {g:TG} {te:TE} {QD:Hp->Prop} {σ₀:St} {H:Hp}
theorem A3d {J:It} (n:Nat) (Pv:Nat->List V->Hp->Prop) (h0:Pv 0 [] (upd H D (.lst []))) (hgo:∀i ys H,i<n->Pv i ys H->J.go i H) (hst:∀ys H,Pv n ys H->J.stop n H)
  (hs:∀i ys H,i<n->Pv i ys H->∀x H3,J.yld i H x H3->g x σ₀ H3 λσ4 H4=>A2y σ₀ σ4/\te σ4 H4 λy H5=>H5 D=some (.lst ys)/\ys.length<sizeLine/\Pv (i+1) (ys++[y]) (upd H5 D (.lst (ys++[y])))) (hd:∀ys H,Pv n ys H->QD H) :
  ∃W:Nat->Nat->Hp->Prop,(∃m,W 0 m (upd H D (.lst [])))/\∀i m H2,W i m H2->
   (J.stop i H2/\QD H2)\/(J.go i H2/\∃N:VK,(∀y H5,N y H5->∃xs,H5 D=some (.lst xs)/\xs.length<sizeLine/\∃m',m'<m/\W (i+1) m' (upd H5 D (.lst (xs++[y]))))/\
    ∀x H3,J.yld i H2 x H3->g x σ₀ H3 λσ4 H4=>A2y σ₀ σ4/\te σ4 H4 N):=by
 refine ⟨λi m H=>m=n-i/\i<=n/\∃ys,Pv i ys H,⟨n,by simp,Z1e _,[],h0⟩,?_⟩;rintro i m H2 ⟨rfl,hi,ys,p⟩;by_cases hlt:i<n
 ·exact .inr ⟨hgo i ys H2 hlt p,λy H5=>H5 D=some (.lst ys)/\ys.length<sizeLine/\Pv (i+1) (ys++[y]) (upd H5 D (.lst (ys++[y]))),λy H5 z=>⟨ys,z.1,z.2.1,n-(i+1),by omega,rfl,hlt,_,z.2.2⟩,λx H3 z=>hs i ys H2 hlt p x H3 z⟩
 ·have e:i=n:=by omega
  subst e;exact .inl ⟨hst ys H2 p,hd ys H2 p⟩
end
theorem B0b {X:Cx} {K:PySem.W.Frag} (h:X.K=K):IxR X (D2a K):=h▸A4s
theorem C7j {X:Cx} {K:PySem.W.Frag} (h:X.K=K):IxR X (D1u K):=h▸A1i
theorem C4b {X:Cx} {K:PySem.W.Frag} (h:X.K=K):SlR X (D2b K):=h▸A6f
theorem B4w {K:PySem.W.Frag} {C:Addr} {U:String} {b:Bool} (h:PySem.W.mroIn K C (.type U)=some b) (hm:PySem.W.kitMeta U=true):∀u,A2v (.ty U) u->PySem.W.kitOne K (.ref C) u=some b:=by
 intro u z;cases (show u=Value.type U from z);unfold PySem.W.kitOne;rw [Z0t (show¬(Value.ref C == Value.type U)=true from Z0v)];show (if PySem.W.kitMeta U=true then PySem.W.subIn K (.ref C) (.type U) else none)=some b;rw [Z12 hm];exact h
theorem A2f.or {P:Program} {w:World} {K:PySem.W.Frag} {mg:Str->Option Value} {base:Heap} {CX:CXT} {k:Nat} {f:Addr} {fd:FuncData} {ps:List Str} {sp sp':Sp} (F:A2f P w K mg base CX k f fd ps sp) (F':A2f P w K mg base CX k f fd ps sp') :
  A2f P w K mg base CX k f fd ps (λvs H Q E=>sp vs H Q E\/sp' vs H Q E) :=
 ⟨λvs H Q E q=>q.elim (F.len vs H Q E) (F'.len vs H Q E),λA outer s H args us vs Q E hr he hb hv q=>q.elim (F.run A outer s H args us vs Q E hr he hb hv) (F'.run A outer s H args us vs Q E hr he hb hv)⟩
theorem B6d (acc ws:List (Key×V)) (w:Key×V):A2z acc (ws++[w])=A4o (A2z acc ws) w.1 w.2:=by unfold A2z;rw [List.foldl_append];rfl
section
variable {X:Cx}
def PTs (X:Cx) (cs:List Expr) (t:TT):Prop :=
 ∀(pins:List (Addr×Obj)) (s:Shared) (σ:St) (H:Hp) (Q:Bool->Hp->Prop),Inv X pins σ H s->t σ H Q->wpAny (model X.prog X.w) X.A (forIn cs true λc r=>if r=true then do let ok<-isTrue c X.env (eval c X.env);pure (ForInStep.yield ok) else pure (ForInStep.yield r)) (TP X pins σ Q) X.xe s
theorem B6q {i₀:Nat} {x₀:Str} {pos₀ spos:Pos} {elt iter tg:Expr} {cs:List Expr} {scope:Scope} {pos:Pos} {N':List Str} {ix:List (Option Nat)} {cl:List (Str×Addr)} {wi:TI} {g:TG} {tc:TT} {te:TE} (hN₀:X.N.Nodup) (hi₀:X.N[i₀]? =some x₀) (hx₀:Loc X.env.scope x₀) (hc:X.calm=true) (ck:C3h X scope cl) (io:C4g X N' scope ix) (hi:PI X tg iter wi)
  (hg:∀C s₀ H₀ fp,PG (blk X N' scope cl C s₀ H₀ fp) tg g) (ht:∀C s₀ H₀ fp,PTs (blk X N' scope cl C s₀ H₀ fp) cs tc) (he:∀C s₀ H₀ fp,PE (blk X N' scope cl C s₀ H₀ fp) elt te) (R:B7u->St->It->Hp->Prop) (hR:∀D σ J H1,R D σ J H1->∀D2,H1 D2=none->∃W:Nat->Nat->Hp->Prop,(∃m,W 0 m (upd H1 D2 (.lst [])))/\∀i m H2,W i m H2->
   (J.stop i H2/\D.nx (σ.set i₀ (some (.ref D2))) H2)\/(J.go i H2/\∃(N:VK) (M:Hp->Prop),(∀y H5,N y H5->∃xs,H5 D2=some (.lst xs)/\xs.length<sizeLine/\∃m',m'<m/\W (i+1) m' (upd H5 D2 (.lst (xs++[y]))))/\(∀H5,M H5->∃m',m'<m/\W (i+1) m' H5)/\∀x H3,J.yld i H2 x H3->g x (A7g ix σ) H3 λσ4 H4=>A2y (A7g ix σ) σ4/\tc σ4 H4 λb H5=>if b=true then te σ4 H5 N else M H5)) (hs:∀x,foldedSetIterable iter X.env x=pure x:=by intro _;rfl)
  (hsw:swapsWith (.ListComp elt [⟨tg,iter,cs,0⟩] scope pos) (some (.Name x₀ pos₀)) spos.line X.env=pure true:=by rfl) (hf₀:X.fn x₀=true\/X.env.scope.names.lookup x₀=some .local:=by first | exact .inl rfl | exact .inr rfl | assumption) :
  PS X (.Assign [.Name x₀ pos₀] (.ListComp elt [⟨tg,iter,cs,0⟩] scope pos) spos) (λD σ H=>wi σ H (R D σ)):=by
 intro pins s σ H D₀ I h;rw [exec_Assign_Name_used _ _ _ _ hsw];refine Z00 (Z1y (Z00 ?_));show wpAny _ X.A (do let _<-comprehension (.ListComp elt [⟨tg,iter,cs,0⟩] scope pos) scope X.env _ (newList []) false (eval iter X.env) (some (assign (.Name x₀ pos₀) X.env))) _ _ s;refine Z00 (Z10 (wpAny_comprehension_free (use:=some (assign (.Name x₀ pos₀) X.env)) (Q:=λ_ s'=>∃σ' H',Inv X pins σ' H' s'/\D₀.nx σ' H') rfl hs ck.eq ck.kind ck.names (thn (hi pins s σ H _ I h) λxv s1 h1=>thn h1 λitv s2 h2=> ?_)) (λ_ s' hq=>Z04 (Z04 hq)) λ_ _ e=>e);obtain ⟨it,fp,tn,J,H1,rfl,I1,T,st1,f1,R1⟩:=h2;refine wpAny_newObj_type ?_;have hD:H1 s2.heap.objs.size=none:=I1.hok.fresh (Z09 _);obtain ⟨W,⟨m0,w0⟩,turn⟩:=hR _ _ _ _ R1 _ hD;have hfD:∀b∈fp,b<s2.heap.objs.size:=λb hb=>let ⟨o,e,_⟩:=T.obj _ _ st1 b hb;Z0a e;have I2:Inv X pins σ (upd H1 s2.heap.objs.size (.lst [])) { s2 with heap:=s2.heap.push { cls:= .type "list",data:= .seq ([]:List Value).toArray },toks:=s2.toks }:=I1.lnew (its:=[]) .nil (Z1e _);have f2:∀b∈fp,B3s X pins (upd H1 s2.heap.objs.size (.lst [])) b:=λb hb=>⟨by rw [A0j (Z0h (hfD b hb))];exact (f1 b hb).1,(f1 b hb).2⟩
 have lt2:∀b∈fp,b<(s2.heap.push { cls:= .type "list",data:= .seq ([]:List Value).toArray }).objs.size:=λb hb=>by rw [Z1s];exact Nat.lt_succ_of_lt (hfD b hb)
 refine wpAny_newFunctionEnv ck.ncell (by intro y hy;simp at hy) (λh3 hns sb3=> ?_) ck.kind;dsimp only at hns sb3⊢;have k3:∀b o,(s2.heap.push { cls:= .type "list",data:= .seq ([]:List Value).toArray }).get? b=some o->h3.get? b=some o:=λb o e=>(sb3.2 b (Z0h (Z0a e))).trans (Z01 _ e);generalize hs2:({ s2 with heap:=s2.heap.push { cls:= .type "list",data:= .seq ([]:List Value).toArray },toks:=s2.toks }:Shared)=s3 at I2;have e3:s2.heap.push { cls:= .type "list",data:= .seq ([]:List Value).toArray }=s3.heap:=by rw [<-hs2]
 rw [e3] at hns k3 lt2;have I3:=B3l (N':=N') (ix:=ix) I2 ck io f2 lt2 (h':=h3) (t':=s2.toks+([]:List (Str×Value)).length) hns k3;have e4:({ s3 with heap:=h3,toks:=s2.toks+([]:List (Str×Value)).length }:Shared)={ s2 with heap:=h3,toks:=s2.toks+([]:List (Str×Value)).length }:=by rw [<-hs2]
 rw [e4] at I3;have st3:tn 0 h3:=T.keep _ _ _ st1 λb hb o e=>k3 b o (by rw [<-e3];exact Z01 _ e)
 have loop:∀s4:Shared,s4={ s2 with heap:=h3,toks:=s2.toks+([]:List (Str×Value)).length }->
   codeAny (model X.prog X.w) X.A (.compLoop (.ListComp elt [⟨tg,iter,cs,0⟩] scope pos) 0 (.ref it) (.ref s2.heap.objs.size) (compEnvC scope cl s3.heap.objs.size X.env))
    (compPost (model X.prog X.w) X.A X.xe (some (assign (.Name x₀ pos₀) X.env)) (λ_ s'=>∃σ' H',Inv X pins σ' H' s'/\D₀.nx σ' H') (.ref s2.heap.objs.size) s3.heap.objs.size) s4:=by
  rintro s4 rfl
  have stat:∀{H':Hp},(∀b∈fp,H' b=none)->∀b∈fp,B3s (blk X N' scope cl s3.heap.objs.size s3 (upd H1 s2.heap.objs.size (.lst [])) fp) [] H' b:=λhn b hb =>
   ⟨hn b hb,Z0h (lt2 b hb),λhs=>I3.ok.exfs b hb hs,.inl hb,λx c e=>(f2 b hb).2.2.2.2.1 x c (ck.sub x c e),(λp hp=>by cases hp)⟩
  refine codeAny_loop rfl (λn s'=>∃i σ' H',Inv (blk X N' scope cl s3.heap.objs.size s3 (upd H1 s2.heap.objs.size (.lst [])) fp) [] σ' H' s'/\(∀(j:Nat) v,(A7g ix σ)[j]? =some (some v)->σ'[j]? =some (some v))/\tn i s'.heap/\(∀b∈fp,H' b=none)/\W i n H')
   (λn s' hI=> ?_) m0 ⟨0,_,_,I3,λ_ _ z=>z,st3,λb hb=>(f2 b hb).1,w0⟩
  obtain ⟨i,σ5,H5,I5,wk,st5,fr5,w5⟩:=hI;show wpAny _ _ ((compTurn (.ListComp elt [⟨tg,iter,cs,0⟩] scope pos) 0 (.ref it) (.ref s2.heap.objs.size) (compEnvC scope cl s3.heap.objs.size X.env)).onRaise (λx=>do noteFrame x (compEnvC scope cl s3.heap.objs.size X.env);theTreesLotGoes x)) _ _ s';refine wpAny_noted ?_;rw [compTurn_list];refine Z00 (Z1y ?_);rcases turn i n H5 w5 with ⟨stop,qn⟩ | ⟨go,NN,MM,hNN,hMM,step⟩
  ·refine Z00 (Z10 (T.done (blk X N' scope cl s3.heap.objs.size s3 (upd H1 s2.heap.objs.size (.lst [])) fp) rfl rfl rfl hc i [] s' σ5 H5 (λ_ _=>False) I5 (stat fr5) st5 stop) (λr s6 h6=> ?_) λ_ _ z=>z.elim);obtain ⟨rfl,I6⟩:=h6;refine Z04 ?_;obtain ⟨mm,hm,_⟩:=id I6.loc;have fC:B3s X pins H5 s3.heap.objs.size:=I2.fpOk (Z09 _) I6.free;have Io:Inv X pins σ H5 s6:=B9b I2 f2 I6 (Heap.SameBut.refl _ _);show wpAny _ X.A (assign (.Name x₀ pos₀) X.env (.ref s2.heap.objs.size)) _ _ s6;refine wpAny_assign_Name (B4o Io hN₀ hi₀ hx₀ (v:= .ref s2.heap.objs.size) rfl (λs7 I7 sb7=> ?_) hf₀);obtain ⟨a,sb,ha⟩:=sb7
   have ca:s3.heap.objs.size≠a:=by
    rcases ha with ha | ha
    ·rw [ha];exact fC.2.1
    ·exact λz=>fC.2.2.2.2.1 _ _ ha z.symm
   obtain ⟨oC,es,ep,ho,r⟩:=hm;exact ⟨mm,⟨oC,es,ep,(sb.2 _ ca).trans ho,r⟩,λh' sb'=>⟨_,H5,I7.turned (t':=s7.toks) (λb o hb e=>(sb'.2 b hb).trans e) fC.1 fC.2.1 fC.2.2.2.1 fC.2.2.2.2.1 fC.2.2.2.2.2,qn⟩⟩
  ·refine Z00 (Z10 (T.item (blk X N' scope cl s3.heap.objs.size s3 (upd H1 s2.heap.objs.size (.lst [])) fp) rfl rfl rfl hc i [] s' σ5 H5 (λ_ _=>False) I5 (stat fr5) st5 go) (λr s6 h6=> ?_) λ_ _ z=>z.elim);obtain ⟨u,rfl,h6⟩:=h6;refine Z00 (Z10 h6 (λ_ s7 h7=> ?_) λ_ _ z=>z.elim);obtain ⟨x,H7,I7,r7,y7,st7,fr7⟩:=h7;have I7w:Inv (blk X N' scope cl s3.heap.objs.size s3 (upd H1 s2.heap.objs.size (.lst [])) fp) [] (A7g ix σ) H7 s7:=I7.weak (by rw [I7.len];unfold A7g;rw [Z08];exact io.1) wk;have I7p:=I7w.pinned (stat fr7) (T.obj _ _ st7);refine Z00 (Z10 (hg _ _ _ _ _ s7 _ H7 x u _ I7p r7 (step x H7 y7)) (λ_ s8 h8=> ?_) λ_ _ z=>z.elim);obtain ⟨σ8,H8,I8,kp8,q8⟩:=h8
   have back:∀{s10:Shared} {σ10:St} {H10:Hp} {m':Nat},Inv (blk X N' scope cl s3.heap.objs.size s3 (upd H1 s2.heap.objs.size (.lst [])) fp) ([]++B3j fp s7.heap) σ10 H10 s10->(∀(j:Nat) v,(A7g ix σ)[j]? =some (some v)->σ10[j]? =some (some v))->W (i+1) m' H10->
     ∃i σ' H',Inv (blk X N' scope cl s3.heap.objs.size s3 (upd H1 s2.heap.objs.size (.lst [])) fp) [] σ' H' s10/\(∀(j:Nat) v,(A7g ix σ)[j]? =some (some v)->σ'[j]? =some (some v))/\tn i s10.heap/\(∀b∈fp,H' b=none)/\W i m' H':=by
    intro s10 σ10 H10 m' I10 kk w10;refine ⟨i+1,σ10,H10,I10.unpinned,kk,T.keep _ _ _ st7 λb hb o e=>(I10.pin (b,o) (Z02 _ (Z02 _ (A4f hb e)))).1,λb hb=> ?_,w10⟩;obtain ⟨o,e,d⟩:=T.obj _ _ st7 b hb;exact (I10.pin (b,o) (Z02 _ (Z02 _ (A4f hb e)))).2.1
   refine Z00 (Z10 (ht _ _ _ _ _ s8 σ8 H8 _ I8 q8) (λok s9' h9'=> ?_) λ_ _ z=>z.elim);obtain ⟨H9',I9',q9'⟩:=h9'
   cases ok with
   | false =>
    have q9'':MM H9':=by simpa using q9'
    obtain ⟨m',hm',w9⟩:=hMM _ q9'';exact Z00 (Z04 (Z04 ⟨rfl,m',hm',back I9' kp8.get w9⟩))
   | true =>
    have q9'':te σ8 H9' NN:=by simpa using q9'
    refine Z00 (Z00 (Z10 (he _ _ _ _ _ s9' σ8 H9' _ I9' q9'') (λyv s9 h9=> ?_) λ_ _ z=>z.elim));obtain ⟨y,H9,I9,r9,n9⟩:=h9;obtain ⟨xs,hx9,hz9,m',hm',w9⟩:=hNN _ _ n9;refine Z00 (Z10 (A3u (X:=blk X N' scope cl s3.heap.objs.size s3 (upd H1 s2.heap.objs.size (.lst [])) fp) _ s9 σ8 H9 (.ref s2.heap.objs.size) [y] (.ref s2.heap.objs.size) [yv] (λ_ H'=>W (i+1) m' H') I9 rfl (.cons r9 .nil) ⟨_,xs,y,rfl,rfl,hx9,hz9,w9⟩) (λ_ s10 h10=> ?_) λ_ _ z=>z.elim);obtain ⟨_,H10,I10,_,w10⟩:=h10;exact Z04 (Z04 ⟨rfl,m',hm',back I10 kp8.get w10⟩)
 have e5:s3.heap.objs.size=(s2.heap.push { cls:= .type "list",data:= .seq ([]:List Value).toArray }).objs.size:=by rw [e3]
 rw [e5] at loop;exact codeAny_compStart_list (loop _ rfl) (T.self X.A 0 _ _ _ st3 (loop _ rfl))
theorem B5o {i₀:Nat} {x₀:Str} {pos₀ spos:Pos} {elt iter tg:Expr} {scope:Scope} {pos:Pos} {N':List Str} {ix:List (Option Nat)} {cl:List (Str×Addr)} {wi:TI} {g:TG} {te:TE} (hN₀:X.N.Nodup) (hi₀:X.N[i₀]? =some x₀) (hx₀:Loc X.env.scope x₀) (hc:X.calm=true) (ck:C3h X scope cl) (io:C4g X N' scope ix) (hi:PI X tg iter wi)
  (hg:∀C s₀ H₀ fp,PG (blk X N' scope cl C s₀ H₀ fp) tg g) (he:∀C s₀ H₀ fp,PE (blk X N' scope cl C s₀ H₀ fp) elt te) (hs:∀x,foldedSetIterable iter X.env x=pure x:=by intro _;rfl)
  (hsw:swapsWith (.ListComp elt [⟨tg,iter,[],0⟩] scope pos) (some (.Name x₀ pos₀)) spos.line X.env=pure true:=by rfl) (hf₀:X.fn x₀=true\/X.env.scope.names.lookup x₀=some .local:=by first | exact .inl rfl | exact .inr rfl | assumption) :
  PS X (.Assign [.Name x₀ pos₀] (.ListComp elt [⟨tg,iter,[],0⟩] scope pos) spos) (D1i (C9l ix wi g te) (B4e i₀)) :=
 B6q (tc:=λ_ H Q=>Q true H) hN₀ hi₀ hx₀ hc ck io hi hg (λ_ _ _ _ _ _ _ _ _ I h=>wpAny_tests_nil ⟨_,I,h⟩) he _ (λ_ _ _ _ R D2 hD=>by
  obtain ⟨W,w0,turn⟩:=R D2 hD;refine ⟨W,w0,λi m H2 w=>(turn i m H2 w).imp id λ⟨go,N,hN,step⟩=>⟨go,N,λ_=>False,hN,λ_ z=>z.elim,?_⟩⟩
  simpa using step) hs hsw hf₀
theorem C0u {i₀:Nat} {x₀:Str} {pos₀ spos:Pos} {elt iter tg c:Expr} {scope:Scope} {pos:Pos} {N':List Str} {ix:List (Option Nat)} {cl:List (Str×Addr)} {wi:TI} {g:TG} {tc:TT} {te:TE} (hN₀:X.N.Nodup) (hi₀:X.N[i₀]? =some x₀) (hx₀:Loc X.env.scope x₀) (hc:X.calm=true) (ck:C3h X scope cl) (io:C4g X N' scope ix) (hi:PI X tg iter wi)
  (hg:∀C s₀ H₀ fp,PG (blk X N' scope cl C s₀ H₀ fp) tg g) (ht:∀C s₀ H₀ fp,PT (blk X N' scope cl C s₀ H₀ fp) c tc) (he:∀C s₀ H₀ fp,PE (blk X N' scope cl C s₀ H₀ fp) elt te) (hs:∀x,foldedSetIterable iter X.env x=pure x:=by intro _;rfl)
  (hsw:swapsWith (.ListComp elt [⟨tg,iter,[c],0⟩] scope pos) (some (.Name x₀ pos₀)) spos.line X.env=pure true:=by rfl) (hf₀:X.fn x₀=true\/X.env.scope.names.lookup x₀=some .local:=by first | exact .inl rfl | exact .inr rfl | assumption) :
  PS X (.Assign [.Name x₀ pos₀] (.ListComp elt [⟨tg,iter,[c],0⟩] scope pos) spos) (D1i (C7h ix wi g tc te) (B4e i₀)) :=
 B6q hN₀ hi₀ hx₀ hc ck io hi hg (λC s₀ H₀ fp pins s σ H Q I h=>wpAny_tests_one (ht C s₀ H₀ fp pins s σ H Q I h)) he _ (λ_ _ _ _ R=>R) hs hsw hf₀
theorem B4h {xs:List V} {its:List Value} (r:A3a xs its):∀js:List Nat,A3a (js.filterMap (xs[·]?)) (js.filterMap (its[·]?))
 | []=> .nil
 | j::js=>by
  have hl:=r.length;have t:=B4h r js
  cases hx:xs[j]? with
  | none =>
   have hi:its[j]? =none:=by rw [List.getElem?_eq_none_iff] at hx⊢;omega
   rw [List.filterMap_cons_none hx,List.filterMap_cons_none hi];exact t
  | some x =>
   obtain ⟨u,hu,ru⟩:=r.get hx;rw [List.filterMap_cons_some hx,List.filterMap_cons_some hu];exact .cons ru t
def tSl3 (K:PySem.W.Frag) (te:TE) (tl th:TO) (ts:TE):TE:=λσ H Q=>te σ H λx H1=>tl σ H1 λl H2=>th σ H2 λu H3=>ts σ H3 λy H4=>∃a xs i k,x= .ref a/\l=some i/\u=none/\y= .int k/\0<=i/\0<k/\SqL K H4 a xs/\∀p zs,H4 p=none->zs.length<=xs.length->(∀z∈zs,z∈xs)->Q (.ref p) (upd H4 p (.lst zs))
theorem C2a {a k:Int} {n:Nat} (h0:0<=a) (hk:0<k):((if k>0 then (if a<(n:Int) then ((n:Int)-a+k-1)/k else 0) else (if a>(n:Int) then (a-(n:Int)-k-1)/(-k) else 0)):Int).toNat<=n:=by
 rw [Z12 hk];split
 ·have h1:((n:Int)-a+k-1)/k<=(n:Int)-a:=by
   have e:(n:Int)-a+k-1=((n:Int)-a-1)+1*k:=by omega
   rw [e,Int.add_mul_ediv_right _ _ (by omega)];have:=Int.ediv_le_self k (show 0<=(n:Int)-a-1 by omega);omega
  omega
 ·exact Z1e _
theorem C0l {e st:Expr} {lo hi:Option Expr} {te ts:TE} {tl th:TO} {p2 pos:Pos} (he:PE X e te) (hl:PO X lo tl) (hu:PO X hi th) (hst:PE X st ts):PE X (.Subscript e (.Slice lo hi (some st) p2) pos) (tSl3 X.K te tl th ts):=by
 intro pins s σ H Q I h;refine Subscript_ (thn (he pins s σ H _ I h) λv s1 ⟨x,H1,I1,r1,q1⟩=> ?_);refine wpAny_Slice (thn (hl pins s1 σ H1 _ I1 q1) λvl s2 ⟨l,H2,I2,pl,q2⟩=>thn (hu pins s2 σ H2 _ I2 q2) λvu s3 ⟨u,H3,I3,pu,q3⟩=> ?_);rw [evalPart_some];refine thn (hst pins s3 σ H3 _ I3 q3) λvs s4 ⟨y,H4,I4,r4,q4⟩=> ?_;obtain ⟨a,xs,i,k,rfl,rfl,rfl,rfl,h0,hk,hq,q⟩:=q4;cases r1;obtain ⟨tk,rfl⟩:=(show∃t,vs=Value.int k t from r4);have I5:Inv X pins σ H4 { s4 with heap:=s4.heap.push { cls:= .type "slice",data:= .fields #[vl,vu,.int k tk] } }:=I4.kept (t':=s4.toks) λb ob q=>Z01 _ q
 obtain ⟨its,r,ht,hz⟩:=I5.list hq;have hlen:=r.length;show wpAny (model X.prog X.w) X.A (subscriptTail e (.Slice lo hi (some st) p2) (.ref a) (.ref s4.heap.objs.size)) (EP X pins σ Q) X.xe { s4 with heap:=s4.heap.push { cls:= .type "slice",data:= .fields #[vl,vu,.int k tk] } };refine tail_any (ops:=[.ref a,.ref s4.heap.objs.size]) (T:="list") ht.isList.typeIs slot_list_getitem.lookup ?_ (by with_unfolding_all rfl);refine wpAny_getItem_list_slice ht.isList (Heap.IsSliceOf.new ..) pl pu (.int k tk) (by intro z;cases z;omega) ?_ (by rw [Z0g] <;> omega);generalize hjs:sliceRange (sliceBounds (some i) none (some k) its.toArray.size).1 (sliceBounds (some i) none (some k) its.toArray.size).2.1 (sliceBounds (some i) none (some k) its.toArray.size).2.2=js
 have hp:slicePick its.toArray (some i) none (some k)=(js.filterMap (its[·]?)).toArray:=by
  unfold slicePick;rw [hjs];simp
 have hjl:js.length<=its.length:=by
  rw [<-hjs];have b1:(sliceBounds (some i) none (some k) its.toArray.size).2.1=((its.length:Nat):Int):=by simp [sliceBounds,hk]
  have b2:(sliceBounds (some i) none (some k) its.toArray.size).2.2=k:=by simp [sliceBounds]
  have b3:0<=(sliceBounds (some i) none (some k) its.toArray.size).1:=by
   simp only [sliceBounds,Option.getD_some,hk,if_true,show¬i<0 by omega,if_false];omega
  rw [b1,b2];unfold sliceRange;rw [Z08,List.length_range];exact C2a b3 hk
 rw [hp]
 have hzl:(js.filterMap (xs[·]?)).length<=xs.length:=by
  have:=List.length_filterMap_le (xs[·]?) js;omega
 refine ⟨.ref _,_,I5.laid (t':=s4.toks) (o:= .lst (js.filterMap (xs[·]?))) (λb ob q=>Z01 _ q) (Z09 _) ?_,rfl,q _ _ (I5.hok.fresh (Z09 _)) hzl λz hz'=> ?_⟩
 ·exact ⟨by omega,_,0,B4h r js,Z0c _ rfl⟩
 ·obtain ⟨j,_,e⟩:=List.mem_filterMap.mp hz';exact Z13 e
end
def CXF (P:Program) (w:World):CXT:=λouter H s E e s' =>
 ∃(ea C:Addr) (a0:Value) (H':Hp) (B:Heap),e= .ref ea/\s'.os=s.os/\AllBare s'.gens/\Un (frs outer) [] H H' s.heap s'.heap/\HOk P w H' s'.heap/\
  (∀b o,s.heap.get? b=some o->b∉frs outer->∃o',B.get? b=some o')/\(∀b o,H' b=some o->∃o',B.get? b=some o')/\
  Heap.FlyingW B outer ea (.ref C) a0 s'.heap/\E (.ref C) none H'
theorem A2l.at18 {P:Program} {w:World} {H:Hp} {h:Heap} {a:Addr} {o:HO} (x:A2l P w H h a o):∃u,h.get? a=some u:=by
 cases o with
 | lst xs=>obtain ⟨_,_,_,_,e⟩:=x;exact ⟨_,e⟩
 | tup xs=>obtain ⟨_,_,_,o,e,_⟩:=x;exact ⟨_,e⟩
 | dK kvs=>obtain ⟨_,_,_,_,o,_,_,e,_⟩:=x;exact ⟨_,e⟩
 | dT kvs=>obtain ⟨_,_,_,_,o,_,_,e,_⟩:=x;exact ⟨_,e⟩
 | set S n=>obtain ⟨o,_,_,_,e,_⟩:=x;exact ⟨_,e⟩
 | ins C dx fs=>obtain ⟨_,_,_,e,_⟩:=x;exact ⟨_,e⟩
 | own y=>obtain ⟨_,e⟩:=x;exact ⟨_,e⟩
 | xd fs=>obtain ⟨_,⟨_,_,_,e,_⟩,_⟩:=x;exact ⟨_,e⟩
 | rng lo hi=>obtain ⟨_,_,_,e⟩:=x;exact ⟨_,e⟩
 | frz ob u=>obtain ⟨e,_⟩:=x;exact ⟨_,e⟩
 | tbl ps=>exact ⟨_,(show h.get? a=some _ from x)⟩
 | met f y=>exact ⟨_,(show h.get? a=some _ from x)⟩
 | ext φ=>obtain ⟨_,⟨_,e⟩,_⟩:=x;exact ⟨_,e⟩
section
variable {X:Cx} {pins:List (Addr×Obj)} {σ:St} {H1 H':Hp} {s1:Shared} {B h1 h':Heap}
theorem C4l (I:Inv X pins σ H1 s1) (hx:X.ex=[]) (u:Un (frs X.stack) [] H1 H' s1.heap h1) (hb1:∀b o,s1.heap.get? b=some o->b∉frs X.stack->∃o',B.get? b=some o') (hst:B.StaysIn h1) (hst':B.StaysIn h') (up:h1.UpToSlots h') :
  Un X.fs [] X.H₀ H' X.s₀.heap h'/\∀b o,X.s₀.heap.get? b=some o->b∉X.fs->∃o',B.get? b=some o':=by
 have a:Un X.fs [] X.H₀ H1 X.s₀.heap s1.heap:=by
  have z:=I.base;rw [hx] at z;exact z
 have no:∀b:Addr,b∉([]:List Addr):=λb=>by simp
 have nst:∀b o,X.s₀.heap.get? b=some o->b∉X.fs->b∉frs X.stack:=λb o e hb m =>
  (Z0e.mp (I.stkSub b m)).elim (Z0h (Z0q (Z0a e) I.ok.above)) hb
 have B1:∀b o,X.s₀.heap.get? b=some o->b∉X.fs->∃o',B.get? b=some o':=λb o e hb=>by
  obtain ⟨o1,e1⟩:=a.there b o e (no b);exact hb1 b o1 e1 (nst b o e hb)
 have slot:∀b o,X.s₀.heap.get? b=some o->X.H₀ b=none->b∈X.fs->∃sl,h'.get? b=some { o with slots:=sl }:=λb o e n hb=>by
  obtain ⟨sl,e1⟩:=a.slot b o e n hb (no b);obtain ⟨sl2,e2⟩:=u.any e1 (a.free b o e n (no b)) (no b);obtain ⟨_,of,ho,hd⟩:=I.ok.funs.mem hb;rw [e] at ho;cases ho;obtain ⟨sl3,e3⟩:=up b _ e2 hd;exact ⟨sl3,e3⟩
 refine ⟨⟨λb o e n hb _=> ?_,λb o e n hb _=>slot b o e n hb,λb o e n _=> ?_,λb o e _=> ?_,λb xs e=>u.tups b xs (a.tups b xs e),λb o v e=>u.frzs b o v (a.frzs b o v e),λb ps e=> ?_⟩,B1⟩
 ·have e2:=u.keep b o (a.keep b o e n hb (no b)) (a.free b o e n (no b)) (nst b o e hb) (no b);obtain ⟨o',eB⟩:=B1 b o e hb;have e3:=hst b o' eB;rw [e2] at e3;cases e3;exact hst' b o eB
 ·obtain ⟨o1,e1⟩:=a.there b o e (no b);exact u.free b o1 e1 (a.free b o e n (no b)) (no b)
 ·by_cases hb:b∈X.fs
  ·obtain ⟨sl,q⟩:=slot b o e (I.ok.frf b hb) hb;exact ⟨_,q⟩
  ·obtain ⟨o',eB⟩:=B1 b o e hb;exact ⟨o',hst' b o' eB⟩
 ·obtain ⟨m1,e1⟩:=a.tbls b ps e;obtain ⟨m2,e2⟩:=u.tbls b _ e1;exact ⟨m1++m2,by rw [e2,Array.append_assoc]⟩
theorem C1o {P:Program} {w:World} (ok:HOk P w H' h1) (b2:∀b o,H' b=some o->∃o',B.get? b=some o') (hst:B.StaysIn h1) (hst':B.StaysIn h'):HOk P w H' h':=λa o e =>
 (ok a o e).stay (λb u hb q=>by
  have:∃o',B.get? b=some o':=by
   rcases hb with rfl | hb
   ·exact b2 _ _ e
   ·exact b2 _ _ hb
  obtain ⟨o',eB⟩:=this;have z:=hst b o' eB;rw [q] at z;cases z
  exact hst' b u eB) (λ_ q=>q) λ_ _ q=>q
end
section
variable {P:Program} {w:World} {K:PySem.W.Frag} {mg:Str->Option Value} {base:Heap} {N:List Str} {qual:Str} {scope:Scope} {f:Addr} {cd:Value} {A:Around} {outer:List Env} {s:Shared} {H:Hp} {E:XK}
theorem A9l:B1n (CXF P w) (C1z (CXF P w) P w K mg base N qual scope f cd A outer s H E) E:=by
 intro pins σ H1 s1 e s' I hcx;obtain ⟨ea,C,a0,H',B,rfl,os,bare,un,hok,b1,b2,fl,q⟩:=hcx;refine wpAny_leaves_onW I.ok.frames rfl fl λh' fl' up=> ?_;obtain ⟨un',b1'⟩:=C4l I rfl un b1 fl.1 fl'.1 up;exact ⟨ea,C,a0,H',B,rfl,os.trans I.os,bare,un',C1o hok b2 fl.1 fl'.1,b1',b2,fl',q⟩
def C4j (X:Cx) (C:Addr) (E:XK):Prop:=∀(pins:List (Addr×Obj)) (σ:St) (H:Hp) (s:Shared) (h':Heap) (e:Addr) (vs:List Value),Inv X pins σ H s->Heap.MadeExcOf s.heap h' e (.ref C) vs->E (.ref C) none H->X.xe (.ref e) { s with heap:=h' }
theorem A5b {C:Addr}:C4j (C1z (CXF P w) P w K mg base N qual scope f cd A outer s H E) C E:=by
 intro pins σ H1 s1 h1 e vs I hx q;have stk:(C1z (CXF P w) P w K mg base N qual scope f cd A outer s H E).stack=envOfC qual scope s.heap.objs.size f cd::outer:=rfl;have kB:∀b o,s1.heap.get? b=some o->b∉frs (envOfC qual scope s.heap.objs.size f cd::outer)->(PySem.W.hideAll s1.heap (frs (envOfC qual scope s.heap.objs.size f cd::outer))).get? b=some o:=λb o e hb=>PySem.W.hideAll_get _ e hb
 refine wpAny_leaves_madeW (base:=PySem.W.hideAll s1.heap (frs (envOfC qual scope s.heap.objs.size f cd::outer))) I.ok.frames rfl (λb o z=>PySem.W.of_hideAll _ z)
  (PySem.W.funFrames_hide I.stack λenv he b hb=>List.mem_filterMap.mpr ⟨env,he,hb⟩) hx λh' t fl _ _ up=> ?_
 have b2:∀b o,H1 b=some o->∃o',(PySem.W.hideAll s1.heap (frs (envOfC qual scope s.heap.objs.size f cd::outer))).get? b=some o':=λb o z=>by
  obtain ⟨u,hu⟩:=(I.hok b o z).at18;refine ⟨u,kB b u hu λm=> ?_⟩;have:=I.stkFree b m;rw [z] at this;cases this
 obtain ⟨un',b1'⟩:=C4l (B:=PySem.W.hideAll s1.heap (frs (envOfC qual scope s.heap.objs.size f cd::outer))) I rfl (Un.kept hx.keeps) (λb o z hb=>⟨o,kB b o z hb⟩) (λb o z=>hx.keeps b o (PySem.W.of_hideAll _ z)) fl.1 up;exact ⟨e,C,.ref t,H1,_,rfl,I.os,I.bare,un',C1o (I.hok.kept hx.keeps) b2 (λb o z=>hx.keeps b o (PySem.W.of_hideAll _ z)) fl.1,b1',b2,fl,q⟩
end
theorem C6b {K:PySem.W.Frag} {h:Heap} {C:Addr} {bmB:List Value} {newId:String} (X:K.In h) (q:PySem.W.excIn K C bmB newId=true) :
  ∃(nm qn:Str) (N:Addr) (bs bm:List Value) (hdct:Bool) (sn:List Str) (sub:List Value) (ab:Bool) (col:Option Bool) (dd:Option Addr) (k0 k1 k2 k3 k5:Option Value) (mN:Str->Option Value),
   h.get? C=some (excClassObj nm qn C N bs bm hdct sn sub ab col dd k0 k1 k2 k3 k5 newId)/\h.Ns N mN/\mN "__init__"=none/\OwnTail h bmB bm:=by
 cases lk:K.lookup C with
 | none=>simp [PySem.W.excIn,lk] at q
 | some ob =>
  have there:=X _ _ lk;unfold PySem.W.excIn at q;rw [lk] at q;split at q
  case h_2=>cases q
  case h_1 dct cls parts same =>
   injection same with same;subst same;split at q
   case h_2=>cases q
   case h_1 own tl p0 p1 p2 p3 made p5 along row =>
    repeat rw [Z1x] at q
    have w1:own=C:=beq_iff_eq.mp q.1.1.1.1.1;have w2:made=newId:=beq_iff_eq.mp q.1.1.1.1.2;have w3:cls.hasDel=false:=by simpa using q.1.1.1.2
    have w4:=beq_iff_eq.mp q.2;subst w1 w2;have sl:parts= #[p0,p1,p2,p3,some (.builtin made),p5]:=Array.toList_inj.mp row;rw [sl] at there;cases cls;dsimp only at along w3 w4 q;rw [along,w3] at there;exact ⟨_,_,_,_,tl,_,_,_,_,_,dct,p0,p1,p2,p3,p5,_,there,Heap.Ns.of_isNs (PySem.W.isNs_of_in X q.1.2),PySem.W.nsMap_none_of_in X q.1.2 w4,PySem.W.tail_of_in X q.1.1.2⟩
abbrev C8j:List Value:=[.type "ValueError",.type "Exception",.type "BaseException",.type "object"]
def C8o (C:Addr) (E:XK) (t:TA):TS:=λ_ σ H=>t σ H λvs H1=>vs.length<=sizeLine/\E (.ref C) none H1
theorem A2u {X:Cx} {C:Addr} {E:XK} {x:Str} {np cpos pos:Pos} {e:Expr} {es:List Expr} {t:TA} (hT:C4j X C E) (q:PySem.W.excIn X.K C C8j "ValueError.__new__"=true) (hg:Gl X x) (hm:X.mg x=some (.ref C)) (hc:X.calm=true)
  (ha:PA X (e::es) t) (hdb:(x == ("__debug__":Str))=false:=by decide) (he:starEach (e::es) X.env=(false,eval e X.env)::starEach es X.env:=by rfl) (hpl:(backTo cpos (starEach es X.env)).any (·.1)=false:=by rfl) :
  PS X (.Raise (some (.Call (.Name x np) (e::es) [] cpos)) none pos) (C8o C E t):=by
 intro pins s σ H D I h;obtain ⟨nm,qn,N,bs,bm,hdct,sn,sub,ab,col,dd,k0,k1,k2,k3,k5,mN,hC,hN,hni,T⟩:=C6b I.mod.kin q;have kb:∀{s2:Shared} {σ2:St} {H2:Hp},Inv X pins σ2 H2 s2->∀b o,X.base.get? b=some o->s2.heap.get? b=some o:=λI2=>I2.bk
 have hpl':(backTo cpos (starEach (e::es) X.env)).any (·.1)=false:=by
  rw [he];exact hpl
 refine wpAny_Raise_call_subU (C:=C) (nm:=nm) (q:=qn) (N:=N) (bs:=bs) (bm:=bm) (hdct:=hdct) (sn:=sn) (sub:=sub) (ab:=ab) (col:=col) (dd:=dd) (k0:=k0) (k1:=k1) (k2:=k2) (k3:=k3) (k5:=k5) (mN:=mN) (bmB:=C8j)
  PySem.F.excBase_ValueError (by decide +kernel) PySem.F.excBase_ValueError (T.hasType (by decide +kernel)) (I.ok.hd hc) hpl' hni ?_
 refine A6r I hg hm ⟨rfl,?_⟩ hdb
 have hA:=thn (ha cpos pins s σ H _ I h) (Q':=λus s2=>us.length<=sizeLine/\s2.heap.get? C=some (excClassObj nm qn C N bs bm hdct sn sub ab col dd k0 k1 k2 k3 k5 "ValueError.__new__")/\s2.heap.Ns N mN/\OwnTail s2.heap C8j bm/\
    ∀h' e,Heap.MadeExcOf s2.heap h' e (.ref C) us->X.xe (.ref e) { s2 with heap:=h' }) λus s2 ⟨vs,H2,I2,r,hl,hE⟩ =>
  ⟨r.length▸hl,kb I2 _ _ hC,hN.keeps (kb I2),T.keeps (kb I2),λh' e hx=>hT pins σ H2 s2 h' e us I2 hx hE⟩
 rw [he] at hA⊢;exact Calls.evalArgs_plain (thn hA λus s2 ⟨a,b,c,d,k⟩=>⟨rfl,a,b,c,d,k⟩)
abbrev Cx.held (X:Cx) (ea:Addr):Cx:={ X with A:=X.A.mark (some (.ref ea)),calm:=false,xe:=λ_ _=>False }
theorem Cx.Ok.held {X:Cx} (ok:X.Ok) (ea:Addr):(X.held ea).Ok :=
 ⟨ok.mod,ok.kind,ok.glob,ok.blt,ok.above,ok.inj,ok.has,ok.cab,λz=>(by cases z),ok.frames,ok.stk,ok.exf,ok.bs,ok.bsz,ok.noex,ok.exfs,ok.funs,ok.frf⟩
section
variable {X:Cx} {pins:List (Addr×Obj)} {σ:St} {H H1:Hp} {s s1:Shared} {ea C:Addr} {a0:Value} {B:Heap}
theorem Inv.held (I:Inv X pins σ H s) (ea:Addr):Inv (X.held ea) pins σ H s:=⟨I.ok.held ea,I.os,I.bare,I.base,I.loc,I.cell,I.free,I.freeC,I.pin,I.hok,I.len⟩
theorem Inv.unheld (I:Inv (X.held ea) pins σ H s) (ok:X.Ok):Inv X pins σ H s:=⟨ok,I.os,I.bare,I.base,I.loc,I.cell,I.free,I.freeC,I.pin,I.hok,I.len⟩
theorem A8j {M:Model} {A:Around} {E:Value->Shared->Prop} {i:Nat} {x:Str} {pos:Pos} {Q:Unit->Shared->Prop} (I:Inv X pins σ H s) (hN:X.N.Nodup) (hi:X.N[i]? =some x) (hx:X.env.scope.names.lookup x=some .local)
  (h:∀s',Inv X pins (σ.set i none) H s'->Q () s'):wpAny M A (do bindName X.env x .none;unbindBehindTheSuite X.env x pos) Q E s:=by
 refine Z00 (wpAny_bindName (A8q (v:= .non) (u:= .none) I hN hi (.inl hx) rfl (λs1 I1=> ?_) (.inr hx)));unfold unbindBehindTheSuite;refine wpAny_onRaise ?_;obtain ⟨m,hn,hl⟩:=id I1.loc;have hcls:(X.env.scope.kind == .class||(X.env.scope.kind == .module&&X.env.locals != X.env.globals))=false:=by rw [I1.ok.kind];rfl
 have hiσ:i<σ.length:=by rw [I.len];exact (Z03.mp hi).1
 have cne:=I1.cne;have hk:X.env.kindOf x=some .local:=hx;obtain ⟨u,ru,hu⟩:=hl i x .non hi (Z23 hiσ) (.inl hx)
 have hm:m x=some u:=by
  rcases hu with ⟨_,e⟩ | ⟨k,_⟩
  ·exact e
  ·rw [hk] at k;rcases k with k | k <;> cases k
 refine wpAny_unbindName_local hk hn hm hcls λh' v hn' hs=> ?_;obtain ⟨oL,_,_,hoL,_⟩:=id hn;refine h _ ⟨I1.ok,I1.os,I1.bare,⟨λb o e n hb hx=> ?_,λb o e n hb hx=> ?_,I1.base.free,λb o e hx=> ?_,I1.base.tups,I1.base.frzs,I1.base.tbls⟩,⟨_,hn',λj y v' e1 e2 e3=> ?_⟩,λy c e=> ?_,I1.free,I1.freeC,λp hp=> ?_,λb ob e=> ?_,by simpa using I.len⟩
 ·exact (hs.2 b (Z0h (Z0q (Z0a e) I1.ok.above))).trans (I1.base.keep b o e n hb hx)
 ·obtain ⟨sl,e1⟩:=I1.base.slot b o e n hb hx;exact ⟨sl,(hs.2 b (Z0h (Z0q (Z0a e) I1.ok.above))).trans e1⟩
 ·obtain ⟨o',e1⟩:=I1.base.there b o e hx;exact ⟨o',(hs.2 b (Z0h (Z0q (Z0a e) I1.ok.above))).trans e1⟩
 ·by_cases hj:j=i
  ·subst hj;rw [Z23 hiσ] at e2;cases e2
  ·rw [Z2a (Ne.symm hj)] at e2;obtain ⟨u',r',q⟩:=hl j y v' e1 (by rw [Z2a (Ne.symm hj)];exact e2) e3;refine ⟨u',r',?_⟩;rcases q with ⟨k,e⟩ | ⟨k,c,e,z⟩
   ·refine .inl ⟨k,?_⟩;have:y≠x:=λe=>hj (B2u hN e1 (e▸hi));simp [this,e]
   ·exact .inr ⟨k,c,e,z.sameBut hs (cne y c e)⟩
 ·obtain ⟨w',z⟩:=I1.cell y c e;exact ⟨w',z.sameBut hs (cne y c e)⟩
 ·obtain ⟨e,n,ne,nf,d⟩:=I1.pin p hp;exact ⟨(hs.2 p.1 ne).trans e,n,ne,nf,d⟩
 ·refine (I1.hok b ob e).stay (λc w' hc q=>(hs.2 c ?_).trans q) (λ_ q=>q) λ_ _ q=>q;rintro rfl;rcases hc with rfl | hc
  ·rw [I1.free] at e;cases e
  ·rw [I1.free] at hc;cases hc
def xcF (ea C:Addr):Heap->Prop:=λh=>∃o vs,h.get? ea=some o/\o.cls= .ref C/\o.data= .fields vs
theorem Inv.track (I1:Inv X pins σ H1 s1) (I:Inv X pins σ H s) (hn:s1.heap.get? ea=none) (hH:H ea=none) (hx:xcF ea C s.heap):Inv X pins σ (upd H ea (.ext (xcF ea C))) s:=by
 have ne1:∀b o,s1.heap.get? b=some o->b≠ea:=λb o e z=>by
  rw [z,hn] at e;cases e
 have up:∀b o,H b=some o->upd H ea (.ext (xcF ea C)) b=some o:=λb o e=>by
  rw [A0j (A0g e hH)];exact e
 refine ⟨I.ok,I.os,I.bare,⟨I.base.keep,I.base.slot,λb o e n hb=> ?_,I.base.there,λb xs e=>up _ _ (I.base.tups b xs e),λb o u e=>up _ _ (I.base.frzs b o u e),λb ps e=> ?_⟩,I.loc,I.cell,?_,λx c e=> ?_,λp hp=> ?_,λb o e=> ?_,I.len⟩
 ·obtain ⟨o1,e1⟩:=I1.base.there b o e hb;rw [A0j (ne1 b o1 e1)];exact I.base.free b o e n hb
 ·obtain ⟨m,q⟩:=I.base.tbls b ps e;exact ⟨m,up _ _ q⟩
 ·obtain ⟨m,⟨o,_,_,ho,_⟩,_⟩:=I1.loc;rw [A0j (ne1 _ o ho)];exact I.free
 ·obtain ⟨v,o,ho,_⟩:=I1.cell x c e;rw [A0j (ne1 _ o ho)];exact I.freeC x c e
 ·obtain ⟨e,n,r⟩:=I.pin p hp;have e1:=(I1.pin p hp).1;exact ⟨e,by rw [A0j (ne1 _ _ e1)];exact n,r⟩
 ·by_cases hb:b=ea
  ·subst hb;rw [A0b] at e;cases e;obtain ⟨o,vs,q⟩:=id hx;exact ⟨hx,⟨o,q.1⟩,λh1 h2 ⟨o,vs,q1,q2⟩ k=>⟨o,vs,k o q1,q2⟩⟩
  ·rw [A0j hb] at e;exact (I.hok b o e).stay (λ_ _ _ q=>q) (λc q=>up _ _ q) λc xs q=>up _ _ q
structure A7p (X:Cx) (pins:List (Addr×Obj)) (σ:St) (H1:Hp) (s1:Shared) (H:Hp) (B:Heap) (ea C:Addr) (a0:Value) (s:Shared):Prop where
 i1:Inv X pins σ H1 s1
 os:s.os=s1.os
 bare:AllBare s.gens
 un:Un (frs X.stack) [] H1 H s1.heap s.heap
 hok:HOk X.prog X.w H s.heap
 b1:∀b o,s1.heap.get? b=some o->b∉frs X.stack->∃o',B.get? b=some o'
 b2:∀b o,H b=some o->∃o',B.get? b=some o'
 fl:Heap.FlyingW B X.stack ea (.ref C) a0 s.heap
theorem A7p.inv (F:A7p X pins σ H1 s1 H B ea C a0 s):Inv X pins σ H s:=F.i1.call' F.os F.un F.hok F.bare (ch:=[]) (λb z=>absurd z (by simp))
theorem A7p.step (F:A7p X pins σ H1 s1 H B ea C a0 s) {h':Heap} (fl':Heap.FlyingW B X.stack ea (.ref C) a0 h') (up:s.heap.UpToSlots h'):A7p X pins σ H1 s1 H B ea C a0 { s with heap:=h' }:=by
 have no:∀b:Addr,b∉([]:List Addr):=λb=>by simp
 have u:=F.un
 have slot:∀b o,s1.heap.get? b=some o->H1 b=none->b∈frs X.stack->∃sl,h'.get? b=some { o with slots:=sl }:=λb o e n hb=>by
  obtain ⟨sl,e1⟩:=u.slot b o e n hb (no b);obtain ⟨_,of,ho,hd⟩:=F.i1.stack.mem hb;rw [e] at ho;cases ho;obtain ⟨sl3,e3⟩:=up b _ e1 hd;exact ⟨sl3,e3⟩
 refine ⟨F.i1,F.os,F.bare,⟨λb o e n hb _=> ?_,λb o e n hb _=>slot b o e n hb,u.free,λb o e _=> ?_,u.tups,u.frzs,u.tbls⟩,C1o F.hok F.b2 F.fl.1 fl'.1,F.b1,F.b2,fl'⟩
 ·have e2:=u.keep b o e n hb (no b);obtain ⟨o',eB⟩:=F.b1 b o e hb;have e3:=F.fl.1 b o' eB;rw [e2] at e3;cases e3;exact fl'.1 b o eB
 ·by_cases hb:b∈frs X.stack
  ·obtain ⟨sl,q⟩:=slot b o e (F.i1.stkFree b hb) hb;exact ⟨_,q⟩
  ·obtain ⟨o',eB⟩:=F.b1 b o e hb;exact ⟨o',fl'.1 b o' eB⟩
theorem A7p.new (F:A7p X pins σ H1 s1 H B ea C a0 s):s1.heap.get? ea=none:=by
 cases q:s1.heap.get? ea with
 | none=>rfl
 | some o =>
  by_cases hb:ea∈frs X.stack
  ·obtain ⟨sl,e1⟩:=F.un.slot ea o q (F.i1.stkFree ea hb) hb (by simp);obtain ⟨_,of,ho,hd⟩:=F.i1.stack.mem hb;rw [q] at ho;cases ho;obtain ⟨oe,vs,e2,_,e3,_⟩:=F.fl.first;rw [e1] at e2;cases e2;exact absurd e3 (hd vs)
  ·obtain ⟨o',eB⟩:=F.b1 ea o q hb;rw [F.fl.2.1] at eB;cases eB
theorem A7p.no (F:A7p X pins σ H1 s1 H B ea C a0 s):H ea=none:=by
 cases q:H ea with
 | none=>rfl
 | some o =>
  obtain ⟨o',eB⟩:=F.b2 ea o q;rw [F.fl.2.1] at eB;cases eB
theorem A7p.cls (F:A7p X pins σ H1 s1 H B ea C a0 s):xcF ea C s.heap:=by
 obtain ⟨oe,vs,e,c,d,_⟩:=F.fl.first;exact ⟨oe,vs,e,c,d⟩
theorem A7p.tracked (F:A7p X pins σ H1 s1 H B ea C a0 s):Inv X pins σ (upd H ea (.ext (xcF ea C))) s:=F.i1.track F.inv F.new F.no F.cls
end
def PH (X:Cx) (hs:List ExceptHandler) (C:Addr) (th:Addr->TS):Prop :=
 ∀(pins:List (Addr×Obj)) (σ:St) (H1:Hp) (s1:Shared) (H:Hp) (B:Heap) (ea:Addr) (a0:Value) (s:Shared) (D:B7u),A7p X pins σ H1 s1 H B ea C a0 s->th ea D σ H->wpAny (model X.prog X.w) X.A (handleBy (.ref ea) X.env hs) (SP X pins D) X.xe s
section
variable {X:Cx} {C C':Addr} {y n:Str} {yp hpos:Pos} {b₀:Stmt} {suite:List Stmt} {rest:List ExceptHandler} {th:Addr->TS} {i:Nat}
theorem C4r {M:Model} {K:PySem.W.Frag} {h:Heap} {ea:Addr} {c:Value} {b:Bool} (X:K.In h) (hx:xcF ea C h) (e:PySem.W.exmOne K (.ref C) c=some b):PySem.W.Looks M h (excMatches (.ref ea) c) b:=by
 obtain ⟨o,vs,ho,hc,_⟩:=hx
 have LT:PySem.W.Looks M h (typeOf (.ref ea)) (.ref C):=by
  have z:PySem.W.Looks M h (typeOf (.ref ea)) o.cls:=(PySem.W.Looks.ld ho).andThen .now;rw [hc] at z;exact z
 exact PySem.W.exm_one X LT e
theorem C6m (hg:Gl X y) (hm:X.mg y=some (.ref C')) (q:PySem.W.exmOne X.K (.ref C) (.ref C')=some false) (hr:PH X rest C th) (hd:(y == ("__debug__":Str))=false:=by decide) :
  PH X (.ExceptHandler (some (.Name y yp)) (some n) (b₀::suite) hpos::rest) C th:=by
 intro pins σ H1 s1 H B ea a0 s D F h;refine wpAny_handleBy_cons (codeAny_handlers_test ?_) (by intro q;cases q);refine A6r (X:=X.held ea) (F.inv.held ea) hg hm ?_ hd;refine (C4r F.inv.kIn F.cls q).here ?_;exact hr pins σ H1 s1 H B ea a0 s D F h
def tHit (i:Nat) (C:Addr) (ts:TS):Addr->TS:=λea D σ H=>ts { nx:=λσ' H'=>D.nx (σ'.set i none) H',rt:=D.rt,bk:=λσ' H'=>D.bk (σ'.set i none) H',ct:=λσ' H'=>D.ct (σ'.set i none) H' } (σ.set i (some (.ref ea))) (upd H ea (.ext (xcF ea C)))
theorem B6r {ts:TS} (hg:Gl X y) (hm:X.mg y=some (.ref C')) (q:PySem.W.exmOne X.K (.ref C) (.ref C')=some true) (hN:X.N.Nodup) (hi:X.N[i]? =some n) (hx:X.env.scope.names.lookup n=some .local)
  (hs:∀ea,PSs (X.held ea) (b₀::suite) ts) (hd:(y == ("__debug__":Str))=false:=by decide) :
  PH X (.ExceptHandler (some (.Name y yp)) (some n) (b₀::suite) hpos::rest) C (tHit i C ts):=by
 intro pins σ H1 s1 H B ea a0 s D F h;refine wpAny_handleBy_cons (codeAny_handlers_test ?_) (by intro q;cases q);refine A6r (X:=X.held ea) (F.inv.held ea) hg hm ?_ hd;refine (C4r F.inv.kIn F.cls q).here (codeAny_handlers_suite_as ?_);refine lands_againW F.fl λh' fl' up=> ?_;have F':=F.step fl' up;refine A8q (X:=X.held ea) (v:= .ref ea) (F'.tracked.held ea) hN hi (.inl hx) rfl (λs2 I2=> ?_) (.inr hx);refine Z10 (hs ea pins s2 _ _ _ I2 h) (λf s3 hf=> ?_) λ_ _ z=>False.elim z;dsimp only
 cases f with
 | next =>
  obtain ⟨σ',H',I',r⟩:=hf;exact A8j (I'.unheld F.i1.ok) hN hi hx λs4 I4=>⟨_,H',I4,r⟩
 | brk =>
  obtain ⟨σ',H',I',r⟩:=hf;exact A8j (I'.unheld F.i1.ok) hN hi hx λs4 I4=>⟨_,H',I4,r⟩
 | cont =>
  obtain ⟨σ',H',I',r⟩:=hf;exact A8j (I'.unheld F.i1.ok) hN hi hx λs4 I4=>⟨_,H',I4,r⟩
 | ret u =>
  obtain ⟨v,σ',H',I',rv,r⟩:=hf;exact A8j (I'.unheld F.i1.ok) hN hi hx λs4 I4=>⟨v,_,H',I4,rv,r⟩
end
abbrev TX:=St->Hp->VK->XK->Prop
def PX (X:Cx) (e:Expr) (t:TX):Prop :=
 ∀(pins:List (Addr×Obj)) (s:Shared) (σ:St) (H:Hp) (Q:VK) (E:XK),Inv X pins σ H s->t σ H Q E->
  wpAny (model X.prog X.w) X.A (eval e X.env) (EP X pins σ Q) (λe s'=>∃H1 s1,Inv X pins σ H1 s1/\CXF X.prog X.w X.stack H1 s1 E e s') s
def C7r (sp:Sp) (t:TA):TX:=λσ H Q E=>t σ H λvs H1=>sp vs H1 Q E
section
variable {X:Cx} {k:Nat} {f:Addr} {fd:FuncData} {ps:List Str} {sp:Sp} {x:Str} {p pos:Pos} {e:Expr} {es:List Expr} {t:TA}
theorem B8q (F:A2f X.prog X.w X.K X.mg X.base (CXF X.prog X.w) k f fd ps sp) (hr:A9k k X.A) (hg:Gl X x) (hm:X.mg x=some (.ref f)) (hk:PySem.W.keepIn X.K (.ref f)=true) (hb:A1u X.K fd ps [])
  (ha:PA X.nox (e::es) t) (hdb:(x == ("__debug__":Str))=false:=by decide) (he:starEach (e::es) X.env=(false,eval e X.env)::starEach es X.env:=by rfl) (hpl:(backTo pos (starEach es X.env)).any (·.1)=false:=by rfl) :
  PX X (.Call (.Name x p) (e::es) [] pos) (C7r sp t):=by
 intro pins s σ H Q E I h;refine wpAny_Call_Name_kw (A6r I hg hm ?_ hdb)
 have hA:wpAny (model X.prog X.w) X.A (spliced (backTo pos (starEach (e::es) X.env))) (AP X pins σ λvs H1=>sp vs H1 Q E) (λe s'=>∃H1 s1,Inv X pins σ H1 s1/\CXF X.prog X.w X.stack H1 s1 E e s') s :=
  Z10 (ha pos pins s σ H _ (I.wish _) h) (λus s1 ⟨vs,H1,I1,r,q⟩=>⟨vs,H1,I1.unwish,r,q⟩) λ_ _ z=>False.elim z
 refine PySem.W.callWith_K (h₀:=X.base) I.ok.mod.kin hk (thn hA λus s1 ⟨vs,H1,I1,r,q⟩=>⟨I1.kIn,?_⟩) he hpl;have hl:us.length=ps.length:=by rw [<-r.length];exact F.len _ _ _ _ q
 have hb':=hb s1 us I1.kIn (by simpa using hl);rw [Z0u] at hb';refine wpAny_call (codeAny_mono (F.run X.A X.stack s1 H1 ⟨us,[]⟩ us vs Q E hr I1.env0 hb' r q) λr s' hq=> ?_)
 cases r with
 | error e=>exact ⟨H1,s1,I1,hq⟩
 | ok fl =>
  cases fl with
  | ret u=>exact I1.after hq
  | next=>exact False.elim hq
  | brk=>exact False.elim hq
  | cont=>exact False.elim hq
end
section
variable {X:Cx} {hs:List ExceptHandler} {h₀:ExceptHandler} {e:Expr} {tx:TX} {pos epos npos:Pos} {i:Nat} {n:Str}
def C8b (X:Cx) (hs:List ExceptHandler) (D:B7u) (σ:St):XK:=λc _ H2=>∃(C:Addr) (th:Addr->TS),c= .ref C/\PH X hs C th/\∀ea,H2 ea=none->th ea D σ H2
theorem B1m {pins:List (Addr×Obj)} {σ:St} {D:B7u} {H1:Hp} {s1 s':Shared} {ev:Value} (hst:X.stack=X.env::X.outer/\X.env.frame=some X.env.locals) (I1:Inv X pins σ H1 s1)
  (hc:CXF X.prog X.w X.stack H1 s1 (C8b X (h₀::hs) D σ) ev s') :
  wpAny (model X.prog X.w) X.A (noteFrame ev X.env) (λ_ s₂=>wpAny (model X.prog X.w) X.A (setFlight ev none) (λ_ s₃=>wpAny (model X.prog X.w) X.A (handleBy ev X.env (h₀::hs)) (SP X pins D) X.xe s₃) X.xe s₂) X.xe s':=by
 obtain ⟨ea,C,a0,H',B,rfl,os,bare,un,hok,b1,b2,fl,q⟩:=hc;obtain ⟨C',th,hC,hP,q⟩:=q;cases hC;have F:A7p X pins σ H1 s1 H' B ea C a0 s':=⟨I1,os,bare,un,hok,b1,b2,fl⟩
 have hfr:X.A.frames=some (X.env::X.outer):=by
  rw [<-hst.1];exact I1.ok.frames
 have fl0:Heap.FlyingW B (X.env::X.outer) ea (.ref C) a0 s'.heap:=by
  rw [<-hst.1];exact fl
 refine wpAny_looks_onW hfr hst.2 fl0 λh4 held up4=> ?_;refine wpAny_landsW held λh5 fl5 up5=> ?_
 have fl5':Heap.FlyingW B X.stack ea (.ref C) a0 h5:=by
  rw [hst.1];exact fl5
 exact hP pins σ H1 s1 H' B ea a0 _ D (F.step fl5' (up4.trans up5)) (q ea F.no)
def D1j (X:Cx) (hs:List ExceptHandler) (tx:TX) (i:Nat):TS:=λD σ H=>tx σ H (λv H1=>D.nx (σ.set i (some v)) H1) (C8b X hs D σ)
theorem C6i (hst:X.stack=X.env::X.outer/\X.env.frame=some X.env.locals) (he:PX X e tx) (hN:X.N.Nodup) (hi:X.N[i]? =some n) (hx:Loc X.env.scope n)
  (hs':swapsWith e (some (.Name n npos)) epos.line X.env=pure false:=by rfl) (hf:X.fn n=true\/X.env.scope.names.lookup n=some .local:=by first | exact .inl rfl | exact .inr rfl | assumption) :
  PS X (.Try [.Assign [.Name n npos] e epos] (h₀::hs) [] [] pos) (D1j X (h₀::hs) tx i):=by
 intro pins s σ H D I h;refine wpAny_Try_except (Z10 (Q:=λf s1=>f= .next/\∃σ' H',Inv X pins σ' H' s1/\D.nx σ' H') (E:=λe s'=>∃H1 s1,Inv X pins σ H1 s1/\CXF X.prog X.w X.stack H1 s1 (C8b X (h₀::hs) D σ) e s') ?_ (λf s1 q=> ?_) λev s1 ⟨H1,s2,I1,hc⟩=>B1m hst I1 hc)
 ·refine wpAny_execs_cons (wpAny_Assign_Name (thn (he pins s σ H _ _ I h) λv s1 ⟨y,H1,I1,r1,q1⟩=> ?_) hs');exact A8q I1 hN hi hx r1 (λs2 I2=>Z2b ⟨rfl,_,H1,I2,q1⟩) hf
 ·obtain ⟨rfl,q⟩:=q;exact Z2b q
def D1n (X:Cx) (hs:List ExceptHandler) (tx:TX):TS:=λD σ H=>tx σ H (λ_ H1=>D.nx σ H1) (C8b X hs D σ)
theorem C7i (hst:X.stack=X.env::X.outer/\X.env.frame=some X.env.locals) (he:PX X e tx) (hs':swapsWith e none epos.line X.env=pure false:=by rfl) :
  PS X (.Try [.Expr e epos] (h₀::hs) [] [] pos) (D1n X (h₀::hs) tx):=by
 intro pins s σ H D I h;refine wpAny_Try_except (Z10 (Q:=λf s1=>f= .next/\∃σ' H',Inv X pins σ' H' s1/\D.nx σ' H') (E:=λe s'=>∃H1 s1,Inv X pins σ H1 s1/\CXF X.prog X.w X.stack H1 s1 (C8b X (h₀::hs) D σ) e s') ?_ (λf s1 q=> ?_) λev s1 ⟨H1,s2,I1,hc⟩=>B1m hst I1 hc)
 ·exact wpAny_execs_cons (wpAny_Expr_any (thn (he pins s σ H _ _ I h) λv s1 ⟨y,H1,I1,r1,q1⟩=>Z2b ⟨rfl,σ,H1,I1,q1⟩) I.quiet hs')
 ·obtain ⟨rfl,q⟩:=q;exact Z2b q
end
section
variable {P:Program} {w:World} {K:PySem.W.Frag} {mg:Str->Option Value} {base:Heap}
theorem Fun.okF {x qual:Str} {st:Stmt} {f:Addr} {fd:FuncData} {N ps:List Str} {k:Nat} {sp:Sp} (F:Fun K x qual st f fd) (S:A0z N ps (A0q st)) (len:∀vs H Q E,sp vs H Q E->vs.length=ps.length)
  (hbody:∀(cdv:Value) (A:Around) (outer:List Env) (s:Shared) (H:Hp) (vs:List V) (Q:VK) (E:XK),A9k k (A.deeper (envOfC qual (A0q st) s.heap.objs.size f cdv))->sp vs H Q E->
   ∃t,PSs (C1z (CXF P w) P w K mg base N qual (A0q st) f cdv A outer s H E) (A5q st) t/\t { nx:=λ_ H'=>Q .non H',rt:=Q } (B2v N vs) H):A2f P w K mg base (CXF P w) (k+1) f fd ps sp:=by
 obtain ⟨oc,od,kV,doc,pm,an,cdv,ct,osl,rfl,lk,hcd⟩:=F.ex;exact C9x lk hcd S len λA outer s H vs Q E hr hsp=>hbody cdv A outer s H vs Q E hr hsp
end
theorem B2q {X:Cx} {x:Str} {v:V} {pos:Pos} (h:∃u,X.mg x=some u/\A2v v u) (hg:Gl X x) (hd:(x == ("__debug__":Str))=false:=by decide):PE X (.Name x pos) (tC v):=by
 obtain ⟨u,hm,r⟩:=h;exact λ_ _ _ H _ I q=>A6r I hg hm ⟨v,H,I,r,q⟩ hd
theorem B3q {K:PySem.W.Frag} {C D:Addr} {b:Bool} (hb:PySem.W.mroIn K D (.type "BaseException")=some true) (h1:PySem.W.isClsIn K D=true) (h2:PySem.W.typeIn K (.ref D)=some (.type "type")) (h3:PySem.W.mroIn K C (.ref D)=some b) :
  PySem.W.exmOne K (.ref C) (.ref D)=some b:=by
 unfold PySem.W.exmOne;have e:PySem.W.subIn K (.ref D) (.type "BaseException")=some true:=hb;have h1':(PySem.W.clsIn K D).isSome=true:=h1;rw [Z12 (by rw [e];rfl)];show (if ((PySem.W.clsIn K D).isSome&&PySem.W.typeIn K (.ref D) == some (.type "type"))=true then PySem.W.subIn K (.ref C) (.ref D) else none)=some b;rw [Z12 (by rw [h1',h2];rfl)];exact h3
theorem A4h {K:PySem.W.Frag} {t:Value}:∀{cs:List Addr},(∀c∈cs,PySem.W.kitOne K t (.ref c)=some false)->∀us,A3a (cs.map V.ref) us->PySem.W.kitAny K t us=some false
 | [],_,_,r=>by
  cases r
  rfl
 | c::cs,h,_,r=>by
  rw [Z0p] at r
  cases r with
  | cons a r =>
   cases a
   unfold PySem.W.kitAny;rw [h c (.head _)];exact A4h (λd hd=>h d (.tail _ hd)) _ r
end L2
namespace PySem.W
open PySem PySem.Spec PySem.Calls PyProof.Rows PySem.Builtin.ObjectAttr
structure XcIn (K:Frag) (C:Addr):Prop where
 ga:findIn K (.ref C) "__getattribute__"=some (some (.builtin "BaseException.__getattribute__"))
 gt:findIn K (.ref C) "__getattr__"=some none
 mB:mroIn K C (.type "BaseException")=some true
 mO:mroIn K C (.type "object")=some true
 cl:findIn K (.ref C) "__class__"=some (some (.builtin "object.__class__"))
 sp:specialIn K (.builtin "object.__class__") "__get__"=some (some (.builtin "getset_descriptor.__get__"))
 tk:takesIn K (.builtin "object.__class__")=some true
def KitE (a C:Addr) (h:Heap):Prop:=∃o,h.get? a=some o/\o.cls= .ref C
section
variable {prog:Program} {w:World} {A:Around} {E:Value->Shared->Prop} {h:Heap} {g:Array GenState} {d:Drawn} {t:Nat} {os:OsState} {a C:Addr} {o:Obj} {K:Frag} {name:Str}
theorem XcIn.cls (c:XcIn K C):∃cd,clsIn K C=some cd:=by
 obtain ⟨cd,h,_⟩:=Option.bind_eq_some_iff.mp c.mB;exact ⟨cd,h⟩
theorem KitE.type {M:Model} (p:KitE a C h):Looks M h (typeOf (.ref a)) (.ref C):=by
 obtain ⟨o,ho,hc⟩:=p;have z:Looks M h (typeOf (.ref a)) o.cls:=(Looks.ld ho).andThen .now
 rwa [hc] at z
theorem C3d {M:Model} {nv:Value} {Q:Unit->Shared->Prop} (X:K.In h) (c:XcIn K C) (ho:h.get? a=some o) (ok:o.cls= .ref C) (hq:Q () ⟨h,g,d,t,os⟩) :
  wpAny M A (checkBuiltinCall "BaseException.__getattribute__" ⟨[.ref a,nv],[]⟩) Q E ⟨h,g,d,t,os⟩:=by
 have sub:=looks_mroIn (M:=M) X c.mB;have ar:=F.args_bexc_ga (.ref a) nv;simp only [checkBuiltinCall,(by decide +kernel:builtinKind "BaseException.__getattribute__"=some .slot),(by decide +kernel:splitId "BaseException.__getattribute__"=some ("BaseException","__getattribute__"))];refine Z00 ?_;unfold isInstance
 repeat (first | (with_reducible refine Z1k ho ?_;rw [ok]) | (with_reducible refine sub.at ?_) | wp_step)
 exact hq
theorem C5t {M:Model} (X:K.In h) (c:XcIn K C):Looks M h (find (.ref a) (.ref C) "__class__") (.bind (.builtin "getset_descriptor.__get__") (.builtin "object.__class__")) :=
 (looks_findIn X c.cl).andThen ((show Looks M h (getOf (some (.builtin "object.__class__"))) (some (.builtin "getset_descriptor.__get__")) from looks_specialIn X c.sp).andThen
  ((show Looks M h (dataDescriptor? (some (.builtin "object.__class__")) (some (.builtin "getset_descriptor.__get__"))) (some (.builtin "getset_descriptor.__get__",.builtin "object.__class__")) from (looks_takesIn X c.tk).andThen .now).andThen (Looks.tag .now)))
theorem C8i {R:Result->Shared->Prop} (X:K.In h) (c:XcIn K C) (ho:h.get? a=some o) (ok:o.cls= .ref C) (hq:R (.ok (.ret (.ref C))) ⟨h,g,d,t,os⟩) :
  codeAny (model prog w) A (.call (.builtin "getset_descriptor.__get__") ⟨[.builtin "object.__class__",.ref a,.ref C],[]⟩) R ⟨h,g,d,t,os⟩:=by
 have ty:(⟨h,g,d,t,os⟩:Shared).TypeIs (.builtin "object.__class__") "getset_descriptor":=F.typeOf_object_class
 have sub:Looks (model prog w) h (isSubtype (.ref C) (.type (".".intercalate ("object.__class__".cutAt '.').dropLast))) true:=by
  rw [F.owner_object_class];exact looks_mroIn X c.mO
 refine codeAny_call_builtin F.slot_gs_get.plain F.entry_gs_get (F.slot_gs_get.check _ _ _ _ _ _ _ _ ty (F.args_gs_get _ _ _) ?_)
 repeat (any_goals (first | assumption | (with_reducible refine Z1k ho ?_;rw [ok]) | (with_reducible refine sub.at ?_) | wp_step))
 refine ⟨Code.quiet_builtin _ (by decide +kernel),codeAny_builtin F.entry_object_class ?_⟩
 repeat (any_goals (first | assumption | (with_reducible refine Z1k ho ?_;rw [ok]) | wp_step))
theorem C2l {tk:Tok} {Q:Fin->Shared->Prop} (X:K.In h) (c:XcIn K C) (ho:h.get? a=some o) (ok:o.cls= .ref C) (hq:Q (.done (.ret (.ref C))) ⟨h,g,d,t,os⟩) :
  wpAny (model prog w) A (Builtin.«object.__getattribute__» ⟨[.ref a,.str "__class__" tk],[]⟩) Q E ⟨h,g,d,t,os⟩:=by
 have L:=C5t (M:=model prog w) (a:=a) X c;unfold Builtin.«object.__getattribute__»
 repeat (any_goals (first | assumption | (with_reducible refine L.at ?_) | (with_reducible refine Z1k ho ?_;rw [ok]) | wp_step))
 refine C8i X c ho ok ?_
 repeat (any_goals (first | assumption | wp_step))
theorem D0m {tk:Tok} {fill expr:Bool} {v:Value} {Q:Value->Shared->Prop} (X:K.In h) (c:XcIn K C) (ho:h.get? a=some o) (ok:o.cls= .ref C)
  (hq:∀(A:Around) (R:Result->Shared->Prop),R (.ok (.ret v)) ⟨h,g,d,t,os⟩->codeAny (model prog w) A (.call (.builtin "BaseException.__getattribute__") ⟨[.ref a,.str name tk],[]⟩) R ⟨h,g,d,t,os⟩) (hh:handedIn v=true) (hQ:Q v ⟨h,g,d,t,os⟩) :
  wpAny (model prog w) A (getAttrBy (.ref a) (.str name tk) fill expr) Q E ⟨h,g,d,t,os⟩:=by
 have b:=F.attr_ValueError.ga.bind (.ref a);have L1:=looks_findIn (M:=model prog w) X c.ga;have L2:=looks_findIn (M:=model prog w) X c.gt;have n1:(Value.builtin "BaseException.__getattribute__" == Value.builtin "object.__getattribute__")=false:=by decide +kernel
 have n2:(onTheHeap (Value.ref C)&&Value.builtin "BaseException.__getattribute__" == Value.builtin "object.__getattribute__")=false:=by simp [n1]
 have n3:(expr&&onTheHeap (Value.builtin "BaseException.__getattribute__"))=false:=Bool.and_eq_false_iff.mpr (.inr rfl)
 repeat (any_goals (first | assumption | (with_reducible refine Z1k ho ?_;rw [ok]) | (with_reducible refine L1.at ?_) | (with_reducible refine L2.at ?_) | wp_step))
 refine hq _ _ ?_
 repeat (any_goals (first | assumption | wp_step))
 show wpAny _ _ (handedOut v) _ _ _;rw [handedOut_of hh];exact Z04 hQ
theorem C2v {Q:Option Value->Shared->Prop} {s:Shared} (X:K.In s.heap) (c:XcIn K C) (p:KitE a C s.heap) (hq:Q (some (.ref C)) { s with toks:=s.toks+1 }):wpAny (model prog w) A (getAttr? (.ref a) "__class__") Q E s:=by
 obtain ⟨o,ho,ok⟩:=p;obtain ⟨h,g,d,t,os⟩:=s;unfold getAttr? getAttrBy?
 have B:∀{A:Around} {E:Value->Shared->Prop} {Q:Value->Shared->Prop},Q (.ref C) ⟨h,g,d,t+1,os⟩->wpAny (model prog w) A (getAttrBy (.ref a) (.str "__class__" t) false) Q E ⟨h,g,d,t+1,os⟩:=λ{A E Q} hQ =>
  D0m X c ho ok (λA R hR=>codeAny_call_builtin F.attr_ValueError.ga.plain F.entry_bexc_ga (C3d X c ho ok (C2l X c ho ok hR))) rfl hQ
 repeat (any_goals (first | assumption | with_reducible apply B | wp_step))
theorem kitx_exc (c:XcIn K C):KitX K (.ref a) (.ref C) (KitE a C) where
 ty:=λ_ _ _ p=>p.type
 it:=λ_ _ X _=>by
  obtain ⟨cd,e⟩:=c.cls;intro A Q E s k q;unfold clsIn at e;split at e
  case h_1 there=>exact Z00 (wpAny_loadPart (k _ _ (X _ _ there)) (Z04 q))
  case h_2=>cases e
 ne:=λh tp dd its n sl X htp=>by
  obtain ⟨cd,e⟩:=c.cls;rw [Bool.eq_false_iff];intro q;cases beq_iff_eq.mp q;unfold clsIn at e;split at e
  case h_1 there=>cases (X _ _ there).symm.trans htp
  case h_2=>cases e
 ca:=λX p k=>C2v X c p k
end
end PySem.W
namespace L2
open PySem PySem.Spec PyProof.Rows
section
variable {X:Cx}
theorem xcF.kit {ea C:Addr} {h:Heap} (p:xcF ea C h):PySem.W.KitE ea C h:=by
 obtain ⟨o,vs,ho,hc,_⟩:=p;exact ⟨o,ho,hc⟩
def C9c (K:PySem.W.Frag):List V->Hp->VK->Prop:=λxs H Q=>∃ea C c b,xs=[.ref ea,c]/\H ea=some (.ext (xcF ea C))/\PySem.W.XcIn K C/\(∀u,A2v c u->PySem.W.kitOne K (.ref C) u=some b)/\Q (.bl b) H
theorem B9s:A7h X (.builtin "isinstance") (C9c X.K):=by
 intro pins s σ H xs us Q I r h;obtain ⟨ea,C,c,b,rfl,he,xc,k,q⟩:=h;obtain ⟨u,w',rfl,ru,rw'⟩:=B7l r;cases ru;exact PySem.W.kia_one (PySem.W.kitx_exc xc) I.kIn (xcF.kit (I.hok ea _ he).1) (k w' rw') (λz=>nomatch z) λtk=>⟨.bl b,H,I.tok tk,rfl,q⟩
def C4i (K:PySem.W.Frag):List V->Hp->VK->Prop:=λxs H Q=>∃ea C tp cs b,xs=[.ref ea,.ref tp]/\H ea=some (.ext (xcF ea C))/\PySem.W.XcIn K C/\H tp=some (.tup cs)/\(∀us,A3a cs us->PySem.W.kitAny K (.ref C) us=some b)/\Q (.bl b) H
theorem B7v:A7h X (.builtin "isinstance") (C4i X.K):=by
 intro pins s σ H xs us Q I r h;obtain ⟨ea,C,tp,cs,b,rfl,he,xc,ht,k,q⟩:=h;obtain ⟨u,w',rfl,ru,rw'⟩:=B7l r;cases ru;cases rw';obtain ⟨_,its,rv,ob,hob,hc,n,hd⟩:=(show A2l X.prog X.w H s.heap tp (.tup cs) from I.hok tp _ ht);obtain ⟨oc,od,oda,osl⟩:=ob;dsimp only at hc hd;subst hc hd;exact PySem.W.kia_tup (PySem.W.kitx_exc xc) I.kIn (xcF.kit (I.hok ea _ he).1) hob (k its rv) (λz=>nomatch z) λtk=>⟨.bl b,H,I.tok tk,rfl,q⟩
end
def C8g (K:PySem.W.Frag) (a:Addr):It :=
 ⟨λi H=>∃xs x,SqL K H a xs/\xs[i]? =some x,
  λi H v H'=>∃p,H p=none/\v= .ref p/\∃x,(∀xs,SqL K H a xs->xs[i]? =some x)/\H'=upd H p (.tup [.int (i:Nat),x]),
  λi H=>∃xs,SqL K H a xs/\xs.length<=i⟩
def EnSt (e it a:Addr) (i:Nat) (h:Heap):Prop:=(∃old,IsEnum h e it (i:Nat) old)/\h.IsListIter it a i
theorem B9y {P:Program} {w:World} {K:PySem.W.Frag} {elts:List Expr} {kk:Nat} {pos:Pos} {e it a:Addr} (ne:e≠it):C4v P w K (.Tuple elts kk pos) (C8g K a) [e,it] e (EnSt e it a) where
 mem:=by simp
 obj:=λi h st c hc=>by
  obtain ⟨⟨old,h1⟩,h2⟩:=st;simp only [Z0e,Z1i,or_false] at hc;rcases hc with rfl | rfl
  ·exact ⟨_,h1,λv z=>by cases (show Data.fields _=Data.cell v from z)⟩
  ·obtain ⟨o,ho,_,hd⟩:=h2;exact ⟨o,ho,λv z=>by rw [hd] at z;cases z⟩
 keep:=λi h h' st k=>by
  obtain ⟨⟨old,h1⟩,h2⟩:=st;exact ⟨⟨old,k e (by simp) _ h1⟩,h2.at λo z=>k it (by simp) o z⟩
 item:=by
  intro X hP hw hK hc i pins s σ H E I hf st hg;subst hP hw hK;obtain ⟨xs,x,hq,hx⟩:=hg;obtain ⟨its,rv,p1,_⟩:=I.list hq;obtain ⟨u,hu,ru⟩:=rv.get hx;obtain ⟨⟨old,h1⟩,h2⟩:=st;refine wpAny_pyNext_enum_item h1 h2 p1.isList (x:=u) (by simpa using hu) ne λh' z1 z2 z3 z4 kp=> ?_;refine ⟨_,rfl,wpAny_letOwnedTupleGo_enum (s:={ s with heap:=h',toks:=s.toks+1 }) z1 λg zg sb=> ?_⟩
  have nz:s.heap.objs.size≠e:=Z1q (Z0a h1);have n2:it<s.heap.objs.size:=let ⟨_,q,_⟩:=h2;Z0a q;have tq:g.get? s.heap.objs.size=some { cls:= .type "tuple",data:= .seq #[.int i s.toks,u] }:=sb.extBut _ _ nz z3
  have I1:Inv X pins σ (upd H s.heap.objs.size (.tup [.int (i:Nat),x])) { s with heap:=g,toks:=s.toks+1 }:=I.turnedNew (ts:=[e,it]) (λc o hc q=>by
   simp only [Z0e,Z1i,or_false,not_or] at hc
   exact sb.extBut _ _ hc.1 (kp c o hc.1 hc.2 q)) hf (Z09 _) ⟨by show 2<=sizeLine;decide,[.int i s.toks,u],.cons ⟨_,rfl⟩ (.cons ru .nil),⟨_,tq,rfl,_,rfl⟩⟩
  refine ⟨.ref s.heap.objs.size,_,I1,rfl,⟨_,I.hok.fresh (Z09 _),rfl,x,λzs hz=>by rw [I.list_inj hz hq];exact hx,rfl⟩,⟨⟨_,zg⟩,z2.at λo q=>sb.extBut _ _ ne.symm q⟩,λc hc=> ?_⟩
  have hcn:c≠s.heap.objs.size:=by
   simp only [Z0e,Z1i,or_false] at hc;rcases hc with rfl | rfl
   ·exact nz.symm
   ·exact Z0h n2
  rw [A0j hcn];exact (hf c hc).1
 done:=by
  intro X hP hw hK hc i pins s σ H E I hf st hg;subst hP hw hK;obtain ⟨xs,hq,hx⟩:=hg;obtain ⟨its,rv,p1,_⟩:=I.list hq;have e1:=rv.length;obtain ⟨⟨old,h1⟩,h2⟩:=st;refine wpAny_pyNext_enum_end (I.ok.hd hc) h1 h2 p1.isList (by simp;omega) λh' kp=>⟨rfl,?_⟩
  exact I.turnedL (t':=s.toks) (ts:=[e,it]) (λc o hc q=>by
   simp only [Z0e,Z1i,or_false,not_or] at hc
   exact kp c o hc.2 q) hf
 self:=λ_ _ _ _ _ st h=>by
  obtain ⟨⟨old,h1⟩,_⟩:=st;exact wpAny_pyIter_enum h1 h
def D0n (K:PySem.W.Frag) (ta:TA):TI:=λσ H R=>ta σ H λvs H1=>∃a xs,vs=[.ref a]/\SqL K H1 a xs/\R (C8g K a) H1
theorem B6b {X:Cx} {elts:List Expr} {kk:Nat} {tpos:Pos} {a:Expr} {ta:TA} {p pos:Pos} (hg:Gl X "enumerate") (hm:X.mg "enumerate"=none) (ha:PA X [a] ta) (hs:starEach [a] X.env=[(false,eval a X.env)]:=by rfl) :
  PI X (.Tuple elts kk tpos) (.Call (.Name "enumerate" p) [a] [] pos) (D0n X.K ta):=by
 intro pins s σ H R I h;refine Call_ (B1v I hg hm boot_enumerate (PyProof.Rows.callWith_type1 (thn (ha pos pins s σ H _ I h) λus s1 ⟨vs,H1,I1,r1,q1⟩=> ?_) (by rw [hs];rfl) (by rfl)));obtain ⟨l,xs,e,hq,q⟩:=q1;subst e;obtain ⟨u,rfl,ru⟩:=B2x r1;cases ru;obtain ⟨its,rv,p1,_⟩:=I1.list hq;refine call_enumerate_list p1.isList λh' z1 z2 z3 kp=>wpAny_pyIter_enum z1 ?_;have I2:Inv X pins σ H1 { s1 with heap:=h' }:=I1.kept (t':=s1.toks) kp;refine ⟨_,[s1.heap.objs.size+1,s1.heap.objs.size],_,_,H1,rfl,I2,B9y (Z1q (Nat.lt_succ_self _)),⟨⟨_,z1⟩,z2⟩,λc hc=> ?_,q⟩
 have hle:s1.heap.objs.size<=c:=by
  simp only [Z0e,Z1i,or_false] at hc;rcases hc with rfl | rfl
  ·exact Nat.le_succ _
  ·exact Z09 _
 exact I1.fpOk hle (I1.hok.fresh hle)
theorem B2d {K:PySem.W.Frag} {a:Addr} {xs:List V} {g:TG} {tb:TS} {D:B7u} {σ:St} {H:Hp} (Pv:Nat->St->Hp->Prop) (h0:Pv 0 σ H) (hl:∀i σ H,Pv i σ H->SqL K H a xs)
  (hs:∀i x σ H p,xs[i]? =some x->Pv i σ H->H p=none->g (.ref p) σ (upd H p (.tup [.int (i:Nat),x])) λσ2 H2=>tb { D with nx:=Pv (i+1),ct:=Pv (i+1),bk:=D.nx } σ2 H2) (hd:∀σ H,Pv xs.length σ H->D.nx σ H) :
  ∃W:Nat->Nat->St->Hp->Prop,(∃m,W 0 m σ H)/\∀i m σ H,W i m σ H->
   ((C8g K a).stop i H/\D.nx σ H)\/((C8g K a).go i H/\∃N:St->Hp->Prop,(∀σ' H',N σ' H'->∃m',m'<m/\W (i+1) m' σ' H')/\∀x H',(C8g K a).yld i H x H'->g x σ H' λσ2 H2=>tb { D with nx:=N,ct:=N,bk:=D.nx } σ2 H2):=by
 refine ⟨λi m σ H=>m=xs.length-i/\i<=xs.length/\Pv i σ H,⟨xs.length,by simp,Z1e _,h0⟩,?_⟩;rintro i m σ H ⟨rfl,hi,p⟩;have q:=hl i σ H p;by_cases hlt:i<xs.length
 ·refine .inr ⟨⟨xs,_,q,Z0b hlt⟩,Pv (i+1),λσ' H' p'=>⟨xs.length-(i+1),by omega,rfl,hlt,p'⟩,λv H' y=> ?_⟩;obtain ⟨c,hc,rfl,x,f,rfl⟩:=y;exact hs i x σ H c (f xs q) p hc
 ·have e:i=xs.length:=by omega
  subst e;exact .inl ⟨⟨xs,q,Z09 _⟩,hd σ H p⟩
theorem C3o {X:Cx} (hc:X.calm=true):A7h X (.builtin "all") (λvs H Q=>∃(a:Addr) (bs:List Bool),vs=[V.ref a]/\SqL X.K H a (bs.map V.bl)/\Q (.bl (bs.all id)) H):=by
 intro pins s σ H vs us Q I r h;obtain ⟨a,bs,rfl,hq,q⟩:=h;obtain ⟨u,rfl,ru⟩:=B2x r;cases ru;obtain ⟨its,rv,p1,_⟩:=I.list hq;have la:a<s.heap.objs.size:=let ⟨_,e,_⟩:=p1.isList;Z0a e
 have el:bs.length=its.length:=by
  have:=rv.length
  simpa using this
 have ei:∀(i:Nat) (v:Value),its.toArray[i]? =some v->v= .bool ((bs[i]?).getD true):=λi v hv=>by
  have hi:i<bs.length:=by
   have:=(Array.getElem?_eq_some_iff.mp hv).1
   simpa [el] using this
  obtain ⟨u,hu,ru⟩:=rv.get (i:=i) (x:= .bl bs[i]) (by simp [hi]);have e:some u=some v:=hu.symm.trans (by simpa using hv);cases e;rw [Z0b hi];exact ru
 refine call_all_walk ?_;refine wpAny_pyIter_list p1.isList ?_;refine ⟨s.heap.objs.size,_,_,_,_,_,λi=>(bs[i]?).getD true,rfl,Walks.list (A:=X.A.in1) (I.ok.hd hc) s.heap.objs.size a (Z0h la) its.toArray,⟨⟨_,Z0c _ rfl,rfl,rfl⟩,Heap.IsList.push p1.isList _⟩,λi v s2 Q2 E2 hv hQ=> ?_,λh' tk k=> ?_⟩
 ·rw [ei i v hv];exact Z04 hQ
 ·refine ⟨.bl (bs.all id),H,?_,?_,q⟩
  ·exact I.kept (t':=tk) λb o e=>k b o (λm=>absurd (Z0a e) (by
    rw [Z0w.mp m]
    exact Nat.lt_irrefl _)) (Z01 _ e)
  ·have z:((List.range its.toArray.size).all λi=>(bs[i]?).getD true)=bs.all id:=by
    have n:its.toArray.size=bs.length:=by simp [el]
    rw [n,Bool.eq_iff_iff,List.all_eq_true,List.all_eq_true];constructor
    ·intro h b hb;obtain ⟨i,hi,rfl⟩:=List.mem_iff_getElem.mp hb;have:=h i (List.mem_range.mpr hi)
     rwa [Z0b hi] at this
    ·intro h i hi;rw [Z0b (List.mem_range.mp hi)];exact h _ (List.getElem_mem _)
   show Value.bool _=Value.bool _;rw [z]
def B3v (v d:Addr):HO:= .ext λh=>h.IsValuesView v d
theorem C3n {P:Program} {w:World} {H:Hp} {h:Heap} {v d:Addr} (e:h.IsValuesView v d):A2l P w H h v (B3v v d) :=
 ⟨e,let ⟨o,e1,_⟩:=e;⟨o,e1⟩,λh1 h2 ⟨o,e1,e2⟩ k=>⟨o,k o e1,e2⟩⟩
def C7b:V->List V->Hp->VK->Prop:=λx vs H Q=>∃a kvs,x= .ref a/\vs=[]/\H a=some (.dK kvs)/\∀p,H p=none->Q (.ref p) (upd H p (B3v p a))
theorem C0i {X:Cx}:MtR X "dict.values" C7b:=by
 intro pins s σ H x xs v us Q I rx rv h;obtain ⟨a,kvs,rfl,rfl,ha,q⟩:=h;cases rx;cases rv;obtain ⟨hz,hs,vs,rel,dof⟩:=(show A2l X.prog X.w H s.heap a (.dK kvs) from I.hok a _ ha);refine call_meetsIn PySem.F.slot_dict_values dof.typeIs PySem.F.entry_dict_values (PySem.F.args_dict_values_1 _) (meets_dict_values (A2h X.prog X.w) a hs) ⟨⟨vs,dof⟩,?_⟩;exact ⟨.ref s.heap.objs.size,_,I.laid (t':=s.toks) (o:=B3v s.heap.objs.size a) (λb u e=>Z01 _ e) (Z09 _) (C3n ⟨_,Z0c _ rfl,rfl,rfl⟩),rfl,q _ (I.hok.fresh (Z09 _))⟩
def C8r (a:Addr) (o:Obj) (kvs:List (Key×V)):It :=
 ⟨λi H=>H a=some (.frz o (.dK kvs))/\i<kvs.length,λi H x H'=>H'=H/\∃k,kvs[i]? =some (k,x),λi H=>H a=some (.frz o (.dK kvs))/\i=kvs.length⟩
theorem B5l {P:Program} {w:World} {K:PySem.W.Frag} {tg:Expr} (it a:Addr) (o:Obj) (kvs:List (Key×V)) (es:Array DictEntry) (ep:Nat) (ho:o.data= .dict es ep) :
  C4v P w K tg (C8r a o kvs) [it] it (λi h=>h.IsValIter it a i kvs.length ep) where
 mem:=by simp
 obj:=λi h st b hb=>by
  have e:b=it:=by simpa using hb
  subst e;obtain ⟨ob,e,_,d⟩:=st;exact ⟨ob,e,λv z=>by rw [d] at z;cases z⟩
 keep:=λi h h' st k=>st.at λob e=>k it (by simp) ob e
 item:=by
  intro X hP hw hK hc i pins s σ H E I hf st hg;subst hP hw hK;obtain ⟨ha,hi⟩:=hg;obtain ⟨f0,f1,f2,f3,f4,f5⟩:=hf it (by simp);obtain ⟨_,vs,rel,dd⟩:=C0e I.hok ha ho;have hl:=rel.length;obtain ⟨⟨k,v⟩,hkv⟩:∃p,kvs[i]? =some p:=⟨kvs[i],by simp [hi]⟩;obtain ⟨u,hu,ru⟩:=rel.at hkv;rw [hl] at st;refine wpAny_pyNext_values_item st dd hu λh' hit sb=> ?_;have I1:Inv X pins σ H { s with heap:=h',toks:=s.toks }:=I.turned (t':=s.toks) (λb ob hb e=>(sb.2 b hb).trans e) f0 f1 f3 f4 f5
  obtain ⟨ob,e,c,d⟩:=id hit;exact ⟨u,rfl,B8g (s:={ s with heap:=h' }) e c d (by decide) ⟨v,H,I1,ru,⟨rfl,k,hkv⟩,by rw [hl];exact hit,λb hb=>(hf b hb).1⟩⟩
 done:=by
  intro X hP hw hK hc i pins s σ H E I hf st hg;subst hP hw hK;obtain ⟨ha,hi⟩:=hg;obtain ⟨f0,f1,f2,f3,f4,f5⟩:=hf it (by simp);obtain ⟨_,vs,rel,dd⟩:=C0e I.hok ha ho;have hl:=rel.length;rw [hl] at st;exact wpAny_pyNext_values_end (I.ok.hd hc) st dd (by simp;omega) λh' eb=>⟨rfl,I.turned (t':=s.toks) (λb ob hb e=>eb b ob hb e) f0 f1 f3 f4 f5⟩
 self:=λ_ _ _ _ _ st h=>wpAny_pyIter_valiter st h
def C5w (tl:TE):TI:=λσ H R=>tl σ H λx H1=>∃v a kvs,x= .ref v/\H1 v=some (B3v v a)/\H1 a=some (.dK kvs)/\∀o,R (C8r a o kvs) (upd H1 a (.frz o (.dK kvs)))
theorem C0o {X:Cx} {tg l:Expr} {tl:TE} (hl:PE X l tl):PI X tg l (C5w tl):=by
 intro pins s σ H R I h;refine thn (hl pins s σ H _ I h) λu s1 ⟨x,H1,I1,rx,v,a,kvs,ex,hv,ha,q⟩=> ?_;subst ex;cases rx;obtain ⟨vw,_⟩:=(show A2l X.prog X.w H1 s1.heap v (B3v v a) from I1.hok v _ hv);obtain ⟨hz,hs,vs,rel,o,es,ep,ho,hx,hd,r⟩:=C6k I1.hok ha;have dd:s1.heap.DictAt (A2h X.prog X.w) a vs ep:=⟨o,es,ho,hx,hd,r⟩;refine wpAny_pyIter_values vw dd ?_;have I2:Inv X pins σ H1 { s1 with heap:=s1.heap.push { cls:= .type "dict_valueiterator",data:= .fields #[.ref a,.int 0 0,.int vs.length 0,.int ep 0] },toks:=s1.toks }:=I1.kept λb ob e=>Z01 _ e
 have I3:=I2.frozen ha (Z01 _ ho);refine ⟨_,[s1.heap.objs.size],_,_,_,rfl,I3,B5l _ a o kvs es ep hd,?_,λb hb=> ?_,q o⟩
 ·rw [rel.length];exact ⟨_,Z0c _ rfl,rfl,rfl⟩
 ·have e:b=s1.heap.objs.size:=by simpa using hb
  subst e;refine I1.fpOk (Z09 _) ?_;rw [A0j (Z1q (I1.hok.lt ha))];exact I1.hok.fresh (Z09 _)
theorem B8e {a:Addr} {o:Obj} {kvs:List (Key×V)} {g:TG} {tb:TS} {D:B7u} {σ:St} {H:Hp} (Pv:Nat->St->Hp->Prop) (h0:Pv 0 σ H) (hl:∀i σ H,Pv i σ H->H a=some (.frz o (.dK kvs)))
  (hs:∀i k v σ H,kvs[i]? =some (k,v)->Pv i σ H->g v σ H λσ2 H2=>tb { D with nx:=Pv (i+1),ct:=Pv (i+1),bk:=D.nx } σ2 H2) (hd:∀σ H,Pv kvs.length σ H->D.nx σ H) :
  ∃W:Nat->Nat->St->Hp->Prop,(∃m,W 0 m σ H)/\∀i m σ H,W i m σ H->
   ((C8r a o kvs).stop i H/\D.nx σ H)\/((C8r a o kvs).go i H/\∃N:St->Hp->Prop,(∀σ' H',N σ' H'->∃m',m'<m/\W (i+1) m' σ' H')/\∀x H',(C8r a o kvs).yld i H x H'->g x σ H' λσ2 H2=>tb { D with nx:=N,ct:=N,bk:=D.nx } σ2 H2):=by
 refine ⟨λi m σ H=>m=kvs.length-i/\i<=kvs.length/\Pv i σ H,⟨kvs.length,by simp,Z1e _,h0⟩,?_⟩;rintro i m σ H ⟨rfl,hi,p⟩;by_cases hlt:i<kvs.length
 ·refine .inr ⟨⟨hl i σ H p,hlt⟩,Pv (i+1),λσ' H' p'=>⟨kvs.length-(i+1),by omega,rfl,hlt,p'⟩,λx H' y=> ?_⟩;obtain ⟨e,k,e1⟩:=y;subst e;exact hs i k x σ _ e1 p
 ·have e:i=kvs.length:=by omega
  subst e;exact .inl ⟨⟨hl _ σ H p,rfl⟩,hd σ H p⟩
theorem C6f {X:Cx} {K:PySem.W.Frag} {e:Expr} {f:Str} {pos:Pos} {ta:TE} (h:X.K=K) (he:PE X e ta) (hb:attributeBase e f X.env (eval e X.env)=eval e X.env):PE X (.Attribute e f pos) (D1t K ta f):=h▸A1j he hb
section
variable {X:Cx}
theorem C5a:OpR X (compareOp .LtE) (λx y H Q=>∃i j,x= .str i/\y= .str j/\Q (.bl (!(decide (j.cps.toList<i.cps.toList)))) H):=by
 intro pins s σ H x y v u Q I rx ry h;obtain ⟨i,j,rfl,rfl,q⟩:=h;obtain ⟨t,rfl⟩:=rx;obtain ⟨t',rfl⟩:=ry;exact P.le_str ⟨.bl _,H,I,rfl,q⟩
end
def C7s (K:PySem.W.Frag):List V->Hp->VK->Prop:=λxs H Q=>∃a C dx fs tp cs b,xs=[.ref a,.ref tp]/\H a=some (.ins C dx fs)/\Cls K C/\PySem.W.findIn K (.ref C) "__class__"=some (some (.builtin "object.__class__"))/\
 PySem.W.specialIn K (.builtin "object.__class__") "__get__"=some (some (.builtin "getset_descriptor.__get__"))/\PySem.W.takesIn K (.builtin "object.__class__")=some true/\PySem.W.mroIn K C (.type "object")=some true/\
 H tp=some (.tup cs)/\(∀us,A3a cs us->PySem.W.kitAny K (.ref C) us=some b)/\Q (.bl b) H
theorem B7m {X:Cx}:A7h X (.builtin "isinstance") (C7s X.K):=by
 intro pins s σ H xs us Q I r h;obtain ⟨a,C,dx,fs,tp,cs,b,rfl,ea,cl,ha,hn,htk,hm,ht,k,q⟩:=h;obtain ⟨u,w',rfl,ru,rw'⟩:=B7l r;cases ru;cases rw';obtain ⟨_,its,rv,ob,hob,hc,n,hd⟩:=(show A2l X.prog X.w H s.heap tp (.tup cs) from I.hok tp _ ht);obtain ⟨oc,od,oda,osl⟩:=ob;dsimp only at hc hd;subst hc hd;obtain ⟨mA,O,_⟩:=B3e I.hok ea;obtain ⟨od2,J,_⟩:=O.look;exact PySem.W.kia_tup (PySem.W.kitx_own (cl.get _) cl.hd ha hn htk hm) I.kIn J hob (k its rv) (λz=>nomatch z) λtk=>⟨.bl b,H,I.tok tk,rfl,q⟩
theorem C2e {K:PySem.W.Frag} {t:Value} {c:Addr} {cs:List Addr} (h:PySem.W.kitOne K t (.ref c)=some true):∀us,A3a ((c::cs).map V.ref) us->PySem.W.kitAny K t us=some true:=λus r=>by
 rw [Z0p] at r
 cases r with
 | cons a r =>
  cases a
  unfold PySem.W.kitAny;rw [h]
theorem B2z {y:Str} (h:PyData.strOk y=true):(reprText y).length<=10*y.length+2:=by
 refine StrLaws.reprText_len y λc hc=> ?_;have h2:∀(i:Nat) (x:i<y.cps.size),y.cps[i]<1114112:=by simpa [PyData.strOk] using h
 obtain ⟨i,hi,e⟩:=List.mem_iff_getElem.mp hc;have:=h2 i (by simpa using hi);rw [<-e];exact Z0q (by simpa using this) (by decide)
def C9s (te:TE) (tr:TJ):TJ:=λσ H out Q=>te σ H λx H1=>∃y:Str,x= .str y/\PyData.strOk y=true/\out.length+10*y.length+2<=sizeLine/\∀z:Str,z.length<=10*y.length+2->tr σ H1 (out++z) Q
def A9h (ys:List Str):Nat:=(ys.map λy=>10*y.length+4).sum+3
def C5s (te:TE) (tr:TJ):TJ:=λσ H out Q=>te σ H λx H1=>∃(a:Addr) (ys:List Str),x= .ref a/\H1 a=some (.lst (ys.map V.str))/\ys≠[]/\(∀y∈ys,PyData.strOk y=true)/\out.length+A9h ys<=sizeLine/\∀z:Str,z.length<=A9h ys->tr σ H1 (out++z) Q
section
variable {X:Cx} {e:Expr} {es:List Expr} {te:TE} {tr:TJ} {pos p2:Pos}
theorem A4b (he:PE X e te) (hr:PJ X es tr) (hs:evalEach (.FormattedValue e 114 none pos::es) X.env=eval (.FormattedValue e 114 none pos) X.env::evalEach es X.env:=by rfl):PJ X (.FormattedValue e 114 none pos::es) (C9s te tr):=by
 intro pins s σ H out Q I h;rw [hs];refine joinParts_cons (wpAny_FormattedValue_repr (thn (he pins s σ H _ I h) λv s1 ⟨x,H1,I1,rx,y,ex,oky,hz,q⟩=> ?_));subst ex;obtain ⟨t,rfl⟩:=(show∃t,v=Value.str y t from rx);have hl:=B2z oky;refine pyReprObj_str ?_ (by omega);refine formatField_str (λt' tk=>⟨?_,hr pins _ σ H1 _ Q ((I1.tok _).tok tk) (q _ hl)⟩) (by omega);rw [strLen_append];omega
theorem B7e:∀{ys:List Str},(∀y∈ys,PyData.strOk y=true)->((ys.map reprText).map (·.length)).sum+2*(ys.map reprText).length<=(ys.map λy=>10*y.length+4).sum
 | [],_=>by simp
 | y::r,h=>by
  have h1:=B2z (h y (.head _));have h2:=B7e (ys:=r) λz hz=>h z (.tail _ hz);simp only [Z0p,List.sum_cons,Z0y] at h2⊢;omega
theorem C4x {y:Str}:∀{ys:List Str},y∈ys->10*y.length+4<=(ys.map λy=>10*y.length+4).sum
 | _::r,.head _=>by simp only [Z0p,List.sum_cons];omega
 | z::r,.tail _ h=>by
  have:=C4x h;simp only [Z0p,List.sum_cons];omega
theorem C2n (hg:X.A.guards=some []) (hu:X.A.units<cLine) (he:PE X e te) (hr:PJ X es tr) (hs:evalEach (.FormattedValue e 114 none pos::es) X.env=eval (.FormattedValue e 114 none pos) X.env::evalEach es X.env:=by rfl):PJ X (.FormattedValue e 114 none pos::es) (C5s te tr):=by
 intro pins s σ H out Q I h;rw [hs];refine joinParts_cons (wpAny_FormattedValue_repr (thn (he pins s σ H _ I h) λv s1 ⟨x,H1,I1,rx,a,ys,ex,ha,ne,ok,hz,q⟩=> ?_));subst ex;cases rx;obtain ⟨z,its,n,r,hl,eo⟩:=I1.lstM ha;have lt:=Z1n (listText_len_le (ys.map reprText)) (Nat.add_le_add_right (B7e ok) 3);have lt:(listText (ys.map reprText)).length<=A9h ys:=lt
 cases its with
 | nil =>
  rw [Z08] at hl;exact absurd (List.eq_nil_of_length_eq_zero hl) ne
 | cons u us =>
  refine wpAny_pyReprObj_list (x:=u) (l:=us) (ts:=ys.map reprText) ⟨_,eo,rfl⟩ hg (λv rest kw hm=>by cases hm) hu eo rfl ?_ (λi y hi=> ?_) (λh' t tk hk=> ?_) (by omega)
  ·rw [Z08,Z0g,<-hl,Z08]
  ·have hi:(u::us)[i]? =some y:=by simpa using hi
   have hil:i<ys.length:=by
    have h1:=(Z03.mp hi).1;rw [<-hl,Z08] at h1;exact h1
   have hy0:ys[i]? =some ys[i]:=Z0b hil;generalize ys[i]=y0 at hy0;obtain ⟨w,hw,rw'⟩:=r.get (i:=i) (x:=V.str y0) (by rw [Z1z,hy0];rfl);rw [hi] at hw;cases hw;obtain ⟨t,rfl⟩:=(show∃t,y=Value.str y0 t from rw');have hm:=Z13 hy0;have h1:=B2z (ok y0 hm);have h2:=C4x hm;exact ⟨reprText y0,by rw [Z1z,hy0];rfl,ReprIs.str y0 t (by unfold A9h at hz;omega)⟩
  ·have I2:Inv X pins σ H1 { s1 with heap:=h',toks:=tk }:=I1.kept λb o e=>hk b o e
   refine formatField_str (λt' tk'=>⟨?_,hr pins _ σ H1 _ Q (I2.tok tk') (q _ lt)⟩) (by omega);rw [strLen_append];omega
end
end L2
namespace My
open PySem L2
inductive Op3 | plus | minus | times
inductive Tm
 | num (z:Int) | place (x:Str) | read (a:Str) (ix:List (Str×Int)) | sum (x:Str) (b:Tm) | pair (k:Op3) (l r:Tm) | guard (x:Str) (lo hi:Int) (l r:Tm)
def A9q (e:Str×Int):PyData:= .tuple [.str e.1,.int e.2]
def A3o (ix:List (Str×Int)):PyData:= .list (ix.map A9q)
def dep:Tm->Nat
 | .sum _ b=>dep b+1
 | .pair _ l r=>max (dep l) (dep r)+1
 | .guard _ _ _ l r=>max (dep l) (dep r)+1
 | _=>1
def nod:Tm->Nat
 | .sum _ b=>nod b+1
 | .pair _ l r=>nod l+nod r+1
 | .guard _ _ _ l r=>nod l+nod r+1
 | _=>1
theorem B5w:∀t:Tm,1<=dep t
 | .num z=>by simp [dep]
 | .place x=>by simp [dep]
 | .read a ix=>by simp [dep]
 | .sum x b=>by simp [dep]
 | .pair k l r=>by simp [dep]
 | .guard x lo hi l r=>by simp [dep]
abbrev abc:Str:="abcdefghijklmnopqrstuvwxyz"
theorem C1m:abc.cps.toList.length=26:=by decide +kernel
theorem B7d:abc.length=26:=by decide +kernel
theorem C7z:∀c∈abc.cps.toList,c<0x110000:=by decide +kernel
theorem A7k {x:Str}:PyData.strOk x=true↔∀c∈x.cps.toList,c<0x110000:=by
 unfold PyData.strOk;rw [<-Array.all_toList,List.all_eq_true];simp
theorem C2q {ix:List (Str×Int)}:PyData.depth (A3o ix)<=2:=by
 have h:∀l:List (Str×Int),PyData.depthAll (l.map A9q)<=1:=by
  intro l
  induction l with
  | nil=>simp [PyData.depthAll]
  | cons e r ih=>simp [A9q,PyData.depthAll,PyData.depth] at *;omega
 have:=h ix;simp only [A3o,PyData.depth];omega
theorem C4k {ix:List (Str×Int)}:cnt (A3o ix)<=1+3*ix.length:=by
 have h:∀l:List (Str×Int),A3g (l.map A9q)<=3*l.length:=by
  intro l
  induction l with
  | nil=>simp [A3g]
  | cons e r ih=>simp only [A9q,A3g,cnt,Z0p,Z0y] at *;omega
 have:=h ix;simp only [A3o,cnt];omega
section
variable {G:Hp} {v:V}
end
def top (i:Nat):Stmt:=PySem.Challenge.pw_arrayloom_k13_shapes_looked.main.body.getD i (.Pass ⟨0,0,0,0⟩)
abbrev B2g:Stmt:=top 9
abbrev A5w:Stmt:=A5s (top 13) 0
abbrev A6n:Stmt:=A5s (top 14) 0
abbrev A7v:Stmt:=A5s (top 15) 0
abbrev A7o:Stmt:=A5s (top 17) 0
abbrev A9c:Stmt:=A5s (top 21) 0
abbrev A6o:Stmt:=A5s (top 23) 0
abbrev A7s:Stmt:=A5s (top 25) 0
abbrev A9e:Stmt:=top 26
abbrev A6m:Stmt:=top 27
abbrev A3b:Stmt:=top 28
abbrev A5t:Stmt:=top 29
abbrev A9d:Stmt:=A5s (top 34) 0
abbrev A5f:Stmt:=A5s (top 35) 0
abbrev A7d:Stmt:=top 36
abbrev A5y:Stmt:=top 37
abbrev A6b:Stmt:=top 38
abbrev A7w:Stmt:=top 40
abbrev A6l:Stmt:=top 47
abbrev A3q:Stmt:=top 48
abbrev B0y:Stmt:=top 49
abbrev A4t:Stmt:=top 50
abbrev A7q:Stmt:=top 51
abbrev A7n:Stmt:=top 52
abbrev A6t:Stmt:=top 53
abbrev A7y:Stmt:=top 54
abbrev A6u:Stmt:=top 55
abbrev A9b:Stmt:=top 56
abbrev A7l:Stmt:=top 57
abbrev A4i:Stmt:=top 58
abbrev C1l:Stmt:=top 63
abbrev B2r:Stmt:=top 73
abbrev B2h:Stmt:=top 74
abbrev B2k:Stmt:=top 75
abbrev B2a:Stmt:=top 76
abbrev B0e:Stmt:=top 77
abbrev A7c:Stmt:=top 78
abbrev B5p:Stmt:=top 79
abbrev B1x:Stmt:=top 80
abbrev B0i:Stmt:=top 81
abbrev B6c:Stmt:=top 82
abbrev B0f:Stmt:=top 83
abbrev B2f:Stmt:=top 84
abbrev C2i:Stmt:=top 85
structure TyC (K:PySem.W.Frag) (C:Addr):Prop where
 ha:PySem.W.findIn K (.ref C) "__class__"=some (some (.builtin "object.__class__"))
 hn:PySem.W.specialIn K (.builtin "object.__class__") "__get__"=some (some (.builtin "getset_descriptor.__get__"))
 htk:PySem.W.takesIn K (.builtin "object.__class__")=some true
 hm:PySem.W.mroIn K C (.type "object")=some true
set_option genInjectivity false in
set_option genSizeOf false in
structure Adr where
 dh:Addr
 ai:Addr
 ag:Addr
 aR:Addr
 jK:Addr
 jV:Addr
 ka:Addr
 aB:Addr
 af:Addr
 aj:Addr
 bh:Addr
 bz:Addr
 aV:Addr
 aU:Addr
 av:Addr
 aa:Addr
 ak:Addr
 aI:Addr
 ac:Addr
 bn:Addr
 bc:Addr
 be:FuncData
 bY:Addr
 bP:FuncData
 cy:Addr
 cj:FuncData
 da:Addr
 cW:FuncData
 bq:Addr
 cQ:FuncData
 eN:Addr
 eK:FuncData
 cn:Addr
 cw:FuncData
 cT:Addr
 de:FuncData
 eI:Addr
 eO:FuncData
 bf:Addr
 a_:FuncData
 aM:Addr
 aO:FuncData
 bR:Addr
 bU:FuncData
 eJ:Addr
 eC:FuncData
 bJ:Addr
 bK:FuncData
 cf:Addr
 cu:FuncData
 bS:Addr
 bT:FuncData
 bW:Addr
 b_:FuncData
 dH:Addr
 dD:FuncData
 cB:Addr
 cc:FuncData
 bi:Addr
 bj:FuncData
 fB:Addr
 fm:FuncData
 bw:Addr
 bx:FuncData
 cZ:Addr
 dw:FuncData
 dv:Addr
 dJ:FuncData
 cJ:Addr
 cE:FuncData
 dj:Addr
 dC:FuncData
 cF:Addr
 cD:FuncData
 eD:Addr
 eG:FuncData
 cS:Addr
 dE:FuncData
 bv:Addr
 bt:FuncData
 i_:Addr
 iZ:FuncData
 gr:Addr
 gj:FuncData
 gp:Addr
 g9:FuncData
 gb:Addr
 fS:FuncData
 gk:Addr
 g8:FuncData
 bF:Addr
 bH:FuncData
 cI:Addr
 ci:FuncData
 dP:Addr
 dL:FuncData
 c4:Addr
 c8:FuncData
 fv:Addr
 fA:FuncData
 hU:Addr
 ia:FuncData
 fu:Addr
 fw:FuncData
 g7:Addr
 gi:FuncData
 jt:Addr
 jp:FuncData
structure Txt (K:PySem.W.Frag) (mg:Str->Option Value) (t:Adr):Prop where
 az:Fun K "copied" "copied" B2g t.bc t.be
 aJ:mg "copied"=some (.ref t.bc)
 aH:A1u K t.be ["value"] []
 gM:Fun K "__init__" "Number.__init__" A5w t.bY t.bP
 gF:A1u K t.bP ["self","number"] []
 i8:Fun K "__init__" "Place.__init__" A6n t.cy t.cj
 gX:A1u K t.cj ["self","axis"] []
 ip:Fun K "__init__" "Read.__init__" A7v t.da t.cW
 iQ:A1u K t.cW ["self","array","indexes"] []
 iH:Fun K "__init__" "Pair.__init__" A7o t.bq t.cQ
 dy:A1u K t.cQ ["self","left","right"] []
 iT:Fun K "__init__" "Sum.__init__" A9c t.eN t.eK
 iR:A1u K t.eK ["self","axis","body"] []
 ig:Fun K "__init__" "Guard.__init__" A6o t.cn t.cw
 eT:A1u K t.cw ["self","axis","low","high","inner","outer"] []
 iD:Fun K "__init__" "Part.__init__" A7s t.cT t.de
 aY:A1u K t.de ["self","term","sums","guards"] []
 gq:Fun K "parts_of" "parts_of" A9e t.eI t.eO
 j3:mg "parts_of"=some (.ref t.eI)
 iX:A1u K t.eO ["term"] []
 cA:Fun K "parts_from" "parts_from" A6m t.bf t.a_
 fg:mg "parts_from"=some (.ref t.bf)
 eU:A1u K t.a_ ["part"] []
 br:Fun K "parts_right_within" "parts_right_within" A3b t.aM t.aO
 cR:mg "parts_right_within"=some (.ref t.aM)
 dI:A1u K t.aO ["part"] []
 eA:Fun K "sums_at_top" "sums_at_top" A5t t.bR t.bU
 gJ:mg "sums_at_top"=some (.ref t.bR)
 gw:A1u K t.bU ["term"] []
 iW:Fun K "__init__" "Let.__init__" A9d t.eJ t.eC
 iS:A1u K t.eC ["self","name","axes","term"] []
 g5:Fun K "__init__" "Program.__init__" A5f t.bJ t.bK
 fX:A1u K t.bK ["self","wheel","axes","tables","lets","outs"] []
 bB:Fun K "axis_names" "axis_names" A7d t.cf t.cu
 cC:mg "axis_names"=some (.ref t.cf)
 cx:A1u K t.cu ["program"] []
 dY:Fun K "table_names" "table_names" A5y t.bS t.bT
 gx:mg "table_names"=some (.ref t.bS)
 gB:A1u K t.bT ["program"] []
 bX:Fun K "array_names" "array_names" A6b t.bW t.b_
 dS:mg "array_names"=some (.ref t.bW)
 dW:A1u K t.b_ ["program"] []
 fD:Fun K "arrays_of" "arrays_of" A7w t.dH t.dD
 iE:mg "arrays_of"=some (.ref t.dH)
 iB:A1u K t.dD ["program"] []
 fj:Fun K "look_names" "look_names" A6l t.cB t.cc
 i0:mg "look_names"=some (.ref t.cB)
 ij:A1u K t.cc ["program"] []
 bO:Fun K "look_told_names" "look_told_names" A3q t.bi t.bj
 eZ:mg "look_told_names"=some (.ref t.bi)
 eS:A1u K t.bj ["names"] []
 gP:Fun K "is_name" "is_name" B0y t.fB t.fm
 jd:mg "is_name"=some (.ref t.fB)
 ja:A1u K t.fm ["text"] []
 cL:Fun K "is_of_letters" "is_of_letters" A4t t.bw t.bx
 fP:mg "is_of_letters"=some (.ref t.bw)
 fM:A1u K t.bx ["text"] []
 fG:Fun K "look_outs" "look_outs" A7q t.cZ t.dw
 iA:mg "look_outs"=some (.ref t.cZ)
 iu:A1u K t.dw ["outs","names"] []
 fJ:Fun K "look_axes" "look_axes" A7n t.dv t.dJ
 iF:mg "look_axes"=some (.ref t.dv)
 iL:A1u K t.dJ ["axes","known"] []
 bC:Fun K "look_terms" "look_terms" A6t t.cJ t.cE
 cr:mg "look_terms"=some (.ref t.cJ)
 cv:A1u K t.cE ["program"] []
 fH:Fun K "look_part" "look_part" A7y t.dj t.dC
 iq:mg "look_part"=some (.ref t.dj)
 iG:A1u K t.dC ["part","let","arrays","known"] []
 cH:Fun K "look_bound" "look_bound" A6u t.cF t.cD
 fh:mg "look_bound"=some (.ref t.cF)
 eY:A1u K t.cD ["axis","bound"] []
 fW:Fun K "look_sum" "look_sum" A9b t.eD t.eG
 iV:mg "look_sum"=some (.ref t.eD)
 iU:A1u K t.eG ["axis","bound","known"] []
 fF:Fun K "look_read" "look_read" A7l t.cS t.dE
 iy:mg "look_read"=some (.ref t.cS)
 iP:A1u K t.dE ["read","bound","arrays"] []
 cM:Fun K "look_own_read" "look_own_read" A4i t.bv t.bt
 fO:mg "look_own_read"=some (.ref t.bv)
 fK:A1u K t.bt ["part","let"] []
 jn:Fun K "look" "look" C1l t.i_ t.iZ
 jU:mg "look"=some (.ref t.i_)
 jR:A1u K t.iZ ["program"] []
 aG:Fun K "_law_cell" "_law_cell" B2r t.gr t.gj
 aQ:mg "_law_cell"=some (.ref t.gr)
 aN:A1u K t.gj ["_law_rest"] []
 iN:Fun K "_law_name" "_law_name" B2h t.gp t.g9
 ji:mg "_law_name"=some (.ref t.gp)
 jr:A1u K t.g9 ["_law_k","_law_seed"] []
 gu:Fun K "_law_axes" "_law_axes" B2k t.gb t.fS
 iI:mg "_law_axes"=some (.ref t.gb)
 iw:A1u K t.fS ["_law_cell_here","_law_names"] []
 iM:Fun K "_law_read" "_law_read" B2a t.gk t.g8
 jq:mg "_law_read"=some (.ref t.gk)
 jl:A1u K t.g8 ["_law_rest","_law_about","_law_bound","_law_top","_law_wild"] []
 bo:Fun K "_law_grown" "_law_grown" B0e t.bF t.bH
 bI:mg "_law_grown"=some (.ref t.bF)
 bE:A1u K t.bH ["_law_rest","_law_about","_law_bound","_law_top","_law_still","_law_deep"] []
 fi:Fun K "_law_read_due" "_law_read_due" A7c t.cI t.ci
 ik:mg "_law_read_due"=some (.ref t.cI)
 g_:A1u K t.ci ["_law_tree","_law_about","_law_bound","_law_top"] []
 cg:Fun K "_law_due" "_law_due" B5p t.dP t.dL
 dN:mg "_law_due"=some (.ref t.dP)
 dO:A1u K t.dL ["_law_tree","_law_about","_law_bound","_law_top","_law_still"] []
 bL:Fun K "_law_made" "_law_made" B1x t.c4 t.c8
 c0:mg "_law_made"=some (.ref t.c4)
 c7:A1u K t.c8 ["_law_tree","_law_kept"] []
 gR:Fun K "_law_asked" "_law_asked" B0i t.fv t.fA
 je:mg "_law_asked"=some (.ref t.fv)
 j6:A1u K t.fA ["_law_program","_law_whole"] []
 fR:Fun K "_law_got" "_law_got" B6c t.hU t.ia
 ib:mg "_law_got"=some (.ref t.hU)
 gZ:A1u K t.ia ["_law_program","_law_whole"] []
 gQ:Fun K "_law_under" "_law_under" B0f t.fu t.fw
 j9:mg "_law_under"=some (.ref t.fu)
 jf:A1u K t.fw ["_law_program"] []
 iO:Fun K "_law_lets" "_law_lets" B2f t.g7 t.gi
 jm:mg "_law_lets"=some (.ref t.g7)
 jy:A1u K t.gi ["_law_script","_law_about","_law_names","_law_told"] []
 jX:Fun K "law" "law" C2i t.jt t.jp
 kf:mg "law"=some (.ref t.jt)
 kc:A1u K t.jp ["_law_script"] []
 fN:∃u,mg "MOST_LETTERS"=some u/\A2v (.int (8)) u
 gW:∃u,mg "MOST_AXES"=some u/\A2v (.int (3)) u
 e_:∃u,mg "WORDS_OF_TERMS"=some u/\A2v (.ref t.bn) u
 eW:∃(o:Obj) (its:Array Value) (n:Nat),K.lookup t.bn=some o/\o.cls= .type "tuple"/\o.data= .seq its n/\its.size<=sizeLine/\A3a [(.str "if"),(.str "sum")] its.toList
 fE:mg "LoomError"=some (.ref t.dh)
 aZ:mg "NoName"=some (.ref t.ai)
 aK:mg "NoShape"=some (.ref t.ag)
 gO:mg "TooMuch"=some (.ref t.aR)
 dm:PySem.W.mroIn K t.ai (.type "ValueError")=some true
 cP:PySem.W.mroIn K t.ag (.type "ValueError")=some true
 bG:PySem.W.excIn K t.ai C8j "ValueError.__new__"=true
 aP:PySem.W.excIn K t.ag C8j "ValueError.__new__"=true
 gS:PySem.W.XcIn K t.ai
 eP:PySem.W.kitOne K (.ref t.ai) (.ref t.ag)=some false
 fe:PySem.W.kitOne K (.ref t.ai) (.ref t.aR)=some false
 gf:PySem.W.XcIn K t.ag
 ff:PySem.W.kitOne K (.ref t.ag) (.ref t.ai)=some false
 eF:PySem.W.kitOne K (.ref t.ag) (.ref t.aR)=some false
 ft:PySem.W.exmOne K (.ref t.ai) (.ref t.ai)=some true
 dR:PySem.W.exmOne K (.ref t.ai) (.ref t.dh)=some true
 fc:PySem.W.exmOne K (.ref t.ag) (.ref t.ai)=some false
 eL:PySem.W.exmOne K (.ref t.ag) (.ref t.ag)=some true
 dz:PySem.W.exmOne K (.ref t.ag) (.ref t.dh)=some true
 jk:mg "Number"=some (.ref t.aB)
 j4:mg "Place"=some (.ref t.af)
 jx:mg "Read"=some (.ref t.aj)
 jS:mg "Pair"=some (.ref t.bh)
 jO:mg "Plus"=some (.ref t.bz)
 jC:mg "Minus"=some (.ref t.aV)
 jD:mg "Times"=some (.ref t.aU)
 j5:mg "Sum"=some (.ref t.av)
 fQ:mg "Guard"=some (.ref t.aa)
 fo:mg "Part"=some (.ref t.ak)
 jZ:mg "Let"=some (.ref t.aI)
 j8:mg "Program"=some (.ref t.ac)
 aF:Cls K t.aa
 iK:Mk K t.aa t.cn
 dX:A1r K t.aa "axis"
 im:A1r K t.aa "low"
 gz:A1r K t.aa "high"
 dq:A1r K t.aa "inner"
 dG:A1r K t.aa "outer"
 ay:TyC K t.aa
 dB:PySem.W.kitOne K (.ref t.aa) (.ref t.aa)=some true
 gG:PySem.W.kitOne K (.ref t.aa) (.ref t.bh)=some false
 gy:PySem.W.kitOne K (.ref t.aa) (.ref t.aj)=some false
 ce:PySem.W.kitOne K (.ref t.aa) (.ref t.av)=some false
 fU:PySem.W.kitOne K (.ref t.aa) (.ref t.af)=some false
 ba:Cls K t.aI
 jQ:Mk K t.aI t.eJ
 aX:A1r K t.aI "name"
 bM:A1r K t.aI "axes"
 cV:A1r K t.aI "term"
 ii:TyC K t.aI
 ir:PySem.W.mroIn K t.aI (.type "list")=some false
 ie:PySem.W.mroIn K t.aI (.type "tuple")=some false
 iz:PySem.W.mroIn K t.aI (.type "dict")=some false
 jG:PySem.W.kitOne K (.ref t.aI) (.ref t.aa)=some false
 jM:PySem.W.kitOne K (.ref t.aI) (.ref t.bh)=some false
 jL:PySem.W.kitOne K (.ref t.aI) (.ref t.aj)=some false
 jN:PySem.W.kitOne K (.ref t.aI) (.ref t.av)=some false
 jI:PySem.W.kitOne K (.ref t.aI) (.ref t.af)=some false
 gc:Cls K t.aV
 jo:Mk K t.aV t.bq
 d_:A1r K t.aV "left"
 c_:A1r K t.aV "right"
 cY:TyC K t.aV
 gm:PySem.W.kitOne K (.ref t.aV) (.ref t.aa)=some false
 gE:PySem.W.kitOne K (.ref t.aV) (.ref t.bh)=some true
 gI:PySem.W.kitOne K (.ref t.aV) (.ref t.aj)=some false
 eV:PySem.W.kitOne K (.ref t.aV) (.ref t.av)=some false
 ge:PySem.W.kitOne K (.ref t.aV) (.ref t.af)=some false
 c6:Cls K t.aB
 jc:Mk K t.aB t.bY
 fq:A1r K t.aB "number"
 am:TyC K t.aB
 cN:PySem.W.kitOne K (.ref t.aB) (.ref t.aa)=some false
 fT:PySem.W.kitOne K (.ref t.aB) (.ref t.bh)=some false
 g6:PySem.W.kitOne K (.ref t.aB) (.ref t.aj)=some false
 bV:PySem.W.kitOne K (.ref t.aB) (.ref t.av)=some false
 fL:PySem.W.kitOne K (.ref t.aB) (.ref t.af)=some false
 aA:Cls K t.ak
 dQ:Mk K t.ak t.cT
 bD:A1r K t.ak "term"
 aC:A1r K t.ak "sums"
 aE:A1r K t.ak "guards"
 j_:TyC K t.ak
 jz:PySem.W.kitOne K (.ref t.ak) (.ref t.aa)=some false
 jF:PySem.W.kitOne K (.ref t.ak) (.ref t.bh)=some false
 jE:PySem.W.kitOne K (.ref t.ak) (.ref t.aj)=some false
 jJ:PySem.W.kitOne K (.ref t.ak) (.ref t.av)=some false
 jA:PySem.W.kitOne K (.ref t.ak) (.ref t.af)=some false
 c5:Cls K t.af
 ju:Mk K t.af t.cy
 dU:A1r K t.af "axis"
 au:TyC K t.af
 f_:PySem.W.kitOne K (.ref t.af) (.ref t.aa)=some false
 gK:PySem.W.kitOne K (.ref t.af) (.ref t.bh)=some false
 gv:PySem.W.kitOne K (.ref t.af) (.ref t.aj)=some false
 c9:PySem.W.kitOne K (.ref t.af) (.ref t.av)=some false
 fY:PySem.W.kitOne K (.ref t.af) (.ref t.af)=some true
 hZ:Cls K t.bz
 jB:Mk K t.bz t.bq
 eX:A1r K t.bz "left"
 eh:A1r K t.bz "right"
 fb:TyC K t.bz
 gD:PySem.W.kitOne K (.ref t.bz) (.ref t.aa)=some false
 hJ:PySem.W.kitOne K (.ref t.bz) (.ref t.bh)=some true
 gT:PySem.W.kitOne K (.ref t.bz) (.ref t.aj)=some false
 fI:PySem.W.kitOne K (.ref t.bz) (.ref t.av)=some false
 gC:PySem.W.kitOne K (.ref t.bz) (.ref t.af)=some false
 ao:Cls K t.ac
 iY:Mk K t.ac t.bJ
 fz:A1r K t.ac "wheel"
 cO:A1r K t.ac "axes"
 aL:A1r K t.ac "tables"
 aT:A1r K t.ac "lets"
 cK:A1r K t.ac "outs"
 jT:TyC K t.ac
 j7:PySem.W.kitOne K (.ref t.ac) (.ref t.aa)=some false
 jg:PySem.W.kitOne K (.ref t.ac) (.ref t.bh)=some false
 jh:PySem.W.kitOne K (.ref t.ac) (.ref t.aj)=some false
 jv:PySem.W.kitOne K (.ref t.ac) (.ref t.av)=some false
 jb:PySem.W.kitOne K (.ref t.ac) (.ref t.af)=some false
 bp:Cls K t.aj
 jH:Mk K t.aj t.da
 bZ:A1r K t.aj "array"
 bu:A1r K t.aj "indexes"
 aD:TyC K t.aj
 dZ:PySem.W.kitOne K (.ref t.aj) (.ref t.aa)=some false
 gU:PySem.W.kitOne K (.ref t.aj) (.ref t.bh)=some false
 h_:PySem.W.kitOne K (.ref t.aj) (.ref t.aj)=some true
 di:PySem.W.kitOne K (.ref t.aj) (.ref t.av)=some false
 gH:PySem.W.kitOne K (.ref t.aj) (.ref t.af)=some false
 bQ:Cls K t.av
 jP:Mk K t.av t.eN
 bN:A1r K t.av "axis"
 df:A1r K t.av "body"
 aS:TyC K t.av
 hV:PySem.W.kitOne K (.ref t.av) (.ref t.aa)=some false
 iJ:PySem.W.kitOne K (.ref t.av) (.ref t.bh)=some false
 iC:PySem.W.kitOne K (.ref t.av) (.ref t.aj)=some false
 eM:PySem.W.kitOne K (.ref t.av) (.ref t.av)=some true
 gY:PySem.W.kitOne K (.ref t.av) (.ref t.af)=some false
 gh:Cls K t.aU
 jj:Mk K t.aU t.bq
 eg:A1r K t.aU "left"
 cX:A1r K t.aU "right"
 cU:TyC K t.aU
 g0:PySem.W.kitOne K (.ref t.aU) (.ref t.aa)=some false
 gL:PySem.W.kitOne K (.ref t.aU) (.ref t.bh)=some true
 gA:PySem.W.kitOne K (.ref t.aU) (.ref t.aj)=some false
 eQ:PySem.W.kitOne K (.ref t.aU) (.ref t.av)=some false
 fZ:PySem.W.kitOne K (.ref t.aU) (.ref t.af)=some false
 ae:mg "isinstance"=none
 dF:mg "list"=none
 dM:mg "tuple"=none
 i9:mg "dict"=none
 dA:mg "enumerate"=none
 aW:mg "len"=none
 jY:mg "all"=none
 bA:mg "range"=none
 jW:mg "min"=none
 jw:mg "max"=none
 eR:mg "ValueError"=none
 fV:mg "reversed"=none
theorem B0l:A0z ["value"] ["value"] (A0q B2g):=⟨rfl,rfl,rfl,by decide +kernel,rfl,by decide +kernel,by decide +kernel⟩
theorem B1h:A0z ["self","number"] ["self","number"] (A0q A5w):=⟨rfl,rfl,rfl,by decide +kernel,rfl,by decide +kernel,by decide +kernel⟩
theorem B2p:A0z ["self","axis"] ["self","axis"] (A0q A6n):=⟨rfl,rfl,rfl,by decide +kernel,rfl,by decide +kernel,by decide +kernel⟩
theorem B4p:A0z ["self","array","indexes"] ["self","array","indexes"] (A0q A7v):=⟨rfl,rfl,rfl,by decide +kernel,rfl,by decide +kernel,by decide +kernel⟩
theorem B4s:A0z ["self","left","right"] ["self","left","right"] (A0q A7o):=⟨rfl,rfl,rfl,by decide +kernel,rfl,by decide +kernel,by decide +kernel⟩
theorem B5d:A0z ["self","axis","body"] ["self","axis","body"] (A0q A9c):=⟨rfl,rfl,rfl,by decide +kernel,rfl,by decide +kernel,by decide +kernel⟩
theorem B3c:A0z ["self","axis","low","high","inner","outer"] ["self","axis","low","high","inner","outer"] (A0q A6o):=⟨rfl,rfl,rfl,by decide +kernel,rfl,by decide +kernel,by decide +kernel⟩
theorem B4l:A0z ["self","term","sums","guards"] ["self","term","sums","guards"] (A0q A7s):=⟨rfl,rfl,rfl,by decide +kernel,rfl,by decide +kernel,by decide +kernel⟩
theorem B5x:A0z ["term"] ["term"] (A0q A9e):=⟨rfl,rfl,rfl,by decide +kernel,rfl,by decide +kernel,by decide +kernel⟩
theorem A6d:A0z ["part","parts","inner"] ["part"] (A0q A6m):=⟨rfl,rfl,rfl,by decide +kernel,rfl,by decide +kernel,by decide +kernel⟩
theorem A2g:A0z ["part","term","inner","outer"] ["part"] (A0q A3b):=⟨rfl,rfl,rfl,by decide +kernel,rfl,by decide +kernel,by decide +kernel⟩
theorem A3t:A0z ["term","axes","rest"] ["term"] (A0q A5t):=⟨rfl,rfl,rfl,by decide +kernel,rfl,by decide +kernel,by decide +kernel⟩
theorem B5h:A0z ["self","name","axes","term"] ["self","name","axes","term"] (A0q A9d):=⟨rfl,rfl,rfl,by decide +kernel,rfl,by decide +kernel,by decide +kernel⟩
theorem B0j:A0z ["self","wheel","axes","tables","lets","outs"] ["self","wheel","axes","tables","lets","outs"] (A0q A5f):=⟨rfl,rfl,rfl,by decide +kernel,rfl,by decide +kernel,by decide +kernel⟩
theorem B1z:A0z ["program"] ["program"] (A0q A7d):=⟨rfl,rfl,rfl,by decide +kernel,rfl,by decide +kernel,by decide +kernel⟩
theorem B1i:A0z ["program"] ["program"] (A0q A5y):=⟨rfl,rfl,rfl,by decide +kernel,rfl,by decide +kernel,by decide +kernel⟩
theorem B1j:A0z ["program"] ["program"] (A0q A6b):=⟨rfl,rfl,rfl,by decide +kernel,rfl,by decide +kernel,by decide +kernel⟩
theorem A3v:A0z ["program","arrays","name","axes","let"] ["program"] (A0q A7w):=⟨rfl,rfl,rfl,by decide +kernel,rfl,by decide +kernel,by decide +kernel⟩
theorem A8f:A0z ["program","axes"] ["program"] (A0q A6l):=⟨rfl,rfl,rfl,by decide +kernel,rfl,by decide +kernel,by decide +kernel⟩
theorem A3m:A0z ["names","place","name"] ["names"] (A0q A3q):=⟨rfl,rfl,rfl,by decide +kernel,rfl,by decide +kernel,by decide +kernel⟩
theorem B7x:A0z ["text"] ["text"] (A0q B0y):=⟨rfl,rfl,rfl,by decide +kernel,rfl,by decide +kernel,by decide +kernel⟩
theorem A9t:A0z ["text"] ["text"] (A0q A4t):=⟨rfl,rfl,rfl,by decide +kernel,rfl,by decide +kernel,by decide +kernel⟩
theorem A6p:A0z ["outs","names","place","out"] ["outs","names"] (A0q A7q):=⟨rfl,rfl,rfl,by decide +kernel,rfl,by decide +kernel,by decide +kernel⟩
theorem A7f:A0z ["axes","known","place","axis"] ["axes","known"] (A0q A7n):=⟨rfl,rfl,rfl,by decide +kernel,rfl,by decide +kernel,by decide +kernel⟩
theorem A3i:A0z ["program","known","arrays","let","part"] ["program"] (A0q A6t):=⟨rfl,rfl,rfl,by decide +kernel,rfl,by decide +kernel,by decide +kernel⟩
theorem A7a:A0z ["part","let","arrays","known","term","bound"] ["part","let","arrays","known"] (A0q A7y):=⟨rfl,rfl,rfl,by decide +kernel,rfl,by decide +kernel,by decide +kernel⟩
theorem B2e:A0z ["axis","bound"] ["axis","bound"] (A0q A6u):=⟨rfl,rfl,rfl,by decide +kernel,rfl,by decide +kernel,by decide +kernel⟩
theorem B5g:A0z ["axis","bound","known"] ["axis","bound","known"] (A0q A9b):=⟨rfl,rfl,rfl,by decide +kernel,rfl,by decide +kernel,by decide +kernel⟩
theorem A4y:A0z ["read","bound","arrays","name","axis","shift"] ["read","bound","arrays"] (A0q A7l):=⟨rfl,rfl,rfl,by decide +kernel,rfl,by decide +kernel,by decide +kernel⟩
theorem A6g:A0z ["part","let","name"] ["part","let"] (A0q A4i):=⟨rfl,rfl,rfl,by decide +kernel,rfl,by decide +kernel,by decide +kernel⟩
theorem C7k:A0z ["program"] ["program"] (A0q C1l):=⟨rfl,rfl,rfl,by decide +kernel,rfl,by decide +kernel,by decide +kernel⟩
theorem C0c:A0z ["_law_rest"] ["_law_rest"] (A0q B2r):=⟨rfl,rfl,rfl,by decide +kernel,rfl,by decide +kernel,by decide +kernel⟩
theorem A4m:A0z ["_law_k","_law_seed","_law_letters","_law_size","_law_spot","_law_base","_law_text"] ["_law_k","_law_seed"] (A0q B2h):=⟨rfl,rfl,rfl,by decide +kernel,rfl,by decide +kernel,by decide +kernel⟩
theorem A8h:A0z ["_law_cell_here","_law_names","_law_many","_law_turn"] ["_law_cell_here","_law_names"] (A0q B2k):=⟨rfl,rfl,rfl,by decide +kernel,rfl,by decide +kernel,by decide +kernel⟩
theorem A2b:A0z ["_law_rest","_law_about","_law_bound","_law_top","_law_wild","_law_cell_here","_law_known","_law_some","_law_way","_law_array","_law_many","_law_indexes","_law_k","_law_step"] ["_law_rest","_law_about","_law_bound","_law_top","_law_wild"] (A0q B2a):=⟨rfl,rfl,rfl,by decide +kernel,rfl,by decide +kernel,by decide +kernel⟩
theorem A1y:A0z ["_law_rest","_law_about","_law_bound","_law_top","_law_still","_law_deep","_law_cell_here","_law_way","_law_wild","_law_some","_law_axis","_law_left","_law_low","_law_inner"] ["_law_rest","_law_about","_law_bound","_law_top","_law_still","_law_deep"] (A0q B0e):=⟨rfl,rfl,rfl,by decide +kernel,rfl,by decide +kernel,by decide +kernel⟩
theorem A5p:A0z ["_law_tree","_law_about","_law_bound","_law_top","_law_axis","_law_shift"] ["_law_tree","_law_about","_law_bound","_law_top"] (A0q A7c):=⟨rfl,rfl,rfl,by decide +kernel,rfl,by decide +kernel,by decide +kernel⟩
theorem B2y:A0z ["_law_tree","_law_about","_law_bound","_law_top","_law_still","_law_found"] ["_law_tree","_law_about","_law_bound","_law_top","_law_still"] (A0q B5p):=⟨rfl,rfl,rfl,by decide +kernel,rfl,by decide +kernel,by decide +kernel⟩
theorem A6x:A0z ["_law_tree","_law_kept","_law_inner","_law_left","_law_right"] ["_law_tree","_law_kept"] (A0q B1x):=⟨rfl,rfl,rfl,by decide +kernel,rfl,by decide +kernel,by decide +kernel⟩
theorem B7o:A0z ["_law_program","_law_whole"] ["_law_program","_law_whole"] (A0q B0i):=⟨rfl,rfl,rfl,by decide +kernel,rfl,by decide +kernel,by decide +kernel⟩
theorem A8x:A0z ["_law_program","_law_whole","_law_found","e"] ["_law_program","_law_whole"] (A0q B6c):=⟨rfl,rfl,rfl,by decide +kernel,rfl,by decide +kernel,by decide +kernel⟩
theorem A9a:A0z ["_law_program","e"] ["_law_program"] (A0q B0f):=⟨rfl,rfl,rfl,by decide +kernel,rfl,by decide +kernel,by decide +kernel⟩
theorem A4u:A0z ["_law_script","_law_about","_law_names","_law_told","_law_lets_here","_law_k","_law_rest","_law_axes_here","_law_tree","_law_kept"] ["_law_script","_law_about","_law_names","_law_told"] (A0q B2f):=⟨rfl,rfl,rfl,by decide +kernel,rfl,by decide +kernel,by decide +kernel⟩
theorem A3w:A0z ["_law_script","_law_rest","_law_many","_law_tabled","_law_told","_law_seed","_law_names","_law_cells","_law_tables","_law_about","_law_name_here","_law_axes_here","_law_lets_here","_law_outs","_law_program","_law_held"] ["_law_script"] (A0q C2i):=⟨rfl,rfl,rfl,by decide +kernel,rfl,by decide +kernel,by decide +kernel⟩
theorem A5j:(["member"]:List Str).Nodup:=by decide +kernel
theorem B4g:(["name","length"]:List Str).Nodup:=by decide +kernel
theorem B4u:(["name","axes"]:List Str).Nodup:=by decide +kernel
theorem B9o:(["let"]:List Str).Nodup:=by decide +kernel
theorem C1i:(["sign"]:List Str).Nodup:=by decide +kernel
theorem B9u:(["_law_j","_law_base"]:List Str).Nodup:=by decide +kernel
theorem C1p:(["_law_j","_law_base"]:List Str).Nodup:=by decide +kernel
theorem C1k:(["_law_j","_law_cell_here","_law_many","_law_names","_law_turn"]:List Str).Nodup:=by decide +kernel
theorem B9d:(["_law_name_here","_law_bound"]:List Str).Nodup:=by decide +kernel
theorem B9h:(["_law_cell_here"]:List Str).Nodup:=by decide +kernel
theorem B7i:(["_law_cell_here"]:List Str).Nodup:=by decide +kernel
theorem B7g:(["_law_k","_law_seed"]:List Str).Nodup:=by decide +kernel
theorem B7q:(["_law_k","_law_rest"]:List Str).Nodup:=by decide +kernel
theorem B8a:(["_law_k","_law_cells","_law_many","_law_names"]:List Str).Nodup:=by decide +kernel
theorem B7r:(["_law_pair"]:List Str).Nodup:=by decide +kernel
theorem B8i:(["_law_k","_law_names","_law_seed"]:List Str).Nodup:=by decide +kernel
theorem A2f.none {P:Program} {w:World} {K:PySem.W.Frag} {mg:Str->Option Value} {base:Heap} {CX:CXT} {k:Nat} {f:Addr} {fd:FuncData} {ps:List Str} {sp:Sp} (h:∀vs H Q E,¬sp vs H Q E):A2f P w K mg base CX k f fd ps sp :=
 ⟨λvs H Q E q=>(h vs H Q E q).elim,λ_ _ _ H _ _ vs Q E _ _ _ _ q=>(h vs H Q E q).elim⟩
def B6g (e:Str×List Str):PyData:= .tuple [.str e.1,.list (e.2.map PyData.str)]
def B1k (ts:List (Str×List Str)):PyData:= .list (ts.map B6g)
def B8k (xs:List Str):PyData:= .list (xs.map PyData.str)
theorem B5j:∀xs:List Str,PyData.depthAll (xs.map PyData.str)=0/\A3g (xs.map PyData.str)=xs.length
 | []=>⟨rfl,rfl⟩
 | x::r=>by
  obtain ⟨h2,h3⟩:=B5j r;refine ⟨?_,?_⟩
  ·simp [PyData.depthAll,PyData.depth,h2]
  ·simp [A3g,cnt,h3];omega
theorem C0m (xs:List Str):(B8k xs).depth<=1/\cnt (B8k xs)<=1+xs.length:=by
 obtain ⟨h2,h3⟩:=B5j xs;refine ⟨?_,?_⟩
 ·simp [B8k,PyData.depth,h2]
 ·simp only [B8k,cnt,h3];omega
theorem C9u {n:Nat}:∀ts:List (Str×List Str),(∀e∈ts,e.2.length<=n)->PyData.depthAll (ts.map B6g)<=2/\A3g (ts.map B6g)<=ts.length*(n+4)
 | [],_=>⟨by simp [PyData.depthAll],by simp [A3g]⟩
 | e::r,h=>by
  obtain ⟨h2,h3⟩:=C9u r λx hx=>h x (.tail _ hx);obtain ⟨g2,g3⟩:=B5j e.2;have hl:=h e (.head _);refine ⟨?_,?_⟩
  ·simp only [Z0p,B6g,PyData.depthAll,PyData.depth,g2];omega
  ·simp only [Z0p,B6g,A3g,cnt,g3,Z0y,Nat.add_mul,Nat.one_mul];omega
theorem C3a {n:Nat} (ts:List (Str×List Str)) (h:∀e∈ts,e.2.length<=n):(B1k ts).depth<=3/\cnt (B1k ts)<=1+ts.length*(n+4):=by
 obtain ⟨h2,h3⟩:=C9u ts h;refine ⟨?_,?_⟩
 ·simp only [B1k,PyData.depth];omega
 ·simp only [B1k,cnt];omega
theorem C9o:∀ts:List (Str×Int),PyData.depthAll (ts.map A9q)<=1
 | []=>by simp [PyData.depthAll]
 | e::r=>by
  have h2:=C9o r;simp only [Z0p,A9q,PyData.depthAll,PyData.depth];omega
theorem B6k (ts:List (Str×Int)):(A3o ts).depth<=2:=by
 have h2:=C9o ts;simp only [A3o,PyData.depth];omega
theorem C4f:∀{ts:List (Str×Int)},(∀e∈ts,PyData.strOk e.1=true)->PyData.canLayAll0 (ts.map A9q)=true
 | [],_=>rfl
 | e::r,h=>by
  have h1:=C4f (ts:=r) λy hy=>h y (.tail _ hy);simp [A9q,PyData.canLayAll0,PyData.canLay0,h1,h e (.head _)]
theorem C0h {ts:List (Str×Int)} (h:∀e∈ts,PyData.strOk e.1=true):(A3o ts).canLay0=true:=by simp [A3o,PyData.canLay0,C4f h]
theorem A8b {d:PyData} (h:d.canLay0=true) (hd:d.depth<=60):SeqAt.shaped d=true:=by
 unfold SeqAt.shaped;rw [h,Bool.true_and];exact Z20 (by omega)
theorem B3z {H:Hp}:∀{ys:List Str} {xs:List V},A3x H xs (ys.map PyData.str)->xs=ys.map V.str
 | [],_,r=>by cases r;rfl
 | y::ys,_,r=>by
  rw [Z0p] at r
  cases r with
  | cons a r =>
   cases a
   rw [Z0p,B3z r]
theorem C3e {H:Hp} {v:V} {ys:List Str} (h:Rep H v (B8k ys)):∃p,v= .ref p/\H p=some (.lst (ys.map V.str)):=by
 obtain ⟨p,xs,rfl,e,r⟩:=A4a (show Rep H v (.list (ys.map PyData.str)) from h);rw [B3z r] at e;exact ⟨p,rfl,e⟩
theorem C5m {H:Hp} {p:Addr} {ys:List Str} (e:H p=some (.lst (ys.map V.str))):Rep H (.ref p) (B8k ys):= .lst e (A3x.strs ys)
theorem C6z {H:Hp} {v:V} {e:Str×List Str} (h:Rep H v (B6g e)):∃b c,v= .ref b/\H b=some (.tup [.str e.1,.ref c])/\H c=some (.lst (e.2.map V.str)):=by
 unfold B6g at h
 cases h with
 | @tup b xs _ eb r =>
  cases r with
  | cons a r =>
   cases r with
   | cons a2 r =>
    cases r
    cases a
    obtain ⟨c,rfl,ec⟩:=C3e a2;exact ⟨b,c,rfl,eb,ec⟩
theorem D1e {H:Hp} {b c:Addr} {e:Str×List Str} (eb:H b=some (.tup [.str e.1,.ref c])) (ec:H c=some (.lst (e.2.map V.str))):Rep H (.ref b) (B6g e):= .tup eb (.cons (.str _) (.cons (C5m ec) .nil))
theorem C3p {H:Hp} {v:V} {e:Str×Int} (h:Rep H v (A9q e)):∃b,v= .ref b/\H b=some (.tup [.str e.1,.int e.2]):=by
 unfold A9q at h
 cases h with
 | @tup b xs _ eb r =>
  cases r with
  | cons a r =>
   cases r with
   | cons a2 r =>
    cases r
    cases a
    cases a2
    exact ⟨b,rfl,eb⟩
theorem A9m {α:Type} {H:Hp} {f:α->PyData} {ts:List α} {xs:List V} (r:A3x H xs (ts.map f)) {i:Nat} {x:V} (hx:xs[i]? =some x):∃e,ts[i]? =some e/\Rep H x (f e):=by
 obtain ⟨d,hd,rx⟩:=r.get2 hx;rw [Z1z] at hd;obtain ⟨e,he,rfl⟩:=Z0i.mp hd;exact ⟨e,he,rx⟩
def A6y (A:Adr):Op3->Addr
 | .plus=>A.bz
 | .minus=>A.aV
 | .times=>A.aU
inductive Ob (A:Adr) (H:Hp):V->Tm->Prop
 | num {a dx:Addr} {z:Int}:H a=some (.ins A.aB dx [("number",.int z)])->Ob A H (.ref a) (.num z)
 | place {a dx:Addr} {x:Str}:H a=some (.ins A.af dx [("axis",.str x)])->Ob A H (.ref a) (.place x)
 | read {a dx l:Addr} {x:Str} {ix:List (Str×Int)}:H a=some (.ins A.aj dx [("array",.str x),("indexes",.ref l)])->Rep H (.ref l) (A3o ix)->Ob A H (.ref a) (.read x ix)
 | sum {a dx:Addr} {x:Str} {u:V} {b:Tm}:H a=some (.ins A.av dx [("axis",.str x),("body",u)])->Ob A H u b->Ob A H (.ref a) (.sum x b)
 | pair {a dx:Addr} {k:Op3} {u w:V} {l r:Tm}:H a=some (.ins (A6y A k) dx [("left",u),("right",w)])->Ob A H u l->Ob A H w r->Ob A H (.ref a) (.pair k l r)
 | guard {a dx:Addr} {x:Str} {lo hi:Int} {u w:V} {l r:Tm}:H a=some (.ins A.aa dx [("axis",.str x),("low",.int lo),("high",.int hi),("inner",u),("outer",w)])->Ob A H u l->Ob A H w r->Ob A H (.ref a) (.guard x lo hi l r)
theorem Ob.imp {A:Adr} {H H':Hp} (f:A0w H H') {v:V} {t:Tm} (h:Ob A H v t):Ob A H' v t:=by
 induction h with
 | num e=>exact .num (f _ _ e)
 | place e=>exact .place (f _ _ e)
 | read e r=>exact .read (f _ _ e) (r.same f)
 | sum e _ ih=>exact .sum (f _ _ e) ih
 | pair e _ _ i1 i2=>exact .pair (f _ _ e) i1 i2
 | guard e _ _ i1 i2=>exact .guard (f _ _ e) i1 i2
abbrev Lt:=Str×List Str×Tm
def B1w (A:Adr) (S:Addr->Prop) (H:Hp) (v:V) (e:Lt):Prop:=∃(a dx c:Addr) (n:V) (dn:Unit),v= .ref a/\H a=some (.ins A.aI dx [("name",.str e.1),("axes",.ref c),("term",n)])/\S c/\H c=some (.lst (e.2.1.map V.str))/\Ob A H n e.2.2
abbrev B8t (A:Adr) (S:Addr->Prop) (H:Hp) (xs:List V) (ls:List Lt):Prop:=Paired (B1w A S H) xs ls
theorem B1w.same {A:Adr} {S:Addr->Prop} {H H':Hp} {v:V} {e:Lt} (h:B1w A S H v e) (s:A0w H H'):B1w A S H' v e:=by
 obtain ⟨a,dx,c,n,dn,rfl,e1,s1,e2,e3⟩:=h;exact ⟨a,dx,c,n,dn,rfl,s _ _ e1,s1,s _ _ e2,e3.imp s⟩
structure B4x (A:Adr) (H:Hp) (p:Addr) (wh:Int) (ax:List (Str×Int)) (tb:List (Str×List Str)) (ls:List Lt) (os:List Str):Prop where
 ob:∃dx a t l o,H p=some (.ins A.ac dx [("wheel",.int wh),("axes",.ref a),("tables",.ref t),("lets",.ref l),("outs",.ref o)])/\Rep H (.ref a) (A3o ax)/\Rep H (.ref t) (B1k tb)/\(∃xs,H l=some (.lst xs)/\B8t A (λ_=>True) H xs ls)/\Rep H (.ref o) (B8k os)
theorem B4x.same {A:Adr} {H H':Hp} {p:Addr} {wh:Int} {ax:List (Str×Int)} {tb:List (Str×List Str)} {ls:List Lt} {os:List Str} (h:B4x A H p wh ax tb ls os) (s:A0w H H'):B4x A H' p wh ax tb ls os:=by
 obtain ⟨dx,a,t,l,o,e,r1,r2,⟨xs,e2,r3⟩,r4⟩:=h.ob;exact ⟨dx,a,t,l,o,s _ _ e,r1.same s,r2.same s,⟨xs,s _ _ e2,Paired.mapP r3 λ_ _ z=>z.same s⟩,r4.same s⟩
abbrev Gd:=Str×Int×Int×Bool
abbrev PT:=Tm×List Str×List Gd
def prT:Tm->List Str->List Gd->List PT
 | .sum x b,s,g=>(.sum x b,s,g)::prT b (s++[x]) g
 | .pair k l r,s,g=>(.pair k l r,s,g)::(prT l s g++prT r s g)
 | .guard x lo hi l r,s,g=>(.guard x lo hi l r,s,g)::(prT l s (g++[(x,lo,hi,true)])++prT r s (g++[(x,lo,hi,false)]))
 | .num z,s,g=>[(.num z,s,g)]
 | .place x,s,g=>[(.place x,s,g)]
 | .read a i,s,g=>[(.read a i,s,g)]
def B3o:Tm->List Str->List Gd->List PT
 | .sum x b,s,g=>[(b,s++[x],g)]
 | .pair _ l r,s,g=>[(l,s,g),(r,s,g)]
 | .guard x lo hi l r,s,g=>[(l,s,g++[(x,lo,hi,true)]),(r,s,g++[(x,lo,hi,false)])]
 | _,_,_=>[]
theorem B6n:∀(u:Tm) (s:List Str) (g:List Gd),prT u s g=(u,s,g)::(B3o u s g).flatMap λk=>prT k.1 k.2.1 k.2.2
 | .num _,_,_=>rfl
 | .place _,_,_=>rfl
 | .read _ _,_,_=>rfl
 | .sum x b,s,g=>by simp [prT,B3o]
 | .pair k l r,s,g=>by simp [prT,B3o]
 | .guard x lo hi l r,s,g=>by simp [prT,B3o]
theorem C3g {u:Tm} {s:List Str} {g:List Gd} {k:PT} (h:k∈B3o u s g):dep k.1+1<=dep u:=by
 cases u with
 | num z=>cases h
 | place x=>cases h
 | read a ix=>cases h
 | sum x b=>rw [Z0w.mp h];simp [dep]
 | pair o l r =>
  simp only [B3o,Z0e,Z1i,or_false] at h;rcases h with rfl | rfl <;> simp only [dep] <;> omega
 | guard x lo hi l r =>
  simp only [B3o,Z0e,Z1i,or_false] at h;rcases h with rfl | rfl <;> simp only [dep] <;> omega
theorem A7e:∀(u:Tm) (s:List Str) (g:List Gd),(prT u s g).length=nod u
 | .num _,_,_=>rfl
 | .place _,_,_=>rfl
 | .read _ _,_,_=>rfl
 | .sum x b,s,g=>by simp [prT,nod,A7e b]
 | .pair k l r,s,g=>by simp [prT,nod,A7e l,A7e r]
 | .guard x lo hi l r,s,g=>by simp [prT,nod,A7e l,A7e r]
def D0d (A:Adr) (H:Hp) (v:V) (g:Gd):Prop:=∃(tp go dx:Addr) (u w:V),v= .ref tp/\H tp=some (.tup [.ref go,.bl g.2.2.2])/\H go=some (.ins A.aa dx [("axis",.str g.1),("low",.int g.2.1),("high",.int g.2.2.1),("inner",u),("outer",w)])
theorem D0d.same {A:Adr} {H H':Hp} {v:V} {g:Gd} (h:D0d A H v g) (s:A0w H H'):D0d A H' v g:=by
 obtain ⟨tp,go,dx,u,w,rfl,e1,e2⟩:=h;exact ⟨tp,go,dx,u,w,rfl,s _ _ e1,s _ _ e2⟩
def A4z (A:Adr) (H:Hp) (v:V) (e:PT):Prop:=∃a dx tv sl gl gs,v= .ref a/\H a=some (.ins A.ak dx [("term",tv),("sums",.ref sl),("guards",.ref gl)])/\Ob A H tv e.1/\H sl=some (.lst (e.2.1.map V.str))/\H gl=some (.lst gs)/\gs.length+dep e.1<=100/\e.2.1.length+dep e.1<=100/\Paired (D0d A H) gs e.2.2
theorem A4z.same {A:Adr} {H H':Hp} {v:V} {e:PT} (h:A4z A H v e) (s:A0w H H'):A4z A H' v e:=by
 obtain ⟨a,dx,tv,sl,gl,gs,rfl,e1,o,e2,e3,r1,r2,r3⟩:=h;exact ⟨a,dx,tv,sl,gl,gs,rfl,s _ _ e1,o.imp s,s _ _ e2,s _ _ e3,r1,r2,Paired.mapP r3 λ_ _ z=>z.same s⟩
local macro_rules | `(tactic| walk_at "lk") => `(tactic| first | with_reducible exact lk0 | (refine lk1 (by decide +kernel) ?_; walk_at "lk") | rfl)
def B6j (K:PySem.W.Frag) (f:Str):Sp:=λvs H Q _=>∃(p C dx:Addr) (v:V),vs=[.ref p,v]/\H p=some (.ins C dx [])/\Cls K C/\A1r K C f/\Q .non (upd H p (.ins C dx [(f,v)]))
def C1e (n:Nat):Sp:=λvs H Q _=>∃(v:V) (d:PyData),vs=[v]/\Rep H v d/\PyData.depth d<=n/\cnt d<=100000/\∀(v':V) (H':Hp),A0w H H'->Rep (restr (λa=>H a=none) H') v' d->Q v' H'
def C8c (A:Adr):Sp:=λvs H Q _=>∃(a dx:Addr) (fs:List (Str×V)),vs=[.ref a]/\H a=some (.ins A.aI dx fs)/\Q (.ref a) H
def C5d (A:Adr):Sp:=λvs H Q _=>∃(p:Addr) (xs:List V),vs=[.ref p]/\H p=some (.lst xs)/\xs.length<=1000/\(∀x∈xs,∃a dx fs,x= .ref a/\H a=some (.ins A.aI dx fs))/\∀(D:Addr) (H':Hp),H D=none->A0w H H'->H' D=some (.lst xs)->Q (.ref D) H'
def B7b (K:PySem.W.Frag) (f g:Str):Sp:=λvs H Q _=>∃(p C dx:Addr) (v u:V),vs=[.ref p,v,u]/\H p=some (.ins C dx [])/\Cls K C/\A1r K C f/\A1r K C g/\Q .non (upd H p (.ins C dx [(f,v),(g,u)]))
def C3t (A:Adr):Sp:=λvs H Q _=>∃(p dx:Addr) (a b c d e:V),vs=[.ref p,a,b,c,d,e]/\H p=some (.ins A.aa dx [])/\Q .non (upd H p (.ins A.aa dx [("axis",a),("low",b),("high",c),("inner",d),("outer",e)]))
def C3y (A:Adr):Sp:=λvs H Q _=>∃(p dx l:Addr) (x:Str) (ix:List (Str×Int)),vs=[.ref p,.str x,.ref l]/\H p=some (.ins A.aj dx [])/\Rep H (.ref l) (A3o ix)/\ix.length<=1000/\
 ∀(l':Addr) (H':Hp),H' p=some (.ins A.aj dx [("array",.str x),("indexes",.ref l')])->Rep (restr (λb=>H b=none) H') (.ref l') (A3o ix)->(∀b o,b≠p->H b=some o->H' b=some o)->Q .non H'
def C2o (A:Adr):Sp:=λvs H Q _=>∃(p dx l:Addr) (n:V) (x:Str) (ys:List Str),vs=[.ref p,.str x,.ref l,n]/\H p=some (.ins A.aI dx [])/\H l=some (.lst (ys.map V.str))/\ys.length<=1000/\
 ∀(c:Addr) (H':Hp),H c=none->H' p=some (.ins A.aI dx [("name",.str x),("axes",.ref c),("term",n)])->H' c=some (.lst (ys.map V.str))->(∀b o,b≠p->H b=some o->H' b=some o)->Q .non H'
def C3z (A:Adr):Sp:=λvs H Q _=>∃(p dx a t l o:Addr) (wh:Int) (ax:List (Str×Int)) (tb:List (Str×List Str)) (xs:List V) (os:List Str),vs=[.ref p,.int wh,.ref a,.ref t,.ref l,.ref o]/\H p=some (.ins A.ac dx [])/\
 Rep H (.ref a) (A3o ax)/\ax.length<=1000/\Rep H (.ref t) (B1k tb)/\tb.length<=1000/\(∀e∈tb,e.2.length<=10)/\H l=some (.lst xs)/\xs.length<=1000/\(∀x∈xs,∃a dx fs,x= .ref a/\a≠p/\H a=some (.ins A.aI dx fs))/\Rep H (.ref o) (B8k os)/\os.length<=1000/\
 ∀(a' t' l' o':Addr) (H':Hp),H' p=some (.ins A.ac dx [("wheel",.int wh),("axes",.ref a'),("tables",.ref t'),("lets",.ref l'),("outs",.ref o')])->Rep (restr (λb=>H b=none) H') (.ref a') (A3o ax)->Rep (restr (λb=>H b=none) H') (.ref t') (B1k tb)->H l'=none->H' l'=some (.lst xs)->Rep (restr (λb=>H b=none) H') (.ref o') (B8k os)->(∀b o,b≠p->H b=some o->H' b=some o)->Q .non H'
section
variable {P:Program} {w:World} {K:PySem.W.Frag} {mg:Str->Option Value} {base:Heap} {t:Adr}
theorem B1g (T:Txt K mg t):A2f P w K mg base CX0 1 t.bY t.bP ["self","number"] (B6j K "number"):=by
 refine T.gM.ok B1h (λvs H Q E h=> ?_) (λcdv A outer s H vs Q E hr h=> ?_)
 ·obtain ⟨p,C,dx,v,rfl,_⟩:=h;rfl
 ·obtain ⟨p,C,dx,v,rfl,hp,cl,na,k⟩:=h;exact ⟨_,(A0f (A2t (pv 0) (pv 1) rfl)),_,rfl,_,rfl,p,C,dx,[],rfl,hp,cl,na,(by decide),k⟩
theorem B2s (T:Txt K mg t):A2f P w K mg base CX0 1 t.cy t.cj ["self","axis"] (B6j K "axis"):=by
 refine T.i8.ok B2p (λvs H Q E h=> ?_) (λcdv A outer s H vs Q E hr h=> ?_)
 ·obtain ⟨p,C,dx,v,rfl,_⟩:=h;rfl
 ·obtain ⟨p,C,dx,v,rfl,hp,cl,na,k⟩:=h;exact ⟨_,(A0f (A2t (pv 0) (pv 1) rfl)),_,rfl,_,rfl,p,C,dx,[],rfl,hp,cl,na,(by decide),k⟩
theorem B4d (T:Txt K mg t):A2f P w K mg base CX0 1 t.bq t.cQ ["self","left","right"] (B7b K "left" "right"):=by
 refine T.iH.ok B4s (λvs H Q E h=> ?_) (λcdv A outer s H vs Q E hr h=> ?_)
 ·obtain ⟨p,C,dx,v,u,rfl,_⟩:=h;rfl
 ·obtain ⟨p,C,dx,v,u,rfl,hp,cl,n1,n2,k⟩:=h
  refine ⟨_,(A0c (A2t (pv 0) (pv 1) rfl)
   (A0f (A2t (pv 0) (pv 2) rfl))),_,rfl,_,rfl,p,C,dx,[],rfl,hp,cl,n1,(by decide),_,rfl,_,rfl,p,C,dx,_,rfl,A0b,cl,n2,(by show 1<1000;decide),?_⟩
  show Q V.non (upd (upd H p _) p (.ins C dx (A4w "right" u (A4w "left" v []))));rw [A5r,A1s,A1q (by decide +kernel),A1s];exact k
theorem B5y (T:Txt K mg t):A2f P w K mg base CX0 1 t.eN t.eK ["self","axis","body"] (B7b K "axis" "body"):=by
 refine T.iT.ok B5d (λvs H Q E h=> ?_) (λcdv A outer s H vs Q E hr h=> ?_)
 ·obtain ⟨p,C,dx,v,u,rfl,_⟩:=h;rfl
 ·obtain ⟨p,C,dx,v,u,rfl,hp,cl,n1,n2,k⟩:=h
  refine ⟨_,(A0c (A2t (pv 0) (pv 1) rfl)
   (A0f (A2t (pv 0) (pv 2) rfl))),_,rfl,_,rfl,p,C,dx,[],rfl,hp,cl,n1,(by decide),_,rfl,_,rfl,p,C,dx,_,rfl,A0b,cl,n2,(by show 1<1000;decide),?_⟩
  show Q V.non (upd (upd H p _) p (.ins C dx (A4w "body" u (A4w "axis" v []))));rw [A5r,A1s,A1q (by decide +kernel),A1s];exact k
theorem B3a (T:Txt K mg t):A2f P w K mg base CX0 1 t.cn t.cw ["self","axis","low","high","inner","outer"] (C3t t):=by
 refine T.ig.ok B3c (λvs H Q E h=> ?_) (λcdv A outer s H vs Q E hr h=> ?_)
 ·obtain ⟨p,dx,a,b,c,d,e,rfl,_⟩:=h;rfl
 ·obtain ⟨p,dx,a,b,c,d,e,rfl,hp,k⟩:=h;have e1:A4w "low" b (A4w "axis" a [])=([("axis",a),("low",b)]:List (Str×V)):=by rw [A1s,A1q (by decide +kernel),A1s]
  have e2:A4w "high" c ([("axis",a),("low",b)]:List (Str×V))=([("axis",a),("low",b),("high",c)]:List (Str×V)):=by rw [A1q (by decide +kernel),A1q (by decide +kernel),A1s]
  have e3:A4w "inner" d ([("axis",a),("low",b),("high",c)]:List (Str×V))=([("axis",a),("low",b),("high",c),("inner",d)]:List (Str×V)):=by rw [A1q (by decide +kernel),A1q (by decide +kernel),A1q (by decide +kernel),A1s]
  have e4:A4w "outer" e ([("axis",a),("low",b),("high",c),("inner",d)]:List (Str×V))=([("axis",a),("low",b),("high",c),("inner",d),("outer",e)]:List (Str×V)):=by rw [A1q (by decide +kernel),A1q (by decide +kernel),A1q (by decide +kernel),A1q (by decide +kernel),A1s]
  refine ⟨_,(A0c (A2t (pv 0) (pv 1) rfl)
   (A0c (A2t (pv 0) (pv 2) rfl)
   (A0c (A2t (pv 0) (pv 3) rfl)
   (A0c (A2t (pv 0) (pv 4) rfl)
   (A0f (A2t (pv 0) (pv 5) rfl)))))),_,rfl,_,rfl,p,_,dx,[],rfl,hp,T.aF,T.dX,(by decide),_,rfl,_,rfl,p,_,dx,_,rfl,A0b,T.aF,T.im,(by show 1<1000;decide),?_⟩
  rw [A5r,e1];refine ⟨_,rfl,_,rfl,p,_,dx,_,rfl,A0b,T.aF,T.gz,(by show 2<1000;decide),?_⟩;rw [A5r,e2];refine ⟨_,rfl,_,rfl,p,_,dx,_,rfl,A0b,T.aF,T.dq,(by show 3<1000;decide),?_⟩;rw [A5r,e3];refine ⟨_,rfl,_,rfl,p,_,dx,_,rfl,A0b,T.aF,T.dG,(by show 4<1000;decide),?_⟩;show Q V.non (upd (upd H p _) p _);rw [A5r,e4];exact k
theorem A4j {T:String} (h:T="NoneType"\/T="bool"\/T="int"\/T="str"\/T="tuple"):∀u,A2v (.ty "list") u->PySem.W.kitOne K (.type T) u=some false:=by
 rcases h with rfl | rfl | rfl | rfl | rfl <;> exact C0r (by decide +kernel) (by decide +kernel) (by decide +kernel)
theorem A4x {T:String} (h:T="NoneType"\/T="bool"\/T="int"\/T="str"):∀u,A2v (.ty "tuple") u->PySem.W.kitOne K (.type T) u=some false:=by
 rcases h with rfl | rfl | rfl | rfl <;> exact C0r (by decide +kernel) (by decide +kernel) (by decide +kernel)
theorem A5u {T:String} (h:T="NoneType"\/T="bool"\/T="int"\/T="str"):∀u,A2v (.ty "dict") u->PySem.W.kitOne K (.type T) u=some false:=by
 rcases h with rfl | rfl | rfl | rfl <;> exact C0r (by decide +kernel) (by decide +kernel) (by decide +kernel)
theorem B6m (T:Txt K mg t) {m n:Nat} {sp':Sp} (G_copied:A2f P w K mg base CX0 m t.bc t.be ["value"] sp')
  (hs:∀(v:V) (d:PyData) (H:Hp) (Q:VK),Rep H v d->PyData.depth d+1<=n->cnt d<=100000->(∀(v':V) (H':Hp),A0w H H'->Rep (restr (λa=>H a=none) H') v' d->Q v' H')->sp' [v] H Q E0) :
  A2f P w K mg base CX0 (m+1) t.bc t.be ["value"] (C1e n):=by
 refine T.az.ok B0l (λvs H Q E h=> ?_) (λcdv A outer s H vs Q E hr h=> ?_)
 ·obtain ⟨v,d,rfl,_⟩:=h;rfl
 ·obtain ⟨v,d,rfl,rp,hd,hc,k⟩:=h
  refine ⟨_,(A0c (A1f (A2d (A0u A1o (by rfl) T.ae Z0d (A0a (pv 0) (A0a (A4v (v:=V.ty "list") rfl T.dF Z1o rfl) A0e))))
    (A0f (A0v (A2x (N':=["member"]) (ix:=(List.replicate 1 none)) rfl (A2j rfl (by decide +kernel) (by decide +kernel)) (A2m rfl) (B1r (pv 0)) (λ_ _ _ _=>(A1a (i:=0) A5j rfl (Or.inl rfl) (Or.inr rfl))) (λ_ _ _ _=>(A0p G_copied (hr.mono (by omega)) rfl T.aJ T.az.kp T.aH .nil A1e (A0a (pv 0) A0e))))))
    A0n)
   (A0c (A1f (A2d (A0u A1o (by rfl) T.ae Z0d (A0a (pv 0) (A0a (A4v (v:=V.ty "tuple") rfl T.dM Z0m rfl) A0e))))
    (A0f (A0v (A3l A6a (by rfl) T.dM Z0m (A0a (A2x (N':=["member"]) (ix:=(List.replicate 1 none)) rfl (A2j rfl (by decide +kernel) (by decide +kernel)) (A2m rfl) (B1r (pv 0)) (λ_ _ _ _=>(A1a (i:=0) A5j rfl (Or.inl rfl) (Or.inr rfl))) (λ_ _ _ _=>(A0p G_copied (hr.mono (by omega)) rfl T.aJ T.az.kp T.aH .nil A1e (A0a (pv 0) A0e)))) A0e))))
    A0n)
   (A0c (A1f (A2d (A0u A1o (by rfl) T.ae Z0d (A0a (pv 0) (A0a (A4v (v:=V.ty "dict") rfl T.i9 PyProof.Rows.boot_dict rfl) A0e))))
    (A0f A8u)
    A0n)
   (A0f (A0v (pv 0)))))),?_⟩
  cases rp with
  | non =>
   refine ⟨_,rfl,_,_,_,_,rfl,.non,A4j (.inl rfl),false,rfl,A2q ?_⟩;refine ⟨_,rfl,_,_,_,_,rfl,.non,A4x (.inl rfl),false,rfl,A2q ?_⟩;exact ⟨_,rfl,_,_,_,_,rfl,.non,A5u (.inl rfl),false,rfl,A2q ⟨_,rfl,k _ _ (A0w.refl _) .non⟩⟩
  | bl b =>
   refine ⟨_,rfl,_,_,_,_,rfl,.bl b,A4j (.inr (.inl rfl)),false,rfl,A2q ?_⟩;refine ⟨_,rfl,_,_,_,_,rfl,.bl b,A4x (.inr (.inl rfl)),false,rfl,A2q ?_⟩;exact ⟨_,rfl,_,_,_,_,rfl,.bl b,A5u (.inr (.inl rfl)),false,rfl,A2q ⟨_,rfl,k _ _ (A0w.refl _) (.bl b)⟩⟩
  | int b =>
   refine ⟨_,rfl,_,_,_,_,rfl,.int b,A4j (.inr (.inr (.inl rfl))),false,rfl,A2q ?_⟩;refine ⟨_,rfl,_,_,_,_,rfl,.int b,A4x (.inr (.inr (.inl rfl))),false,rfl,A2q ?_⟩;exact ⟨_,rfl,_,_,_,_,rfl,.int b,A5u (.inr (.inr (.inl rfl))),false,rfl,A2q ⟨_,rfl,k _ _ (A0w.refl _) (.int b)⟩⟩
  | str b =>
   refine ⟨_,rfl,_,_,_,_,rfl,.str b,A4j (.inr (.inr (.inr (.inl rfl)))),false,rfl,A2q ?_⟩;refine ⟨_,rfl,_,_,_,_,rfl,.str b,A4x (.inr (.inr (.inr rfl))),false,rfl,A2q ?_⟩;exact ⟨_,rfl,_,_,_,_,rfl,.str b,A5u (.inr (.inr (.inr rfl))),false,rfl,A2q ⟨_,rfl,k _ _ (A0w.refl _) (.str b)⟩⟩
  | @lst p xs ds e r =>
   have hl1:=r.len;have hl2:=B5e ds;have hc':A3g ds+1<=100000:=hc;have hd':PyData.depthAll ds+1<=n:=hd;refine ⟨_,rfl,_,_,_,_,rfl,.lst e,B2w "list",true,rfl,A8y ?_⟩;refine .inl ⟨_,rfl,p,rfl,⟨_,SqL.of e⟩,λD hD=> ?_⟩
   refine A4g (K:=K) (a:=p) (D:=D) (xs:=xs) (λi ys H2=>A0w H H2/\H2 D=some (.lst ys)/\A3x (restr (λa=>H a=none/\a≠D) H2) ys (ds.take i)/\ys.length=i)
    ⟨A0d hD,A0b,(by rw [List.take_zero];exact .nil),rfl⟩ (λi ys H2 ⟨s2,_⟩=>SqL.of (s2 _ _ e)) ?_ ?_
   ·rintro i x ys H2 hx ⟨s2,hD2,rs,hyl⟩;obtain ⟨d,hdi,rx⟩:=r.get2 hx;obtain ⟨c1,c2⟩:=C0j hdi;have hi:i<xs.length:=(Z03.mp hx).1;refine ⟨True.intro,_,rfl,hs x d H2 _ (rx.same s2) (by omega) (by omega) λv' H5 s5 rp5=> ?_⟩;have hnS:¬(H D=none/\D≠D):=λz=>z.2 rfl;refine ⟨s5 _ _ hD2,A1h (by omega),A0t (s2.trans s5) hD,A0b,?_,by simp [hyl]⟩;rw [Z14,hdi];show A3x _ (ys++[v']) (ds.take i++[d]);refine (rs.same (A6v (A0m s5) hnS)).snoc (rp5.same ((A6z (A0w.refl _) λa o _ ha=>⟨s2.free ha,λz=> ?_⟩).trans (A6v (A0w.refl _) hnS)));subst z;rw [hD2] at ha;cases ha
   ·rintro ys H2 ⟨s2,hD2,rs,hyl⟩;refine k (.ref D) H2 s2 (.lst (A0l hD hD2) ?_);rw [hl1,Z18] at rs;exact rs.same (A6z (A0w.refl _) λa o _ h=>h.1)
  | @tup p xs ds e r =>
   have hl1:=r.len;have hl2:=B5e ds;have hc':A3g ds+1<=100000:=hc;have hd':PyData.depthAll ds+1<=n:=hd;refine ⟨_,rfl,_,_,_,_,rfl,.tup e,A4j (.inr (.inr (.inr (.inr rfl)))),false,rfl,A2q ?_⟩;refine ⟨_,rfl,_,_,_,_,rfl,.tup e,B2w "tuple",true,rfl,A8y ?_⟩;refine .inr ⟨_,rfl,p,rfl,⟨_,SqT.of e⟩,λD hD=> ?_⟩
   refine B9t (K:=K) (a:=p) (D:=D) (xs:=xs) (λi ys H2=>A0w H H2/\H2 D=some (.lst ys)/\A3x (restr (λa=>H a=none/\a≠D) H2) ys (ds.take i)/\ys.length=i)
    ⟨A0d hD,A0b,(by rw [List.take_zero];exact .nil),rfl⟩ (λi ys H2 ⟨s2,_⟩=>SqT.of (s2 _ _ e)) ?_ ?_
   ·rintro i x ys H2 hx ⟨s2,hD2,rs,hyl⟩;obtain ⟨d,hdi,rx⟩:=r.get2 hx;obtain ⟨c1,c2⟩:=C0j hdi;have hi:i<xs.length:=(Z03.mp hx).1;refine ⟨True.intro,_,rfl,hs x d H2 _ (rx.same s2) (by omega) (by omega) λv' H5 s5 rp5=> ?_⟩;have hnS:¬(H D=none/\D≠D):=λz=>z.2 rfl;refine ⟨s5 _ _ hD2,A1h (by omega),A0t (s2.trans s5) hD,A0b,?_,by simp [hyl]⟩;rw [Z14,hdi];show A3x _ (ys++[v']) (ds.take i++[d]);refine (rs.same (A6v (A0m s5) hnS)).snoc (rp5.same ((A6z (A0w.refl _) λa o _ ha=>⟨s2.free ha,λz=> ?_⟩).trans (A6v (A0w.refl _) hnS)));subst z;rw [hD2] at ha;cases ha
   ·rintro ys H2 ⟨s2,hD2,rs,hyl⟩;refine ⟨D,ys,rfl,.inl ⟨SqL.of hD2,λl hl=> ?_⟩⟩;refine k (.ref l) _ (s2.trans (A0d hl)) (.tup (A0l (s2.free hl) A0b) ?_);rw [hl1,Z18] at rs;exact rs.same ((A6z (A0w.refl _) λa o _ h=>h.1).trans (A0m (A0d hl)))
theorem B0w (T:Txt K mg t):∀n:Nat,A2f P w K mg base CX0 (n+1) t.bc t.be ["value"] (C1e n)
 | 0=>B6m T (sp':=λ_ _ _ _=>False) (m:=0) (A2f.none λ_ _ _ _ h=>h) λv d H Q _ h=>absurd h (by omega)
 | n+1=>B6m T (B0w T n) λv d H Q rp hd hc k=>⟨v,d,rfl,rp,by omega,hc,k⟩
theorem B4t (T:Txt K mg t):A2f P w K mg base CX0 5 t.da t.cW ["self","array","indexes"] (C3y t):=by
 have G_copied:=B0w (P:=P) (w:=w) (base:=base) T 2;refine T.ip.ok B4p (λvs H Q E h=> ?_) (λcdv A outer s H vs Q E hr h=> ?_)
 ·obtain ⟨p,dx,l,x,ix,rfl,_⟩:=h;rfl
 ·obtain ⟨p,dx,l,x,ix,rfl,hp,rp,hix,k⟩:=h;have hcn:=C4k (ix:=ix)
  refine ⟨_,(A0c (A2t (pv 0) (pv 1) rfl)
   (A0f (A2t (pv 0) (A0p G_copied (hr.mono (by omega)) rfl T.aJ T.az.kp T.aH .nil A1e (A0a (pv 2) A0e)) rfl))),_,rfl,_,rfl,p,_,dx,[],rfl,hp,T.bp,T.bZ,(by decide),?_⟩
  refine ⟨_,rfl,.ref l,A3o ix,rfl,rp.ins hp,C2q,by omega,λv' H2 s2 rp2=> ?_⟩;have hp2:=s2 _ _ (A0b (H:=H) (a:=p));obtain ⟨l',xs,rfl,el,rs⟩:=A4a (show Rep _ v' (.list (ix.map A9q)) from rp2);refine ⟨_,rfl,p,_,dx,_,rfl,hp2,T.bp,T.bu,(by show 1<1000;decide),?_⟩;show Q V.non (upd H2 p (.ins t.aj dx (A4w "indexes" (.ref l') (A4w "array" (.str x) []))));rw [A1s,A1q (by decide +kernel),A1s]
  have fr:∀{q:Addr},upd H p (.ins t.aj dx (A4w "array" (.str x) [])) q=none->H q=none:=λ{q} z=>by
   by_cases zb:q=p
   ·subst zb;rw [A0b] at z;cases z
   ·rw [A0j zb] at z;exact z
  refine k l' _ A0b (rp2.imp2 (λq ys z=>A0l (fr (A0k z).1) (by rw [A0j (A1l (A0k z).2 hp2 (by intro z;cases z))];exact (A0k z).2)) λq ys z=>A0l (fr (A0k z).1) (by rw [A0j (A1l (A0k z).2 hp2 (by intro z;cases z))];exact (A0k z).2)) λb o hb e=> ?_;rw [A0j hb];exact s2 _ _ (by rw [A0j hb];exact e)
theorem C6n (T:Txt K mg t):A2f P w K mg base CX0 1 t.bc t.be ["value"] (C8c t):=by
 refine T.az.ok B0l (λvs H Q E h=> ?_) (λcdv A outer s H vs Q E hr h=> ?_)
 ·obtain ⟨a,dx,fs,rfl,_⟩:=h;rfl
 ·obtain ⟨a,dx,fs,rfl,e,k⟩:=h;have G_copied:A2f P w K mg base CX0 0 t.bc t.be ["value"] (λ_ _ _ _=>False):=A2f.none λ_ _ _ _ h=>h;have ty:A7z K H (.ref a) (.ref t.aI):= .ins e T.ba T.ii.ha T.ii.hn T.ii.htk T.ii.hm
  refine ⟨_,(A0c (A1f (A2d (A0u A1o (by rfl) T.ae Z0d (A0a (pv 0) (A0a (A4v (v:=V.ty "list") rfl T.dF Z1o rfl) A0e))))
    (A0f (A0v (A2x (N':=["member"]) (ix:=(List.replicate 1 none)) rfl (A2j rfl (by decide +kernel) (by decide +kernel)) (A2m rfl) (B1r (pv 0)) (λ_ _ _ _=>(A1a (i:=0) A5j rfl (Or.inl rfl) (Or.inr rfl))) (λ_ _ _ _=>(A0p G_copied (hr.mono (by omega)) rfl T.aJ T.az.kp T.aH .nil A1e (A0a (pv 0) A0e))))))
    A0n)
   (A0c (A1f (A2d (A0u A1o (by rfl) T.ae Z0d (A0a (pv 0) (A0a (A4v (v:=V.ty "tuple") rfl T.dM Z0m rfl) A0e))))
    (A0f (A0v (A3l A6a (by rfl) T.dM Z0m (A0a (A2x (N':=["member"]) (ix:=(List.replicate 1 none)) rfl (A2j rfl (by decide +kernel) (by decide +kernel)) (A2m rfl) (B1r (pv 0)) (λ_ _ _ _=>(A1a (i:=0) A5j rfl (Or.inl rfl) (Or.inr rfl))) (λ_ _ _ _=>(A0p G_copied (hr.mono (by omega)) rfl T.aJ T.az.kp T.aH .nil A1e (A0a (pv 0) A0e)))) A0e))))
    A0n)
   (A0c (A1f (A2d (A0u A1o (by rfl) T.ae Z0d (A0a (pv 0) (A0a (A4v (v:=V.ty "dict") rfl T.i9 PyProof.Rows.boot_dict rfl) A0e))))
    (A0f A8u)
    A0n)
   (A0f (A0v (pv 0)))))),?_⟩
  refine ⟨_,rfl,_,_,_,_,rfl,ty,B4w T.ir (by decide +kernel),false,rfl,A2q ?_⟩;refine ⟨_,rfl,_,_,_,_,rfl,ty,B4w T.ie (by decide +kernel),false,rfl,A2q ?_⟩;exact ⟨_,rfl,_,_,_,_,rfl,ty,B4w T.iz (by decide +kernel),false,rfl,A2q ⟨_,rfl,k⟩⟩
theorem C6v (T:Txt K mg t):A2f P w K mg base CX0 2 t.bc t.be ["value"] (C5d t):=by
 have G_copied:=C6n (P:=P) (w:=w) (base:=base) T;refine T.az.ok B0l (λvs H Q E h=> ?_) (λcdv A outer s H vs Q E hr h=> ?_)
 ·obtain ⟨p,xs,rfl,_⟩:=h;rfl
 ·obtain ⟨p,xs,rfl,e,hl,hx,k⟩:=h
  refine ⟨_,(A0c (A1f (A2d (A0u A1o (by rfl) T.ae Z0d (A0a (pv 0) (A0a (A4v (v:=V.ty "list") rfl T.dF Z1o rfl) A0e))))
    (A0f (A0v (A2x (N':=["member"]) (ix:=(List.replicate 1 none)) rfl (A2j rfl (by decide +kernel) (by decide +kernel)) (A2m rfl) (B1r (pv 0)) (λ_ _ _ _=>(A1a (i:=0) A5j rfl (Or.inl rfl) (Or.inr rfl))) (λ_ _ _ _=>(A0p G_copied (hr.mono (by omega)) rfl T.aJ T.az.kp T.aH .nil A1e (A0a (pv 0) A0e))))))
    A0n)
   (A0c (A1f (A2d (A0u A1o (by rfl) T.ae Z0d (A0a (pv 0) (A0a (A4v (v:=V.ty "tuple") rfl T.dM Z0m rfl) A0e))))
    (A0f (A0v (A3l A6a (by rfl) T.dM Z0m (A0a (A2x (N':=["member"]) (ix:=(List.replicate 1 none)) rfl (A2j rfl (by decide +kernel) (by decide +kernel)) (A2m rfl) (B1r (pv 0)) (λ_ _ _ _=>(A1a (i:=0) A5j rfl (Or.inl rfl) (Or.inr rfl))) (λ_ _ _ _=>(A0p G_copied (hr.mono (by omega)) rfl T.aJ T.az.kp T.aH .nil A1e (A0a (pv 0) A0e)))) A0e))))
    A0n)
   (A0c (A1f (A2d (A0u A1o (by rfl) T.ae Z0d (A0a (pv 0) (A0a (A4v (v:=V.ty "dict") rfl T.i9 PyProof.Rows.boot_dict rfl) A0e))))
    (A0f A8u)
    A0n)
   (A0f (A0v (pv 0)))))),?_⟩
  refine ⟨_,rfl,_,_,_,_,rfl,.lst e,B2w "list",true,rfl,A8y ?_⟩;refine .inl ⟨_,rfl,p,rfl,⟨_,SqL.of e⟩,λD hD=> ?_⟩
  refine A4g (K:=K) (a:=p) (D:=D) (xs:=xs) (λi ys H2=>A0w H H2/\H2 D=some (.lst ys)/\ys=xs.take i)
   ⟨A0d hD,A0b,rfl⟩ (λi ys H2 ⟨s2,_⟩=>SqL.of (s2 _ _ e)) ?_ ?_
  ·rintro i x ys H2 hxi ⟨s2,hD2,rfl⟩;obtain ⟨a,dx,fs,rfl,ea⟩:=hx x (Z13 hxi);have hlt:(xs.take i).length<=xs.length:=by rw [Z0x];omega
   refine ⟨True.intro,_,rfl,a,dx,fs,rfl,s2 _ _ ea,hD2,A1h (by omega),A0t s2 hD,A0b,?_⟩;rw [Z14,hxi];rfl
  ·rintro ys H2 ⟨s2,hD2,rfl⟩;rw [Z18] at hD2;exact k D H2 hD s2 hD2
theorem C4y (T:Txt K mg t):A2f P w K mg base CX0 4 t.bc t.be ["value"] (λvs H Q E=>C1e 3 vs H Q E\/C5d t vs H Q E):=A2f.or (B0w T 3) ((C6v T).mono (by omega))
theorem B5t (T:Txt K mg t):A2f P w K mg base CX0 5 t.eJ t.eC ["self","name","axes","term"] (C2o t):=by
 have G_copied:=C4y (P:=P) (w:=w) (base:=base) T;refine T.iW.ok B5h (λvs H Q E h=> ?_) (λcdv A outer s H vs Q E hr h=> ?_)
 ·obtain ⟨p,dx,l,n,x,ys,rfl,_⟩:=h;rfl
 ·obtain ⟨p,dx,l,n,x,ys,rfl,hp,hl,hy,k⟩:=h;obtain ⟨c2,c3⟩:=C0m ys;have lp:l≠p:=A1l hl hp (by intro z;cases z)
  refine ⟨_,(A0c (A2t (pv 0) (pv 1) rfl)
   (A0c (A2t (pv 0) (A0p G_copied (hr.mono (by omega)) rfl T.aJ T.az.kp T.aH .nil A1e (A0a (pv 2) A0e)) rfl)
   (A0f (A2t (pv 0) (pv 3) rfl)))),_,rfl,_,rfl,p,_,dx,[],rfl,hp,T.ba,T.aX,(by decide),?_⟩
  refine ⟨_,rfl,.inl ⟨.ref l,B8k ys,rfl,(C5m hl).ins hp,by omega,by omega,λv' H2 s2 rp2=> ?_⟩⟩;have hp2:=s2 _ _ (A0b (H:=H) (a:=p));obtain ⟨c,rfl,ec⟩:=C3e rp2;obtain ⟨hc0,ec⟩:=A0k ec
  have hcn:H c=none:=by
   by_cases z:c=p
   ·subst z;rw [A0b] at hc0;cases hc0
   ·rw [A0j z] at hc0;exact hc0
  have cp:c≠p:=λz=>by subst z;rw [hp] at hcn;cases hcn
  refine ⟨_,rfl,p,_,dx,_,rfl,hp2,T.ba,T.bM,(by show 1<1000;decide),?_⟩;refine ⟨_,rfl,_,rfl,p,_,dx,_,rfl,A0b,T.ba,T.cV,(by show 2<1000;decide),?_⟩;show Q V.non (upd (upd H2 p _) p (.ins t.aI dx (A4w "term" n (A4w "axes" (.ref c) (A4w "name" (.str x) [])))));have e1:A4w "axes" (V.ref c) (A4w "name" (.str x) [])=([("name",.str x),("axes",.ref c)]:List (Str×V)):=by rw [A1s,A1q (by decide +kernel),A1s]
  have e2:A4w "term" n ([("name",.str x),("axes",.ref c)]:List (Str×V))=([("name",.str x),("axes",.ref c),("term",n)]:List (Str×V)):=by rw [A1q (by decide +kernel),A1q (by decide +kernel),A1s]
  rw [A5r,e1,e2];refine k c _ hcn A0b (by rw [A0j cp];exact ec) λb o hb e=> ?_;rw [A0j hb];exact s2 _ _ (by rw [A0j hb];exact e)
theorem B0v (T:Txt K mg t):A2f P w K mg base CX0 5 t.bJ t.bK ["self","wheel","axes","tables","lets","outs"] (C3z t):=by
 have G_copied:=C4y (P:=P) (w:=w) (base:=base) T;refine T.g5.ok B0j (λvs H Q E h=> ?_) (λcdv A outer s H vs Q E hr h=> ?_)
 ·obtain ⟨p,dx,a,tt,l,o,wh,ax,tb,xs,os,rfl,_⟩:=h;rfl
 ·obtain ⟨p,dx,a,tt,l,o,wh,ax,tb,xs,os,rfl,hp,ra,la,rt,lt,lt2,hl,ll,hx,ro,lo,k⟩:=h;have a2:=B6k ax;have a3:=C4k (ix:=ax);obtain ⟨t2,t3⟩:=C3a tb lt2;obtain ⟨o2,o3⟩:=C0m os
  have fr:∀{H':Hp} {u:HO} {b:Addr},A0w (upd H p u) H'->H' b=none->H b=none:=λ{H' u b} s z=>by
   have z2:=s.free z;by_cases zb:b=p
   ·subst zb;rw [A0b] at z2;cases z2
   ·rw [A0j zb] at z2;exact z2
  have e1:∀v:V,A4w "axes" v [("wheel",.int wh)]=([("wheel",.int wh),("axes",v)]:List (Str×V)):=λv=>by rw [A1q (by decide +kernel),A1s]
  have e2:∀u v:V,A4w "tables" v [("wheel",.int wh),("axes",u)]=([("wheel",.int wh),("axes",u),("tables",v)]:List (Str×V)):=λu v=>by rw [A1q (by decide +kernel),A1q (by decide +kernel),A1s]
  have e3:∀u1 u v:V,A4w "lets" v [("wheel",.int wh),("axes",u1),("tables",u)]=([("wheel",.int wh),("axes",u1),("tables",u),("lets",v)]:List (Str×V)):=λu1 u v=>by rw [A1q (by decide +kernel),A1q (by decide +kernel),A1q (by decide +kernel),A1s]
  have e4:∀u1 u2 u v:V,A4w "outs" v [("wheel",.int wh),("axes",u1),("tables",u2),("lets",u)]=([("wheel",.int wh),("axes",u1),("tables",u2),("lets",u),("outs",v)]:List (Str×V)):=λu1 u2 u v=>by rw [A1q (by decide +kernel),A1q (by decide +kernel),A1q (by decide +kernel),A1q (by decide +kernel),A1s]
  refine ⟨_,(A0c (A2t (pv 0) (pv 1) rfl)
   (A0c (A2t (pv 0) (A0p G_copied (hr.mono (by omega)) rfl T.aJ T.az.kp T.aH .nil A1e (A0a (pv 2) A0e)) rfl)
   (A0c (A2t (pv 0) (A0p G_copied (hr.mono (by omega)) rfl T.aJ T.az.kp T.aH .nil A1e (A0a (pv 3) A0e)) rfl)
   (A0c (A2t (pv 0) (A0p G_copied (hr.mono (by omega)) rfl T.aJ T.az.kp T.aH .nil A1e (A0a (pv 4) A0e)) rfl)
   (A0f (A2t (pv 0) (A0p G_copied (hr.mono (by omega)) rfl T.aJ T.az.kp T.aH .nil A1e (A0a (pv 5) A0e)) rfl)))))),_,rfl,_,rfl,p,_,dx,[],rfl,hp,T.ao,T.fz,(by decide),?_⟩
  rw [A1s];refine ⟨_,rfl,.inl ⟨.ref a,A3o ax,rfl,ra.ins hp,by omega,by omega,λva H2 s2 rp2=> ?_⟩⟩;have hp2:=s2 _ _ (A0b (H:=H) (a:=p));obtain ⟨a',xa,rfl,ea,_⟩:=A4a (show Rep _ va (.list (ax.map A9q)) from rp2);refine ⟨_,rfl,p,_,dx,_,rfl,hp2,T.ao,T.cO,(by show 1<1000;decide),?_⟩;rw [e1];have sA:∀b u,b≠p->H b=some u->upd H2 p (.ins t.ac dx [("wheel",.int wh),("axes",.ref a')]) b=some u:=λb u hb e=>by rw [A0j hb];exact s2 _ _ (by rw [A0j hb];exact e)
  have rA:Rep (restr (λb=>H b=none) (upd H2 p (.ins t.ac dx [("wheel",.int wh),("axes",.ref a')]))) (.ref a') (A3o ax):=by
   refine rp2.imp2 (λq ys z=> ?_) λq ys z=> ?_
   ·obtain ⟨z1,z2⟩:=A0k z;have hq:H q=none:=fr (A0w.refl _) z1;exact A0l hq (by rw [A0j (A1l z2 hp2 (by intro z;cases z))];exact z2)
   ·obtain ⟨z1,z2⟩:=A0k z;have hq:H q=none:=fr (A0w.refl _) z1;exact A0l hq (by rw [A0j (A1l z2 hp2 (by intro z;cases z))];exact z2)
  have nap:∀{b:Addr} {u:HO},H b=some u->(∀C d fs,u≠.ins C d fs)->b≠p:=λe n z=>by subst z;rw [hp] at e;cases e;exact n _ _ _ rfl
  have rt2:Rep (upd H2 p (.ins t.ac dx [("wheel",.int wh),("axes",.ref a')])) (.ref tt) (B1k tb):=rt.imp2 (λq ys z=>sA _ _ (nap z (by intros;intro z;cases z)) z) λq ys z=>sA _ _ (nap z (by intros;intro z;cases z)) z;refine ⟨_,rfl,.inl ⟨.ref tt,B1k tb,rfl,rt2,by omega,by omega,λvt H3 s3 rp3=> ?_⟩⟩;have hp3:=s3 _ _ (A0b (H:=H2) (a:=p));obtain ⟨t',xt,rfl,et,_⟩:=A4a (show Rep _ vt (.list (tb.map B6g)) from rp3);refine ⟨_,rfl,p,_,dx,_,rfl,hp3,T.ao,T.aL,(by show 2<1000;decide),?_⟩;rw [e2]
  have f3:∀{b:Addr},upd H2 p (.ins t.ac dx [("wheel",.int wh),("axes",.ref a')]) b=none->H b=none:=λ{b} z=>by
   by_cases zb:b=p
   ·subst zb;rw [A0b] at z;cases z
   ·rw [A0j zb] at z;exact fr s2 z
  have mv3:∀{v:V} {d:PyData} {G:Hp},A0w G H3->(∀b o,G b=some o->H b=none)->Rep G v d->Rep (restr (λb=>H b=none) (upd H3 p (.ins t.ac dx [("wheel",.int wh),("axes",.ref a'),("tables",.ref t')]))) v d:=λ{v d G} sg hg r=>r.imp2 (λq ys z=>A0l (hg _ _ z) (by rw [A0j (A1l (sg _ _ z) hp3 (by intro z;cases z))];exact sg _ _ z)) λq ys z=>A0l (hg _ _ z) (by rw [A0j (A1l (sg _ _ z) hp3 (by intro z;cases z))];exact sg _ _ z);have sB:∀b u,b≠p->H b=some u->upd H3 p (.ins t.ac dx [("wheel",.int wh),("axes",.ref a'),("tables",.ref t')]) b=some u:=λb u hb e=>by rw [A0j hb];exact s3 _ _ (sA b u hb e)
  have rA3:=mv3 (A1g.trans s3) (λb o z=>(A0k z).1) rA;have rT3:=mv3 A1g (λb o z=>f3 (A0k z).1) rp3;refine ⟨_,rfl,.inr ⟨l,xs,rfl,sB _ _ (nap hl (by intros;intro z;cases z)) hl,ll,λx hxx=> ?_,λl' H4 hl' s4 hl4=> ?_⟩⟩
  ·obtain ⟨b,db,fs,rfl,nb,eb⟩:=hx x hxx;exact ⟨b,db,fs,rfl,sB _ _ nb eb⟩
  have hp4:=s4 _ _ (A0b (H:=H3) (a:=p));refine ⟨_,rfl,p,_,dx,_,rfl,hp4,T.ao,T.aT,(by show 3<1000;decide),?_⟩;rw [e3]
  have hln:H l'=none:=by
   by_cases zb:l'=p
   ·subst zb;rw [A0b] at hl';cases hl'
   ·rw [A0j zb] at hl';exact f3 (s3.free hl')
  have lp:l'≠p:=λz=>by subst z;rw [hp] at hln;cases hln
  have sC:∀b u,b≠p->H b=some u->upd H4 p (.ins t.ac dx [("wheel",.int wh),("axes",.ref a'),("tables",.ref t'),("lets",.ref l')]) b=some u:=λb u hb e=>by rw [A0j hb];exact s4 _ _ (sB b u hb e)
  have ro4:Rep (upd H4 p (.ins t.ac dx [("wheel",.int wh),("axes",.ref a'),("tables",.ref t'),("lets",.ref l')])) (.ref o) (B8k os):=ro.imp2 (λq ys z=>sC _ _ (nap z (by intros;intro z;cases z)) z) λq ys z=>sC _ _ (nap z (by intros;intro z;cases z)) z;refine ⟨_,rfl,.inl ⟨.ref o,B8k os,rfl,ro4,by omega,by omega,λvo H5 s5 rp5=> ?_⟩⟩;have hp5:=s5 _ _ (A0b (H:=H4) (a:=p));obtain ⟨o',rfl,eo⟩:=C3e rp5;refine ⟨_,rfl,p,_,dx,_,rfl,hp5,T.ao,T.cK,(by show 4<1000;decide),?_⟩;show Q V.non (upd H5 p _);rw [e4]
  have f5:∀{b:Addr},upd H4 p (.ins t.ac dx [("wheel",.int wh),("axes",.ref a'),("tables",.ref t'),("lets",.ref l')]) b=none->H b=none:=λ{b} z=>by
   by_cases zb:b=p
   ·subst zb;rw [A0b] at z;cases z
   ·rw [A0j zb] at z;have z:=s4.free z;rw [A0j zb] at z;exact f3 (s3.free z)
  have mv5:∀{v:V} {d:PyData} {G:Hp},(∀b xs,G b=some (.lst xs)->H5 b=some (.lst xs))->(∀b xs,G b=some (.tup xs)->H5 b=some (.tup xs))->(∀b o,G b=some o->H b=none)->Rep G v d->Rep (restr (λb=>H b=none) (upd H5 p (.ins t.ac dx [("wheel",.int wh),("axes",.ref a'),("tables",.ref t'),("lets",.ref l'),("outs",.ref o')]))) v d:=λ{v d G} s1 s2 hg r=>r.imp2 (λq ys z=>A0l (hg _ _ z) (by rw [A0j (A1l (s1 _ _ z) hp5 (by intro z;cases z))];exact s1 _ _ z)) λq ys z=>A0l (hg _ _ z) (by rw [A0j (A1l (s2 _ _ z) hp5 (by intro z;cases z))];exact s2 _ _ z)
  have up4:∀{b:Addr} {u:HO},(∀C d fs,u≠.ins C d fs)->upd H3 p (.ins t.ac dx [("wheel",.int wh),("axes",.ref a'),("tables",.ref t')]) b=some u->H5 b=some u:=λ{b u} n z=>s5 _ _ (by
   have z4:=s4 _ _ z;rw [A0j (A1l z4 hp4 (n _ _ _))]
   exact z4)
  refine k a' t' l' o' _ A0b (mv5 (λb ys z=>up4 (by intros;intro z;cases z) (A1g _ _ z)) (λb ys z=>up4 (by intros;intro z;cases z) (A1g _ _ z)) (λb o z=>(A0k z).1) rA3)
   (mv5 (λb ys z=>up4 (by intros;intro z;cases z) (A1g _ _ z)) (λb ys z=>up4 (by intros;intro z;cases z) (A1g _ _ z)) (λb o z=>(A0k z).1) rT3) hln ?_
   (mv5 (λb ys z=>A1g _ _ z) (λb ys z=>A1g _ _ z) (λb o z=>f5 (A0k z).1) rp5) λb u hb e=> ?_
  ·rw [A0j lp];exact s5 _ _ (by rw [A0j lp];exact hl4)
  ·rw [A0j hb];exact s5 _ _ (sC b u hb e)
end
theorem B9a {α β:Type} {F:α->β->Prop}:∀{l:List α} {m:List β},Paired F l m->∀{i:Nat} {x:α},l[i]? =some x->∃y,m[i]? =some y/\F x y
 | _,_,.nil,i,x,e=>by simp at e
 | _,_,.cons r t,0,x,e=>by simp at e;subst e;exact ⟨_,rfl,r⟩
 | _,_,.cons r t,i+1,x,e=>by
  obtain ⟨y,e1,e2⟩:=B9a t (i:=i) (by simpa using e);exact ⟨y,by simpa using e1,e2⟩
theorem C7n {α β:Type} {F:α->β->Prop}:∀{a c:List α} {b d:List β},Paired F a b->Paired F c d->Paired F (a++c) (b++d)
 | _,_,_,_,.nil,h=>h
 | _,_,_,_,.cons r t,h=> .cons r (C7n t h)
def C1h (A:Adr):Sp:=λvs H Q _=>∃(p dx:Addr) (a b c:V),vs=[.ref p,a,b,c]/\H p=some (.ins A.ak dx [])/\Q .non (upd H p (.ins A.ak dx [("term",a),("sums",b),("guards",c)]))
def C1t (A:Adr):Sp:=λvs H Q _=>∃(p:V) (u:Tm) (s:List Str) (g:List Gd) (S:Addr->Prop),vs=[p]/\Fr S H/\A4z A (restr S H) p (u,s,g)/\∀(q:Addr) (xs:List V) (H':Hp),H q=none->A0w H H'->H' q=some (.lst xs)->Paired (A4z A (restr S H')) xs (B3o u s g)->Q (.ref q) H'
def B8s (A:Adr) (n:Nat):Sp:=λvs H Q _=>∃(p:V) (u:Tm) (s:List Str) (g:List Gd) (S:Addr->Prop),vs=[p]/\Fr S H/\A4z A (restr S H) p (u,s,g)/\dep u<=n/\nod u<=1000/\∀(q:Addr) (xs:List V) (H':Hp),H q=none->A0w H H'->H' q=some (.lst xs)->Paired (A4z A (restr S H')) xs (prT u s g)->Q (.ref q) H'
def C3j (A:Adr):Sp:=λvs H Q _=>∃(v:V) (u:Tm),vs=[v]/\Ob A H v u/\dep u<=9/\nod u<=1000/\∀(q:Addr) (xs:List V) (H':Hp),H q=none->A0w H H'->H' q=some (.lst xs)->Paired (A4z A H') xs (prT u [] [])->Q (.ref q) H'
theorem A2e {H:Hp} {x dx:Addr} {o u v:HO} (hx:H x=none) (hd:H dx=none):A0w H (upd (upd (upd H dx o) x u) x v):=B8y hx hd
section
variable {P:Program} {w:World} {K:PySem.W.Frag} {mg:Str->Option Value} {base:Heap} {t:Adr}
theorem A9r (T:Txt K mg t):A2f P w K mg base CX0 1 t.cT t.de ["self","term","sums","guards"] (C1h t):=by
 refine T.iD.ok B4l (λvs H Q E h=> ?_) (λcdv A outer s H vs Q E hr h=> ?_)
 ·obtain ⟨p,dx,a,b,c,rfl,_⟩:=h;rfl
 ·obtain ⟨p,dx,a,b,c,rfl,hp,k⟩:=h;have e1:A4w "sums" b (A4w "term" a [])=([("term",a),("sums",b)]:List (Str×V)):=by rw [A1s,A1q (by decide +kernel),A1s]
  have e2:A4w "guards" c ([("term",a),("sums",b)]:List (Str×V))=([("term",a),("sums",b),("guards",c)]:List (Str×V)):=by rw [A1q (by decide +kernel),A1q (by decide +kernel),A1s]
  refine ⟨_,(A0c (A2t (pv 0) (pv 1) rfl)
   (A0c (A2t (pv 0) (pv 2) rfl)
   (A0f (A2t (pv 0) (pv 3) rfl)))),_,rfl,_,rfl,p,_,dx,[],rfl,hp,T.aA,T.bD,(by decide),_,rfl,_,rfl,p,_,dx,_,rfl,A0b,T.aA,T.aC,(by show 1<1000;decide),?_⟩
  rw [A5r,e1];refine ⟨_,rfl,_,rfl,p,_,dx,_,rfl,A0b,T.aA,T.aE,(by show 2<1000;decide),?_⟩;show Q V.non (upd (upd H p _) p _);rw [A5r,e2];exact k
theorem A1k {A:Addr} {B:Addr} {b:Bool} (h:PySem.W.kitOne K (.ref A) (.ref B)=some b):∀u,A2v (.ref B) u->PySem.W.kitOne K (.ref A) u=some b:=λu z=>by
 cases (show u=Value.ref B from z)
 exact h
theorem B1y (T:Txt K mg t) {H:Hp} {a dx:Addr} {k:Op3} {fs:List (Str×V)} (e:H a=some (.ins (A6y t k) dx fs)):A7z K H (.ref a) (.ref (A6y t k)):=by
 cases k with
 | plus=>exact .ins e T.hZ T.fb.ha T.fb.hn T.fb.htk T.fb.hm
 | minus=>exact .ins e T.gc T.cY.ha T.cY.hn T.cY.htk T.cY.hm
 | times=>exact .ins e T.gh T.cU.ha T.cU.hn T.cU.htk T.cU.hm
theorem C6d (T:Txt K mg t) (k:Op3):PySem.W.kitOne K (.ref (A6y t k)) (.ref t.bh)=some true:=by
 cases k with
 | plus=>exact T.hJ
 | minus=>exact T.gE
 | times=>exact T.gL
theorem C0f (T:Txt K mg t) (k:Op3):Cls K (A6y t k):=by cases k with
 | plus=>exact T.hZ
 | minus=>exact T.gc
 | times=>exact T.gh
theorem D1l (T:Txt K mg t) (k:Op3):A1r K (A6y t k) "left":=by cases k with
 | plus=>exact T.eX
 | minus=>exact T.d_
 | times=>exact T.eg
theorem D0y (T:Txt K mg t) (k:Op3):A1r K (A6y t k) "right":=by cases k with
 | plus=>exact T.eh
 | minus=>exact T.c_
 | times=>exact T.cX
theorem A6q (T:Txt K mg t):A2f P w K mg base CX0 3 t.aM t.aO ["part"] (C1t t):=by
 have G_Part_init:=A9r (P:=P) (w:=w) (base:=base) T;refine T.br.ok A2g (λvs H Q E h=> ?_) (λcdv A outer s H vs Q E hr h=> ?_)
 ·obtain ⟨p,u,ss,gg,S,rfl,_⟩:=h;rfl
 ·obtain ⟨p,u,ss,gg,S,rfl,fr,⟨a,dx,tv,sl,gl,gs,rfl,e0,ob,hs0,hg0,bg,bs,pg⟩,k⟩:=h;have e:=A1g _ _ e0;have hs:=A1g _ _ hs0;have hg:=A1g _ _ hg0
  refine ⟨_,(A0c (A0x (i:=1) A2g.nd rfl (Or.inl rfl) (A1j (pv 0) rfl))
   (A0c (A1f (A2d (A0u A1o (by rfl) T.ae Z0d (A0a (pv 1) (A0a (A3z (v:=V.ref t.bh) rfl T.jS rfl) A0e))))
    (A0f (A0v (A2r (A0a (A2w T.dQ G_Part_init (hr.mono (by omega)) rfl T.fo T.aY .nil A1e (A0a (A1j (pv 1) rfl) (A0a (A1j (pv 0) rfl) (A0a (A1j (pv 0) rfl) A0e)))) (A0a (A2w T.dQ G_Part_init (hr.mono (by omega)) rfl T.fo T.aY .nil A1e (A0a (A1j (pv 1) rfl) (A0a (A1j (pv 0) rfl) (A0a (A1j (pv 0) rfl) A0e)))) A0e)))))
    A0n)
   (A0c (A1f (A2d (A0u A1o (by rfl) T.ae Z0d (A0a (pv 1) (A0a (A3z (v:=V.ref t.av) rfl T.j5 rfl) A0e))))
    (A0f (A0v (A2r (A0a (A2w T.dQ G_Part_init (hr.mono (by omega)) rfl T.fo T.aY .nil A1e (A0a (A1j (pv 1) rfl) (A0a (A0y A5g (A1j (pv 0) rfl) (A2r (A0a (A1j (pv 1) rfl) A0e))) (A0a (A1j (pv 0) rfl) A0e)))) A0e))))
    A0n)
   (A0c (A1f (A2d (A0u A1o (by rfl) T.ae Z0d (A0a (pv 1) (A0a (A3z (v:=V.ref t.aa) rfl T.fQ rfl) A0e))))
    (A0c (A0x (i:=2) A2g.nd rfl (Or.inl rfl) (A2w T.dQ G_Part_init (hr.mono (by omega)) rfl T.fo T.aY .nil A1e (A0a (A1j (pv 1) rfl) (A0a (A1j (pv 0) rfl) (A0a (A0y A5g (A1j (pv 0) rfl) (A2r (A0a (A4k (A0a (pv 1) (A0a A5o A0e))) A0e))) A0e)))))
    (A0c (A0x (i:=3) A2g.nd rfl (Or.inl rfl) (A2w T.dQ G_Part_init (hr.mono (by omega)) rfl T.fo T.aY .nil A1e (A0a (A1j (pv 1) rfl) (A0a (A1j (pv 0) rfl) (A0a (A0y A5g (A1j (pv 0) rfl) (A2r (A0a (A4k (A0a (pv 1) (A0a A5o A0e))) A0e))) A0e)))))
    (A0f (A0v (A2r (A0a (pv 2) (A0a (pv 3) A0e)))))))
    A0n)
   (A0f (A0v (A2r A0e))))))),?_⟩
  refine ⟨_,rfl,a,_,dx,_,_,rfl,e,T.aA,T.bD,(by walk_at "lk"),?_⟩
  cases id ob with
  | @num o dd z eo0 =>
   have eo:=A1g _ _ eo0;have ty:A7z K H (.ref o) (.ref t.aB):= .ins eo T.c6 T.am.ha T.am.hn T.am.htk T.am.hm;refine ⟨_,rfl,_,_,_,_,rfl,ty,A1k T.fT,false,rfl,A2q ?_⟩;refine ⟨_,rfl,_,_,_,_,rfl,ty,A1k T.bV,false,rfl,A2q ?_⟩;refine ⟨_,rfl,_,_,_,_,rfl,ty,A1k T.cN,false,rfl,A2q ?_⟩;exact ⟨A0h (by simp),λq hq=>k q [] _ hq (A0d hq) A0b .nil⟩
  | @place o dd x eo0 =>
   have eo:=A1g _ _ eo0;have ty:A7z K H (.ref o) (.ref t.af):= .ins eo T.c5 T.au.ha T.au.hn T.au.htk T.au.hm;refine ⟨_,rfl,_,_,_,_,rfl,ty,A1k T.gK,false,rfl,A2q ?_⟩;refine ⟨_,rfl,_,_,_,_,rfl,ty,A1k T.c9,false,rfl,A2q ?_⟩;refine ⟨_,rfl,_,_,_,_,rfl,ty,A1k T.f_,false,rfl,A2q ?_⟩;exact ⟨A0h (by simp),λq hq=>k q [] _ hq (A0d hq) A0b .nil⟩
  | @read o dd ll x ix eo0 rp0 =>
   have eo:=A1g _ _ eo0;have ty:A7z K H (.ref o) (.ref t.aj):= .ins eo T.bp T.aD.ha T.aD.hn T.aD.htk T.aD.hm;refine ⟨_,rfl,_,_,_,_,rfl,ty,A1k T.gU,false,rfl,A2q ?_⟩;refine ⟨_,rfl,_,_,_,_,rfl,ty,A1k T.di,false,rfl,A2q ?_⟩;refine ⟨_,rfl,_,_,_,_,rfl,ty,A1k T.dZ,false,rfl,A2q ?_⟩;exact ⟨A0h (by simp),λq hq=>k q [] _ hq (A0d hq) A0b .nil⟩
  | @sum o dd x v b eo0 ob1 =>
   have eo:=A1g _ _ eo0;have ty:A7z K H (.ref o) (.ref t.av):= .ins eo T.bQ T.aS.ha T.aS.hn T.aS.htk T.aS.hm;simp only [dep] at bg bs;refine ⟨_,rfl,_,_,_,_,rfl,ty,A1k T.iJ,false,rfl,A2q ?_⟩;refine ⟨_,rfl,_,_,_,_,rfl,ty,A1k T.eM,true,rfl,A8y ?_⟩;refine ⟨_,rfl,o,_,dd,_,_,rfl,eo,T.bQ,T.df,(by walk_at "lk"),_,rfl,a,_,dx,_,_,rfl,e,T.aA,T.aC,(by walk_at "lk"),_,rfl,o,_,dd,_,_,rfl,eo,T.bQ,T.bN,(by walk_at "lk"),A0h (by simp),λl1 hl1=> ?_⟩;have s1:A0w H (upd H l1 (.lst [.str x])):=A0d hl1;refine ⟨sl,l1,_,_,rfl,rfl,s1 _ _ hs,A0b,A0h (by simp;omega),λl2 hl2=> ?_⟩;have s2:=s1.trans (A0d (o:= .lst (ss.map V.str++[.str x])) hl2);refine ⟨_,rfl,a,_,dx,_,_,rfl,s2 _ _ e,T.aA,T.aE,(by walk_at "lk"),λnp dn hn hdn ndn=>⟨np,dn,_,_,_,rfl,A0b,rfl,A0h (by simp),λq hq=> ?_⟩⟩;have s3:=s2.trans (A2e (o:= .own np) (u:= .ins t.ak dn []) (v:= .ins t.ak dn [("term",v),("sums",.ref l2),("guards",.ref gl)]) hn hdn);have s4:=s3.trans (A0d (o:= .lst [.ref np]) hq);refine k q _ _ (s3.free hq) s4 A0b (.cons ⟨np,dn,v,l2,gl,gs,rfl,A0l (fr _ (s2.free hn)) ?_,ob1.imp (A0m s4),A0l (fr _ (s1.free hl2)) ?_,A0m s4 _ _ hg0,by show gs.length+dep b<=100;omega,by show (ss++[x]).length+dep b<=100;rw [Z06];simp only [Z0y,List.length_nil];omega,Paired.mapP pg λ_ _ z=>z.same (A0m s4)⟩ .nil)
   ·exact (A0d hq) _ _ A0b
   ·have e2:=((A2e (o:= .own np) (u:= .ins t.ak dn []) (v:= .ins t.ak dn [("term",v),("sums",.ref l2),("guards",.ref gl)]) hn hdn).trans (A0d (o:= .lst [.ref np]) hq)) _ _ (A0b (H:=upd H l1 (.lst [.str x])) (a:=l2) (o:= .lst (ss.map V.str++[.str x])));rw [Z0s];exact e2
  | @pair o dd op v1 v2 l r eo0 ob1 ob2 =>
   have eo:=A1g _ _ eo0;simp only [dep] at bg bs;refine ⟨_,rfl,_,_,_,_,rfl,B1y T eo,A1k (C6d T op),true,rfl,A8y ?_⟩;refine ⟨_,rfl,o,_,dd,_,_,rfl,eo,C0f T op,D1l T op,(by walk_at "lk"),_,rfl,a,_,dx,_,_,rfl,e,T.aA,T.aC,(by walk_at "lk"),_,rfl,a,_,dx,_,_,rfl,e,T.aA,T.aE,(by walk_at "lk"),λn1 d1 hn1 hd1 nd1=>⟨n1,d1,_,_,_,rfl,A0b,rfl,?_⟩⟩;have s1:=A2e (o:= .own n1) (u:= .ins t.ak d1 []) (v:= .ins t.ak d1 [("term",v1),("sums",.ref sl),("guards",.ref gl)]) hn1 hd1;refine ⟨_,rfl,o,_,dd,_,_,rfl,s1 _ _ eo,C0f T op,D0y T op,(by walk_at "lk"),_,rfl,a,_,dx,_,_,rfl,s1 _ _ e,T.aA,T.aC,(by walk_at "lk"),_,rfl,a,_,dx,_,_,rfl,s1 _ _ e,T.aA,T.aE,(by walk_at "lk"),λn2 d2 hn2 hd2 nd2=>⟨n2,d2,_,_,_,rfl,A0b,rfl,A0h (by simp),λq hq=> ?_⟩⟩;have s2:=A2e (o:= .own n2) (u:= .ins t.ak d2 []) (v:= .ins t.ak d2 [("term",v2),("sums",.ref sl),("guards",.ref gl)]) hn2 hd2;have s3:=A0d (o:= .lst [.ref n1,.ref n2]) hq;have s4:=s1.trans (s2.trans s3);refine k q _ _ ((s1.trans s2).free hq) s4 A0b (.cons ⟨n1,d1,v1,sl,gl,gs,rfl,A0l (fr _ hn1) (s3 _ _ (s2 _ _ A0b)),ob1.imp (A0m s4),A0m s4 _ _ hs0,A0m s4 _ _ hg0,by show gs.length+dep l<=100;omega,by show ss.length+dep l<=100;omega,Paired.mapP pg λ_ _ z=>z.same (A0m s4)⟩ (.cons ⟨n2,d2,v2,sl,gl,gs,rfl,A0l (fr _ (s1.free hn2)) (s3 _ _ A0b),ob2.imp (A0m s4),A0m s4 _ _ hs0,A0m s4 _ _ hg0,by show gs.length+dep r<=100;omega,by show ss.length+dep r<=100;omega,Paired.mapP pg λ_ _ z=>z.same (A0m s4)⟩ .nil))
  | @guard o dd x lo hi v1 v2 l r eo0 ob1 ob2 =>
   have eo:=A1g _ _ eo0;have ty:A7z K H (.ref o) (.ref t.aa):= .ins eo T.aF T.ay.ha T.ay.hn T.ay.htk T.ay.hm;simp only [dep] at bg bs;refine ⟨_,rfl,_,_,_,_,rfl,ty,A1k T.gG,false,rfl,A2q ?_⟩;refine ⟨_,rfl,_,_,_,_,rfl,ty,A1k T.ce,false,rfl,A2q ?_⟩;refine ⟨_,rfl,_,_,_,_,rfl,ty,A1k T.dB,true,rfl,A8y ?_⟩;refine ⟨_,rfl,o,_,dd,_,_,rfl,eo,T.aF,T.dq,(by walk_at "lk"),_,rfl,a,_,dx,_,_,rfl,e,T.aA,T.aC,(by walk_at "lk"),_,rfl,a,_,dx,_,_,rfl,e,T.aA,T.aE,(by walk_at "lk"),_,rfl,A0h (by simp),λt1 ht1=>⟨A0h (by simp),λl1 hl1=> ?_⟩⟩;have z1:=(A0d (o:= .tup [.ref o,.bl true]) ht1).trans (A0d (o:= .lst [.ref t1]) hl1);refine ⟨gl,l1,_,_,rfl,rfl,z1 _ _ hg,A0b,A0h (by simp;omega),λg1 hg1=> ?_⟩;have z2:=z1.trans (A0d (o:= .lst (gs++[.ref t1])) hg1);refine λn1 d1 hn1 hd1 nd1=>⟨n1,d1,_,_,_,rfl,A0b,rfl,?_⟩;have y1:=A2e (o:= .own n1) (u:= .ins t.ak d1 []) (v:= .ins t.ak d1 [("term",v1),("sums",.ref sl),("guards",.ref g1)]) hn1 hd1;have z3:=z2.trans y1;refine ⟨_,rfl,o,_,dd,_,_,rfl,z3 _ _ eo,T.aF,T.dG,(by walk_at "lk"),_,rfl,a,_,dx,_,_,rfl,z3 _ _ e,T.aA,T.aC,(by walk_at "lk"),_,rfl,a,_,dx,_,_,rfl,z3 _ _ e,T.aA,T.aE,(by walk_at "lk"),_,rfl,A0h (by simp),λt2 ht2=>⟨A0h (by simp),λl2 hl2=> ?_⟩⟩;have y2:=(A0d (o:= .tup [.ref o,.bl false]) ht2).trans (A0d (o:= .lst [.ref t2]) hl2);refine ⟨gl,l2,_,_,rfl,rfl,y2 _ _ (z3 _ _ hg),A0b,A0h (by simp;omega),λg2 hg2=> ?_⟩;have y3:=y2.trans (A0d (o:= .lst (gs++[.ref t2])) hg2);refine λn2 d2 hn2 hd2 nd2=>⟨n2,d2,_,_,_,rfl,A0b,rfl,_,rfl,_,rfl,A0h (by simp),λq hq=> ?_⟩;have y4:=A2e (o:= .own n2) (u:= .ins t.ak d2 []) (v:= .ins t.ak d2 [("term",v2),("sums",.ref sl),("guards",.ref g2)]) hn2 hd2;have y5:=A0d (o:= .lst [.ref n1,.ref n2]) hq;have s4:=z3.trans (y3.trans (y4.trans y5));refine k q _ _ ((z3.trans (y3.trans y4)).free hq) s4 A0b (.cons ⟨n1,d1,v1,sl,g1,_,rfl,A0l (fr _ (z2.free hn1)) ((y3.trans (y4.trans y5)) _ _ A0b),ob1.imp (A0m s4),A0m s4 _ _ hs0,A0l (fr _ (z1.free hg1)) ((y1.trans (y3.trans (y4.trans y5))) _ _ A0b),by show (gs++[V.ref t1]).length+dep l<=100;rw [Z06];simp only [Z0y,List.length_nil];omega,by show ss.length+dep l<=100;omega,C7n (Paired.mapP pg λ_ _ z=>z.same (A0m s4)) (.cons ⟨t1,o,dd,v1,v2,rfl,A0l (fr _ ht1) (((A0d hl1).trans ((A0d hg1).trans (y1.trans (y3.trans (y4.trans y5))))) _ _ A0b),A0m s4 _ _ eo0⟩ .nil)⟩ (.cons ⟨n2,d2,v2,sl,g2,_,rfl,A0l (fr _ ((z3.trans y3).free hn2)) (y5 _ _ A0b),ob2.imp (A0m s4),A0m s4 _ _ hs0,A0l (fr _ ((z3.trans y2).free hg2)) ((y4.trans y5) _ _ A0b),by show (gs++[V.ref t2]).length+dep r<=100;rw [Z06];simp only [Z0y,List.length_nil];omega,by show ss.length+dep r<=100;omega,C7n (Paired.mapP pg λ_ _ z=>z.same (A0m s4)) (.cons ⟨t2,o,dd,v1,v2,rfl,A0l (fr _ (z3.free ht2)) (((A0d hl2).trans ((A0d hg2).trans (y4.trans y5))) _ _ A0b),A0m s4 _ _ eo0⟩ .nil)⟩ .nil))
theorem B4n (T:Txt K mg t) {m n:Nat} {sp':Sp} (hm:3<=m) (G_parts_from:A2f P w K mg base CX0 m t.bf t.a_ ["part"] sp')
  (hs:∀(p:V) (u:Tm) (s:List Str) (g:List Gd) (S:Addr->Prop) (H:Hp) (Q:VK),Fr S H->A4z t (restr S H) p (u,s,g)->dep u+1<=n->nod u<=1000->(∀(q:Addr) (xs:List V) (H':Hp),H q=none->A0w H H'->H' q=some (.lst xs)->Paired (A4z t (restr S H')) xs (prT u s g)->Q (.ref q) H')->sp' [p] H Q E0) :
  A2f P w K mg base CX0 (m+1) t.bf t.a_ ["part"] (B8s t n):=by
 have G_parts_right_within:=A6q (P:=P) (w:=w) (base:=base) T;refine T.cA.ok A6d (λvs H Q E h=> ?_) (λcdv A outer s H vs Q E hr h=> ?_)
 ·obtain ⟨p,u,ss,gg,S,rfl,_⟩:=h;rfl
 ·obtain ⟨p,u,ss,gg,S,rfl,fr,pa,hd,hn,k⟩:=h;obtain ⟨a,dx,tv,sl,gl,gs,rfl,e0,ob,hs0,hg0,bg,bs,pg⟩:=id pa;have dp:=B5w u
  refine ⟨_,(A0c (A0x (i:=1) A6d.nd rfl (Or.inl rfl) (A2r (A0a (pv 0) A0e)))
   (A0c (A4n PassesOwn.never rfl (A3e (A0p G_parts_right_within (hr.mono (by omega)) rfl T.cR T.br.kp T.dI .nil A1e (A0a (pv 0) A0e))) (A1a (i:=2) A6d.nd rfl (Or.inl rfl) (Or.inl rfl))
    (A0f (A2k (B1l Z0k PySem.F.slot_list_extend PySem.F.type_list_extend B3t (pv 1) (A0a (A0p G_parts_from (hr.mono (by omega)) rfl T.fg T.cA.kp T.eU .nil A1e (A0a (pv 2) A0e)) A0e)))))
   (A0f (A0v (pv 1))))),?_⟩
  refine ⟨_,rfl,A0h (by simp),λl hl=> ?_⟩;have s1:A0w H (upd H l (.lst [.ref a])):=A0d hl;have m1:A0w (restr S H) (restr (λb=>S b/\b≠l) (upd H l (.lst [.ref a]))):=λb o z=>A0l ⟨(A0k z).1,A0g (A0k z).2 hl⟩ (s1 _ _ (A0k z).2);have fr1:∀{G:Hp},A0w (upd H l (.lst [.ref a])) G->Fr (λb=>S b/\b≠l) G:=λ{G} s b hb=>⟨fr b (s1.free (s.free hb)),λz=>by subst z;rw [s _ _ A0b] at hb;cases hb⟩;have nl:¬(S l/\l≠l):=λz=>z.2 rfl;refine ⟨_,rfl,.ref a,u,ss,gg,λb=>S b/\b≠l,rfl,fr1 (A0w.refl _),pa.same m1,λq ks H2 hq s2 h2 pk=>⟨q,rfl,⟨_,SqL.of h2⟩,?_⟩⟩;have ql:q≠l:=λz=>by subst z;rw [A0b] at hq;cases hq
  have hlk:=Paired.length pk
  have tot:((B3o u ss gg).flatMap λk=>prT k.1 k.2.1 k.2.2).length+1=nod u:=by
   have h1:(prT u ss gg).length=nod u:=A7e u ss gg;rw [B6n,Z0y] at h1;exact h1
  have bnd:∀(i:Nat),(((B3o u ss gg).take i).flatMap λk=>prT k.1 k.2.1 k.2.2).length<=nod u:=λi=>by
   have e:=Z2e i (B3o u ss gg);have e2:((B3o u ss gg).flatMap λk=>prT k.1 k.2.1 k.2.2)=(((B3o u ss gg).take i).flatMap λk=>prT k.1 k.2.1 k.2.2)++(((B3o u ss gg).drop i).flatMap λk=>prT k.1 k.2.1 k.2.2):=by rw [<-List.flatMap_append,e]
   rw [e2,Z06] at tot;omega
  refine A3r (K:=K) (a:=q) (xs:=ks) (λi σ H3=>∃(o2:Option V) (xs:List V),σ=[some (.ref a),some (.ref l),o2]/\A0w H H3/\(∀b,H3 b=none->upd H l (.lst [.ref a]) b=none)/\H3 q=some (.lst ks)/\Paired (A4z t (restr (λb=>S b/\b≠l) H3)) ks (B3o u ss gg)/\H3 l=some (.lst (.ref a::xs))/\Paired (A4z t (restr (λb=>S b/\b≠l) H3)) xs (((B3o u ss gg).take i).flatMap λk=>prT k.1 k.2.1 k.2.2))
   ⟨none,[],rfl,s1.trans s2,λb hb=>s2.free hb,h2,pk,s2 _ _ A0b,.nil⟩ (λi σ H3 _ ⟨_,_,_,_,_,h,_⟩=>SqL.of h) ?_ ?_
  ·rintro i y σ H3 hy ⟨o2,xs,rfl,s3,f3,h3,pk3,hl3,ps⟩;obtain ⟨kd,hkd,pkd⟩:=B9a pk3 hy;have km:=Z13 hkd;have kd1:=C3g km
   have nk:nod kd.1<=1000:=by
    have h2:(prT kd.1 kd.2.1 kd.2.2).length<=((B3o u ss gg).flatMap λk=>prT k.1 k.2.1 k.2.2).length:=by
     obtain ⟨l1,l2,e2⟩:=List.append_of_mem km;rw [e2,List.flatMap_append,List.flatMap_cons,Z06,Z06];omega
    rw [A7e] at h2;omega
   have fr3:Fr (λb=>S b/\b≠l) H3:=λb hb=>⟨fr b (s1.free (f3 b hb)),λz=>by subst z;rw [hl3] at hb;cases hb⟩;refine ⟨_,rfl,.inl ⟨rfl,_,SqL.of hl3⟩,_,rfl,hs y kd.1 kd.2.1 kd.2.2 _ H3 _ fr3 pkd (by omega) nk λq2 zs H4 hq2 s4 h4 pz=> ?_⟩;have lxs:=Paired.length ps;have lzs:=Paired.length pz;rw [A7e] at lzs;have b1:=bnd i;refine ⟨l,q2,_,_,rfl,rfl,s4 _ _ hl3,h4,A0h (by simp;omega),?_⟩;have u4:A0w (restr (λb=>S b/\b≠l) H4) (restr (λb=>S b/\b≠l) (upd H4 l (.lst (.ref a::xs++zs)))):=A6v (A0w.refl _) nl;have v4:=(A0m (S:=λb=>S b/\b≠l) s4).trans u4;refine ⟨_,xs++zs,rfl,A0t (s3.trans s4) hl,λb hb=> ?_,?_,Paired.mapP pk3 λ_ _ z=>z.same v4,A0b,?_⟩
   ·by_cases z:b=l
    ·subst z;rw [A0b] at hb;cases hb
    ·rw [A0j z] at hb;exact f3 b (s4.free hb)
   ·rw [A0j ql];exact s4 _ _ h3
   ·rw [Z14,hkd,Option.toList_some,List.flatMap_append,List.flatMap_cons,List.flatMap_nil,Z0u];exact C7n (Paired.mapP ps λ_ _ z=>z.same v4) (Paired.mapP pz λ_ _ z=>z.same u4)
  ·rintro σ H3 ⟨o2,xs,rfl,s3,f3,h3,pk3,hl3,ps⟩;rw [hlk,Z18] at ps;refine ⟨_,rfl,k l _ H3 hl s3 hl3 ?_⟩;rw [B6n];refine .cons (pa.same (A0m s3)) (Paired.mapP ps λ_ _ z=>z.same (A6z (A0w.refl _) λb o _ h=>h.1))
theorem B9p (T:Txt K mg t):∀n:Nat,A2f P w K mg base CX0 (n+4) t.bf t.a_ ["part"] (B8s t n)
 | 0=>B4n T (sp':=λ_ _ _ _=>False) (m:=3) (by omega) (A2f.none λ_ _ _ _ h=>h) λp u s g S H Q _ _ h=>absurd h (by omega)
 | n+1=>B4n T (m:=n+4) (by omega) (B9p T n) λp u s g S H Q fr pa hd hn k=>⟨p,u,s,g,S,rfl,fr,pa,by omega,hn,k⟩
theorem B5v (T:Txt K mg t):A2f P w K mg base CX0 14 t.eI t.eO ["term"] (C3j t):=by
 have G_parts_from:=B9p (P:=P) (w:=w) (base:=base) T 9;have G_Part_init:=A9r (P:=P) (w:=w) (base:=base) T;refine T.gq.ok B5x (λvs H Q E h=> ?_) (λcdv A outer s H vs Q E hr h=> ?_)
 ·obtain ⟨v,u,rfl,_⟩:=h;rfl
 ·obtain ⟨v,u,rfl,ob,hd,hn,k⟩:=h;refine ⟨_,(A0f (A0v (A0p G_parts_from (hr.mono (by omega)) rfl T.fg T.cA.kp T.eU .nil A1e (A0a (A2w T.dQ G_Part_init (hr.mono (by omega)) rfl T.fo T.aY .nil A1e (A0a (pv 0) (A0a (A2r A0e) (A0a (A2r A0e) A0e)))) A0e)))),?_⟩;refine ⟨_,rfl,A0h (by simp),λl1 hl1=>⟨A0h (by simp),λl2 hl2=> ?_⟩⟩;refine λn dn hnn hdn nd=>⟨n,dn,_,_,_,rfl,A0b,rfl,?_⟩;have s1:=(A0d (o:= .lst []) hl1).trans (A0d (o:= .lst []) hl2);have s2:=A2e (o:= .own n) (u:= .ins t.ak dn []) (v:= .ins t.ak dn [("term",v),("sums",.ref l1),("guards",.ref l2)]) hnn hdn;have s3:=s1.trans s2;have tr:∀{G:Hp},A0w G (restr (λ_=>True) G):=λb o z=>A0l True.intro z;refine ⟨.ref n,u,[],[],λ_=>True,rfl,λ_ _=>True.intro,⟨n,dn,v,l1,l2,[],rfl,A0l True.intro A0b,ob.imp (s3.trans tr),tr _ _ (s2 _ _ ((A0d hl2) _ _ A0b)),tr _ _ (s2 _ _ A0b),by show 0+dep u<=100;omega,by show 0+dep u<=100;omega,.nil⟩,hd,hn,λq xs H4 hq s4 h4 ps=> ?_⟩;exact k q xs H4 (s3.free hq) (s3.trans s4) h4 (Paired.mapP ps λ_ _ z=>z.same A1g)
end
end My
namespace L2
open PySem PySem.Spec PyProof.Rows
theorem B1u {X:Cx} {K:PySem.W.Frag} (h:X.K=K):A7h X (.builtin "isinstance") (C9c K):=h▸B9s
theorem B0m {X:Cx} {K:PySem.W.Frag} (h:X.K=K):A7h X (.builtin "isinstance") (C4i K):=h▸B7v
end L2
namespace My
open PySem L2
local macro_rules | `(tactic| walk_at "lk") => `(tactic| first | with_reducible exact lk0 | (refine lk1 (by decide +kernel) ?_; walk_at "lk") | rfl)
abbrev B2j (S:Addr->Prop) (H:Hp) (ws:List (Key×V)) (es:List (Str×List Str)):Prop:=Paired (λ(p:Key×V) (e:Str×List Str)=>p.1=Sum.inr e.1/\∃b,p.2= .ref b/\S b/\H b=some (.lst (e.2.map V.str))) ws es
def arr (tb:List (Str×List Str)) (ls:List Lt):List (Str×List Str):=tb++ls.map λe=>(e.1,e.2.1)
def C8a (A:Adr):Sp:=λvs H Q _=>∃(p:Addr) (wh:Int) (ax:List (Str×Int)) (tb:List (Str×List Str)) (ls:List Lt) (os:List Str),vs=[.ref p]/\B4x A H p wh ax tb ls os/\tb.length<=1000/\ls.length<=1000/\
 ∀(q:Addr) (ws:List (Key×V)) (H':Hp),H q=none->A0w H H'->H' q=some (.dK (A2z [] ws))->B2j (λb=>H b=none) H' ws (arr tb ls)->Q (.ref q) H'
section
variable {P:Program} {w:World} {K:PySem.W.Frag} {mg:Str->Option Value} {base:Heap} {t:Adr}
theorem B4m (T:Txt K mg t):A2f P w K mg base CX0 1 t.dH t.dD ["program"] (C8a t):=by
 refine T.fD.ok A3v (λvs H Q E h=> ?_) (λcdv A outer s H vs Q E hr h=> ?_)
 ·obtain ⟨p,wh,ax,tb,ls,os,rfl,_⟩:=h;rfl
 ·obtain ⟨p,wh,ax,tb,ls,os,rfl,pr,ht,hls,k⟩:=h;have hu:=B1e hr;obtain ⟨dx,a,tt,l,o,e,ra,rt,⟨xl,hl,rl⟩,ro⟩:=pr.ob;obtain ⟨t2,xs,et,hx,rs⟩:=A4a (show Rep H (.ref tt) (.list (tb.map B6g)) from rt);cases et;have lxs:=rs.len;rw [Z08] at lxs;have lxl:=Paired.length rl
  refine ⟨_,(A0c (A0x (i:=1) A3v.nd rfl (Or.inl rfl) B7c)
   (A0c (A4n PassesOwn.never rfl (A3e (A1j (pv 0) rfl)) (A8e (n:=2) rfl (A2c (A1a (i:=2) A3v.nd rfl (Or.inl rfl) (Or.inl rfl)) (A2c (A1a (i:=3) A3v.nd rfl (Or.inl rfl) (Or.inl rfl)) A5z)))
    (A0f (A5c hu (pv 1) (pv 2) (A3l A3y (by rfl) T.dF Z1o (A0a (pv 3) A0e)) rfl)))
   (A0c (A4n PassesOwn.never rfl (A3e (A1j (pv 0) rfl)) (A1a (i:=4) A3v.nd rfl (Or.inl rfl) (Or.inl rfl))
    (A0f (A5c hu (pv 1) (A1j (pv 4) rfl) (A3l A3y (by rfl) T.dF Z1o (A0a (A1j (pv 4) rfl) A0e)) rfl)))
   (A0f (A0v (pv 1)))))),?_⟩
  refine λq hq=> ?_;have s0:A0w H (upd H q (.dK [])):=A0d hq
  have put:∀{H2:Hp} {ws:List (Key×V)} {es:List (Str×List Str)} {n:Str} {c:Addr} {ys:List Str},A0w H H2->H2 q=some (.dK (A2z [] ws))->B2j (λb=>H b=none/\b≠q) H2 ws es->H2 c=none->
    A0w H (upd (upd H2 c (.lst (ys.map V.str))) q (.dK (A4o (A2z [] ws) (Sum.inr n) (.ref c))))/\upd (upd H2 c (.lst (ys.map V.str))) q (.dK (A4o (A2z [] ws) (Sum.inr n) (.ref c))) q=some (.dK (A2z [] (ws++[(Sum.inr n,.ref c)])))/\
    B2j (λb=>H b=none/\b≠q) (upd (upd H2 c (.lst (ys.map V.str))) q (.dK (A4o (A2z [] ws) (Sum.inr n) (.ref c)))) (ws++[(Sum.inr n,.ref c)]) (es++[(n,ys)]):=by
   intro H2 ws es n c ys s2 h2 r2 hc;have cq:c≠q:=λz=>by subst z;rw [h2] at hc;cases hc
   refine ⟨A0t (s2.trans (A0d hc)) hq,?_,?_⟩
   ·rw [B6d];exact A0b
   ·refine Paired.snoc ⟨rfl,c,rfl,⟨s2.free hc,cq⟩,by rw [A0j cq];exact A0b⟩ (Paired.mapP r2 λa b ⟨z1,b',z2,z3,z4⟩=>⟨z1,b',z2,z3,?_⟩);rw [A0j z3.2,A0j (A0g z4 hc)];exact z4
  refine ⟨_,rfl,p,_,dx,_,_,rfl,s0 _ _ e,T.ao,T.aL,(by walk_at "lk"),tt,rfl,⟨_,SqL.of (s0 _ _ hx)⟩,?_⟩
  refine A3r (K:=K) (a:=tt) (xs:=xs) (λi σ H2=>∃(o2 o3:Option V) (ws:List (Key×V)),σ=[some (.ref p),some (.ref q),o2,o3,none]/\A0w H H2/\H2 q=some (.dK (A2z [] ws))/\B2j (λb=>H b=none/\b≠q) H2 ws (tb.take i))
   ⟨none,none,[],rfl,s0,A0b,.nil⟩ (λi σ H2 _ ⟨_,_,_,_,s2,_⟩=>SqL.of (s2 _ _ hx)) ?_ ?_
  ·rintro i y σ H2 hy ⟨o2,o3,ws,rfl,s2,h2,r2⟩;obtain ⟨te,hte,ry⟩:=A9m rs hy;obtain ⟨b,c,rfl,eb,ec⟩:=C6z ry;have lw:=Paired.length r2;have lt:(tb.take i).length<=tb.length:=by rw [Z0x];omega
   have lm:=A3j ws [];rw [List.length_nil] at lm;refine ⟨b,_,rfl,SqT.of (s2 _ _ eb),rfl,_,_,rfl,_,_,rfl,rfl,?_⟩;refine ⟨_,rfl,c,_,rfl,.inl (SqL.of (s2 _ _ ec)),λc' hc'=> ?_⟩;have cq:q≠c':=λz=>by subst z;rw [h2] at hc';cases hc'
   refine ⟨_,rfl,_,rfl,q,_,rfl,B6v.k (k:=Sum.inr te.1) (by rw [A0j cq];exact h2) (A1h (by omega)),?_⟩;obtain ⟨p1,p2,p3⟩:=put (n:=te.1) (ys:=te.2) s2 h2 r2 hc';refine ⟨_,_,_,rfl,p1,p2,?_⟩;rw [Z14,hte];exact p3
  ·rintro σ H2 ⟨o2,o3,ws,rfl,s2,h2,r2⟩;rw [lxs,Z18] at r2;refine ⟨_,rfl,p,_,dx,_,_,rfl,s2 _ _ e,T.ao,T.aT,(by walk_at "lk"),l,rfl,⟨_,SqL.of (s2 _ _ hl)⟩,?_⟩
   refine A3r (K:=K) (a:=l) (xs:=xl) (λi σ H3=>∃(o4:Option V) (ws:List (Key×V)),σ=[some (.ref p),some (.ref q),o2,o3,o4]/\A0w H H3/\H3 q=some (.dK (A2z [] ws))/\B2j (λb=>H b=none/\b≠q) H3 ws (tb++(ls.take i).map λe=>(e.1,e.2.1)))
    ⟨none,ws,rfl,s2,h2,by simpa using r2⟩ (λi σ H3 _ ⟨_,_,_,s3,_⟩=>SqL.of (s3 _ _ hl)) ?_ ?_
   ·rintro i y σ H3 hy ⟨o4,ws,rfl,s3,h3,r3⟩;obtain ⟨le,hle,b,db,c,n,dn,rfl,eb,_,ec,_⟩:=B9a rl hy;have lw:=Paired.length r3;have lt:((ls.take i).map λe=>(e.1,e.2.1)).length<=ls.length:=by rw [Z08,Z0x];omega
    rw [Z06] at lw;have lm:=A3j ws [];rw [List.length_nil] at lm;refine ⟨_,rfl,b,_,db,_,_,rfl,s3 _ _ eb,T.ba,T.bM,(by walk_at "lk"),c,_,rfl,.inl (SqL.of (s3 _ _ ec)),λc' hc'=> ?_⟩;have cq:q≠c':=λz=>by subst z;rw [h3] at hc';cases hc'
    refine ⟨_,rfl,_,rfl,b,_,db,_,_,rfl,by rw [A0j (A0g (s3 _ _ eb) hc')];exact s3 _ _ eb,T.ba,T.aX,(by walk_at "lk"),q,_,rfl,B6v.k (k:=Sum.inr le.1) (by rw [A0j cq];exact h3) (A1h (by omega)),?_⟩;obtain ⟨p1,p2,p3⟩:=put (n:=le.1) (ys:=le.2.1) s3 h3 r3 hc';refine ⟨_,_,rfl,p1,p2,?_⟩;rw [Z14,hle,Option.toList_some,Z0s,<-Z0z];exact p3
   ·rintro σ H3 ⟨o4,ws,rfl,s3,h3,r3⟩;rw [lxl,Z18] at r3;exact ⟨_,rfl,k q ws H3 hq s3 h3 (Paired.mapP r3 λ_ _ ⟨z1,b',z2,z3,z4⟩=>⟨z1,b',z2,z3.1,z4⟩)⟩
end
def Oth (r:Addr) (H H':Hp):Prop:=∀b,b≠r->H' b=H b
def OkX (z:Str):Prop:=PyData.strOk z=true/\z.length<=4000
def OkN (xs:List Str):Prop:=∀x∈xs,OkX x
theorem D0g {b:Bool} {A B:Prop} (h1:b=false->A) (h2:b=true->B):if (!b)=true then A else B:=by
 cases b
 ·exact h1 rfl
 ·exact h2 rfl
theorem D1k {b:Bool} {A B:Prop} (h1:b=true->A) (h2:b=false->B):if b=true then A else B:=by
 cases b
 ·exact h2 rfl
 ·exact h1 rfl
theorem A2n (z:Str):∀bs:List Str,inV (.str z) (bs.map V.str)=decide (z∈bs)
 | []=>rfl
 | b::r=>by
  have ih:=A2n z r;unfold inV at ih⊢;rw [Z0p,List.any_cons,ih];show ((b == z)||decide (z∈r))=decide (z∈b::r);by_cases e:b=z
  ·subst e;simp
  ·have:¬z=b:=λh=>e h.symm;simp [e,this]
theorem A1t:∀bs:List Str,(bs.map V.str).all B3f=true
 | []=>rfl
 | b::r=>by rw [Z0p,List.all_cons,A1t r];rfl
theorem A8v {ys:List Str} {i:Nat} (hi:i<=ys.length):C0z (ys.map V.str) none (some (i:Int))=(ys.take i).map V.str:=by
 unfold C0z;have e1:HT.sIx (ys.map V.str).length 0 none=0:=rfl
 have e2:HT.sIx (ys.map V.str).length (ys.map V.str).length (some (i:Int))=i:=by
  unfold HT.sIx;rw [Z08];simp only [show¬((i:Int)<0) by omega,if_false];omega
 rw [e1,e2,List.drop_zero,Nat.sub_zero,List.map_take]
theorem C3u {ys:List Str} {i:Nat} (hi:i<=ys.length):C0z (ys.map V.str) (some (i:Int)) none=(ys.drop i).map V.str:=by
 unfold C0z
 have e1:HT.sIx (ys.map V.str).length 0 (some (i:Int))=i:=by
  unfold HT.sIx;rw [Z08];simp only [show¬((i:Int)<0) by omega,if_false];omega
 have e2:HT.sIx (ys.map V.str).length (ys.map V.str).length none=(ys.map V.str).length:=rfl;rw [e1,e2,List.map_drop];exact List.take_of_length_le (by rw [Z19];exact Z09 _)
def axN (ax:List (Str×Int)):List Str:=ax.map (·.1)
def arN (tb:List (Str×List Str)) (ls:List Lt):List Str:=tb.map (·.1)++ls.map (·.1)
def C8t (A:Adr):Sp:=λvs H Q _=>∃(p:Addr) (wh:Int) (ax:List (Str×Int)) (tb:List (Str×List Str)) (ls:List Lt) (os:List Str),vs=[.ref p]/\B4x A H p wh ax tb ls os/\ax.length<=100/\∀(q:Addr) (H':Hp),H q=none->A0w H H'->H' q=some (.lst ((axN ax).map V.str))->Q (.ref q) H'
def C9r (A:Adr):Sp:=λvs H Q _=>∃(p:Addr) (wh:Int) (ax:List (Str×Int)) (tb:List (Str×List Str)) (ls:List Lt) (os:List Str),vs=[.ref p]/\B4x A H p wh ax tb ls os/\tb.length<=100/\∀(q:Addr) (H':Hp),H q=none->A0w H H'->H' q=some (.lst ((tb.map (·.1)).map V.str))->Q (.ref q) H'
def C9d (A:Adr):Sp:=λvs H Q _=>∃(p:Addr) (wh:Int) (ax:List (Str×Int)) (tb:List (Str×List Str)) (ls:List Lt) (os:List Str),vs=[.ref p]/\B4x A H p wh ax tb ls os/\tb.length<=100/\ls.length<=100/\∀(q:Addr) (H':Hp),H q=none->A0w H H'->H' q=some (.lst ((arN tb ls).map V.str))->Q (.ref q) H'
def la (c:Nat):Bool:= !(decide (([c]:List Nat)<("a":Str).cps.toList))
def lz (c:Nat):Bool:= !(decide (("z":Str).cps.toList<[c]))
theorem C8e:abc.cps.toList=List.range' 97 26:=by decide +kernel
theorem C9n (c:Nat):la c=decide (97<=c):=by
 have e:("a":Str).cps.toList=[97]:=by decide +kernel
 unfold la;rw [e];by_cases h:97<=c
 ·have:¬([c]<[97]):=λz=>by
   rcases List.cons_lt_cons_iff.mp z with z | ⟨_,z⟩
   ·omega
   ·exact absurd z (by simp)
  rw [Z1j this,Z20 h];rfl
 ·have:[c]<[97]:=List.cons_lt_cons_iff.mpr (.inl (by omega));rw [Z20 this,Z1j h];rfl
theorem C7x (c:Nat):lz c=decide (c<=122):=by
 have e:("z":Str).cps.toList=[122]:=by decide +kernel
 unfold lz;rw [e];by_cases h:c<=122
 ·have:¬([122]<[c]):=λz=>by
   rcases List.cons_lt_cons_iff.mp z with z | ⟨_,z⟩
   ·omega
   ·exact absurd z (by simp)
  rw [Z1j this,Z20 h];rfl
 ·have:[122]<[c]:=List.cons_lt_cons_iff.mpr (.inl (by omega));rw [Z20 this,Z1j h];rfl
def C2f (x:Str):Bool:=(!(decide (x="")))&&x.cps.toList.all λc=>la c&&lz c
def nmB (x:Str):Bool:=C2f x&&decide (x.length<=8)&& !(decide (x∈(["if","sum"]:List Str)))
def C8m:Sp:=λvs H Q _=>∃x:Str,vs=[.str x]/\x.length<=4000/\∀H',A0w H H'->Q (.bl (C2f x)) H'
def C8x:Sp:=λvs H Q _=>∃x:Str,vs=[.str x]/\x.length<=4000/\∀H',A0w H H'->Q (.bl (nmB x)) H'
section
variable {P:Program} {w:World} {K:PySem.W.Frag} {mg:Str->Option Value} {base:Heap} {t:Adr}
theorem A8w (T:Txt K mg t):A2f P w K mg base CX0 1 t.cf t.cu ["program"] (C8t t):=by
 refine T.bB.ok B1z (λvs H Q E h=> ?_) (λcdv A outer s H vs Q E hr h=> ?_)
 ·obtain ⟨p,wh,ax,tb,ls,os,rfl,_⟩:=h;rfl
 ·obtain ⟨p,wh,ax,tb,ls,os,rfl,pr,la,k⟩:=h;obtain ⟨dx,a,tt,l,o,e,ra,rt,⟨xl,hl,rl⟩,ro⟩:=pr.ob;obtain ⟨a2,xs,ea,hx,rs⟩:=A4a (show Rep H (.ref a) (.list (ax.map A9q)) from ra);cases ea;have lxs:=rs.len;rw [Z08] at lxs;refine ⟨_,(A0f (A0v (A2x (N':=["name","length"]) (ix:=(List.replicate 2 none)) (g:=D0q K 2 (C1y (B4e 0) (C1y (B4e 1) D0r))) rfl (A2j rfl (by decide +kernel) (by decide +kernel)) (A2m rfl) (A3e (A1j (pv 0) rfl)) (λ_ _ _ _=>(A8e (n:=2) rfl (A2c (A1a (i:=0) B4g rfl (Or.inl rfl) (Or.inr rfl)) (A2c (A1a (i:=1) B4g rfl (Or.inl rfl) (Or.inr rfl)) A5z)))) (λ_ _ _ _=>(pv 0))))),?_⟩;refine ⟨_,rfl,p,_,dx,_,_,rfl,e,T.ao,T.cO,(by walk_at "lk"),a,rfl,⟨_,SqL.of hx⟩,λD hD=> ?_⟩;refine A4g (K:=K) (a:=a) (D:=D) (xs:=xs) (λi zs H2=>A0w H H2/\H2 D=some (.lst zs)/\zs=(axN (ax.take i)).map V.str) ⟨A0d hD,A0b,rfl⟩ (λi zs H2 ⟨s2,_⟩=>SqL.of (s2 _ _ hx)) ?_ ?_
  ·rintro i x zs H2 hy ⟨s2,hD2,rfl⟩;have hi:i<xs.length:=(Z03.mp hy).1;obtain ⟨te,hte,ry⟩:=A9m rs hy;obtain ⟨b,rfl,eb⟩:=C3p ry;refine ⟨b,_,rfl,SqT.of (s2 _ _ eb),rfl,_,_,rfl,_,_,rfl,rfl,?_⟩;refine ⟨True.intro,_,rfl,hD2,A1h (by simp [axN];omega),A0t s2 hD,A0b,?_⟩;rw [Z14,hte,Option.toList_some];simp [axN]
  ·rintro zs H2 ⟨s2,hD2,rfl⟩;rw [lxs,Z18] at hD2;exact k D H2 hD s2 hD2
theorem B1f (T:Txt K mg t):A2f P w K mg base CX0 1 t.bS t.bT ["program"] (C9r t):=by
 refine T.dY.ok B1i (λvs H Q E h=> ?_) (λcdv A outer s H vs Q E hr h=> ?_)
 ·obtain ⟨p,wh,ax,tb,ls,os,rfl,_⟩:=h;rfl
 ·obtain ⟨p,wh,ax,tb,ls,os,rfl,pr,lt,k⟩:=h;obtain ⟨dx,a,tt,l,o,e,ra,rt,⟨xl,hl,rl⟩,ro⟩:=pr.ob;obtain ⟨t2,xs,et,hx,rs⟩:=A4a (show Rep H (.ref tt) (.list (tb.map B6g)) from rt);cases et;have lxs:=rs.len;rw [Z08] at lxs;refine ⟨_,(A0f (A0v (A2x (N':=["name","axes"]) (ix:=(List.replicate 2 none)) (g:=D0q K 2 (C1y (B4e 0) (C1y (B4e 1) D0r))) rfl (A2j rfl (by decide +kernel) (by decide +kernel)) (A2m rfl) (A3e (A1j (pv 0) rfl)) (λ_ _ _ _=>(A8e (n:=2) rfl (A2c (A1a (i:=0) B4u rfl (Or.inl rfl) (Or.inr rfl)) (A2c (A1a (i:=1) B4u rfl (Or.inl rfl) (Or.inr rfl)) A5z)))) (λ_ _ _ _=>(pv 0))))),?_⟩;refine ⟨_,rfl,p,_,dx,_,_,rfl,e,T.ao,T.aL,(by walk_at "lk"),tt,rfl,⟨_,SqL.of hx⟩,λD hD=> ?_⟩;refine A4g (K:=K) (a:=tt) (D:=D) (xs:=xs) (λi zs H2=>A0w H H2/\H2 D=some (.lst zs)/\zs=((tb.take i).map (·.1)).map V.str) ⟨A0d hD,A0b,rfl⟩ (λi zs H2 ⟨s2,_⟩=>SqL.of (s2 _ _ hx)) ?_ ?_
  ·rintro i x zs H2 hy ⟨s2,hD2,rfl⟩;have hi:i<xs.length:=(Z03.mp hy).1;obtain ⟨te,hte,ry⟩:=A9m rs hy;obtain ⟨b,c,rfl,eb,ec⟩:=C6z ry;refine ⟨b,_,rfl,SqT.of (s2 _ _ eb),rfl,_,_,rfl,_,_,rfl,rfl,?_⟩;refine ⟨True.intro,_,rfl,hD2,A1h (by simp;omega),A0t s2 hD,A0b,?_⟩;rw [Z14,hte,Option.toList_some];simp
  ·rintro zs H2 ⟨s2,hD2,rfl⟩;rw [lxs,Z18] at hD2;exact k D H2 hD s2 hD2
theorem B1c (T:Txt K mg t):A2f P w K mg base CX0 2 t.bW t.b_ ["program"] (C9d t):=by
 have G_table_names:=B1f (P:=P) (w:=w) (base:=base) T;refine T.bX.ok B1j (λvs H Q E h=> ?_) (λcdv A outer s H vs Q E hr h=> ?_)
 ·obtain ⟨p,wh,ax,tb,ls,os,rfl,_⟩:=h;rfl
 ·obtain ⟨p,wh,ax,tb,ls,os,rfl,pr,lt,ll,k⟩:=h;obtain ⟨dx,a,tt,l,o,e,ra,rt,⟨xl,hl,rl⟩,ro⟩:=pr.ob;have lxl:=Paired.length rl;refine ⟨_,(A0f (A0v (A0y A5g (A0p G_table_names (hr.mono (by omega)) rfl T.gx T.dY.kp T.gB .nil A1e (A0a (pv 0) A0e)) (A2x (N':=["let"]) (ix:=(List.replicate 1 none)) rfl (A2j rfl (by decide +kernel) (by decide +kernel)) (A2m rfl) (A3e (A1j (pv 0) rfl)) (λ_ _ _ _=>(A1a (i:=0) B9o rfl (Or.inl rfl) (Or.inr rfl))) (λ_ _ _ _=>(C6f (K:=K) rfl (pv 0) rfl)))))),?_⟩;refine ⟨_,rfl,p,wh,ax,tb,ls,os,rfl,pr,lt,λD H2 hD s2 hD2=> ?_⟩;refine ⟨_,rfl,p,_,dx,_,_,rfl,s2 _ _ e,T.ao,T.aT,(by walk_at "lk"),l,rfl,⟨_,SqL.of (s2 _ _ hl)⟩,λD2 hE=> ?_⟩;refine A4g (K:=K) (a:=l) (D:=D2) (xs:=xl) (λi zs H3=>A0w H2 H3/\H3 D2=some (.lst zs)/\zs=((ls.take i).map (·.1)).map V.str) ⟨A0d hE,A0b,rfl⟩ (λi zs H3 ⟨s3,_⟩=>SqL.of (s3 _ _ (s2 _ _ hl))) ?_ ?_
  ·rintro i x zs H3 hy ⟨s3,hD3,rfl⟩;have hi:i<xl.length:=(Z03.mp hy).1;obtain ⟨le,hle,b,db,c,n,dn,rfl,eb,_,ec,_⟩:=B9a rl hy;refine ⟨True.intro,_,rfl,b,_,db,_,_,rfl,s3 _ _ (s2 _ _ eb),T.ba,T.aX,(by walk_at "lk"),hD3,A1h (by simp;omega),A0t s3 hE,A0b,?_⟩;rw [Z14,hle,Option.toList_some];simp
  ·rintro zs H3 ⟨s3,hD3,rfl⟩;rw [lxl,Z18] at hD3;refine ⟨D,D2,_,_,rfl,rfl,s3 _ _ hD2,hD3,A0h (by simp;omega),λq hq=> ?_⟩;have s4:=s2.trans (s3.trans (A0d (o:= .lst ((tb.map (·.1)).map V.str++(ls.map (·.1)).map V.str)) hq));refine k q _ ((s2.trans s3).free hq) s4 ?_;rw [show (arN tb ls).map V.str=(tb.map (·.1)).map V.str++(ls.map (·.1)).map V.str by simp [arN]];exact A0b
theorem A9v (T:Txt K mg t):A2f P w K mg base CX0 1 t.bw t.bx ["text"] C8m:=by
 refine T.cL.ok A9t (λvs H Q E h=> ?_) (λcdv A outer s H vs Q E hr h=> ?_)
 ·obtain ⟨x,rfl,_⟩:=h;rfl
 ·obtain ⟨x,rfl,lx,k⟩:=h;refine ⟨_,(A0f (A0v (B0k (A7r B1d (pv 0) A0r (A1c _)) (B0x (A0u (C3o rfl) (by rfl) T.jY PyProof.Rows.boot_all (A0a (A2x (N':=["sign"]) (ix:=(List.replicate 1 none)) rfl (A2j rfl (by decide +kernel) (by decide +kernel)) (A2m rfl) (C9i (pv 0)) (λ_ _ _ _=>(A1a (i:=0) C1i rfl (Or.inl rfl) (Or.inr rfl))) (λ_ _ _ _=>(C3i C5a C5a A0r (pv 0) A0r))) A0e)))))),?_⟩;by_cases hx:x=""
  ·have n0:(!(decide ((V.str x)=V.str "")))=false:=by rw [hx];decide
   have e:C2f x=false:=by unfold C2f;rw [Z20 hx];rfl
   refine ⟨_,rfl,rfl,false,congrArg V.bl n0,A2q ?_⟩;have:=k H (A0w.refl _);rw [e] at this;exact this
  have n0:(!(decide ((V.str x)=V.str "")))=true:=by
   rw [Z1j (λe=>hx (by injection e))];rfl
  refine ⟨_,rfl,rfl,true,congrArg V.bl n0,A8y ?_⟩;refine ⟨_,rfl,x,rfl,λD hD=> ?_⟩;have lc:x.cps.size<=4000:=lx;refine A3d (J:=Its x) (D:=D) x.cps.size (λi ys H2=>A0w H H2/\H2 D=some (.lst ys)/\ys=(((x.cps.toList.take i).map λc=>la c&&lz c).map V.bl)) ⟨A0d hD,A0b,rfl⟩ (λi ys H2 hi _=>hi) (λys H2 _=>rfl) ?_ ?_
  ·rintro i ys H2 hi ⟨s2,hD2,rfl⟩ v H3 ⟨rfl,c,hc,rfl⟩;have hc':x.cps.toList[i]? =some c:=by simpa using hc
   have lt:(((x.cps.toList.take i).map λc=>la c&&lz c).map V.bl).length<=4000:=by
    rw [Z08,Z08,Z0x];omega
   have nx:∀b:Bool,b=(la c&&lz c)->((x.cps.toList.take i).map λc=>la c&&lz c).map V.bl++[V.bl b]=((x.cps.toList.take (i+1)).map λc=>la c&&lz c).map V.bl:=λb hb=>by
    rw [Z14,hc',Option.toList_some,Z0s,Z0s,hb];rfl
   by_cases h1:la c=true
   ·refine ⟨True.intro,_,rfl,_,_,rfl,rfl,true,congrArg V.bl h1,A8y ⟨_,_,rfl,rfl,hD2,A1h (by omega),A0t s2 hD,A0b,?_⟩⟩;exact nx (lz c) (by rw [h1];rfl)
   ·have h1:la c=false:=by simpa using h1
    refine ⟨True.intro,_,rfl,_,_,rfl,rfl,false,congrArg V.bl h1,A2q ⟨hD2,A1h (by omega),A0t s2 hD,A0b,?_⟩⟩;exact nx false (by rw [h1];rfl)
  ·rintro ys H2 ⟨s2,hD2,rfl⟩;rw [show x.cps.size=x.cps.toList.length by simp,Z18] at hD2;refine ⟨D,x.cps.toList.map λc=>la c&&lz c,rfl,SqL.of hD2,?_⟩
   have e:C2f x=(x.cps.toList.map λc=>la c&&lz c).all id:=by
    unfold C2f;rw [Z1j hx,List.all_map];rfl
   rw [<-e];exact k H2 s2
theorem B7p (T:Txt K mg t):A2f P w K mg base CX0 2 t.fB t.fm ["text"] C8x:=by
 have G_is_of_letters:=A9v (P:=P) (w:=w) (base:=base) T;refine T.gP.ok B7x (λvs H Q E h=> ?_) (λcdv A outer s H vs Q E hr h=> ?_)
 ·obtain ⟨x,rfl,_⟩:=h;rfl
 ·obtain ⟨x,rfl,lx,k⟩:=h;have lzz:x.length<=sizeLine:=A0h (by omega);refine ⟨_,(A0f (A0v (B0k (A0p G_is_of_letters (hr.mono (by omega)) rfl T.fP T.cL.kp T.fM .nil A1e (A0a (pv 0) A0e)) (B0k (A7r D0e (A0u B3h (by rfl) T.aW Z0r (A0a (pv 0) A0e)) (B2q T.fN rfl) (A1c _)) (B0x (A7r A1x (pv 0) (B2q T.e_ rfl) (by with_unfolding_all rfl))))))),?_⟩;refine ⟨_,rfl,x,rfl,lx,λH1 s1=> ?_⟩;have kk:=k H1 s1;by_cases h1:C2f x=true
  ·refine ⟨true,congrArg V.bl h1,A8y ?_⟩;by_cases h2:x.length<=8
   ·have h2':((x.length:Nat):Int)<=8:=by omega
    refine ⟨_,rfl,x,rfl,lzz,_,_,rfl,rfl,true,congrArg V.bl (Z20 h2'),A8y ?_⟩;refine ⟨_,rfl,t.bn,[.str "if",.str "sum"],rfl,.inr (.inr T.eW),rfl,rfl,?_⟩
    have e:nmB x= !(inV (.str x) ((["if","sum"]:List Str).map V.str)):=by
     unfold nmB;rw [h1,Z20 h2,A2n];rfl
    rw [e] at kk;exact kk
   ·have h2':¬((x.length:Nat):Int)<=8:=by omega
    refine ⟨_,rfl,x,rfl,lzz,_,_,rfl,rfl,false,congrArg V.bl (Z1j h2'),A2q ?_⟩
    have e:nmB x=false:=by
     unfold nmB;rw [h1,Z1j h2];rfl
    rw [e] at kk;exact kk
  ·have h1:C2f x=false:=by simpa using h1
   refine ⟨false,congrArg V.bl h1,A2q ?_⟩;have e:nmB x=false:=by unfold nmB;rw [h1];rfl
   rw [e] at kk;exact kk
end
def B1o (p:Str->Prop) (ns:List Str):Prop:=∀i x,ns[i]? =some x->p x/\x∉ns.take i
def B8m (ns:List Str):Prop:=B1o (λx=>nmB x=true) ns
def B8p (kn os:List Str):Prop:=os≠[]/\B1o (λx=>x∈kn) os
def B7f (kn ys:List Str):Prop:=ys.length<=3/\B1o (λx=>x∈kn) ys
def C6c (A:Adr):Sp:=λvs H Q E=>∃(l:Addr) (ns:List Str),vs=[.ref l]/\H l=some (.lst (ns.map V.str))/\ns.length<=500/\OkN ns/\(B8m ns->∀H',A0w H H'->Q .non H')/\(¬B8m ns->∀H',A0w H H'->E (.ref A.ai) none H')
def C6a (A:Adr):Sp:=λvs H Q E=>∃(l k:Addr) (ys kn:List Str),vs=[.ref l,.ref k]/\H l=some (.lst (ys.map V.str))/\H k=some (.lst (kn.map V.str))/\ys.length<=500/\OkN ys/\(B8p kn ys->∀H',A0w H H'->Q .non H')/\(¬B8p kn ys->∀H',A0w H H'->E (.ref A.ai) none H')
def C7q (A:Adr):Sp:=λvs H Q E=>∃(l k:Addr) (ys kn:List Str),vs=[.ref l,.ref k]/\H l=some (.lst (ys.map V.str))/\H k=some (.lst (kn.map V.str))/\ys.length<=20/\OkN ys/\(B7f kn ys->∀H',A0w H H'->Q .non H')/\(¬B7f kn ys->∀H',A0w H H'->E (.ref A.ag) none H')
theorem B2b {p:Str->Prop} {ns:List Str} (h:∀j x,j<ns.length->ns[j]? =some x->p x/\x∉ns.take j):B1o p ns:=λi x e=>h i x (Z03.mp e).1 e
theorem D0u {ys:List Str} (ok:OkN ys):A9h ys<=ys.length*40004+3:=by
 unfold A9h;refine Nat.add_le_add_right ?_ 3
 induction ys with
 | nil=>simp
 | cons y r ih =>
  have h1:=(ok y (.head _)).2;have h2:=ih λz hz=>ok z (.tail _ hz);simp only [Z0p,List.sum_cons,Z0y];omega
theorem A7u (a b:Str):(a++b).length=a.length+b.length:=Str.length_append _ _
theorem A3f:(Str.empty:Str).length=0:=rfl
section
variable {P:Program} {w:World} {K:PySem.W.Frag} {mg:Str->Option Value} {base:Heap} {t:Adr}
theorem A8r (T:Txt K mg t):A2f P w K mg base (CXF P w) 3 t.bi t.bj ["names"] (C6c t):=by
 have G_is_name:=B7p (P:=P) (w:=w) (base:=base) T;refine T.bO.okF A3m (λvs H Q E h=> ?_) (λcdv A outer s H vs Q E hr h=> ?_)
 ·obtain ⟨l,ns,rfl,_⟩:=h;rfl
 ·obtain ⟨l,ns,rfl,hl,ln,ok,kq,ke⟩:=h
  refine ⟨_,(A0f (A4n PassesOwn.leaving rfl (B6b rfl T.dA (A0a (pv 0) A0e)) (A8e (n:=2) rfl (A2c (A1a (i:=1) A3m.nd rfl (Or.inl rfl) (Or.inl rfl)) (A2c (A1a (i:=2) A3m.nd rfl (Or.inl rfl) (Or.inl rfl)) A5z)))
    (A0c (A1f (B6t (A2d (A0p G_is_name (hr.mono (by omega)) rfl T.jd T.gP.kp T.ja .nil A1e (A0a (pv 2) A0e))))
     (A0f (A2u A5b T.bG rfl T.aZ rfl (A0a (A3p (A4b (pv 2) (A3h A5h))) A0e)))
     A0n)
    (A0f (A1f (A0s A6w (pv 2) (A4e A6f (pv 0) A5e (A5d (pv 1))) (by with_unfolding_all rfl))
     (A0f (A2u A5b T.bG rfl T.aZ rfl (A0a (A3p (A4b (pv 2) (A3h A5h))) A0e)))
     A0n))))),?_⟩
  refine ⟨_,rfl,l,_,rfl,SqL.of hl,?_⟩;refine B2d (K:=K) (a:=l) (xs:=ns.map V.str) (λi σ H2=>∃o1 o2:Option V,σ=[some (.ref l),o1,o2]/\A0w H H2/\∀j x,j<i->ns[j]? =some x->nmB x=true/\x∉ns.take j) ⟨none,none,rfl,A0w.refl _,by intro j x h;omega⟩ (λi σ H2 ⟨_,_,_,s2,_⟩=>SqL.of (s2 _ _ hl)) ?_ ?_
  ·rintro i v σ H2 p hv ⟨o1,o2,rfl,s2,gd⟩ hp;rw [Z1z] at hv;obtain ⟨x,hx,rfl⟩:=Z0i.mp hv;have hi:i<ns.length:=(Z03.mp hx).1;obtain ⟨okx,lx⟩:=ok x (Z13 hx);have s3:=s2.trans (A0d (o:= .tup [.int (i:Nat),.str x]) hp);refine ⟨p,_,rfl,SqT.of A0b,rfl,_,_,rfl,_,_,rfl,rfl,?_⟩;refine ⟨_,rfl,x,rfl,lx,λH4 s4=>⟨_,rfl,D0g (λhb=> ?_) (λhb=> ?_)⟩⟩
   ·refine ⟨_,rfl,x,rfl,okx,A0h (by rw [A3f];omega),λz hz=>⟨A0h ?_,A0h ?_,A0h (by show 1<=1000000;decide),ke (λg=> ?_) H4 (s3.trans s4)⟩⟩
    ·have:(" is no name":Str).length<=20:=by decide +kernel
     rw [A7u,A7u,A3f];omega
    ·have:(" is no name":Str).length<=20:=by decide +kernel
     rw [A7u,A7u,A3f];omega
    ·have:=(g i x hx).1;rw [this] at hb;cases hb
   have s5:=s3.trans s4;refine ⟨_,rfl,_,rfl,_,rfl,_,rfl,l,_,rfl,SqL.of (s5 _ _ hl),λq hq=> ?_⟩;rw [A8v (Nat.le_of_lt hi)];have s6:A0w H4 (upd H4 q (.lst ((ns.take i).map V.str))):=A0d hq;refine ⟨q,(ns.take i).map V.str,rfl,.inl (SqL.of A0b),rfl,A1t _,_,rfl,?_⟩;rw [A2n];refine A8a (λhin=> ?_) (λhout=>⟨_,_,rfl,s5.trans s6,λj y hj hy=> ?_⟩)
   ·refine ⟨_,rfl,x,rfl,okx,A0h (by rw [A3f];omega),λz hz=>⟨A0h ?_,A0h ?_,A0h (by show 1<=1000000;decide),ke (λg=>(g i x hx).2 hin) _ (s5.trans s6)⟩⟩
    ·have:(" is told twice":Str).length<=20:=by decide +kernel
     rw [A7u,A7u,A3f];omega
    ·have:(" is told twice":Str).length<=20:=by decide +kernel
     rw [A7u,A7u,A3f];omega
   ·rcases Nat.lt_or_ge j i with h | h
    ·exact gd j y h hy
    ·have:j=i:=by omega
     subst this;rw [hx] at hy;cases hy;exact ⟨hb,hout⟩
  ·rintro σ H2 ⟨o1,o2,rfl,s2,gd⟩;rw [Z08] at gd;exact kq (B2b gd) H2 s2
theorem B4a (T:Txt K mg t):A2f P w K mg base (CXF P w) 1 t.cZ t.dw ["outs","names"] (C6a t):=by
 refine T.fG.okF A6p (λvs H Q E h=> ?_) (λcdv A outer s H vs Q E hr h=> ?_)
 ·obtain ⟨l,kk,ys,kn,rfl,_⟩:=h;rfl
 ·obtain ⟨l,kk,ys,kn,rfl,hl,hk,ly,ok,kq,ke⟩:=h
  refine ⟨_,(A0c (A1f (A0s A2s (A0u A1b (by rfl) T.aW Z0r (A0a (pv 0) A0e)) A0i (A1c _))
    (A0f (A2u A5b T.bG rfl T.aZ rfl (A0a A0r A0e)))
    A0n)
   (A0f (A4n PassesOwn.leaving rfl (B6b rfl T.dA (A0a (pv 0) A0e)) (A8e (n:=2) rfl (A2c (A1a (i:=2) A6p.nd rfl (Or.inl rfl) (Or.inl rfl)) (A2c (A1a (i:=3) A6p.nd rfl (Or.inl rfl) (Or.inl rfl)) A5z)))
    (A0c (A1f (A0s A1x (pv 3) (pv 1) (by with_unfolding_all rfl))
     (A0f (A2u A5b T.bG rfl T.aZ rfl (A0a (A3p (A3h (A4b (pv 3) (A3h A5h)))) A0e)))
     A0n)
    (A0f (A1f (A0s A6w (pv 3) (A4e A6f (pv 0) A5e (A5d (pv 2))) (by with_unfolding_all rfl))
     (A0f (A2u A5b T.bG rfl T.aZ rfl (A0a (A3p (A3h (A4b (pv 3) (A3h A5h)))) A0e)))
     A0n)))))),?_⟩
  refine ⟨_,rfl,l,_,rfl,.inl (SqL.of hl),rfl,_,rfl,A8a (λh0=>⟨A0h (by show 1<=1000000;decide),ke (λg=>g.1 (List.eq_nil_of_length_eq_zero ?_)) _ (A0w.refl _)⟩) (λh0=> ?_)⟩
  ·have h0:((ys.map V.str).length:Int)=0:=by injection h0
   rw [Z08] at h0;omega
  have ne:ys≠[]:=λz=>h0 (by rw [z];rfl);refine ⟨_,rfl,l,_,rfl,SqL.of hl,?_⟩;refine B2d (K:=K) (a:=l) (xs:=ys.map V.str) (λi σ H2=>∃o1 o2:Option V,σ=[some (.ref l),some (.ref kk),o1,o2]/\A0w H H2/\∀j x,j<i->ys[j]? =some x->x∈kn/\x∉ys.take j) ⟨none,none,rfl,A0w.refl _,by intro j x h;omega⟩ (λi σ H2 ⟨_,_,_,s2,_⟩=>SqL.of (s2 _ _ hl)) ?_ ?_
  ·rintro i v σ H2 p hv ⟨o1,o2,rfl,s2,gd⟩ hp;rw [Z1z] at hv;obtain ⟨x,hx,rfl⟩:=Z0i.mp hv;have hi:i<ys.length:=(Z03.mp hx).1;obtain ⟨okx,lx⟩:=ok x (Z13 hx);have s3:=s2.trans (A0d (o:= .tup [.int (i:Nat),.str x]) hp);refine ⟨p,_,rfl,SqT.of A0b,rfl,_,_,rfl,_,_,rfl,rfl,?_⟩;refine ⟨_,rfl,_,rfl,kk,_,rfl,.inl (SqL.of (s3 _ _ hk)),rfl,A1t _,_,rfl,?_⟩;rw [A2n];refine A4l (λhno=> ?_) (λhyes=> ?_)
   ·refine ⟨A0h ?_,_,rfl,x,rfl,okx,A0h ?_,λz hz=>⟨A0h ?_,A0h ?_,A0h (by show 1<=1000000;decide),ke (λg=>hno (g.2 i x hx).1) _ s3⟩⟩
    ·have:("the out ":Str).length<=50:=by decide +kernel
     have:(" is no table and no let":Str).length<=50:=by decide +kernel
     simp only [A7u,A3f];omega
    ·have:("the out ":Str).length<=50:=by decide +kernel
     have:(" is no table and no let":Str).length<=50:=by decide +kernel
     simp only [A7u,A3f];omega
    ·have:("the out ":Str).length<=50:=by decide +kernel
     have:(" is no table and no let":Str).length<=50:=by decide +kernel
     simp only [A7u,A3f];omega
    ·have:("the out ":Str).length<=50:=by decide +kernel
     have:(" is no table and no let":Str).length<=50:=by decide +kernel
     simp only [A7u,A3f];omega
   refine ⟨_,rfl,_,rfl,_,rfl,_,rfl,l,_,rfl,SqL.of (s3 _ _ hl),λq hq=> ?_⟩;rw [A8v (Nat.le_of_lt hi)];have s6:=A0d (o:= .lst ((ys.take i).map V.str)) hq;refine ⟨q,(ys.take i).map V.str,rfl,.inl (SqL.of A0b),rfl,A1t _,_,rfl,?_⟩;rw [A2n];refine A8a (λhin=> ?_) (λhout=>⟨_,_,rfl,s3.trans s6,λj y hj hy=> ?_⟩)
   ·refine ⟨A0h ?_,_,rfl,x,rfl,okx,A0h ?_,λz hz=>⟨A0h ?_,A0h ?_,A0h (by show 1<=1000000;decide),ke (λg=>(g.2 i x hx).2 hin) _ (s3.trans s6)⟩⟩
    ·have:("the out ":Str).length<=50:=by decide +kernel
     have:(" is told twice":Str).length<=50:=by decide +kernel
     simp only [A7u,A3f];omega
    ·have:("the out ":Str).length<=50:=by decide +kernel
     have:(" is told twice":Str).length<=50:=by decide +kernel
     simp only [A7u,A3f];omega
    ·have:("the out ":Str).length<=50:=by decide +kernel
     have:(" is told twice":Str).length<=50:=by decide +kernel
     simp only [A7u,A3f];omega
    ·have:("the out ":Str).length<=50:=by decide +kernel
     have:(" is told twice":Str).length<=50:=by decide +kernel
     simp only [A7u,A3f];omega
   ·rcases Nat.lt_or_ge j i with h | h
    ·exact gd j y h hy
    ·have:j=i:=by omega
     subst this;rw [hx] at hy;cases hy;exact ⟨hyes,hout⟩
  ·rintro σ H2 ⟨o1,o2,rfl,s2,gd⟩;rw [Z08] at gd;exact kq ⟨ne,B2b gd⟩ H2 s2
theorem B3x (T:Txt K mg t):A2f P w K mg base (CXF P w) 1 t.dv t.dJ ["axes","known"] (C7q t):=by
 refine T.fJ.okF A7f (λvs H Q E h=> ?_) (λcdv A outer s H vs Q E hr h=> ?_)
 ·obtain ⟨l,kk,ys,kn,rfl,_⟩:=h;rfl
 ·obtain ⟨l,kk,ys,kn,rfl,hl,hk,ly,ok,kq,ke⟩:=h
  refine ⟨_,(A0c (A1f (A0s C3f (A0u A1b (by rfl) T.aW Z0r (A0a (pv 0) A0e)) (B2q T.gW rfl) (A1c _))
    (A0f (A2u A5b T.aP rfl T.aK rfl (A0a (A3p (C2n hr.gd hr.units0 (pv 0) (A3h A5h))) A0e)))
    A0n)
   (A0f (A4n PassesOwn.leaving rfl (B6b rfl T.dA (A0a (pv 0) A0e)) (A8e (n:=2) rfl (A2c (A1a (i:=2) A7f.nd rfl (Or.inl rfl) (Or.inl rfl)) (A2c (A1a (i:=3) A7f.nd rfl (Or.inl rfl) (Or.inl rfl)) A5z)))
    (A0c (A1f (A0s A1x (pv 3) (pv 1) (by with_unfolding_all rfl))
     (A0f (A2u A5b T.aP rfl T.aK rfl (A0a (A3p (A4b (pv 3) (A3h A5h))) A0e)))
     A0n)
    (A0f (A1f (A0s A6w (pv 3) (A4e A6f (pv 0) A5e (A5d (pv 2))) (by with_unfolding_all rfl))
     (A0f (A2u A5b T.aP rfl T.aK rfl (A0a (A3p (A3h (A4b (pv 3) (A3h A5h)))) A0e)))
     A0n)))))),?_⟩
  have rs:=D0u ok;refine ⟨_,rfl,l,_,rfl,.inl (SqL.of hl),_,_,rfl,rfl,_,rfl,A8a (λh0=> ?_) (λh0=> ?_)⟩
  ·have h3:3<ys.length:=by
    have h0:(3:Int)<((ys.map V.str).length:Nat):=h0;rw [Z08] at h0;omega
   have lit:(" are too many axes":Str).length<=30:=by decide +kernel
   refine ⟨_,rfl,l,ys,rfl,hl,(λz=>by rw [z] at h3;simp at h3),(λy hy=>(ok y hy).1),A0h (by rw [A3f];omega),λz hz=>⟨A0h ?_,A0h ?_,A0h (by show 1<=1000000;decide),ke (λg=>by have:=g.1;omega) _ (A0w.refl _)⟩⟩
   ·simp only [A7u,A3f];omega
   ·simp only [A7u,A3f];omega
  have l3:ys.length<=3:=by
   have h0:¬(3:Int)<((ys.map V.str).length:Nat):=h0;rw [Z08] at h0;omega
  refine ⟨_,rfl,l,_,rfl,SqL.of hl,?_⟩;refine B2d (K:=K) (a:=l) (xs:=ys.map V.str) (λi σ H2=>∃o1 o2:Option V,σ=[some (.ref l),some (.ref kk),o1,o2]/\A0w H H2/\∀j x,j<i->ys[j]? =some x->x∈kn/\x∉ys.take j) ⟨none,none,rfl,A0w.refl _,by intro j x h;omega⟩ (λi σ H2 ⟨_,_,_,s2,_⟩=>SqL.of (s2 _ _ hl)) ?_ ?_
  ·rintro i v σ H2 p hv ⟨o1,o2,rfl,s2,gd⟩ hp;rw [Z1z] at hv;obtain ⟨x,hx,rfl⟩:=Z0i.mp hv;have hi:i<ys.length:=(Z03.mp hx).1;obtain ⟨okx,lx⟩:=ok x (Z13 hx);have s3:=s2.trans (A0d (o:= .tup [.int (i:Nat),.str x]) hp);refine ⟨p,_,rfl,SqT.of A0b,rfl,_,_,rfl,_,_,rfl,rfl,?_⟩;refine ⟨_,rfl,_,rfl,kk,_,rfl,.inl (SqL.of (s3 _ _ hk)),rfl,A1t _,_,rfl,?_⟩;rw [A2n];refine A4l (λhno=> ?_) (λhyes=> ?_)
   ·refine ⟨_,rfl,x,rfl,okx,A0h ?_,λz hz=>⟨A0h ?_,A0h ?_,A0h (by show 1<=1000000;decide),ke (λg=>hno (g.2 i x hx).1) _ s3⟩⟩
    ·have:(" is no axis of the program":Str).length<=50:=by decide +kernel
     simp only [A7u,A3f];omega
    ·have:(" is no axis of the program":Str).length<=50:=by decide +kernel
     simp only [A7u,A3f];omega
    ·have:(" is no axis of the program":Str).length<=50:=by decide +kernel
     simp only [A7u,A3f];omega
   refine ⟨_,rfl,_,rfl,_,rfl,_,rfl,l,_,rfl,SqL.of (s3 _ _ hl),λq hq=> ?_⟩;rw [A8v (Nat.le_of_lt hi)];have s6:=A0d (o:= .lst ((ys.take i).map V.str)) hq;refine ⟨q,(ys.take i).map V.str,rfl,.inl (SqL.of A0b),rfl,A1t _,_,rfl,?_⟩;rw [A2n];refine A8a (λhin=> ?_) (λhout=>⟨_,_,rfl,s3.trans s6,λj y hj hy=> ?_⟩)
   ·refine ⟨A0h ?_,_,rfl,x,rfl,okx,A0h ?_,λz hz=>⟨A0h ?_,A0h ?_,A0h (by show 1<=1000000;decide),ke (λg=>(g.2 i x hx).2 hin) _ (s3.trans s6)⟩⟩
    ·have:("the axis ":Str).length<=50:=by decide +kernel
     have:(" comes twice in one list":Str).length<=50:=by decide +kernel
     simp only [A7u,A3f];omega
    ·have:("the axis ":Str).length<=50:=by decide +kernel
     have:(" comes twice in one list":Str).length<=50:=by decide +kernel
     simp only [A7u,A3f];omega
    ·have:("the axis ":Str).length<=50:=by decide +kernel
     have:(" comes twice in one list":Str).length<=50:=by decide +kernel
     simp only [A7u,A3f];omega
    ·have:("the axis ":Str).length<=50:=by decide +kernel
     have:(" comes twice in one list":Str).length<=50:=by decide +kernel
     simp only [A7u,A3f];omega
   ·rcases Nat.lt_or_ge j i with h | h
    ·exact gd j y h hy
    ·have:j=i:=by omega
     subst this;rw [hx] at hy;cases hy;exact ⟨hyes,hout⟩
  ·rintro σ H2 ⟨o1,o2,rfl,s2,gd⟩;rw [Z08] at gd;exact kq ⟨l3,B2b gd⟩ H2 s2
end
theorem B9x {k:Key}:∀{l:List (Key×V)},k∉l.map (·.1)->A9p l k=none
 | [],_=>rfl
 | p::r,h=>by
  have h1:¬p.1=k:=λz=>h (by rw [<-z];exact .head _);have h2:=B9x (l:=r) λz=>h (.tail _ z);unfold A9p at h2⊢;rw [List.find?_cons];simp only [Z1j h1];exact h2
theorem A7b:∀{ws acc:List (Key×V)},((acc++ws).map (·.1)).Nodup->A2z acc ws=acc++ws
 | [],acc,_=>by rw [Z0u];rfl
 | w::r,acc,h=>by
  have hn:w.1∉acc.map (·.1):=λz=>by
   rw [Z0s,Z0p] at h;exact (Z0l.mp h).2.2 _ z _ (.head _) rfl
  show A2z (A4o acc w.1 w.2) r=_;rw [C3q w.2 (B9x hn),A7b (by rw [Z0z];exact h),Z0z];rfl
structure D1f (ax:List (Str×Int)) (tb:List (Str×List Str)) (ls:List Lt) (os:List Str):Prop where
 la:ax.length<=100
 lt:tb.length<=100
 ll:ls.length<=100
 lo:os.length<=500
 on:OkN (axN ax++arN tb ls)
 oo:OkN os
 t:∀e∈arr tb ls,e.2.length<=20/\OkN e.2
def GdN (ax:List (Str×Int)) (tb:List (Str×List Str)) (ls:List Lt) (os:List Str):Prop:=B8m (axN ax++arN tb ls)/\B8p (arN tb ls) os
def GdS (ax:List (Str×Int)) (tb:List (Str×List Str)) (ls:List Lt):Prop:=∀e∈arr tb ls,B7f (axN ax) e.2
def C3l (A:Adr):Sp:=λvs H Q E=>∃(p:Addr) (wh:Int) (ax:List (Str×Int)) (tb:List (Str×List Str)) (ls:List Lt) (os:List Str),vs=[.ref p]/\B4x A H p wh ax tb ls os/\D1f ax tb ls os/\
 (GdN ax tb ls os->GdS ax tb ls->∀H',A0w H H'->Q .non H')/\(¬GdN ax tb ls os->∀H',A0w H H'->E (.ref A.ai) none H')/\(GdN ax tb ls os->¬GdS ax tb ls->∀H',A0w H H'->E (.ref A.ag) none H')
theorem C7a {p:Str->Prop} {ns:List Str} (h:B1o p ns):ns.Nodup:=by
 rw [List.Nodup,List.pairwise_iff_getElem];intro i j hi hj hij e;refine (h j ns[j] (Z0b hj)).2 ?_;rw [<-e];exact List.mem_iff_getElem.mpr ⟨i,by rw [Z0x];omega,List.getElem_take⟩
theorem B0n {S:Addr->Prop} {H:Hp}:∀{ws:List (Key×V)} {es:List (Str×List Str)},B2j S H ws es->ws.map (·.1)=es.map λe=>(Sum.inr e.1:Key)
 | _,_,.nil=>rfl
 | _,_,.cons ⟨h,_⟩ t=>by rw [Z0p,Z0p,B0n t,h]
theorem C1a (tb:List (Str×List Str)) (ls:List Lt):(arr tb ls).map (·.1)=arN tb ls:=by
 unfold arr arN;rw [Z0s,List.map_map];rfl
section
variable {P:Program} {w:World} {K:PySem.W.Frag} {mg:Str->Option Value} {base:Heap} {t:Adr}
theorem B2i (T:Txt K mg t):A2f P w K mg base (CXF P w) 4 t.cB t.cc ["program"] (C3l t):=by
 have G_array_names:=B1c (P:=P) (w:=w) (base:=base) T;have G_arrays_of:=B4m (P:=P) (w:=w) (base:=base) T;have G_axis_names:=A8w (P:=P) (w:=w) (base:=base) T;have G_look_axes:=B3x (P:=P) (w:=w) (base:=base) T;have G_look_outs:=B4a (P:=P) (w:=w) (base:=base) T;have G_look_told_names:=A8r (P:=P) (w:=w) (base:=base) T;refine T.fj.okF A8f (λvs H Q E h=> ?_) (λcdv A outer s H vs Q E hr h=> ?_)
 ·obtain ⟨p,wh,ax,tb,ls,os,rfl,_⟩:=h;rfl
 ·obtain ⟨p,wh,ax,tb,ls,os,rfl,pr,ok,kQ,kN,kS⟩:=h;obtain ⟨dx,a,tt,l,o,e,ra,rt,⟨xl,hl,rl⟩,ro⟩:=pr.ob;obtain ⟨o2,eo,ho⟩:=C3e ro;cases eo;have la:=ok.la;have lt:=ok.lt;have ll:=ok.ll
  refine ⟨_,(A0c (A2k (A0p G_look_told_names (hr.mono (by omega)) rfl T.eZ T.bO.kp T.eS .nil A9l (A0a (A0y A5g (A0p G_axis_names (hr.mono (by omega)) rfl T.cC T.bB.kp T.cx .nil A1e (A0a (pv 0) A0e)) (A0p G_array_names (hr.mono (by omega)) rfl T.dS T.bX.kp T.dW .nil A1e (A0a (pv 0) A0e))) A0e)))
   (A0c (A2k (A0p G_look_outs (hr.mono (by omega)) rfl T.iA T.fG.kp T.iu .nil A9l (A0a (A1j (pv 0) rfl) (A0a (A0p G_array_names (hr.mono (by omega)) rfl T.dS T.bX.kp T.dW .nil A1e (A0a (pv 0) A0e)) A0e))))
   (A0c (A4n PassesOwn.leaving rfl (C0o (B9l PySem.F.plainAttrs_dict PySem.F.slot_dict_values PySem.F.type_dict_values C0i (A0p G_arrays_of (hr.mono (by omega)) rfl T.iE T.fD.kp T.iB .nil A1e (A0a (pv 0) A0e)))) (A1a (i:=1) A8f.nd rfl (Or.inl rfl) (Or.inl rfl))
    (A0f (A2k (A0p G_look_axes (hr.mono (by omega)) rfl T.iF T.fJ.kp T.iL .nil A9l (A0a (pv 1) (A0a (A0p G_axis_names (hr.mono (by omega)) rfl T.cC T.bB.kp T.cx .nil A1e (A0a (pv 0) A0e)) A0e))))))
   (C2y A0n)))),?_⟩
  refine ⟨_,rfl,p,wh,ax,tb,ls,os,rfl,pr,la,λq1 H1 hq1 s1 h1=> ?_⟩;refine ⟨_,rfl,p,wh,ax,tb,ls,os,rfl,pr.same s1,lt,ll,λq2 H2 hq2 s2 h2=> ?_⟩;have z1:((axN ax).map V.str++(arN tb ls).map V.str)=(axN ax++arN tb ls).map V.str:=by simp
  have ln:(axN ax++arN tb ls).length<=300:=by simp [axN,arN];omega
  refine ⟨q1,q2,_,_,rfl,rfl,s2 _ _ h1,h2,A0h (by rw [Z06] at ln;rw [Z08,Z08];omega),λq3 hq3=> ?_⟩;rw [z1];have s3:=(s1.trans s2).trans (A0d (o:= .lst ((axN ax++arN tb ls).map V.str)) hq3);refine ⟨q3,_,rfl,A0b,by omega,ok.on,λg1 H4 s4=> ?_,λg1 H4 s4=>kN (λz=>g1 z.1) H4 (s3.trans s4)⟩;have s5:=s3.trans s4;refine ⟨_,rfl,p,_,dx,_,_,rfl,s5 _ _ e,T.ao,T.cK,(by walk_at "lk"),_,rfl,p,wh,ax,tb,ls,os,rfl,pr.same s5,lt,ll,λq6 H6 hq6 s6 h6=> ?_⟩;have s7:=s5.trans s6;refine ⟨o,q6,os,_,rfl,s7 _ _ ho,h6,ok.lo,ok.oo,λg2 H8 s8=> ?_,λg2 H8 s8=>kN (λz=>g2 z.2) H8 (s7.trans s8)⟩;have s9:=s7.trans s8;have gN:GdN ax tb ls os:=⟨g1,g2⟩;refine ⟨_,rfl,p,wh,ax,tb,ls,os,rfl,pr.same s9,by omega,by omega,λqd ws Hd hqd sd hd arw=> ?_⟩
  have nk:A2z [] ws=ws:=by
   refine A7b ?_;rw [List.nil_append,B0n arw]
   have h1:((arr tb ls).map (·.1)).Nodup:=by
    rw [C1a];exact (Z0l.mp (C7a g1)).2.1
   rw [List.Nodup,List.pairwise_map] at h1⊢;exact h1.imp λhne z=>hne (by injection z)
  rw [nk] at hd;have s10:=s9.trans sd;refine ⟨.inr (.inr (.inl ⟨rfl,.inl ⟨ws,hd⟩⟩)),qd,ws,rfl,rfl,hd,λpv hpv=> ?_⟩;have nv:qd≠pv:=λz=>by subst z;rw [hd] at hpv;cases hpv
  refine ⟨pv,qd,ws,rfl,A0b,by rw [A0j nv];exact hd,λob=> ?_⟩
  have frq:∀b u,b≠qd->Hd b=some u->upd (upd Hd pv (B3v pv qd)) qd (.frz ob (.dK ws)) b=some u:=λb u hb e=>by
   rw [A0j hb];exact A0d hpv _ _ e
  have nq:∀b u,H b=some u->b≠qd:=λb u e z=>by
   subst z;have:=s9 _ _ e;rw [this] at hqd;cases hqd
  have S11:A0w H (upd (upd Hd pv (B3v pv qd)) qd (.frz ob (.dK ws))):=λb u e=>frq b u (nq b u e) (s10 _ _ e);refine B8e (a:=qd) (o:=ob) (kvs:=ws) (λi σ H2=>∃o1:Option V,σ=[some (.ref p),o1]/\A0w (upd (upd Hd pv (B3v pv qd)) qd (.frz ob (.dK ws))) H2/\∀j e,j<i->(arr tb ls)[j]? =some e->B7f (axN ax) e.2) ⟨none,rfl,A0w.refl _,by intro j e h;omega⟩ (λi σ H2 ⟨_,_,s2,_⟩=>s2 _ _ A0b) ?_ ?_
  ·rintro i kk v σ H2 hkv ⟨o1,rfl,s2,gd⟩;obtain ⟨ee,hee,_,c,ec,_,hc⟩:=B9a arw hkv;have ec:v= .ref c:=ec;subst ec;have cq:c≠qd:=A1l hc hd (by intro z;cases z);have hc2:=s2 _ _ (frq _ _ cq hc);obtain ⟨l20,okys⟩:=ok.t ee (Z13 hee);refine ⟨_,rfl,_,rfl,p,wh,ax,tb,ls,os,rfl,pr.same (S11.trans s2),la,λq3 H3 hq3 s3 h3=> ?_⟩;refine ⟨c,q3,ee.2,_,rfl,s3 _ _ hc2,h3,l20,okys,λg H4 s4=>⟨_,rfl,s2.trans (s3.trans s4),λj e hj he=> ?_⟩,λg H4 s4=>kS gN (λz=>g (z ee (Z13 hee))) H4 (S11.trans (s2.trans (s3.trans s4)))⟩;rcases Nat.lt_or_ge j i with h | h
   ·exact gd j e h he
   ·have:j=i:=by omega
    subst this;rw [hee] at he;cases he;exact g
  ·rintro σ H2 ⟨o1,rfl,s2,gd⟩;have hq0:H qd=none:=s9.free hqd;refine ⟨qd,ob,ws,s2 _ _ A0b,λo' u' z=> ?_,kQ gN (λe he=> ?_) _ (A0t (S11.trans s2) hq0)⟩
   ·have z':H qd=some _:=z;rw [hq0] at z';cases z'
   ·obtain ⟨j,hj,e2⟩:=List.mem_iff_getElem.mp he;refine gd j e ?_ (by rw [Z0b hj,e2]);rw [Paired.length arw];exact hj
end
theorem A9y {ws:List (Key×V)} {k:Key} (n:∀p∈ws,p.1≠k) (u:V):A4o ws k u=ws++[(k,u)]:=by
 unfold A4o;rw [Z0t];intro h;obtain ⟨p,hp,e⟩:=List.any_eq_true.mp h;exact n p hp (of_decide_eq_true e)
def shp (es:List (Str×List Str)) (a:Str):Option (List Str):=(es.find? λe=>decide (e.1=a)).map (·.2)
def A9z:Tm->List Str
 | .sum x b=>x::A9z b
 | _=>[]
def ixB (bd:List Str) (ix:List (Str×Int)):Bool:=ix.all λe=>decide (e.1="")||decide (e.1∈bd)
def B3g (es:List (Str×List Str)) (bd:List Str) (a:Str) (ix:List (Str×Int)):Option Bool:=match shp es a with
 | none=>some true
 | some zs=>if ix.length≠zs.length then some false else if ixB bd ix=true then none else some false
def pOk (kn:List Str) (es:List (Str×List Str)) (own:Str) (ys:List Str) (nt:Nat) (e:PT):Option Bool:=match e.1 with
 | .place x=>if x∈ys++e.2.1 then none else some false
 | .guard x _ _ _ _=>if x∈ys++e.2.1 then none else some false
 | .sum x _=>if x∈kn then (if x∈ys++e.2.1 then some false else none) else some false
 | .read a ix=>match B3g es (ys++e.2.1) a ix with
  | some b=>some b
  | none=>if a=own/\nt<e.2.1.length then some false else none
 | .num _=>none
 | .pair _ _ _=>none
def B5z (es:List (Str×List Str)) (l:Lt):List (Str×List Str):=es++[(l.1,l.2.1)]
def B8b (kn:List Str) (es:List (Str×List Str)) (l:Lt):Option Bool:=(prT l.2.2 [] []).findSome? (pOk kn (B5z es l) l.1 l.2.1 (A9z l.2.2).length)
def A1v (kn:List Str):List (Str×List Str)->List Lt->Option Bool
 | _,[]=>none
 | es,l::r=>match B8b kn es l with
  | some b=>some b
  | none=>A1v kn (B5z es l) r
def D2d (A:Adr):Bool->Addr
 | true=>A.ai
 | false=>A.ag
def Out (A:Adr) (r:Option Bool) (Q:VK) (E:XK) (H:Hp):Prop:=(r=none->∀H',A0w H H'->Q .non H')/\∀b,r=some b->∀H',A0w H H'->E (.ref (D2d A b)) none H'
theorem Out.of {A:Adr} {r:Option Bool} {Q:VK} {E:XK} {H H1:Hp} (h:Out A r Q E H) (s:A0w H H1):Out A r Q E H1:=⟨λz H' s'=>h.1 z H' (s.trans s'),λb z H' s'=>h.2 b z H' (s.trans s')⟩
def OkT:Tm->Prop
 | .num _=>True
 | .place x=>OkX x
 | .read a ix=>OkX a/\ix.length<=100/\∀e∈ix,OkX e.1
 | .sum x b=>OkX x/\OkT b
 | .pair _ l r=>OkT l/\OkT r
 | .guard x _ _ l r=>OkX x/\OkT l/\OkT r
theorem A5l:∀(u:Tm) (s:List Str) (g:List Gd),OkT u->∀e∈prT u s g,OkT e.1
 | .num _,s,g,h,e,he=>by rw [Z0w.mp he];exact h
 | .place _,s,g,h,e,he=>by rw [Z0w.mp he];exact h
 | .read _ _,s,g,h,e,he=>by rw [Z0w.mp he];exact h
 | .sum x b,s,g,h,e,he=>by
  rcases Z0e.mp he with rfl | he
  ·exact h
  ·exact A5l b _ _ h.2 e he
 | .pair k l r,s,g,h,e,he=>by
  rcases Z0e.mp he with rfl | he
  ·exact h
  ·rcases Z07.mp he with he | he
   ·exact A5l l _ _ h.1 e he
   ·exact A5l r _ _ h.2 e he
 | .guard x lo hi l r,s,g,h,e,he=>by
  rcases Z0e.mp he with rfl | he
  ·exact h
  ·rcases Z07.mp he with he | he
   ·exact A5l l _ _ h.2.1 e he
   ·exact A5l r _ _ h.2.2 e he
theorem B0a {S:Addr->Prop} {H:Hp} {a:Str}:∀{kvs:List (Key×V)} {es:List (Str×List Str)},B2j S H kvs es->(shp es a=none/\A9p kvs (Sum.inr a)=none)\/∃zs c,shp es a=some zs/\A9p kvs (Sum.inr a)=some (.ref c)/\H c=some (.lst (zs.map V.str))
 | _,_,.nil=> .inl ⟨rfl,rfl⟩
 | _,_,@Paired.cons _ _ _ p e _ _ ⟨ek,b,eb,_,hb⟩ t=>by
  by_cases he:e.1=a
  ·refine .inr ⟨e.2,b,by simp [shp,List.find?_cons,he],?_,hb⟩;rw [A8n (by rw [ek,he]),eb]
  ·have h1:∀r,shp (e::r) a=shp r a:=λr=>by simp [shp,List.find?_cons,he]
   rw [h1,A8i (λz=>he (by rw [ek] at z;injection z))];exact B0a t
def C2g (A:Adr):Sp:=λvs H Q E=>∃(x:Str) (b:Addr) (bs:List Str),vs=[.str x,.ref b]/\H b=some (.lst (bs.map V.str))/\OkX x/\Out A (if x∈bs then none else some false) Q E H
def C8q (A:Adr):Sp:=λvs H Q E=>∃(x:Str) (b k:Addr) (bs kn:List Str),vs=[.str x,.ref b,.ref k]/\H b=some (.lst (bs.map V.str))/\H k=some (.lst (kn.map V.str))/\OkX x/\Out A (if x∈kn then (if x∈bs then some false else none) else some false) Q E H
def C7c (A:Adr):Sp:=λvs H Q E=>∃(o dx l b d:Addr) (a:Str) (ix:List (Str×Int)) (bs:List Str) (kvs:List (Key×V)) (es:List (Str×List Str)),vs=[.ref o,.ref b,.ref d]/\H o=some (.ins A.aj dx [("array",.str a),("indexes",.ref l)])/\Rep H (.ref l) (A3o ix)/\H b=some (.lst (bs.map V.str))/\H d=some (.dK kvs)/\B2j (λ_=>True) H kvs es/\OkX a/\(∀e∈ix,OkX e.1)/\Out A (B3g es bs a ix) Q E H
def C9k (A:Adr):Sp:=λvs H Q _=>∃(v:V) (u:Tm),vs=[v]/\Ob A H v u/\dep u<=100/\∀(q:Addr) (H':Hp),H q=none->A0w H H'->H' q=some (.lst ((A9z u).map V.str))->Q (.ref q) H'
def C9a (A:Adr):Sp:=λvs H Q E=>∃(v y:V) (a:Str) (ix:List (Str×Int)) (ss:List Str) (gg:List Gd) (le:Lt),vs=[v,y]/\A4z A H v (.read a ix,ss,gg)/\B1w A (λ_=>True) H y le/\dep le.2.2<=100/\OkX le.1/\Out A (if a=le.1/\(A9z le.2.2).length<ss.length then some false else none) Q E H
def C5q (A:Adr):Sp:=λvs H Q E=>∃(v y:V) (d k:Addr) (e:PT) (le:Lt) (kn:List Str) (kvs:List (Key×V)) (es:List (Str×List Str)),vs=[v,y,.ref d,.ref k]/\A4z A H v e/\B1w A (λ_=>True) H y le/\le.2.1.length<=100/\dep le.2.2<=100/\OkX le.1/\H k=some (.lst (kn.map V.str))/\H d=some (.dK kvs)/\B2j (λ_=>True) H kvs es/\OkT e.1/\Out A (pOk kn es le.1 le.2.1 (A9z le.2.2).length e) Q E H
structure C8u (ax:List (Str×Int)) (tb:List (Str×List Str)) (ls:List Lt):Prop where
 la:ax.length<=100
 lt:tb.length<=100
 ll:ls.length<=100
 nd:(arN tb ls).Nodup
 l:∀e∈ls,e.2.1.length<=100/\OkX e.1/\OkT e.2.2/\dep e.2.2<=9/\nod e.2.2<=1000
def C2z (A:Adr):Sp:=λvs H Q E=>∃(p:Addr) (wh:Int) (ax:List (Str×Int)) (tb:List (Str×List Str)) (ls:List Lt) (os:List Str),vs=[.ref p]/\B4x A H p wh ax tb ls os/\C8u ax tb ls/\Out A (A1v (axN ax) tb ls) Q E H
theorem C7v {H:Hp}:∀{tb:List (Str×List Str)} {xs:List V},A3x H xs (tb.map B6g)->∃kvs,PL H xs kvs/\B2j (λ_=>True) H kvs tb
 | [],_,r=>by cases r;exact ⟨[],.nil,.nil⟩
 | e::tb,_,r=>by
  rw [Z0p] at r
  cases r with
  | cons a r =>
   obtain ⟨b,c,rfl,eb,ec⟩:=C6z a;obtain ⟨kvs,h1,h2⟩:=C7v r;exact ⟨(Sum.inr e.1,.ref c)::kvs,.cons ⟨b,rfl,eb⟩ h1,.cons ⟨rfl,c,rfl,True.intro,ec⟩ h2⟩
theorem A8g {S:Addr->Prop} {H H':Hp} {kvs:List (Key×V)} {es:List (Str×List Str)} (h:B2j S H kvs es) (s:A0w H H'):B2j S H' kvs es:=Paired.mapP h λ_ _ ⟨z1,b,z2,z3,z4⟩=>⟨z1,b,z2,z3,s _ _ z4⟩
theorem B6u {α:Type} {l:List α} {i:Nat} {x:α} (h:l[i]? =some x):l.drop i=x::l.drop (i+1):=by
 have hi:=(Z03.mp h).1;rw [List.drop_eq_getElem_cons hi,(Z03.mp h).2]
section
variable {P:Program} {w:World} {K:PySem.W.Frag} {mg:Str->Option Value} {base:Heap} {t:Adr}
theorem A8t (T:Txt K mg t):A2f P w K mg base (CXF P w) 1 t.cF t.cD ["axis","bound"] (C2g t):=by
 refine T.cH.okF B2e (λvs H Q E h=> ?_) (λcdv A outer s H vs Q E hr h=> ?_)
 ·obtain ⟨x,b,bs,rfl,_⟩:=h;rfl
 ·obtain ⟨x,b,bs,rfl,hb,⟨okx,lx⟩,ko⟩:=h
  refine ⟨_,(A0f (A1f (A0s A1x (pv 0) (pv 1) (by with_unfolding_all rfl))
    (A0f (A2u A5b T.aP rfl T.aK rfl (A0a (A3p (A3h (A4b (pv 0) (A3h A5h)))) A0e)))
    A0n)),?_⟩
  have l1:("the axis ":Str).length<=50:=by decide +kernel
  have l2:(" is not bound":Str).length<=50:=by decide +kernel
  refine ⟨_,rfl,_,rfl,b,_,rfl,.inl (SqL.of hb),rfl,A1t _,_,rfl,?_⟩;rw [A2n];refine A4l (λhno=> ?_) (λhyes=>ko.1 (Z12 hyes) _ (A0w.refl _));refine ⟨A0h ?_,_,rfl,x,rfl,okx,A0h ?_,λz hz=>⟨A0h ?_,A0h ?_,A0h (by show 1<=1000000;decide),ko.2 false (Z0t hno) _ (A0w.refl _)⟩⟩ <;> (simp only [A7u,A3f];omega)
theorem B5i (T:Txt K mg t):A2f P w K mg base (CXF P w) 1 t.eD t.eG ["axis","bound","known"] (C8q t):=by
 refine T.fW.okF B5g (λvs H Q E h=> ?_) (λcdv A outer s H vs Q E hr h=> ?_)
 ·obtain ⟨x,b,kk,bs,kn,rfl,_⟩:=h;rfl
 ·obtain ⟨x,b,kk,bs,kn,rfl,hb,hk,⟨okx,lx⟩,ko⟩:=h
  refine ⟨_,(A0c (A1f (A0s A1x (pv 0) (pv 2) (by with_unfolding_all rfl))
    (A0f (A2u A5b T.aP rfl T.aK rfl (A0a (A3p (A4b (pv 0) (A3h A5h))) A0e)))
    A0n)
   (A0f (A1f (A0s A6w (pv 0) (pv 1) (by with_unfolding_all rfl))
    (A0f (A2u A5b T.aP rfl T.aK rfl (A0a (A3p (A3h (A4b (pv 0) (A3h A5h)))) A0e)))
    A0n))),?_⟩
  have l1:("the axis ":Str).length<=50:=by decide +kernel
  have l2:(" of a sum is bound already":Str).length<=50:=by decide +kernel
  have l3:(" is no axis of the program":Str).length<=50:=by decide +kernel
  refine ⟨_,rfl,_,rfl,kk,_,rfl,.inl (SqL.of hk),rfl,A1t _,_,rfl,?_⟩;rw [A2n];refine A4l (λhno=> ?_) (λhyes=> ?_)
  ·refine ⟨_,rfl,x,rfl,okx,A0h ?_,λz hz=>⟨A0h ?_,A0h ?_,A0h (by show 1<=1000000;decide),ko.2 false (Z0t hno) _ (A0w.refl _)⟩⟩ <;> (simp only [A7u,A3f];omega)
  rw [Z12 hyes] at ko;refine ⟨_,rfl,_,rfl,b,_,rfl,.inl (SqL.of hb),rfl,A1t _,_,rfl,?_⟩;rw [A2n];refine A8a (λhin=> ?_) (λhout=>ko.1 (Z0t hout) _ (A0w.refl _));refine ⟨A0h ?_,_,rfl,x,rfl,okx,A0h ?_,λz hz=>⟨A0h ?_,A0h ?_,A0h (by show 1<=1000000;decide),ko.2 false (Z12 hin) _ (A0w.refl _)⟩⟩ <;> (simp only [A7u,A3f];omega)
theorem B4c (T:Txt K mg t):A2f P w K mg base (CXF P w) 2 t.cS t.dE ["read","bound","arrays"] (C7c t):=by
 have G_look_bound:=A8t (P:=P) (w:=w) (base:=base) T;refine T.fF.okF A4y (λvs H Q E h=> ?_) (λcdv A outer s H vs Q E hr h=> ?_)
 ·obtain ⟨o,dx,l,b,d,a,ix,bs,kvs,es,rfl,_⟩:=h;rfl
 ·obtain ⟨o,dx,l,b,d,a,ix,bs,kvs,es,rfl,ho,rl,hb,hd,aw,⟨oka,la'⟩,okx,ko⟩:=h;have hu:=B1e hr;obtain ⟨l',xs,el,hl,rs⟩:=A4a (show Rep H (.ref l) (.list (ix.map A9q)) from rl);cases el;have lxs:=rs.len;rw [Z08] at lxs
  refine ⟨_,(A0c (A0x (i:=3) A4y.nd rfl (Or.inl rfl) (A1j (pv 0) rfl))
   (A0c (A1f (C4m (C0b hu (pv 3) (pv 2)) (by with_unfolding_all rfl))
    (A0f (A2u A5b T.bG rfl T.aZ rfl (A0a (A3p (A4b (pv 3) (A3h A5h))) A0e)))
    A0n)
   (A0c (A1f (A0s B1d (A0u A1b (by rfl) T.aW Z0r (A0a (A1j (pv 0) rfl) A0e)) (A0u A1b (by rfl) T.aW Z0r (A0a (A1p hu (pv 2) (pv 3) (λ_ _=>rfl)) A0e)) (A1c _))
    (A0f (A2u A5b T.aP rfl T.aK rfl (A0a (A3p (A3h (A4b (pv 3) (A3h A5h)))) A0e)))
    A0n)
   (A0f (A4n PassesOwn.leaving rfl (A3e (A1j (pv 0) rfl)) (A8e (n:=2) rfl (A2c (A1a (i:=4) A4y.nd rfl (Or.inl rfl) (Or.inl rfl)) (A2c (A1a (i:=5) A4y.nd rfl (Or.inl rfl) (Or.inl rfl)) A5z)))
    (A0f (A1f (A0s B1d (pv 4) A0r (A1c _))
     (A0f (A2k (A0p G_look_bound (hr.mono (by omega)) rfl T.fh T.cH.kp T.eY .nil A9l (A0a (pv 4) (A0a (pv 1) A0e)))))
     A0n))))))),?_⟩
  have l1:(" is no table, no let ahead and not the let itself":Str).length<=90:=by decide +kernel
  have l2:("a read of ":Str).length<=90:=by decide +kernel
  have l3:(" has another number of indexes than the array axes":Str).length<=90:=by decide +kernel
  refine ⟨_,rfl,o,_,dx,_,_,rfl,ho,T.bp,T.bZ,(by walk_at "lk"),?_⟩;rcases B0a (a:=a) aw with ⟨e1,e2⟩ | ⟨zs,c,e1,e2,hc⟩
  ·have g:B5b H d (.str a) none:= .inl ⟨kvs,Sum.inr a,.inl hd,rfl,e2.symm⟩;have er:B3g es bs a ix=some true:=by unfold B3g;rw [e1]
   refine ⟨_,rfl,_,rfl,d,_,rfl,g,_,rfl,A8y ?_⟩;refine ⟨_,rfl,a,rfl,oka,A0h ?_,λz hz=>⟨A0h ?_,A0h ?_,A0h (by show 1<=1000000;decide),ko.2 true er _ (A0w.refl _)⟩⟩ <;> (simp only [A7u,A3f];omega)
  have g:B5b H d (.str a) (some (.ref c)):= .inl ⟨kvs,Sum.inr a,.inl hd,rfl,e2.symm⟩;refine ⟨_,rfl,_,rfl,d,_,rfl,g,_,rfl,A2q ?_⟩;refine ⟨_,rfl,o,_,dx,_,_,rfl,ho,T.bp,T.bu,(by walk_at "lk"),l,_,rfl,.inl (SqL.of hl),_,rfl,_,rfl,d,_,rfl,g,c,_,rfl,.inl (SqL.of hc),rfl,_,rfl,A4l (λhne=> ?_) (λheq=> ?_)⟩
  ·have hne:ix.length≠zs.length:=λz=>hne (by rw [lxs,z,Z08]);have er:B3g es bs a ix=some false:=by unfold B3g;rw [e1];exact Z12 hne
   refine ⟨A0h ?_,_,rfl,a,rfl,oka,A0h ?_,λz hz=>⟨A0h ?_,A0h ?_,A0h (by show 1<=1000000;decide),ko.2 false er _ (A0w.refl _)⟩⟩ <;> (simp only [A7u,A3f];omega)
  have heq:ix.length=zs.length:=by have:=V.int.inj heq;rw [lxs,Z08] at this;omega
  have er:B3g es bs a ix=if ixB bs ix=true then none else some false:=by unfold B3g;rw [e1];exact Z0t (λz=>z heq)
  rw [er] at ko;refine ⟨_,rfl,o,_,dx,_,_,rfl,ho,T.bp,T.bu,(by walk_at "lk"),l,rfl,⟨_,SqL.of hl⟩,?_⟩;refine A3r (K:=K) (a:=l) (xs:=xs) (λi σ H2=>∃(o4 o5:Option V),σ=[some (.ref o),some (.ref b),some (.ref d),some (.str a),o4,o5]/\A0w H H2/\∀j e,j<i->ix[j]? =some e->e.1=""\/e.1∈bs) ⟨none,none,rfl,A0w.refl _,by intro j e h;omega⟩ (λi σ H2 _ ⟨_,_,_,s2,_⟩=>SqL.of (s2 _ _ hl)) ?_ ?_
  ·rintro i x σ H2 hx ⟨o4,o5,rfl,s2,gd⟩;obtain ⟨e,he,rx⟩:=A9m rs hx;obtain ⟨p,rfl,ep⟩:=C3p rx
   have nxt:(e.1=""\/e.1∈bs)->∀j e',j<i+1->ix[j]? =some e'->e'.1=""\/e'.1∈bs:=λh j e' hj he'=>by
    rcases Nat.lt_or_ge j i with hji | hji
    ·exact gd j e' hji he'
    ·have:j=i:=by omega
     subst this;rw [he] at he';cases he';exact h
   refine ⟨p,_,rfl,SqT.of (s2 _ _ ep),rfl,_,_,rfl,_,_,rfl,rfl,?_⟩;refine ⟨_,rfl,rfl,_,rfl,A4l (λhne=> ?_) (λheq=>⟨_,_,rfl,s2,nxt (.inl (V.str.inj heq))⟩)⟩;refine ⟨_,rfl,_,rfl,e.1,b,bs,rfl,s2 _ _ hb,okx e (Z13 he),λhq H3 s3=>⟨_,_,rfl,s2.trans s3,nxt (.inr ?_)⟩,λbb hbb H3 s3=> ?_⟩
   ·by_cases hin:e.1∈bs
    ·exact hin
    ·rw [Z0t hin] at hq;cases hq
   ·by_cases hin:e.1∈bs
    ·rw [Z12 hin] at hbb;cases hbb
    ·rw [Z0t hin] at hbb;cases hbb;refine ko.2 false (Z0t λz=> ?_) _ (s2.trans s3);have:=List.all_eq_true.mp z e (Z13 he);rcases Bool.or_eq_true_iff.mp this with z | z
     ·exact hne (by rw [of_decide_eq_true z])
     ·exact hin (of_decide_eq_true z)
  ·rintro σ H2 ⟨o4,o5,rfl,s2,gd⟩;refine ko.1 (Z12 (List.all_eq_true.mpr λe he=> ?_)) _ s2;obtain ⟨j,hj⟩:=List.getElem?_of_mem he;rcases gd j e (by rw [lxs];exact (Z03.mp hj).1) hj with z | z
   ·rw [Z20 z];rfl
   ·rw [Z20 z,Bool.or_true]
theorem B1b (T:Txt K mg t):A2f P w K mg base CX0 1 t.bR t.bU ["term"] (C9k t):=by
 refine T.eA.ok A3t (λvs H Q E h=> ?_) (λcdv A outer s H vs Q E hr h=> ?_)
 ·obtain ⟨v,u,rfl,_⟩:=h;rfl
 ·obtain ⟨v,u,rfl,ob,hd,k⟩:=h
  refine ⟨_,(A0c (A0x (i:=1) A3t.nd rfl (Or.inl rfl) (A2r A0e))
   (A0c (A0x (i:=2) A3t.nd rfl (Or.inl rfl) (pv 0))
   (A0c (C2p PassesOwn.never (A2d (A0u A1o (by rfl) T.ae Z0d (A0a (pv 2) (A0a (A3z (v:=V.ref t.av) rfl T.j5 rfl) A0e))))
    (A0c (A2k (B1l Z0k Z0n Z0o A3u (pv 1) (A0a (A1j (pv 2) rfl) A0e)))
    (A0f (A0x (i:=2) A3t.nd rfl (Or.inl rfl) (A1j (pv 2) rfl)))))
   (A0f (A0v (pv 1)))))),?_⟩
  refine ⟨A0h (by simp),λl hl=> ?_⟩;have s1:A0w H (upd H l (.lst [])):=A0d hl;refine ⟨_,rfl,?_⟩;refine ⟨λm σ H2=>∃(rest:V) (u':Tm) (dn:List Str),σ=[some v,some (.ref l),some rest]/\Ob t H rest u'/\A0w H H2/\H2 l=some (.lst (dn.map V.str))/\dn++A9z u'=A9z u/\dn.length+dep u'<=100/\m=dep u',⟨dep u,v,u,[],rfl,ob,s1,A0b,rfl,by show 0+dep u<=100;omega,rfl⟩,?_⟩;rintro m σ H2 ⟨rest,u',dn,rfl,ob',s2,h2,ed,bd,rfl⟩
  cases id ob' with
  | @num o dd z eo =>
   have ty:A7z K H2 (.ref o) (.ref t.aB):= .ins (s2 _ _ eo) T.c6 T.am.ha T.am.hn T.am.htk T.am.hm;have e:dn=A9z u:=by rw [<-ed];exact (Z0u _).symm
   exact ⟨_,rfl,_,_,_,_,rfl,ty,A1k T.bV,false,rfl,A2q ⟨_,rfl,k l H2 hl s2 (by rw [<-e];exact h2)⟩⟩
  | @place o dd x eo =>
   have ty:A7z K H2 (.ref o) (.ref t.af):= .ins (s2 _ _ eo) T.c5 T.au.ha T.au.hn T.au.htk T.au.hm;have e:dn=A9z u:=by rw [<-ed];exact (Z0u _).symm
   exact ⟨_,rfl,_,_,_,_,rfl,ty,A1k T.c9,false,rfl,A2q ⟨_,rfl,k l H2 hl s2 (by rw [<-e];exact h2)⟩⟩
  | @read o dd ll x ix eo rp =>
   have ty:A7z K H2 (.ref o) (.ref t.aj):= .ins (s2 _ _ eo) T.bp T.aD.ha T.aD.hn T.aD.htk T.aD.hm;have e:dn=A9z u:=by rw [<-ed];exact (Z0u _).symm
   exact ⟨_,rfl,_,_,_,_,rfl,ty,A1k T.di,false,rfl,A2q ⟨_,rfl,k l H2 hl s2 (by rw [<-e];exact h2)⟩⟩
  | @pair o dd op v1 v2 ll r eo ob1 ob2 =>
   have e:dn=A9z u:=by rw [<-ed];exact (Z0u _).symm
   have ki:PySem.W.kitOne K (.ref (A6y t op)) (.ref t.av)=some false:=by cases op with
    | plus=>exact T.fI
    | minus=>exact T.eV
    | times=>exact T.eQ
   exact ⟨_,rfl,_,_,_,_,rfl,B1y T (s2 _ _ eo),A1k ki,false,rfl,A2q ⟨_,rfl,k l H2 hl s2 (by rw [<-e];exact h2)⟩⟩
  | @guard o dd x lo hi v1 v2 ll r eo ob1 ob2 =>
   have ty:A7z K H2 (.ref o) (.ref t.aa):= .ins (s2 _ _ eo) T.aF T.ay.ha T.ay.hn T.ay.htk T.ay.hm;have e:dn=A9z u:=by rw [<-ed];exact (Z0u _).symm
   exact ⟨_,rfl,_,_,_,_,rfl,ty,A1k T.ce,false,rfl,A2q ⟨_,rfl,k l H2 hl s2 (by rw [<-e];exact h2)⟩⟩
  | @sum o dd x v2 bb eo ob1 =>
   have ty:A7z K H2 (.ref o) (.ref t.av):= .ins (s2 _ _ eo) T.bQ T.aS.ha T.aS.hn T.aS.htk T.aS.hm;have bd:dn.length+(dep bb+1)<=100:=bd;refine ⟨_,rfl,_,_,_,_,rfl,ty,A1k T.eM,true,rfl,A8y ?_⟩;refine ⟨λσ' H'=>∃m',m'<dep (.sum x bb)/\∃(rest:V) (u':Tm) (dn:List Str),σ'=[some v,some (.ref l),some rest]/\Ob t H rest u'/\A0w H H'/\H' l=some (.lst (dn.map V.str))/\dn++A9z u'=A9z u/\dn.length+dep u'<=100/\m'=dep u',λσ' H' z=>z,?_⟩;refine ⟨_,rfl,.inl ⟨rfl,_,SqL.of h2⟩,_,rfl,o,_,dd,_,_,rfl,s2 _ _ eo,T.bQ,T.bN,(by walk_at "lk"),l,_,_,rfl,rfl,h2,A1h (by rw [Z08];omega),?_⟩;have ol:o≠l:=λz=>by subst z;rw [hl] at eo;cases eo
   refine ⟨_,rfl,o,_,dd,_,_,rfl,by rw [A0j ol];exact s2 _ _ eo,T.bQ,T.df,(by walk_at "lk"),?_⟩;refine ⟨dep bb,by show dep bb<dep bb+1;omega,v2,bb,dn++[x],rfl,ob1,A0t s2 hl,by rw [A0b,Z0s];rfl,?_,?_,rfl⟩
   ·rw [<-ed,Z0z];rfl
   ·rw [Z06];show dn.length+1+dep bb<=100;omega
end
theorem B8x {α:Type} {f:α->Option Bool} {l:List α} {i:Nat} {x:α} (h:l[i]? =some x):(l.drop i).findSome? f=match f x with | some b=>some b | none=>(l.drop (i+1)).findSome? f:=by
 rw [B6u h,List.findSome?_cons];cases f x <;> rfl
theorem B8r {K:PySem.W.Frag} {t:Value} {c d:Addr} (h1:PySem.W.kitOne K t (.ref c)=some false) (h2:PySem.W.kitOne K t (.ref d)=some true):∀us,A3a ([c,d].map V.ref) us->PySem.W.kitAny K t us=some true:=λus r=>by
 cases r with
 | cons a r =>
  cases r with
  | cons b r =>
   cases r
   cases (show _=Value.ref c from a)
   cases (show _=Value.ref d from b)
   simp [PySem.W.kitAny,h1,h2]
theorem C1s {kn:List Str} {es:List (Str×List Str)} {l:Lt} {r:List Lt}:A1v kn es (l::r)=match B8b kn es l with | some b=>some b | none=>A1v kn (B5z es l) r:=rfl
section
variable {P:Program} {w:World} {K:PySem.W.Frag} {mg:Str->Option Value} {base:Heap} {t:Adr}
theorem A9u (T:Txt K mg t):A2f P w K mg base (CXF P w) 2 t.bv t.bt ["part","let"] (C9a t):=by
 have G_sums_at_top:=B1b (P:=P) (w:=w) (base:=base) T;refine T.cM.okF A6g (λvs H Q E h=> ?_) (λcdv A outer s H vs Q E hr h=> ?_)
 ·obtain ⟨v,y,a,ix,ss,gg,le,rfl,_⟩:=h;rfl
 ·obtain ⟨v,y,a,ix,ss,gg,le,rfl,⟨pa,dx,tv,sl,gl,gs,rfl,e,ob,hs,hg,bg,bs,pg⟩,⟨b,db,c,tv2,_,rfl,eb,_,ec,ob2⟩,dl,⟨okn,ln⟩,ko⟩:=h;have l1:(" reads itself within a sum that does not stand at the top":Str).length<=90:=by decide +kernel
  cases ob with
  | @read o dd ll x ix eo rp =>
   refine ⟨_,(A0f (A1f (PW.pt (A6h (A0s A2s (A1j (A1j (pv 0) rfl) rfl) (A1j (pv 1) rfl) (A1c _)) (A4p (A0s C3f (A0u A1b (by rfl) T.aW Z0r (A0a (A1j (pv 0) rfl) A0e)) (A0u A1b (by rfl) T.aW Z0r (A0a (A0p G_sums_at_top (hr.mono (by omega)) rfl T.gJ T.eA.kp T.gw .nil A1e (A0a (A1j (pv 1) rfl) A0e)) A0e)) (A1c _)))))
    (A0c (A0x (i:=2) A6g.nd rfl (Or.inl rfl) (A1j (pv 1) rfl))
    (A0f (A2u A5b T.aP rfl T.aK rfl (A0a (A3p (A4b (pv 2) (A3h A5h))) A0e))))
    A0n)),?_⟩
   refine ⟨_,rfl,pa,_,dx,_,_,rfl,e,T.aA,T.bD,(by walk_at "lk"),o,_,dd,_,_,rfl,eo,T.bp,T.bZ,(by walk_at "lk"),_,rfl,b,_,db,_,_,rfl,eb,T.ba,T.aX,(by walk_at "lk"),rfl,_,rfl,A8a (λheq=> ?_) (λhne=>A2q (ko.1 (Z0t λz=>hne (by rw [z.1])) _ (A0w.refl _)))⟩;have heq:a=le.1:=V.str.inj heq;refine ⟨_,rfl,pa,_,dx,_,_,rfl,e,T.aA,T.aC,(by walk_at "lk"),sl,_,rfl,.inl (SqL.of hs),_,rfl,b,_,db,_,_,rfl,eb,T.ba,T.cV,(by walk_at "lk"),tv2,le.2.2,rfl,ob2,dl,λq H1 hq s1 h1=>⟨q,_,rfl,.inl (SqL.of h1),_,_,rfl,rfl,_,rfl,A8a (λhgt=> ?_) (λhle=> ?_)⟩⟩
   ·have hgt:(A9z le.2.2).length<ss.length:=by
     have hgt:(((A9z le.2.2).map V.str).length:Int)<((ss.map V.str).length:Int):=hgt;rw [Z08,Z08] at hgt;omega
    refine ⟨_,rfl,b,_,db,_,_,rfl,s1 _ _ eb,T.ba,T.aX,(by walk_at "lk"),?_⟩;refine ⟨_,rfl,le.1,rfl,okn,A0h ?_,λz hz=>⟨A0h ?_,A0h ?_,A0h (by show 1<=1000000;decide),ko.2 false (Z12 ⟨heq,hgt⟩) _ s1⟩⟩ <;> (simp only [A7u,A3f];omega)
   ·have hle:¬(A9z le.2.2).length<ss.length:=by
     have hle:¬(((A9z le.2.2).map V.str).length:Int)<((ss.map V.str).length:Int):=hle;rw [Z08,Z08] at hle;omega
    exact ko.1 (Z0t λz=>hle z.2) _ s1
theorem B3p (T:Txt K mg t):A2f P w K mg base (CXF P w) 3 t.dj t.dC ["part","let","arrays","known"] (C5q t):=by
 have G_look_bound:=A8t (P:=P) (w:=w) (base:=base) T;have G_look_own_read:=A9u (P:=P) (w:=w) (base:=base) T;have G_look_read:=B4c (P:=P) (w:=w) (base:=base) T;have G_look_sum:=B5i (P:=P) (w:=w) (base:=base) T;refine T.fH.okF A7a (λvs H Q E h=> ?_) (λcdv A outer s H vs Q E hr h=> ?_)
 ·obtain ⟨v,y,d,kk,e,le,kn,kvs,es,rfl,_⟩:=h;rfl
 ·obtain ⟨v,y,d,kk,⟨u,ss,gg⟩,le,kn,kvs,es,rfl,pat,lat,lc,dl,okn,hk,hd,aw,okt,ko⟩:=h;obtain ⟨a,dx,tv,sl,gl,gs,rfl,e,ob,hs,hg,bg,bs,pg⟩:=id pat;obtain ⟨b,db,c,tv2,_,rfl,eb,_,ec,ob2⟩:=id lat;have ls:ss.length<=100:=by have bs:ss.length+dep u<=100:=bs;omega
  refine ⟨_,(A0c (A0x (i:=4) A7a.nd rfl (Or.inl rfl) (A1j (pv 0) rfl))
   (A0c (A0x (i:=5) A7a.nd rfl (Or.inl rfl) (A0y A5g (A1j (pv 1) rfl) (A1j (pv 0) rfl)))
   (A3n (A1f (A2d (A0u B7m (by rfl) T.ae Z0d (A0a (pv 4) (A0a (A4k (A0a (A3z (v:=V.ref t.af) rfl T.j4 rfl) (A0a (A3z (v:=V.ref t.aa) rfl T.fQ rfl) A0e))) A0e))))
    (A0f (A2k (A0p G_look_bound (hr.mono (by omega)) rfl T.fh T.cH.kp T.eY .nil A9l (A0a (A1j (pv 4) rfl) (A0a (pv 5) A0e)))))
    A0n)
   (A3n (A1f (A2d (A0u A1o (by rfl) T.ae Z0d (A0a (pv 4) (A0a (A3z (v:=V.ref t.av) rfl T.j5 rfl) A0e))))
    (A0f (A2k (A0p G_look_sum (hr.mono (by omega)) rfl T.iV T.fW.kp T.iU .nil A9l (A0a (A1j (pv 4) rfl) (A0a (pv 5) (A0a (pv 3) A0e))))))
    A0n)
   (A0f (A1f (A2d (A0u A1o (by rfl) T.ae Z0d (A0a (pv 4) (A0a (A3z (v:=V.ref t.aj) rfl T.jx rfl) A0e))))
    (A0c (A2k (A0p G_look_read (hr.mono (by omega)) rfl T.iy T.fF.kp T.iP .nil A9l (A0a (pv 4) (A0a (pv 5) (A0a (pv 2) A0e)))))
    (A0f (A2k (A0p G_look_own_read (hr.mono (by omega)) rfl T.fO T.cM.kp T.fK .nil A9l (A0a (pv 0) (A0a (pv 1) A0e))))))
    A0n)))))),?_⟩
  refine ⟨_,rfl,a,_,dx,_,_,rfl,e,T.aA,T.bD,(by walk_at "lk"),?_⟩;refine ⟨_,rfl,b,_,db,_,_,rfl,eb,T.ba,T.bM,(by walk_at "lk"),_,rfl,a,_,dx,_,_,rfl,e,T.aA,T.aC,(by walk_at "lk"),c,sl,_,_,rfl,rfl,ec,hs,A0h (by rw [Z08,Z08];omega),λl1 hl1=> ?_⟩;have z1:(le.2.1.map V.str++ss.map V.str)=(le.2.1++ss).map V.str:=by simp
  rw [z1];have s1:=A0d (o:= .lst ((le.2.1++ss).map V.str)) hl1;generalize hG:upd H l1 (.lst ((le.2.1++ss).map V.str))=G at s1⊢;have h1:G l1=some (.lst ((le.2.1++ss).map V.str)):=by rw [<-hG];exact A0b
  have skip:∀{C:Addr} {o dd:Addr} {fs:List (Str×V)} {G':Hp} {Q':VK},A0w G G'->G' o=some (.ins C dd fs)->True:=λ_ _=>True.intro;clear skip
  cases id ob with
  | @num o dd z eo0 =>
   have ty:∀{G':Hp},A0w H G'->A7z K G' (.ref o) (.ref t.aB):=λs=> .ins (s _ _ eo0) T.c6 T.am.ha T.am.hn T.am.htk T.am.hm;refine ⟨λσ' H'=>σ'=[some (.ref a),some (.ref b),some (.ref d),some (.ref kk),some (.ref o),some (.ref l1)]/\A0w H H',?_,?_⟩
   ·refine ⟨_,rfl,A0h (by show 2<=1000000;decide),λtp htp=> ?_⟩;have s2:=s1.trans (A0d (o:= .tup [.ref t.af,.ref t.aa]) htp)
    exact ⟨o,_,dd,_,tp,_,false,rfl,s2 _ _ eo0,T.c6,T.am.ha,T.am.hn,T.am.htk,T.am.hm,A0b,A4h (cs:=[t.af,t.aa]) (λc hc=>by
     rcases Z0e.mp hc with rfl | hc
     ·exact T.fL
     ·rw [Z0w.mp hc];exact T.cN),false,rfl,A2q ⟨rfl,s2⟩⟩
   rintro σ' H' ⟨rfl,s2⟩;refine ⟨λσ' H'=>σ'=[some (.ref a),some (.ref b),some (.ref d),some (.ref kk),some (.ref o),some (.ref l1)]/\A0w H H',?_,?_⟩
   ·exact ⟨_,rfl,_,_,_,_,rfl,ty s2,A1k T.bV,false,rfl,A2q ⟨rfl,s2⟩⟩
   rintro σ' H' ⟨rfl,s2⟩;exact ⟨_,rfl,_,_,_,_,rfl,ty s2,A1k T.g6,false,rfl,A2q (ko.1 rfl _ s2)⟩
  | @pair o dd op v1 v2 ll r eo0 ob1 ob2' =>
   have kiS:PySem.W.kitOne K (.ref (A6y t op)) (.ref t.av)=some false:=by cases op with
    | plus=>exact T.fI
    | minus=>exact T.eV
    | times=>exact T.eQ
   have kiR:PySem.W.kitOne K (.ref (A6y t op)) (.ref t.aj)=some false:=by cases op with
    | plus=>exact T.gT
    | minus=>exact T.gI
    | times=>exact T.gA
   have kiP:PySem.W.kitOne K (.ref (A6y t op)) (.ref t.af)=some false:=by cases op with
    | plus=>exact T.gC
    | minus=>exact T.ge
    | times=>exact T.fZ
   have kiG:PySem.W.kitOne K (.ref (A6y t op)) (.ref t.aa)=some false:=by cases op with
    | plus=>exact T.gD
    | minus=>exact T.gm
    | times=>exact T.g0
   have tyc:TyC K (A6y t op):=by cases op with
    | plus=>exact T.fb
    | minus=>exact T.cY
    | times=>exact T.cU
   refine ⟨λσ' H'=>σ'=[some (.ref a),some (.ref b),some (.ref d),some (.ref kk),some (.ref o),some (.ref l1)]/\A0w H H',?_,?_⟩
   ·refine ⟨_,rfl,A0h (by show 2<=1000000;decide),λtp htp=> ?_⟩;have s2:=s1.trans (A0d (o:= .tup [.ref t.af,.ref t.aa]) htp)
    exact ⟨o,_,dd,_,tp,_,false,rfl,s2 _ _ eo0,C0f T op,tyc.ha,tyc.hn,tyc.htk,tyc.hm,A0b,A4h (cs:=[t.af,t.aa]) (λc hc=>by
     rcases Z0e.mp hc with rfl | hc
     ·exact kiP
     ·rw [Z0w.mp hc];exact kiG),false,rfl,A2q ⟨rfl,s2⟩⟩
   rintro σ' H' ⟨rfl,s2⟩;refine ⟨λσ' H'=>σ'=[some (.ref a),some (.ref b),some (.ref d),some (.ref kk),some (.ref o),some (.ref l1)]/\A0w H H',?_,?_⟩
   ·exact ⟨_,rfl,_,_,_,_,rfl,B1y T (s2 _ _ eo0),A1k kiS,false,rfl,A2q ⟨rfl,s2⟩⟩
   rintro σ' H' ⟨rfl,s2⟩;exact ⟨_,rfl,_,_,_,_,rfl,B1y T (s2 _ _ eo0),A1k kiR,false,rfl,A2q (ko.1 rfl _ s2)⟩
  | @place o dd x eo0 =>
   have ty:∀{G':Hp},A0w H G'->A7z K G' (.ref o) (.ref t.af):=λs=> .ins (s _ _ eo0) T.c5 T.au.ha T.au.hn T.au.htk T.au.hm;have ko:Out t (if x∈le.2.1++ss then none else some false) Q E H:=ko;refine ⟨λσ' H'=>σ'=[some (.ref a),some (.ref b),some (.ref d),some (.ref kk),some (.ref o),some (.ref l1)]/\A0w H H'/\(if x∈le.2.1++ss then none else some false)=(none:Option Bool),?_,?_⟩
   ·refine ⟨_,rfl,A0h (by show 2<=1000000;decide),λtp htp=> ?_⟩;have sT:=A0d (o:= .tup [.ref t.af,.ref t.aa]) htp;have s2:=s1.trans sT;refine ⟨o,_,dd,_,tp,_,true,rfl,s2 _ _ eo0,T.c5,T.au.ha,T.au.hn,T.au.htk,T.au.hm,A0b,C2e (c:=t.af) (cs:=[t.aa]) T.fY,true,rfl,A8y ?_⟩;exact ⟨_,rfl,o,_,dd,_,_,rfl,s2 _ _ eo0,T.c5,T.dU,(by walk_at "lk"),_,rfl,x,l1,_,rfl,sT _ _ h1,okt,λhq H3 s3=>⟨rfl,s2.trans s3,hq⟩,λbb hbb H3 s3=>ko.2 bb hbb _ (s2.trans s3)⟩
   rintro σ' H' ⟨rfl,s2,hq⟩;refine ⟨λσ' H'=>σ'=[some (.ref a),some (.ref b),some (.ref d),some (.ref kk),some (.ref o),some (.ref l1)]/\A0w H H',?_,?_⟩
   ·exact ⟨_,rfl,_,_,_,_,rfl,ty s2,A1k T.c9,false,rfl,A2q ⟨rfl,s2⟩⟩
   rintro σ' H' ⟨rfl,s2⟩;exact ⟨_,rfl,_,_,_,_,rfl,ty s2,A1k T.gv,false,rfl,A2q (ko.1 hq _ s2)⟩
  | @guard o dd x lo hi v1 v2 ll r eo0 ob1 ob2' =>
   have ty:∀{G':Hp},A0w H G'->A7z K G' (.ref o) (.ref t.aa):=λs=> .ins (s _ _ eo0) T.aF T.ay.ha T.ay.hn T.ay.htk T.ay.hm;have ko:Out t (if x∈le.2.1++ss then none else some false) Q E H:=ko;refine ⟨λσ' H'=>σ'=[some (.ref a),some (.ref b),some (.ref d),some (.ref kk),some (.ref o),some (.ref l1)]/\A0w H H'/\(if x∈le.2.1++ss then none else some false)=(none:Option Bool),?_,?_⟩
   ·refine ⟨_,rfl,A0h (by show 2<=1000000;decide),λtp htp=> ?_⟩;have sT:=A0d (o:= .tup [.ref t.af,.ref t.aa]) htp;have s2:=s1.trans sT;refine ⟨o,_,dd,_,tp,_,true,rfl,s2 _ _ eo0,T.aF,T.ay.ha,T.ay.hn,T.ay.htk,T.ay.hm,A0b,B8r T.fU T.dB,true,rfl,A8y ?_⟩;exact ⟨_,rfl,o,_,dd,_,_,rfl,s2 _ _ eo0,T.aF,T.dX,(by walk_at "lk"),_,rfl,x,l1,_,rfl,sT _ _ h1,okt.1,λhq H3 s3=>⟨rfl,s2.trans s3,hq⟩,λbb hbb H3 s3=>ko.2 bb hbb _ (s2.trans s3)⟩
   rintro σ' H' ⟨rfl,s2,hq⟩;refine ⟨λσ' H'=>σ'=[some (.ref a),some (.ref b),some (.ref d),some (.ref kk),some (.ref o),some (.ref l1)]/\A0w H H',?_,?_⟩
   ·exact ⟨_,rfl,_,_,_,_,rfl,ty s2,A1k T.ce,false,rfl,A2q ⟨rfl,s2⟩⟩
   rintro σ' H' ⟨rfl,s2⟩;exact ⟨_,rfl,_,_,_,_,rfl,ty s2,A1k T.gy,false,rfl,A2q (ko.1 hq _ s2)⟩
  | @sum o dd x v2 bb eo0 ob1 =>
   have ty:∀{G':Hp},A0w H G'->A7z K G' (.ref o) (.ref t.av):=λs=> .ins (s _ _ eo0) T.bQ T.aS.ha T.aS.hn T.aS.htk T.aS.hm;have ko:Out t (if x∈kn then (if x∈le.2.1++ss then some false else none) else some false) Q E H:=ko;refine ⟨λσ' H'=>σ'=[some (.ref a),some (.ref b),some (.ref d),some (.ref kk),some (.ref o),some (.ref l1)]/\A0w G H',?_,?_⟩
   ·refine ⟨_,rfl,A0h (by show 2<=1000000;decide),λtp htp=> ?_⟩;have s2:=A0d (o:= .tup [.ref t.af,.ref t.aa]) htp
    exact ⟨o,_,dd,_,tp,_,false,rfl,s2 _ _ (s1 _ _ eo0),T.bQ,T.aS.ha,T.aS.hn,T.aS.htk,T.aS.hm,A0b,A4h (cs:=[t.af,t.aa]) (λc hc=>by
     rcases Z0e.mp hc with rfl | hc
     ·exact T.gY
     ·rw [Z0w.mp hc];exact T.hV),false,rfl,A2q ⟨rfl,s2⟩⟩
   rintro σ' H' ⟨rfl,s2⟩;refine ⟨λσ' H'=>σ'=[some (.ref a),some (.ref b),some (.ref d),some (.ref kk),some (.ref o),some (.ref l1)]/\A0w H H'/\(if x∈kn then (if x∈le.2.1++ss then some false else none) else some false)=(none:Option Bool),?_,?_⟩
   ·refine ⟨_,rfl,_,_,_,_,rfl,ty (s1.trans s2),A1k T.eM,true,rfl,A8y ?_⟩;exact ⟨_,rfl,o,_,dd,_,_,rfl,s2 _ _ (s1 _ _ eo0),T.bQ,T.bN,(by walk_at "lk"),_,rfl,_,rfl,x,l1,kk,_,kn,rfl,s2 _ _ h1,s2 _ _ (s1 _ _ hk),okt.1,λhq H3 s3=>⟨rfl,s1.trans (s2.trans s3),hq⟩,λbb hbb H3 s3=>ko.2 bb hbb _ (s1.trans (s2.trans s3))⟩
   rintro σ' H' ⟨rfl,s2,hq⟩;exact ⟨_,rfl,_,_,_,_,rfl,ty s2,A1k T.iC,false,rfl,A2q (ko.1 hq _ s2)⟩
  | @read o dd ll x ix eo0 rp =>
   have ty:∀{G':Hp},A0w H G'->A7z K G' (.ref o) (.ref t.aj):=λs=> .ins (s _ _ eo0) T.bp T.aD.ha T.aD.hn T.aD.htk T.aD.hm;have ko:Out t (match B3g es (le.2.1++ss) x ix with | some b=>some b | none=>if x=le.1/\(A9z le.2.2).length<ss.length then some false else none) Q E H:=ko
   refine ⟨λσ' H'=>σ'=[some (.ref a),some (.ref b),some (.ref d),some (.ref kk),some (.ref o),some (.ref l1)]/\A0w G H',?_,?_⟩
   ·refine ⟨_,rfl,A0h (by show 2<=1000000;decide),λtp htp=> ?_⟩;have s2:=A0d (o:= .tup [.ref t.af,.ref t.aa]) htp
    exact ⟨o,_,dd,_,tp,_,false,rfl,s2 _ _ (s1 _ _ eo0),T.bp,T.aD.ha,T.aD.hn,T.aD.htk,T.aD.hm,A0b,A4h (cs:=[t.af,t.aa]) (λc hc=>by
     rcases Z0e.mp hc with rfl | hc
     ·exact T.gH
     ·rw [Z0w.mp hc];exact T.dZ),false,rfl,A2q ⟨rfl,s2⟩⟩
   rintro σ' H' ⟨rfl,s2⟩;refine ⟨λσ' H'=>σ'=[some (.ref a),some (.ref b),some (.ref d),some (.ref kk),some (.ref o),some (.ref l1)]/\A0w G H',?_,?_⟩
   ·exact ⟨_,rfl,_,_,_,_,rfl,ty (s1.trans s2),A1k T.di,false,rfl,A2q ⟨rfl,s2⟩⟩
   rintro σ' H' ⟨rfl,s2⟩;have s12:=s1.trans s2;refine ⟨_,rfl,_,_,_,_,rfl,ty s12,A1k T.h_,true,rfl,A8y ?_⟩;refine ⟨_,rfl,_,rfl,_,rfl,o,dd,ll,l1,d,x,ix,_,kvs,es,rfl,s12 _ _ eo0,rp.same s12,s2 _ _ h1,s12 _ _ hd,A8g aw s12,okt.1,okt.2.2,λhq H3 s3=> ?_,λbb hbb H3 s3=>ko.2 bb (by rw [hbb]) _ (s12.trans s3)⟩;rw [hq] at ko;exact ⟨_,rfl,_,rfl,.ref a,.ref b,x,ix,ss,gg,le,rfl,pat.same (s12.trans s3),lat.same (s12.trans s3),dl,okn,ko.of (s12.trans s3)⟩
theorem A6c (T:Txt K mg t):A2f P w K mg base (CXF P w) 15 t.cJ t.cE ["program"] (C2z t):=by
 have G_axis_names:=A8w (P:=P) (w:=w) (base:=base) T;have G_look_part:=B3p (P:=P) (w:=w) (base:=base) T;have G_parts_of:=B5v (P:=P) (w:=w) (base:=base) T;refine T.bC.okF A3i (λvs H Q E h=> ?_) (λcdv A outer s H vs Q E hr h=> ?_)
 ·obtain ⟨p,wh,ax,tb,ls,os,rfl,_⟩:=h;rfl
 ·obtain ⟨p,wh,ax,tb,ls,os,rfl,pr,ok,ko⟩:=h;have hu:=B1e hr;obtain ⟨dx,a,tt,l,o,e,ra,rt,⟨xl,hl,rl⟩,ro⟩:=pr.ob;obtain ⟨t2,xs,et,hx,rs⟩:=A4a (show Rep H (.ref tt) (.list (tb.map B6g)) from rt);cases et;have lxl:=Paired.length rl;have lt:=ok.lt;have ll:=ok.ll
  refine ⟨_,(A0c (A0x (i:=1) A3i.nd rfl (Or.inl rfl) (A0p G_axis_names (hr.mono (by omega)) rfl T.cC T.bB.kp T.cx .nil A1e (A0a (pv 0) A0e)))
   (A0c (A0x (i:=2) A3i.nd rfl (Or.inl rfl) (A3l (B7j rfl) (by rfl) T.i9 PyProof.Rows.boot_dict (A0a (A1j (pv 0) rfl) A0e)))
   (A0f (A4n PassesOwn.leaving rfl (A3e (A1j (pv 0) rfl)) (A1a (i:=3) A3i.nd rfl (Or.inl rfl) (Or.inl rfl))
    (A0c (A5c hu (pv 2) (A1j (pv 3) rfl) (A1j (pv 3) rfl) rfl)
    (A0f (A4n PassesOwn.leaving rfl (A3e (A0p G_parts_of (hr.mono (by omega)) rfl T.j3 T.gq.kp T.iX .nil A1e (A0a (A1j (pv 3) rfl) A0e))) (A1a (i:=4) A3i.nd rfl (Or.inl rfl) (Or.inl rfl))
     (A0f (A2k (A0p G_look_part (hr.mono (by omega)) rfl T.iq T.fH.kp T.iG .nil A9l (A0a (pv 4) (A0a (pv 3) (A0a (pv 2) (A0a (pv 1) A0e)))))))))))))),?_⟩
  refine ⟨_,rfl,p,wh,ax,tb,ls,os,rfl,pr,ok.la,λq H1 hq s1 h1=> ?_⟩;obtain ⟨kvs,pl,aw⟩:=C7v (rs.same s1);have lkv:=Paired.length aw;refine ⟨_,rfl,p,_,dx,_,_,rfl,s1 _ _ e,T.ao,T.aL,(by walk_at "lk"),tt,xs,_,rfl,s1 _ _ hx,pl,λad had=> ?_⟩;have nd0:(tb.map (·.1)).Nodup:=(Z0l.mp ok.nd).1
  have nk:A2z [] kvs=kvs:=by
   refine A7b ?_;rw [List.nil_append,B0n aw];have h1:=nd0;rw [List.Nodup,List.pairwise_map] at h1⊢;exact h1.imp λhne z=>hne (by injection z)
  rw [nk];have adH:H ad=none:=s1.free had;have aq:ad≠q:=(A0g h1 had).symm;have s2:=s1.trans (A0d (o:= .dK kvs) had);refine ⟨_,rfl,p,_,dx,_,_,rfl,s2 _ _ e,T.ao,T.aT,(by walk_at "lk"),l,rfl,⟨_,SqL.of (s2 _ _ hl)⟩,?_⟩
  refine A3r (K:=K) (a:=l) (xs:=xl) (λi σ H2=>∃(o3 o4:Option V) (m:List (Key×V)),σ=[some (.ref p),some (.ref q),some (.ref ad),o3,o4]/\A0w H H2/\H2 q=some (.lst ((axN ax).map V.str))/\H2 ad=some (.dK m)/\B2j (λ_=>True) H2 m (tb++(ls.take i).map λe=>(e.1,e.2.1))/\A1v (axN ax) (tb++(ls.take i).map λe=>(e.1,e.2.1)) (ls.drop i)=A1v (axN ax) tb ls)
   ⟨none,none,kvs,rfl,s2,A0d had _ _ h1,A0b,by rw [List.take_zero,List.map_nil,Z0u];exact A8g aw (A0d had),by rw [List.take_zero,List.map_nil,Z0u,List.drop_zero]⟩ (λi σ H2 _ ⟨_,_,_,_,s2,_⟩=>SqL.of (s2 _ _ hl)) ?_ ?_
  ·rintro i y σ H2 hy ⟨o3,o4,m,rfl,s3,q3,a3,aw3,el⟩;obtain ⟨le,hle,lat⟩:=B9a rl hy;obtain ⟨b,db,c,tv,_,rfl,eb,_,ec,ob⟩:=id lat;obtain ⟨k1,k2,k3,k4,k5⟩:=ok.l le (Z13 hle);have lm:=Paired.length aw3;rw [Z06,Z08,Z0x] at lm;refine ⟨_,rfl,b,_,db,_,_,rfl,s3 _ _ eb,T.ba,T.bM,(by walk_at "lk"),_,rfl,_,rfl,b,_,db,_,_,rfl,s3 _ _ eb,T.ba,T.aX,(by walk_at "lk"),ad,_,rfl,B6v.k (k:=Sum.inr le.1) a3 (A1h (by omega)),?_⟩
   have kn':∀pp∈m,pp.1≠Sum.inr le.1:=λpp hpp z=>by
    obtain ⟨j,hj⟩:=List.getElem?_of_mem hpp;obtain ⟨e',he',ek,_⟩:=B9a aw3 hj;have ek:pp.1=Sum.inr e'.1:=ek;rw [z] at ek;injection ek with ek;have nd:=ok.nd;have sub:List.Sublist (tb.map (·.1)++(ls.take (i+1)).map (·.1)) (arN tb ls):=(List.Sublist.refl _).append ((List.take_sublist _ _).map _);have nd2:=List.Pairwise.sublist sub nd;rw [Z14,hle,Option.toList_some,Z0s,<-Z0z] at nd2;refine (Z0l.mp nd2).2.2 le.1 ?_ le.1 (.head _) rfl;have hm:e'.1∈(tb++(ls.take i).map λe=>(e.1,e.2.1)).map (·.1):=Z2c.mpr ⟨e',Z13 he',rfl⟩
    rw [Z0s,List.map_map] at hm;rw [ek];exact hm
   rw [A9y kn'];have s4:A0w H (upd H2 ad (.dK (m++[(Sum.inr le.1,.ref c)]))):=A0t s3 adH;have q4:upd H2 ad (.dK (m++[(Sum.inr le.1,.ref c)])) q=some (.lst ((axN ax).map V.str)):=by rw [A0j aq.symm];exact q3
   have a4:upd H2 ad (.dK (m++[(Sum.inr le.1,.ref c)])) ad=some (.dK (m++[(Sum.inr le.1,.ref c)])):=A0b;have aw4:B2j (λ_=>True) (upd H2 ad (.dK (m++[(Sum.inr le.1,.ref c)]))) (m++[(Sum.inr le.1,.ref c)]) (B5z (tb++(ls.take i).map λe=>(e.1,e.2.1)) le):=C7n (Paired.mapP aw3 λ_ _ ⟨z1,b',z2,z3,z4⟩=>⟨z1,b',z2,z3,by rw [A0j (A1l z4 a3 (by intro z;cases z))];exact z4⟩) (.cons ⟨rfl,c,rfl,True.intro,s4 _ _ ec⟩ .nil);generalize upd H2 ad (.dK (m++[(Sum.inr le.1,.ref c)]))=H4 at s4 q4 a4 aw4
   have ees:B5z (tb++(ls.take i).map λe=>(e.1,e.2.1)) le=tb++(ls.take (i+1)).map λe=>(e.1,e.2.1):=by
    unfold B5z;rw [Z14,hle,Option.toList_some,Z0s,<-Z0z];rfl
   rw [B6u hle,C1s] at el;refine ⟨_,rfl,b,_,db,_,_,rfl,s4 _ _ eb,T.ba,T.cV,(by walk_at "lk"),tv,le.2.2,rfl,ob.imp s4,k4,k5,λqq ps H5 hqq s5 h5 pp=>⟨qq,rfl,⟨_,SqL.of h5⟩,?_⟩⟩;have lpp:=Paired.length pp
   refine A3r (K:=K) (a:=qq) (xs:=ps) (λj σ H6=>∃(o4:Option V),σ=[some (.ref p),some (.ref q),some (.ref ad),some (.ref b),o4]/\A0w H5 H6/\((prT le.2.2 [] []).drop j).findSome? (pOk (axN ax) (B5z (tb++(ls.take i).map λe=>(e.1,e.2.1)) le) le.1 le.2.1 (A9z le.2.2).length)=B8b (axN ax) (tb++(ls.take i).map λe=>(e.1,e.2.1)) le)
    ⟨o4,rfl,A0w.refl _,by rw [List.drop_zero];rfl⟩ (λj σ H6 _ ⟨_,_,s6,_⟩=>SqL.of (s6 _ _ h5)) ?_ ?_
   ·rintro j z σ H6 hz ⟨o4,rfl,s6,ef⟩;obtain ⟨uu,huu,tat⟩:=B9a pp hz;have s7:=s4.trans (s5.trans s6);have s57:=s5.trans s6;rw [B8x huu] at ef;refine ⟨_,rfl,_,rfl,_,rfl,_,rfl,z,.ref b,ad,q,uu,le,axN ax,_,_,rfl,tat.same s6,lat.same s7,by omega,by omega,k2,s57 _ _ q4,s57 _ _ a4,A8g aw4 s57,A5l _ _ _ k3 uu (Z13 huu),λhn H8 s8=>⟨_,rfl,s6.trans s8,by rw [hn] at ef;exact ef⟩,λbb hbb H8 s8=> ?_⟩;rw [hbb] at ef;rw [<-ef] at el;exact ko.2 bb el.symm _ (s7.trans s8)
   ·rintro σ H6 ⟨o4,rfl,s6,ef⟩;rw [lpp,List.drop_length] at ef;have ef:B8b (axN ax) (tb++(ls.take i).map λe=>(e.1,e.2.1)) le=none:=ef.symm;rw [ef,ees] at el;have s57:=s5.trans s6;refine ⟨_,_,_,rfl,s4.trans s57,s57 _ _ q4,s57 _ _ a4,?_,el⟩;rw [<-ees];exact A8g aw4 s57
  ·rintro σ H2 ⟨o3,o4,m,rfl,s3,_,_,_,el⟩;rw [lxl,List.drop_length] at el;exact ko.1 el.symm _ s3
def C6q (A:Adr):Sp:=λvs H Q E=>∃(p:Addr) (wh:Int) (ax:List (Str×Int)) (tb:List (Str×List Str)) (ls:List Lt) (os:List Str) (b:Bool),vs=[.ref p]/\B4x A H p wh ax tb ls os/\C8u ax tb ls/\D1f ax tb ls os/\GdN ax tb ls os/\GdS ax tb ls/\A1v (axN ax) tb ls=some b/\∀H',A0w H H'->E (.ref (D2d A b)) none H'
theorem C6h (T:Txt K mg t):A2f P w K mg base (CXF P w) 16 t.i_ t.iZ ["program"] (C6q t):=by
 have G_look_names:=B2i (P:=P) (w:=w) (base:=base) T;have G_look_terms:=A6c (P:=P) (w:=w) (base:=base) T;refine T.jn.okF C7k (λvs H Q E h=> ?_) (λcdv A outer s H vs Q E hr h=> ?_)
 ·obtain ⟨p,wh,ax,tb,ls,os,b,rfl,_⟩:=h;rfl
 ·obtain ⟨p,wh,ax,tb,ls,os,b,rfl,pr,ok,nin,gn,gs,el,ke⟩:=h
  refine ⟨_,(A0c (A2k (A0p G_look_names (hr.mono (by omega)) rfl T.i0 T.fj.kp T.ij .nil A9l (A0a (pv 0) A0e)))
   (A0c (A2k (A0p G_look_terms (hr.mono (by omega)) rfl T.cr T.bC.kp T.cv .nil A9l (A0a (pv 0) A0e)))
   (A0c A8u
   (A0f A8u)))),?_⟩
  refine ⟨_,rfl,p,wh,ax,tb,ls,os,rfl,pr,nin,λ_ _ H1 s1=> ?_,λz=>(z gn).elim,λ_ z=>(z gs).elim⟩;exact ⟨_,rfl,p,wh,ax,tb,ls,os,rfl,pr.same s1,ok,λz=>(by rw [el] at z;cases z),λbb hbb H2 s2=>by rw [el] at hbb;cases hbb;exact ke H2 (s1.trans s2)⟩
end
def nS (seed:Int):Nat:=(seed/8%(1+seed%8)).toNat
def mS (seed:Int):Nat:=(1+seed%8-seed/8%(1+seed%8)-1).toNat
def cbS (seed:Int):Nat:=97+(seed/1664%26).toNat
def cmS (seed k:Int):Nat:=97+((seed/64+k)%26).toNat
def B8l (seed k:Int):List Nat:=List.replicate (nS seed) (cbS seed)++cmS seed k::List.replicate (mS seed) (cbS seed)
def NmD (seed k:Int) (z:Str):Prop:=(z.cps.toList=B8l seed k/\z≠"if")\/(B8l seed k=("if":Str).cps.toList/\z="iif")
theorem B9w (seed:Int):nS seed+mS seed+1<=8:=by
 have z0:0<1+seed%8:=by omega
 have p0:0<=seed/8%(1+seed%8):=Z1v _ (by omega);have p1:seed/8%(1+seed%8)<1+seed%8:=Z1p _ z0;unfold nS mS;omega
theorem B2c (seed k:Int):(B8l seed k).length=nS seed+mS seed+1:=by unfold B8l;simp;omega
theorem C1c {seed k:Int} {c:Nat} (h:c∈B8l seed k):97<=c/\c<=122:=by
 unfold B8l at h;have b1:97<=cbS seed/\cbS seed<=122:=by unfold cbS;omega
 have b2:97<=cmS seed k/\cmS seed k<=122:=by unfold cmS;omega
 rcases Z07.mp h with h | h
 ·rw [List.eq_of_mem_replicate h];exact b1
 ·rcases Z0e.mp h with rfl | h
  ·exact b2
  ·rw [List.eq_of_mem_replicate h];exact b1
theorem B9g {seed k k':Int} (k0:0<=k) (k1:k<26) (j0:0<=k') (j1:k'<26) (h:B8l seed k=B8l seed k'):k=k':=by
 unfold B8l at h;have h:=(List.append_inj h rfl).2;have h:cmS seed k=cmS seed k':=(List.cons.inj h).1;unfold cmS at h;omega
theorem C6y {seed k k':Int} {z:Str} (k0:0<=k) (k1:k<26) (j0:0<=k') (j1:k'<26) (h:NmD seed k z) (h':NmD seed k' z):k=k':=by
 have l1:=B2c seed k;have l2:=B2c seed k';have e3:(("iif":Str).cps.toList).length=3:=by decide +kernel
 have e2:(("if":Str).cps.toList).length=2:=by decide +kernel
 rcases h with ⟨a,_⟩ | ⟨a,b⟩ <;> rcases h' with ⟨a',_⟩ | ⟨a',b'⟩
 ·exact B9g k0 k1 j0 j1 (by rw [<-a,<-a'])
 ·rw [b'] at a;rw [<-a] at l1;rw [a'] at l2;omega
 ·rw [b] at a';rw [<-a'] at l2;rw [a] at l1;omega
 ·exact B9g k0 k1 j0 j1 (by rw [a,a'])
theorem C9z {seed k:Int} {z:Str} (h:NmD seed k z):nmB z=true/\OkX z:=by
 rcases h with ⟨a,b⟩ | ⟨_,rfl⟩
 ·have ln:=B2c seed k;have ls:=B9w seed
  have lz':z.length=nS seed+mS seed+1:=by
   show z.cps.size=_;rw [<-Array.length_toList,a,ln]
  refine ⟨?_,A7k.mpr λc hc=>by rw [a] at hc;have:=C1c hc;omega,by omega⟩;unfold nmB C2f;have h1:decide (z="")=false:=Z1j λq=>by rw [q] at lz';have:("":Str).length=0:=rfl;omega
  have h2:z.cps.toList.all (λc=>la c&&lz c)=true:=List.all_eq_true.mpr λc hc=>by
   rw [a] at hc;have:=C1c hc;rw [C9n,C7x,Z20 this.1,Z20 this.2];rfl
  have h3:decide (z.length<=8)=true:=Z20 (by omega)
  have h4:decide (z∈(["if","sum"]:List Str))=false:=Z1j λq=>by
   rcases Z0e.mp q with q | q
   ·exact b q
   ·rw [Z0w.mp q] at a;have e:("sum":Str).cps.toList=[115,117,109]:=by decide +kernel
    rw [e] at a;have l3:nS seed+mS seed=2:=by have:=congrArg List.length a;rw [ln] at this;simp at this;omega
    unfold B8l at a;generalize cbS seed=x at a;generalize cmS seed k=y at a;generalize nS seed=n at a l3;generalize mS seed=m at a l3;rcases n with _ | _ | _ | n
    ·have:m=2:=by omega
     subst this;simp [List.replicate] at a;omega
    ·have:m=1:=by omega
     subst this;simp [List.replicate] at a;omega
    ·have:m=0:=by omega
     subst this;simp [List.replicate] at a;omega
    ·omega
  rw [h1,h2,h3,h4];rfl
 ·exact ⟨by decide +kernel,by decide +kernel,by decide +kernel⟩
theorem C0n (a b:Str):(a++b).cps.toList=a.cps.toList++b.cps.toList:=by
 show (a.cps++b.cps).toList=_;exact Array.toList_append
theorem B6p {c:Nat} {n:Nat} (h:n<=8):(Txt.join "" (List.replicate n (⟨#[c]⟩:Str))).cps.toList=List.replicate n c:=by
 match n,h with
 | 0,_=>rfl
 | 1,_=>rfl
 | 2,_=>rfl
 | 3,_=>rfl
 | 4,_=>rfl
 | 5,_=>rfl
 | 6,_=>rfl
 | 7,_=>rfl
 | 8,_=>rfl
theorem C5i {i:Nat} {c:Nat} (h:abc.cps.toList[i]? =some c):c=97+i:=by
 rw [C8e] at h;obtain ⟨h1,h2⟩:=Z03.mp h;rw [List.getElem_range'] at h2;omega
def C5r:Sp:=λvs H Q _=>∃(r:Addr) (ns:List Int),vs=[.ref r]/\H r=some (.lst (ns.map V.int))/\∀(i:Int) (ms:List Int) (H':Hp),ms.length<=ns.length->H' r=some (.lst (ms.map V.int))->Oth r H H'->(ns=[]->H'=H)->Q (.int i) H'
def C6x:Sp:=λvs H Q _=>∃(k seed:Int),vs=[.int k,.int seed]/\∀(z:Str) (H':Hp),NmD seed k z->A0w H H'->Q (.str z) H'
structure AxN (nm ys:List Str):Prop where
 nd:ys.Nodup
 sub:∀y∈ys,y∈nm
 few:ys.length<=3
def C7g:Sp:=λvs H Q _=>∃(c:Int) (l:Addr) (nm:List Str),vs=[.int c,.ref l]/\H l=some (.lst (nm.map V.str))/\nm.length<=8/\nm.Nodup/\∀(ys:List Str) (p:Addr) (H':Hp),H p=none->A0w H H'->H' p=some (.lst (ys.map V.str))->AxN nm ys->Q (.ref p) H'
theorem C6l {m c tn:Int} {i j:Nat} (m0:0<m) (m8:m<=8) (ht:tn=1\/tn=m-1) (hi:(i:Int)<m) (hj:(j:Int)<m) (e:(c+(i:Int)*tn)%m=(c+(j:Int)*tn)%m):i=j:=by
 have h:m=1\/m=2\/m=3\/m=4\/m=5\/m=6\/m=7\/m=8:=by omega
 rcases h with rfl | rfl | rfl | rfl | rfl | rfl | rfl | rfl <;> rcases ht with rfl | rfl <;> omega
theorem C9y {zs nm:List Str} {f:Nat->Nat} (nd:nm.Nodup) (h:∀j,j<zs.length->zs[j]? =nm[f j]?) (inj:∀i j,i<zs.length->j<zs.length->f i=f j->i=j):zs.Nodup:=by
 rw [List.nodup_iff_pairwise_ne,List.pairwise_iff_getElem];intro i j hi hj hij e;have h1:=h i hi;have h2:=h j hj;rw [Z0b hi] at h1;rw [Z0b hj] at h2;rw [e] at h1;have hb:f i<nm.length:=(Z03.mp h1.symm).1;have:=(List.getElem?_inj hb nd).mp (h1.symm.trans h2);have:=inj i j hi hj this;omega
section
variable {P:Program} {w:World} {K:PySem.W.Frag} {mg:Str->Option Value} {base:Heap} {t:Adr}
theorem A8m (T:Txt K mg t):A2f P w K mg base CX0 1 t.gr t.gj ["_law_rest"] C5r:=by
 refine T.aG.ok C0c (λvs H Q E h=> ?_) (λcdv A outer s H vs Q E hr h=> ?_)
 ·obtain ⟨r,ns,rfl,_⟩:=h;rfl
 ·obtain ⟨r,ns,rfl,hns,k⟩:=h
  refine ⟨_,(A0c (A1f (A0s A2s (A0u A1b (by rfl) T.aW Z0r (A0a (pv 0) A0e)) A0i (A1c _))
    (A0f (A0v A0i))
    A0n)
   (A0f (A0v (B9l Z0k PySem.F.slot_list_pop PySem.F.type_list_pop C7t (pv 0))))),?_⟩
  refine ⟨_,rfl,r,_,rfl,.inl (SqL.of hns),rfl,_,rfl,A8a (λ_=> ?_) (λh=> ?_)⟩
  ·exact k 0 ns H (Z09 _) hns (λ_ _=>rfl) λ_=>rfl
  ·have hpos:0<ns.length:=by
    rcases Nat.eq_zero_or_pos ns.length with z | z
    ·exact absurd (by rw [Z08,z];rfl) h
    ·exact z
   have e:(ns.map V.int)[(ns.map V.int).length-1]? =some (V.int (ns[ns.length-1]'(by omega))):=by
    rw [Z08,Z1z,Z0b (by omega:ns.length-1<ns.length)];rfl
   refine ⟨_,rfl,.inl ⟨rfl,_,SqL.of hns⟩,r,_,_,rfl,rfl,hns,e,k _ ns.dropLast _ (by simp) ?_ (λb hb=>A0j hb) λz=>by rw [z] at hpos;cases hpos⟩;rw [A0b,List.map_dropLast]
theorem B9m (T:Txt K mg t):A2f P w K mg base CX0 1 t.gp t.g9 ["_law_k","_law_seed"] C6x:=by
 refine T.iN.ok A4m (λvs H Q E h=> ?_) (λcdv A outer s H vs Q E hr h=> ?_)
 ·obtain ⟨k,seed,rfl,_⟩:=h;rfl
 ·obtain ⟨kk,seed,rfl,k⟩:=h
  refine ⟨_,(A0c (A0x (i:=2) A4m.nd rfl (Or.inl rfl) A0r)
   (A0c (A0x (i:=3) A4m.nd rfl (Or.inl rfl) (A0y A5k A0i (A0y A2a (pv 1) A0i)))
   (A0c (A0x (i:=4) A4m.nd rfl (Or.inl rfl) (A0y A2a (A0y A2o (pv 1) A0i) (pv 3)))
   (A0c (A0x (i:=5) A4m.nd rfl (Or.inr rfl) (A1n C5f (pv 2) (A0y A2a (A0y A2o (pv 1) A0i) A0i) (λ_ _=>rfl)))
   (A0c (A0x (i:=6) A4m.nd rfl (Or.inl rfl) (A0y B1t (B1l PySem.F.plainAttrs_str PySem.F.slot_str_join PySem.F.type_str_join B8o A0r (A0a (A2x (N':=["_law_j","_law_base"]) (ix:=(List.replicate 1 none++[some 5])) rfl (A8l (x:="_law_base") rfl rfl rfl (by decide +kernel) (by decide +kernel)) (A6s (N0:=["_law_j"]) rfl (Or.inl rfl) (by first | exact Or.inl rfl | exact Or.inr rfl | (simp [relabel];rfl) | (with_unfolding_all exact Or.inl rfl) | (with_unfolding_all exact Or.inr rfl) | (with_unfolding_all decide))) (A3k rfl T.bA (A0a (pv 4) A0e)) (λ_ _ _ _=>(A1a (i:=0) B9u rfl (Or.inl rfl) (Or.inr rfl))) (λ_ _ _ _=>(pv 1))) A0e)) (A1n C5f (pv 2) (A0y A2a (A0y A5k (A0y A2o (pv 1) A0i) (pv 0)) A0i) (λ_ _=>rfl))))
   (A0c (A0x (i:=6) A4m.nd rfl (Or.inl rfl) (A0y B1t (pv 6) (B1l PySem.F.plainAttrs_str PySem.F.slot_str_join PySem.F.type_str_join B8o A0r (A0a (A2x (N':=["_law_j","_law_base"]) (ix:=(List.replicate 1 none++[some 5])) rfl (A8l (x:="_law_base") rfl rfl rfl (by decide +kernel) (by decide +kernel)) (A6s (N0:=["_law_j"]) rfl (Or.inl rfl) (by first | exact Or.inl rfl | exact Or.inr rfl | (simp [relabel];rfl) | (with_unfolding_all exact Or.inl rfl) | (with_unfolding_all exact Or.inr rfl) | (with_unfolding_all decide))) (A3k rfl T.bA (A0a (A0y A6i (A0y A6i (pv 3) (pv 4)) A0i) A0e)) (λ_ _ _ _=>(A1a (i:=0) C1p rfl (Or.inl rfl) (Or.inr rfl))) (λ_ _ _ _=>(pv 1))) A0e))))
   (A0c (A1f (A0s A2s (pv 6) A0r (A1c _))
    (A0f (A0v A0r))
    A0n)
   (A0f (A0v (pv 6)))))))))),?_⟩
  have hs0:=B9w seed;obtain ⟨cb,b1,b2⟩:=C5g (xs:=abc.cps.toList) (i:=seed/1664%26) (by omega) (by rw [C1m];omega);obtain ⟨cm,m1,m2⟩:=C5g (xs:=abc.cps.toList) (i:=(seed/64+kk)%26) (by omega) (by rw [C1m];omega);have ecb:cb=cbS seed:=C5i b1;have ecm:cm=cmS seed kk:=C5i m1;have ens:(seed/8%(1+seed%8)).toNat=nS seed:=rfl;have ems:(1+seed%8-seed/8%(1+seed%8)-1).toNat=mS seed:=rfl;have z0:0<1+seed%8:=by omega
  have z8:1+seed%8<=8:=by omega
  have p0:0<=seed/8%(1+seed%8):=Z1v _ (by omega);have p1:seed/8%(1+seed%8)<1+seed%8:=Z1p _ z0;generalize hz:1+seed%8=size at *;generalize hp:seed/8%size=spot at *;refine ⟨_,rfl,_,_,rfl,rfl,(by show (0:Int)<8;decide),_,_,rfl,rfl,?_⟩;dsimp only;rw [hz];refine ⟨_,rfl,_,_,rfl,rfl,⟨by decide,by decide⟩,_,rfl,_,_,rfl,rfl,z0,?_⟩;dsimp only;rw [hp];refine ⟨_,rfl,_,rfl,_,_,rfl,rfl,⟨by decide,by decide⟩,_,_,rfl,rfl,(by show (0:Int)<26;decide),_,_,cb,rfl,rfl,A0h (by rw [B7d];decide),b2,?_⟩
  have many:∀(n:Nat),n<=8->((List.replicate n (⟨#[cb]⟩:Str)).map (·.length)).sum+(List.replicate n (⟨#[cb]⟩:Str)).length*("":Str).length<=16777216/\(Txt.join "" (List.replicate n (⟨#[cb]⟩:Str))).length<=1000/\PyData.strOk (Txt.join "" (List.replicate n (⟨#[cb]⟩:Str)))=true:=by
   intro n hn;have okb:cb<1114112:=C7z cb (Z13 b1);have e0:("":Str).length=0:=rfl
   have e1:((List.replicate n (⟨#[cb]⟩:Str)).map (·.length)).sum=n:=by
    clear hn
    induction n with
    | zero=>rfl
    | succ n ih=>rw [List.replicate_succ,Z0p,List.sum_cons,ih];show 1+n=n+1;omega
   refine ⟨by rw [e1,e0];omega,?_⟩
   match n,hn with
   | 0,_=>exact ⟨Nat.le_of_ble_eq_true rfl,A7k.mpr λc hc=>by rw [List.eq_of_mem_replicate (show c∈List.replicate 0 cb from hc)];exact okb⟩
   | 1,_=>exact ⟨Nat.le_of_ble_eq_true rfl,A7k.mpr λc hc=>by rw [List.eq_of_mem_replicate (show c∈List.replicate 1 cb from hc)];exact okb⟩
   | 2,_=>exact ⟨Nat.le_of_ble_eq_true rfl,A7k.mpr λc hc=>by rw [List.eq_of_mem_replicate (show c∈List.replicate 2 cb from hc)];exact okb⟩
   | 3,_=>exact ⟨Nat.le_of_ble_eq_true rfl,A7k.mpr λc hc=>by rw [List.eq_of_mem_replicate (show c∈List.replicate 3 cb from hc)];exact okb⟩
   | 4,_=>exact ⟨Nat.le_of_ble_eq_true rfl,A7k.mpr λc hc=>by rw [List.eq_of_mem_replicate (show c∈List.replicate 4 cb from hc)];exact okb⟩
   | 5,_=>exact ⟨Nat.le_of_ble_eq_true rfl,A7k.mpr λc hc=>by rw [List.eq_of_mem_replicate (show c∈List.replicate 5 cb from hc)];exact okb⟩
   | 6,_=>exact ⟨Nat.le_of_ble_eq_true rfl,A7k.mpr λc hc=>by rw [List.eq_of_mem_replicate (show c∈List.replicate 6 cb from hc)];exact okb⟩
   | 7,_=>exact ⟨Nat.le_of_ble_eq_true rfl,A7k.mpr λc hc=>by rw [List.eq_of_mem_replicate (show c∈List.replicate 7 cb from hc)];exact okb⟩
   | 8,_=>exact ⟨Nat.le_of_ble_eq_true rfl,A7k.mpr λc hc=>by rw [List.eq_of_mem_replicate (show c∈List.replicate 8 cb from hc)];exact okb⟩
  have one:(⟨#[cm]⟩:Str).length=1:=rfl;obtain ⟨l1,o1⟩:=(many spot.toNat (by omega)).2;refine ⟨rfl,_,rfl,_,rfl,by omega,by omega,λD hD=> ?_⟩;refine A3d (D:=D) spot.toNat (λi ys H2=>A0w H H2/\H2 D=some (.lst ys)/\ys=(List.replicate i (⟨#[cb]⟩:Str)).map V.str) ⟨A0d hD,A0b,rfl⟩ (λi ys H2 hi _=>hi) (λys H2 _=>Z09 _) ?_ ?_
  ·rintro i ys H2 hi ⟨s2,hD2,rfl⟩ x H3 ⟨rfl,rfl⟩;refine ⟨⟨rfl,True.intro⟩,_,rfl,hD2,A1h (by simp;omega),A0t s2 hD,A0b,?_⟩;rw [List.replicate_succ',Z0s];rfl
  ·rintro ys H2 ⟨s2,hD2,rfl⟩;refine ⟨_,D,_,rfl,rfl,SqL.of hD2,(many _ (by omega)).1,?_⟩;refine ⟨_,rfl,_,rfl,_,_,rfl,rfl,⟨by decide,by decide⟩,_,rfl,_,_,rfl,rfl,_,_,rfl,rfl,(by show (0:Int)<26;decide),_,_,cm,rfl,rfl,A0h (by rw [B7d];decide),m2,_,_,rfl,rfl,A0h (by omega),?_⟩;obtain ⟨l2,o2⟩:=(many (size-spot-1).toNat (by omega)).2;refine ⟨_,rfl,rfl,_,rfl,_,rfl,_,_,rfl,rfl,_,_,rfl,rfl,_,rfl,by omega,by omega,λD2 hD2'=> ?_⟩;refine A3d (D:=D2) (size-spot-1).toNat (λi ys H3=>A0w H H3/\H3 D2=some (.lst ys)/\ys=(List.replicate i (⟨#[cb]⟩:Str)).map V.str) ⟨s2.trans (A0d hD2'),A0b,rfl⟩ (λi ys H3 hi _=>hi) (λys H3 _=>Z09 _) ?_ ?_
   ·rintro i ys H3 hi ⟨s3,h3,rfl⟩ x H4 ⟨rfl,rfl⟩;refine ⟨⟨rfl,True.intro⟩,_,rfl,h3,A1h (by simp;omega),A0t s3 (s2.free hD2'),A0b,?_⟩;rw [List.replicate_succ',Z0s];rfl
   ·rintro ys H3 ⟨s3,h3,rfl⟩;refine ⟨_,D2,_,rfl,rfl,SqL.of h3,(many _ (by omega)).1,?_⟩;refine ⟨_,_,rfl,rfl,A0h (by rw [Str.length_append];omega),?_⟩
    have raw:(Txt.join "" (List.replicate spot.toNat (⟨#[cb]⟩:Str))++(⟨#[cm]⟩:Str)++Txt.join "" (List.replicate (size-spot-1).toNat (⟨#[cb]⟩:Str))).cps.toList=B8l seed kk:=by
     rw [C0n,C0n,B6p (by omega),B6p (by omega),ens,ems,ecb,ecm];unfold B8l;rw [Z0z];rfl
    refine ⟨_,rfl,rfl,_,rfl,A8a (λhif=>k _ H3 (.inr ⟨by rw [<-raw,V.str.inj hif],rfl⟩) s3) (λhif=>⟨_,rfl,k _ H3 (.inl ⟨raw,λz=>hif (by rw [z])⟩) s3⟩)⟩
theorem B4k (T:Txt K mg t):A2f P w K mg base CX0 1 t.gb t.fS ["_law_cell_here","_law_names"] C7g:=by
 refine T.gu.ok A8h (λvs H Q E h=> ?_) (λcdv A outer s H vs Q E hr h=> ?_)
 ·obtain ⟨c,l,nm,rfl,_⟩:=h;rfl
 ·obtain ⟨c,l,nm,rfl,hl,h8,nd,k⟩:=h
  refine ⟨_,(A0c (A0x (i:=2) A8h.nd rfl (Or.inr rfl) (A0u A1b (by rfl) T.aW Z0r (A0a (pv 1) A0e)))
   (A0c (A1f (A0s A2s (pv 2) A0i (A1c _))
    (A0f (A0v (A2r A0e)))
    A0n)
   (A0c (A0x (i:=3) A8h.nd rfl (Or.inr rfl) A0i)
   (A3n (A1f (PW.pt (A6h (A0s A2s (A0y A2a (A0y A2o (pv 0) A0i) A0i) A0i (A1c _)) (A4p (A0s C3f (pv 2) A0i (A1c _)))))
    (A0f (A0x (i:=3) A8h.nd rfl (Or.inr rfl) (A0y A6i (pv 2) A0i)))
    A0n)
   (A0f (A0v (A2x (N':=["_law_j","_law_cell_here","_law_many","_law_names","_law_turn"]) (ix:=(List.replicate 1 none++[some 0,some 2,some 1,some 3])) rfl (B0g (cl:=[("_law_turn",_),("_law_names",_),("_law_many",_),("_law_cell_here",_)]) (xs:=["_law_turn","_law_names","_law_many","_law_cell_here"]) rfl ⟨rfl,rfl,rfl,rfl,trivial⟩ rfl rfl (by decide +kernel) (by decide +kernel)) (B0t (N0:=["_law_j"]) (xs:=["_law_cell_here","_law_many","_law_names","_law_turn"]) (js:=[0,2,1,3]) ⟨⟨rfl,Or.inl rfl,(by first | exact Or.inl rfl | exact Or.inr rfl | (simp [relabel];rfl) | (with_unfolding_all exact Or.inl rfl) | (with_unfolding_all exact Or.inr rfl) | (with_unfolding_all decide))⟩,⟨rfl,Or.inl rfl,(by first | exact Or.inl rfl | exact Or.inr rfl | (simp [relabel];rfl) | (with_unfolding_all exact Or.inl rfl) | (with_unfolding_all exact Or.inr rfl) | (with_unfolding_all decide))⟩,⟨rfl,Or.inl rfl,(by first | exact Or.inl rfl | exact Or.inr rfl | (simp [relabel];rfl) | (with_unfolding_all exact Or.inl rfl) | (with_unfolding_all exact Or.inr rfl) | (with_unfolding_all decide))⟩,⟨rfl,Or.inl rfl,(by first | exact Or.inl rfl | exact Or.inr rfl | (simp [relabel];rfl) | (with_unfolding_all exact Or.inl rfl) | (with_unfolding_all exact Or.inr rfl) | (with_unfolding_all decide))⟩,trivial⟩) (A3k rfl T.bA (A0a (A0u (C1q rfl) (by rfl) T.jW PyProof.Rows.boot_min (A0a (A0y A2a (pv 0) A0i) (A0a (pv 2) A0e))) A0e)) (λ_ _ _ _=>(A1a (i:=0) C1k rfl (Or.inl rfl) (Or.inr rfl))) (λ_ _ _ _=>(A1n (B0b (K:=K) rfl) (pv 3) (A0y A2a (A0y A5k (A0y A2o (pv 1) A0i) (A0y B1p (pv 0) (pv 4))) (pv 2)) (λ_ _=>rfl)))))))))),?_⟩
  refine ⟨_,rfl,l,_,rfl,.inl (SqL.of hl),?_⟩;rw [Z08];refine ⟨_,rfl,rfl,_,rfl,A8a (λ_=>⟨A0h (by simp),λp hp=>k [] p _ hp (A0d hp) A0b ⟨List.Pairwise.nil,(by intro y hy;cases hy),by simp⟩⟩) (λhne=> ?_)⟩
  have hpos:0<nm.length:=by
   rcases Nat.eq_zero_or_pos nm.length with z | z
   ·exact absurd (by rw [z];rfl) hne
   ·exact z
  refine ⟨λσ H2=>H=H2/\∃tn:Int,(tn=1\/tn=(nm.length:Int)-1)/\σ=[some (.int c),some (.ref l),some (.int nm.length),some (.int tn)],?_,?_⟩
  ·refine ⟨_,rfl,_,_,rfl,rfl,⟨by decide,by decide⟩,_,_,rfl,rfl,(by show (0:Int)<2;decide),rfl,_,rfl,A9w (λ_=> ?_) (λ_=>A2q ⟨rfl,_,.inl rfl,rfl⟩)⟩;refine ⟨_,rfl,_,_,rfl,rfl,_,rfl,A8a (λ_=> ?_) (λ_=>⟨rfl,_,.inl rfl,rfl⟩)⟩;exact ⟨_,rfl,_,_,rfl,rfl,rfl,_,.inr rfl,rfl⟩
  ·rintro σ H2 ⟨rfl,tn,htn,rfl⟩;refine ⟨_,rfl,_,_,rfl,rfl,(by show (0:Int)<4;decide),_,rfl,_,_,rfl,?_⟩;generalize hm:(if (nm.length:Int)<c%4 then (nm.length:Int) else c%4)=m;have hm3:m<=3:=by rw [<-hm];split <;> omega
   have hm0:0<=m:=by rw [<-hm];split <;> omega
   have hmn:m<=nm.length:=by rw [<-hm];split <;> omega
   refine ⟨_,rfl,by omega,by omega,λD hD=> ?_⟩;refine A3d (D:=D) m.toNat (λi ys H3=>A0w H H3/\H3 D=some (.lst ys)/\∃zs:List Str,ys=zs.map V.str/\zs.length=i/\∀j,j<i->zs[j]? =nm[((c/8+(j:Int)*tn)%(nm.length:Int)).toNat]?) ⟨A0d hD,A0b,[],rfl,rfl,by intro j hj;omega⟩ (λi ys H3 hi _=>hi) (λys H3 _=>Z09 _) ?_ ?_
   ·rintro i ys H3 hi ⟨s3,h3,zs,rfl,hz,ez⟩ x H4 ⟨rfl,rfl⟩;rw [Int.zero_add];obtain ⟨x,xm,e⟩:=A9j (f:=V.str) (xs:=nm) (i:=(c/8+(i:Int)*tn)%(nm.length:Int)) (Z1v _ (by omega)) (Z1p _ (by omega));refine ⟨⟨rfl,rfl,rfl,rfl,True.intro⟩,_,rfl,_,rfl,_,_,rfl,rfl,⟨by decide,by decide⟩,_,rfl,_,rfl,_,_,rfl,rfl,.inl ⟨by omega,by omega⟩,_,_,rfl,rfl,_,rfl,_,_,rfl,rfl,(by show (0:Int)<(nm.length:Int);omega),l,_,_,_,rfl,rfl,SqL.of (s3 _ _ hl),e,?_⟩;refine ⟨h3,A1h (by simp;omega),A0t s3 hD,A0b,zs++[x],by simp,by simp [hz],λj hj=> ?_⟩;rcases Nat.lt_or_ge j i with hji | hji
    ·rw [Z26 (by omega)];exact ez j hji
    ·have:j=i:=by omega
     subst this;rw [xm,Z1l (by omega),hz,Nat.sub_self];rfl
   ·rintro ys H3 ⟨s3,h3,zs,rfl,hz,ez⟩
    have zn:zs.Nodup:=C9y (f:=λj=>((c/8+(j:Int)*tn)%(nm.length:Int)).toNat) nd (λj hj=>ez j (by omega)) λi j hi hj e=>by
     have a1:=Z1v (c/8+(i:Int)*tn) (show (nm.length:Int)≠0 by omega);have a2:=Z1v (c/8+(j:Int)*tn) (show (nm.length:Int)≠0 by omega);refine C6l (m:=nm.length) (c:=c/8) (tn:=tn) (by omega) (by omega) htn (by omega) (by omega) ?_;have e:((c/8+(i:Int)*tn)%(nm.length:Int)).toNat=((c/8+(j:Int)*tn)%(nm.length:Int)).toNat:=e;omega
    have zs':∀y∈zs,y∈nm:=λy hy=>by
     obtain ⟨j,hj⟩:=List.getElem?_of_mem hy;have hl:=(Z03.mp hj).1;rw [ez j (by omega)] at hj;exact Z13 hj
    exact k zs D H3 hD s3 h3 ⟨zn,zs',by omega⟩
end
def KI (H H':Hp):Prop:=∀b u,(∀n xs,u≠.lst (V.int n::xs))->H b=some u->H' b=some u
def hdI:List PyData->Bool
 | .int _::_=>false
 | _=>true
mutual
def noI:PyData->Bool
 | .list ds=>hdI ds&&B5m ds
 | .tuple ds=>B5m ds
 | _=>true
def B5m:List PyData->Bool
 | []=>true
 | d::r=>noI d&&B5m r
end
theorem C9h {H:Hp} {xs:List V} {ds:List PyData} (r:A3x H xs ds) (h:hdI ds=true):∀n ys,HO.lst xs≠.lst (V.int n::ys):=λn ys z=>by
 cases z
 cases r with
 | cons a _ =>
  cases a
  cases h
mutual
theorem Rep.ki {H H':Hp} (f:KI H H'):∀{v:V} {d:PyData},Rep H v d->noI d=true->Rep H' v d
 | _,_,.non,_=> .non
 | _,_,.bl b,_=> .bl b
 | _,_,.int i,_=> .int i
 | _,_,.str x,_=> .str x
 | _,_,.lst e r,h=>by
  rw [noI,Z1x] at h;exact .lst (f _ _ (C9h r h.1) e) (A3x.ki f r h.2)
 | _,_,.tup e r,h=>by
  rw [noI] at h;exact .tup (f _ _ (by intro n xs z;cases z) e) (A3x.ki f r h)
theorem A3x.ki {H H':Hp} (f:KI H H'):∀{vs:List V} {ds:List PyData},A3x H vs ds->B5m ds=true->A3x H' vs ds
 | _,_,.nil,_=> .nil
 | _,_,.cons a r,h=>by
  rw [B5m,Z1x] at h;exact .cons (Rep.ki f a h.1) (A3x.ki f r h.2)
end
theorem C5h (ix:List (Str×Int)):noI (A3o ix)=true:=by
 have h:∀ix:List (Str×Int),B5m (ix.map A9q)=true:=λix=>by
  induction ix with
  | nil=>simp [B5m]
  | cons e r ih=>rw [Z0p,B5m,ih];simp [A9q,noI,B5m]
 unfold A3o;rw [noI,h];cases ix <;> simp [hdI,A9q]
theorem B3d (ys:List Str):∀n xs,HO.lst (ys.map V.str)≠.lst (V.int n::xs):=λn xs z=>by
 cases ys with
 | nil=>cases z
 | cons y r=>cases z
theorem A4q {H H':Hp} {D:Addr} {ms:List Int} (hD:H D=some (.lst (ms.map V.int))) (o:Oth D H H') (e:ms=[]->H'=H):KI H H':=by
 cases ms with
 | nil=>rw [e rfl];exact λ_ _ _ y=>y
 | cons n r =>
  intro b u n1 y;by_cases hb:b=D
  ·subst hb;rw [hD] at y;cases y;exact absurd rfl (n1 n _)
  ·rw [o b hb];exact y
theorem KI.of {H H':Hp} (s:A0w H H'):KI H H':=λb u _ e=>s b u e
theorem KI.trans {H H' H2:Hp} (a:KI H H') (b:KI H' H2):KI H H2:=λc u n e=>b c u n (a c u n e)
theorem KI.fresh {H H':Hp} {b:Addr} {o:HO} (k:KI H H') (h:H b=none):KI H (upd H' b o):=λc u n e=>by
 rw [A0j (A0g e h)];exact k c u n e
def Nw (G:Hp) (b:Addr):Prop:=∀u,G b=some u->∃n xs,u= .lst (V.int n::xs)
theorem Nw.up {H H':Hp} {b:Addr} (k:KI H H') (h:Nw H' b):Nw H b:=λu e=>Classical.byContradiction λhn=>hn (h u (k b u (λn xs z=>hn ⟨n,xs,z⟩) e))
theorem C5j {H:Hp} {b:Addr} (h:H b=none):Nw H b:=λu e=>by rw [h] at e;cases e
theorem A4c {H H':Hp} {b:Addr} (k:KI H H') (h:H' b=none):Nw H b:=(C5j h).up k
theorem A8s {S:Addr->Prop} {H H':Hp} (k:KI H H'):KI (restr S H) (restr S H'):=λb u n e=>A0l (A0k e).1 (k b u n (A0k e).2)
theorem KI.str {H H':Hp} (k:KI H H') {b:Addr} {ys:List Str} (e:H b=some (.lst (ys.map V.str))):H' b=some (.lst (ys.map V.str)):=k _ _ (B3d ys) e
theorem KI.dk {H H':Hp} (k:KI H H') {b:Addr} {kvs:List (Key×V)} (e:H b=some (.dK kvs)):H' b=some (.dK kvs):=k _ _ (by intro n xs z;cases z) e
theorem Ob.ki {A:Adr} {H H':Hp} (f:KI H H') {v:V} {u:Tm} (h:Ob A H v u):Ob A H' v u:=by
 have i:∀{a C d:Addr} {fs:List (Str×V)},H a=some (.ins C d fs)->H' a=some (.ins C d fs):=λe=>f _ _ (by intro n xs z;cases z) e
 induction h with
 | num e=>exact .num (i e)
 | place e=>exact .place (i e)
 | read e r=>exact .read (i e) (Rep.ki f r (C5h _))
 | sum e _ ih=>exact .sum (i e) ih
 | pair e _ _ i1 i2=>exact .pair (i e) i1 i2
 | guard e _ _ i1 i2=>exact .guard (i e) i1 i2
theorem B1w.ki {A:Adr} {S:Addr->Prop} {H H':Hp} {v:V} {e:Lt} (h:B1w A S H v e) (f:KI H H'):B1w A S H' v e:=by
 obtain ⟨a,dx,c,n,dn,rfl,e1,s1,e2,e3⟩:=h;exact ⟨a,dx,c,n,dn,rfl,f _ _ (by intro n xs z;cases z) e1,s1,f.str e2,e3.ki f⟩
def opN:Op3->Int
 | .plus=>0
 | .minus=>1
 | .times=>2
def A1m:Tm->PyData
 | .num z=> .tuple [.str "number",.int z]
 | .place x=> .tuple [.str "place",.str x]
 | .read a ix=> .tuple [.str "read",.str a,A3o ix]
 | .sum x b=> .tuple [.str "sum",.str x,A1m b]
 | .pair k l r=> .tuple [.str "pair",.int (opN k),A1m l,A1m r]
 | .guard x lo hi l r=> .tuple [.str "guard",.str x,.int lo,.int hi,A1m l,A1m r]
theorem A7i:∀u:Tm,noI (A1m u)=true
 | .num _=>by simp [A1m,noI,B5m]
 | .place _=>by simp [A1m,noI,B5m]
 | .read a ix=>by simp [A1m,noI,B5m,C5h]
 | .sum x b=>by simp [A1m,noI,B5m,A7i b]
 | .pair k l r=>by simp [A1m,noI,B5m,A7i l,A7i r]
 | .guard x lo hi l r=>by simp [A1m,noI,B5m,A7i l,A7i r]
theorem C6j {H H1 H2:Hp} {v:V} {u:Tm} (k:KI H H1) (r:Rep (restr (Nw H1) H2) v (A1m u)):Rep (restr (Nw H) H2) v (A1m u):=r.same λb o e=>A0l ((A0k e).1.up k) (A0k e).2
theorem A8k:∀{u:Tm},OkT u->(A1m u).canLay0=true
 | .num _,_=>by simp only [A1m,PyData.canLay0,PyData.canLayAll0];decide +kernel
 | .place _,h=>by simp only [A1m,PyData.canLay0,PyData.canLayAll0,h.1,Bool.and_true];decide +kernel
 | .read a ix,h=>by simp only [A1m,PyData.canLay0,PyData.canLayAll0,h.1.1,C0h λe he=>(h.2.2 e he).1,Bool.and_true];decide +kernel
 | .sum x b,h=>by simp only [A1m,PyData.canLay0,PyData.canLayAll0,h.1.1,A8k h.2,Bool.and_true];decide +kernel
 | .pair k l r,h=>by simp only [A1m,PyData.canLay0,PyData.canLayAll0,A8k h.1,A8k h.2,Bool.and_true];decide +kernel
 | .guard x lo hi l r,h=>by simp only [A1m,PyData.canLay0,PyData.canLayAll0,h.1.1,A8k h.2.1,A8k h.2.2,Bool.and_true];decide +kernel
theorem A8c:∀u:Tm,(A1m u).depth<=dep u+2
 | .num _=>by simp [A1m,PyData.depth,PyData.depthAll,dep]
 | .place _=>by simp [A1m,PyData.depth,PyData.depthAll,dep]
 | .read a ix=>by
  have:=B6k ix;simp only [A1m,PyData.depth,PyData.depthAll,dep];omega
 | .sum x b=>by
  have:=A8c b;simp only [A1m,PyData.depth,PyData.depthAll,dep];omega
 | .pair k l r=>by
  have:=A8c l;have:=A8c r;simp only [A1m,PyData.depth,PyData.depthAll,dep];omega
 | .guard x lo hi l r=>by
  have:=A8c l;have:=A8c r;simp only [A1m,PyData.depth,PyData.depthAll,dep];omega
theorem C4n:∀{a b:List (Str×Int)},PyData.eqvAll (a.map A9q) (b.map A9q)=true->a=b
 | [],[],_=>rfl
 | [],_::_,h=>by simp [PyData.eqvAll] at h
 | _::_,[],h=>by simp [PyData.eqvAll] at h
 | x::a,y::b,h=>by
  simp only [Z0p,PyData.eqvAll,A9q,PyData.eqv,Z1x,beq_iff_eq,and_true] at h;rw [C4n h.2,Prod.ext h.1.1 h.1.2]
def C4o:Tm->Str
 | .num _=>"number"
 | .place _=>"place"
 | .read _ _=>"read"
 | .sum _ _=>"sum"
 | .pair _ _ _=>"pair"
 | .guard _ _ _ _ _=>"guard"
theorem A8z {u v:Tm} (h:PyData.eqv (A1m u) (A1m v)=true):C4o u=C4o v:=by
 cases u <;> cases v <;> (first | rfl | (simp only [A1m,PyData.eqv,PyData.eqvAll,Z1x,beq_iff_eq] at h;exact h.1))
theorem C4e:∀{u v:Tm},PyData.eqv (A1m u) (A1m v)=true->u=v:=by
 intro u
 induction u with
 | num z =>
  intro v h
  cases v with
  | num z'=>simp only [A1m,PyData.eqv,PyData.eqvAll,Z1x,beq_iff_eq] at h;rw [h.2.1]
  | _=>exact absurd (A8z h) (by simp only [C4o];decide +kernel)
 | place x =>
  intro v h
  cases v with
  | place x'=>simp only [A1m,PyData.eqv,PyData.eqvAll,Z1x,beq_iff_eq] at h;rw [h.2.1]
  | _=>exact absurd (A8z h) (by simp only [C4o];decide +kernel)
 | read a ix =>
  intro v h
  cases v with
  | read a' ix' =>
   simp only [A1m,A3o,PyData.eqv,PyData.eqvAll,Z1x,beq_iff_eq] at h;rw [h.2.1,C4n h.2.2.1]
  | _=>exact absurd (A8z h) (by simp only [C4o];decide +kernel)
 | sum x b ih =>
  intro v h
  cases v with
  | sum x' b' =>
   simp only [A1m,PyData.eqv,PyData.eqvAll,Z1x,beq_iff_eq] at h;rw [h.2.1,ih h.2.2.1]
  | _=>exact absurd (A8z h) (by simp only [C4o];decide +kernel)
 | pair k l r i1 i2 =>
  intro v h
  cases v with
  | pair k' l' r' =>
   simp only [A1m,PyData.eqv,PyData.eqvAll,Z1x,beq_iff_eq] at h;have:k=k':=by cases k <;> cases k' <;> first | rfl | exact absurd h.2.1 (by decide)
   rw [this,i1 h.2.2.1,i2 h.2.2.2.1]
  | _=>exact absurd (A8z h) (by simp only [C4o];decide +kernel)
 | guard x lo hi l r i1 i2 =>
  intro v h
  cases v with
  | guard x' lo' hi' l' r' =>
   simp only [A1m,PyData.eqv,PyData.eqvAll,Z1x,beq_iff_eq] at h;rw [h.2.1,h.2.2.1,h.2.2.2.1,i1 h.2.2.2.2.1,i2 h.2.2.2.2.2.1]
  | _=>exact absurd (A8z h) (by simp only [C4o];decide +kernel)
structure Ab where
 axl:Addr
 ahl:Addr
 shd:Addr
 own:Str
 due:Str
 wild:Bool
 all:Addr
 kpl:Addr
def abK (x:Ab):List (Key×V):=[(Sum.inr "axes",.ref x.axl),(Sum.inr "ahead",.ref x.ahl),(Sum.inr "shapes",.ref x.shd),(Sum.inr "own",.str x.own),(Sum.inr "due",.str x.due),(Sum.inr "wild",.bl x.wild),(Sum.inr "all",.ref x.all),(Sum.inr "kept",.ref x.kpl)]
theorem vneg {a b:Str} {v:V} {r:List (Key×V)} (h:decide (a=b)=false):A9p (((Sum.inr a:Key),v)::r) (Sum.inr b)=A9p r (Sum.inr b):=A8i (λz=>by injection z with z;rw [Z20 z] at h;cases h)
local macro_rules | `(tactic| walk_at "ab") => `(tactic| first | exact A8n rfl | (refine (vneg (by decide +kernel)).trans ?_; walk_at "ab"))
theorem A9n (x:Ab):A9p (abK x) (Sum.inr "axes")=some (.ref x.axl):=by unfold abK;walk_at "ab"
theorem B3b (x:Ab):A9p (abK x) (Sum.inr "ahead")=some (.ref x.ahl):=by unfold abK;walk_at "ab"
theorem A4r (x:Ab):A9p (abK x) (Sum.inr "shapes")=some (.ref x.shd):=by unfold abK;walk_at "ab"
theorem B0p (x:Ab):A9p (abK x) (Sum.inr "own")=some (.str x.own):=by unfold abK;walk_at "ab"
theorem C4p (x:Ab):A9p (abK x) (Sum.inr "due")=some (.str x.due):=by unfold abK;walk_at "ab"
theorem B4y (x:Ab):A9p (abK x) (Sum.inr "wild")=some (.bl x.wild):=by unfold abK;walk_at "ab"
theorem C8z (x:Ab):A9p (abK x) (Sum.inr "all")=some (.ref x.all):=by unfold abK;walk_at "ab"
theorem C0y (x:Ab):A9p (abK x) (Sum.inr "kept")=some (.ref x.kpl):=by unfold abK;walk_at "ab"
structure B8z (H:Hp) (ab:Addr) (x:Ab) (axs ahs als:List Str) (es:List (Str×List Str)):Prop where
 d:H ab=some (.dK (abK x))
 ax:H x.axl=some (.lst (axs.map V.str))
 ah:H x.ahl=some (.lst (ahs.map V.str))
 al:H x.all=some (.lst (als.map V.str))
 sh:∃sk,H x.shd=some (.dK sk)/\B2j (λ_=>True) H sk es
theorem B8z.ki {H H':Hp} {ab:Addr} {x:Ab} {axs ahs als:List Str} {es:List (Str×List Str)} (h:B8z H ab x axs ahs als es) (k:KI H H'):B8z H' ab x axs ahs als es:=by
 obtain ⟨d,ax,ah,al,sk,h1,h2⟩:=h;exact ⟨k.dk d,k.str ax,k.str ah,k.str al,sk,k.dk h1,Paired.mapP h2 λ_ _ ⟨z1,b,z2,z3,z4⟩=>⟨z1,b,z2,z3,k.str z4⟩⟩
theorem B8z.get {H:Hp} {ab:Addr} {x:Ab} {axs ahs als:List Str} {es:List (Str×List Str)} (h:B8z H ab x axs ahs als es) {k:Str} {v:V} (e:A9p (abK x) (Sum.inr k)=some v):B5b H ab (.str k) (some v):= .inl ⟨_,Sum.inr k,.inl h.d,rfl,e.symm⟩
structure D0o (x:Ab) (axs ahs als:List Str) (es:List (Str×List Str)):Prop where
 own:OkX x.own
 ax:OkN axs
 ah:OkN ahs
 al:OkN als
 la:axs.length<=100
 lh:ahs.length<=100
 ll:als.length<=100
 le:∀e∈es,e.2.length<=3
theorem A5x {a b:List Str} (h:OkN a) (h':OkN b):OkN (a++b):=λx hx=>(Z07.mp hx).elim (h x) (h' x)
theorem A7m {x:Str} (h:(PyData.strOk x&&decide (x.length<=4000))=true):OkX x:=by
 rw [Z1x] at h;exact ⟨h.1,of_decide_eq_true h.2⟩
def C4a:Sp:=λvs H Q _=>∃(D ab b:Addr) (tp wd:Bool) (ms:List Int) (x:Ab) (axs ahs als bs:List Str) (es:List (Str×List Str)),vs=[.ref D,.ref ab,.ref b,.bl tp,.bl wd]/\H D=some (.lst (ms.map V.int))/\B8z H ab x axs ahs als es/\D0o x axs ahs als es/\H b=some (.lst (bs.map V.str))/\OkN bs/\bs.length<=100/\
 ∀(v:V) (u:Tm) (ms':List Int) (H':Hp),dep u=1->nod u=1->OkT u->KI H H'->H' D=some (.lst (ms'.map V.int))->Rep (restr (Nw H) H') v (A1m u)->Q v H'
theorem C9q:(0:Int)<10^(30:Int).toNat:=by decide +kernel
theorem C2d:(0:Int)<2*10^(29:Int).toNat:=by decide +kernel
section
variable {P:Program} {w:World} {K:PySem.W.Frag} {mg:Str->Option Value} {base:Heap} {t:Adr}
theorem C0w (T:Txt K mg t):A2f P w K mg base CX0 2 t.gk t.g8 ["_law_rest","_law_about","_law_bound","_law_top","_law_wild"] C4a:=by
 have G_l_cell:=A8m (P:=P) (w:=w) (base:=base) T;refine T.iM.ok A2b (λvs H Q E h=> ?_) (λcdv A outer s H vs Q E hr h=> ?_)
 ·obtain ⟨D,ab,b,tp,wd,ms,x,axs,ahs,als,bs,es,rfl,_⟩:=h;rfl
 ·obtain ⟨D,ab,b,tp,wd,ms,x,axs,ahs,als,bs,es,rfl,hD,ap,ok,hb,okb,lb,k⟩:=h;have hu:=B1e hr;have lh:=ok.lh;have la':=ok.la;have ll':=ok.ll;have oke:OkX "":=A7m (by decide +kernel);have okz:OkX "zz":=A7m (by decide +kernel)
  refine ⟨_,(A0c (A0x (i:=5) A2b.nd rfl (Or.inl rfl) (A0p G_l_cell (hr.mono (by omega)) rfl T.aQ T.aG.kp T.aN .nil A1e (A0a (pv 0) A0e)))
   (A0c (A0x (i:=6) A2b.nd rfl (Or.inl rfl) (A3l A3y (by rfl) T.dF Z1o (A0a (A1p hu (pv 1) A0r (λ_ _=>rfl)) A0e)))
   (A3n (A1f (A2d (pv 3))
    (A0f (A2k (B1l Z0k Z0n Z0o A3u (pv 6) (A0a (A1p hu (pv 1) A0r (λ_ _=>rfl)) A0e))))
    A0n)
   (A0c (A0x (i:=7) A2b.nd rfl (Or.inl rfl) (A0y A5g (pv 2) (A2r (A0a A0r A0e))))
   (A0c (A0x (i:=8) A2b.nd rfl (Or.inl rfl) (A0y A2a (A0y A2o (pv 5) A0i) A0i))
   (A3n (A1f (PW.pt (A6h (A2d (pv 4)) (A4p (A0s D1g (pv 8) A0i (A1c _)))))
    (A0f (A0x (i:=6) A2b.nd rfl (Or.inl rfl) (A1p hu (pv 1) A0r (λ_ _=>rfl))))
    A0n)
   (A3n (A1f (PW.pt (C1d (PW.pt (A6h (A2d (pv 4)) (A4p (A0s A2s (pv 8) A0i (A1c _))))) (B3n (PW.pt (A6h (A2d (A1p hu (pv 1) A0r (λ_ _=>rfl))) (A6h (B6t (A2d (pv 3))) (A4p (A0s A2s (A0y A2a (pv 5) A0i) A0i (A1c _)))))))))
    (A0f (A0x (i:=6) A2b.nd rfl (Or.inl rfl) (A2r (A0a (A1p hu (pv 1) A0r (λ_ _=>rfl)) A0e))))
    A0n)
   (A3n (A1f (PW.pt (A6h (A2d (pv 4)) (A4p (A0s A2s (pv 8) A0i (A1c _)))))
    (A0f (A0x (i:=7) A2b.nd rfl (Or.inl rfl) (A0y A5g (A1p hu (pv 1) A0r (λ_ _=>rfl)) (A2r (A0a A0r (A0a A0r A0e))))))
    A0n)
   (A0c (A1f (A0s A2s (A0u A1b (by rfl) T.aW Z0r (A0a (pv 6) A0e)) A0i (A1c _))
    (A0f (A0v (A4k (A0a A0r (A0a (A0y A2a (pv 5) (A0y A9o A0i A0i)) A0e)))))
    A0n)
   (A0c (A0x (i:=9) A2b.nd rfl (Or.inl rfl) (A1n A4s (pv 6) (A0y A2a (pv 5) (A0u A1b (by rfl) T.aW Z0r (A0a (pv 6) A0e))) (λ_ _=>rfl)))
   (A0c (A0x (i:=10) A2b.nd rfl (Or.inl rfl) A0i)
   (A3n (A1f (C4m (C9m hu (pv 9) (A1p hu (pv 1) A0r (λ_ _=>rfl))) (by with_unfolding_all rfl))
    (A0f (A0x (i:=10) A2b.nd rfl (Or.inl rfl) (A0u A1b (by rfl) T.aW Z0r (A0a (A1p hu (A1p hu (pv 1) A0r (λ_ _=>rfl)) (pv 9) (λ_ _=>rfl)) A0e))))
    A0n)
   (A3n (A1f (PW.pt (A6h (A2d (pv 4)) (A4p (A0s A2s (pv 8) A0i (A1c _)))))
    (A0f (A0x (i:=10) A2b.nd rfl (Or.inl rfl) (A0u (B0z rfl) (by rfl) T.jw PyProof.Rows.boot_max (A0a A0i (A0a (A0y A6i (A0y A5k (pv 10) (A0y A2o (A0y A2a (A0y A2o (pv 5) A0i) A0i) A0i)) (A0y A2o (A0y A2a (A0y A2o (pv 5) A0i) A0i) A0i)) A0e)))))
    A0n)
   (A0c (A0x (i:=11) A2b.nd rfl (Or.inl rfl) (A2r A0e))
   (A0c (A4n PassesOwn.never rfl (A3k rfl T.bA (A0a (pv 10) A0e)) (A1a (i:=12) A2b.nd rfl (Or.inl rfl) (Or.inl rfl))
    (A0c (A0x (i:=13) A2b.nd rfl (Or.inl rfl) (A0p G_l_cell (hr.mono (by omega)) rfl T.aQ T.aG.kp T.aN .nil A1e (A0a (pv 0) A0e)))
    (A0f (A2k (B1l Z0k Z0n Z0o A3u (pv 11) (A0a (A4k (A0a (A1n A4s (pv 7) (A0y A2a (pv 13) (A0u A1b (by rfl) T.aW Z0r (A0a (pv 7) A0e))) (λ_ _=>rfl)) (A0a (A0y A6i (A0y A2a (A0y A2o (pv 13) A0i) (A0y B1p A0i (A0y A9o A0i A0i))) (A0y A9o A0i A0i)) A0e))) A0e))))))
   (A0f (A0v (A4k (A0a A0r (A0a (pv 9) (A0a (pv 11) A0e))))))))))))))))))))),?_⟩
  refine ⟨_,rfl,D,ms,rfl,hD,λc ms1 H1 l1 h1 o1 e1=> ?_⟩;have k1:=A4q hD o1 e1;have a1:=ap.ki k1;refine ⟨_,rfl,ab,_,rfl,a1.get (B3b x),x.ahl,_,rfl,.inl (SqL.of a1.ah),λkl hkl=> ?_⟩;have s2:A0w H1 (upd H1 kl (.lst (ahs.map V.str))):=A0d hkl;have klD:kl≠D:=(A0g h1 hkl).symm;have klab:kl≠ab:=(A0g a1.d hkl).symm;refine ⟨λσ H2=>∃kn:List Str,σ=[some (.ref D),some (.ref ab),some (.ref b),some (.bl tp),some (.bl wd),some (.int c),some (.ref kl),none,none,none,none,none,none,none]/\KI H H2/\H2 D=some (.lst (ms1.map V.int))/\H2 kl=some (.lst (kn.map V.str))/\OkN kn/\kn.length<=200,?_,?_⟩
  ·refine ⟨_,rfl,_,rfl,A9w (λ_=> ?_) (λ_=>⟨ahs,rfl,k1.trans (KI.of s2),s2 _ _ h1,A0b,ok.ah,by omega⟩)⟩;refine ⟨_,rfl,.inl ⟨rfl,_,SqL.of A0b⟩,_,rfl,ab,_,rfl,(a1.ki (KI.of s2)).get (B0p x),kl,_,_,rfl,rfl,A0b,A1h (by rw [Z08];omega),?_⟩;refine ⟨ahs++[x.own],rfl,?_,by rw [A0j klD.symm];exact s2 _ _ h1,by rw [A0b,Z0s];rfl,A5x ok.ah (λy hy=>by rw [Z0w.mp hy];exact ok.own),by rw [Z06];show ahs.length+1<=200;omega⟩;refine λbb u n e=> ?_;have e1':=k1 bb u n e;rw [A0j (A0g e1' hkl)];exact s2 _ _ e1'
  rintro σ H2 ⟨kn,rfl,k2,hD2,hkl2,okk,lk⟩;have a2:=ap.ki k2;refine ⟨_,rfl,A0h (by simp),λel hel=> ?_⟩;have s3:A0w H2 (upd H2 el (.lst [.str ""])):=A0d hel;refine ⟨b,el,_,_,rfl,rfl,s3 _ _ (k2.str hb),A0b,A0h (by rw [Z08];show bs.length+1<=1000000;omega),λsl hsl=> ?_⟩;have s4:A0w (upd H2 el (.lst [.str ""])) (upd (upd H2 el (.lst [.str ""])) sl (.lst (bs.map V.str++[.str ""]))):=A0d hsl;have hsl4:upd (upd H2 el (.lst [.str ""])) sl (.lst (bs.map V.str++[.str ""])) sl=some (.lst ((bs++[("":Str)]).map V.str)):=by rw [A0b,Z0s];rfl
  have s24:=s3.trans s4;generalize upd (upd H2 el (.lst [.str ""])) sl (.lst (bs.map V.str++[.str ""]))=H4 at s24 hsl4;clear s3 s4;have k4:=k2.trans (KI.of s24);have a4:=ap.ki k4;have oks:OkN (bs++[("":Str)]):=A5x okb (λy hy=>by rw [Z0w.mp hy];exact oke);refine ⟨_,rfl,_,_,rfl,rfl,⟨by decide,by decide⟩,_,_,rfl,rfl,(by show (0:Int)<3;decide),?_⟩;dsimp only;generalize c/30%3=way;have hD4:=s24 _ _ hD2;have hkl4:=s24 _ _ hkl2;refine ⟨λσ H5=>∃(kl:Addr) (kn:List Str),σ=[some (.ref D),some (.ref ab),some (.ref b),some (.bl tp),some (.bl wd),some (.int c),some (.ref kl),some (.ref sl),some (.int way),none,none,none,none,none]/\H4=H5/\H5 kl=some (.lst (kn.map V.str))/\OkN kn/\kn.length<=200,?_,?_⟩
  ·have els:∃(kl':Addr) (kn:List Str),[some (V.ref D),some (.ref ab),some (.ref b),some (.bl tp),some (.bl wd),some (.int c),some (.ref kl),some (.ref sl),some (.int way),none,none,none,none,none]=[some (.ref D),some (.ref ab),some (.ref b),some (.bl tp),some (.bl wd),some (.int c),some (.ref kl'),some (.ref sl),some (.int way),none,none,none,none,none]/\H4=H4/\H4 kl'=some (.lst (kn.map V.str))/\OkN kn/\kn.length<=200:=⟨kl,kn,rfl,rfl,hkl4,okk,lk⟩;refine ⟨_,rfl,_,rfl,A9w (λ_=>⟨_,rfl,_,_,rfl,rfl,_,rfl,A9w (λ_=> ?_) (λ_=>els)⟩) (λ_=>A2q els)⟩;exact ⟨_,rfl,ab,_,rfl,a4.get (C8z x),x.all,als,rfl,rfl,a4.al,ok.al,by omega⟩
  rintro σ H5 ⟨kl,kn,rfl,rfl,hkl5,okk,lk⟩;refine ⟨λσ H5=>∃(kl:Addr) (kn:List Str),σ=[some (.ref D),some (.ref ab),some (.ref b),some (.bl tp),some (.bl wd),some (.int c),some (.ref kl),some (.ref sl),some (.int way),none,none,none,none,none]/\A0w H4 H5/\H5 kl=some (.lst (kn.map V.str))/\OkN kn/\kn.length<=200,?_,?_⟩
  ·have els:∃(kl':Addr) (kn:List Str),[some (V.ref D),some (.ref ab),some (.ref b),some (.bl tp),some (.bl wd),some (.int c),some (.ref kl),some (.ref sl),some (.int way),none,none,none,none,none]=[some (.ref D),some (.ref ab),some (.ref b),some (.bl tp),some (.bl wd),some (.int c),some (.ref kl'),some (.ref sl),some (.int way),none,none,none,none,none]/\A0w H4 H4/\H4 kl'=some (.lst (kn.map V.str))/\OkN kn/\kn.length<=200:=⟨kl,kn,rfl,A0w.refl _,hkl5,okk,lk⟩;refine ⟨_,rfl,_,rfl,A9w (λ_=>⟨_,rfl,rfl,_,rfl,A9w (λ_=>A8y ?_) (λ_=> ?_)⟩) (λ_=>A2q ?_)⟩
   ·exact ⟨_,rfl,ab,_,rfl,a4.get (B0p x),A0h (by simp),λzl hzl=>⟨zl,[x.own],rfl,A0d hzl,A0b,λy hy=>by rw [Z0w.mp hy];exact ok.own,by simp⟩⟩
   ·refine ⟨_,rfl,ab,_,rfl,a4.get (B4y x),_,rfl,A9w (λ_=>⟨_,rfl,_,rfl,A9w (λ_=>⟨_,rfl,_,_,rfl,rfl,(by show (0:Int)<2;decide),rfl,_,rfl,A9w (λ_=> ?_) (λ_=>els)⟩) (λ_=>A2q els)⟩) (λ_=>A2q els)⟩;exact ⟨_,rfl,ab,_,rfl,a4.get (B0p x),A0h (by simp),λzl hzl=>⟨zl,[x.own],rfl,A0d hzl,A0b,λy hy=>by rw [Z0w.mp hy];exact ok.own,by simp⟩⟩
   ·refine ⟨_,rfl,ab,_,rfl,a4.get (B4y x),_,rfl,A9w (λ_=>⟨_,rfl,_,rfl,A9w (λ_=>⟨_,rfl,_,_,rfl,rfl,(by show (0:Int)<2;decide),rfl,_,rfl,A9w (λ_=> ?_) (λ_=>els)⟩) (λ_=>A2q els)⟩) (λ_=>A2q els)⟩;exact ⟨_,rfl,ab,_,rfl,a4.get (B0p x),A0h (by simp),λzl hzl=>⟨zl,[x.own],rfl,A0d hzl,A0b,λy hy=>by rw [Z0w.mp hy];exact ok.own,by simp⟩⟩
  rintro σ H5 ⟨kl,kn,rfl,s45,hkl5,okk,lk⟩;have k5:=k4.trans (KI.of s45);have a5:=ap.ki k5;have hD5:=s45 _ _ hD4;have hsl5:=s45 _ _ hsl4;refine ⟨λσ H6=>∃(sl:Addr) (sn:List Str),σ=[some (.ref D),some (.ref ab),some (.ref b),some (.bl tp),some (.bl wd),some (.int c),some (.ref kl),some (.ref sl),some (.int way),none,none,none,none,none]/\A0w H5 H6/\H6 sl=some (.lst (sn.map V.str))/\OkN sn/\sn.length<=200/\sn≠[],?_,?_⟩
  ·have els:∃(sl':Addr) (sn:List Str),[some (V.ref D),some (.ref ab),some (.ref b),some (.bl tp),some (.bl wd),some (.int c),some (.ref kl),some (.ref sl),some (.int way),none,none,none,none,none]=[some (.ref D),some (.ref ab),some (.ref b),some (.bl tp),some (.bl wd),some (.int c),some (.ref kl),some (.ref sl'),some (.int way),none,none,none,none,none]/\A0w H5 H5/\H5 sl'=some (.lst (sn.map V.str))/\OkN sn/\sn.length<=200/\sn≠[]:=⟨sl,_,rfl,A0w.refl _,hsl5,oks,by rw [Z06];show bs.length+1<=200;omega,by simp⟩;refine ⟨_,rfl,_,rfl,A9w (λ_=>⟨_,rfl,rfl,_,rfl,A9w (λ_=> ?_) (λ_=>els)⟩) (λ_=>A2q els)⟩;refine ⟨_,rfl,ab,_,rfl,a5.get (A9n x),A0h (by simp),λzl hzl=> ?_⟩;have t1:A0w H5 (upd H5 zl (.lst [.str "",.str "zz"])):=A0d hzl;refine ⟨x.axl,zl,_,_,rfl,rfl,t1 _ _ a5.ax,A0b,A0h (by rw [Z08];show axs.length+2<=1000000;omega),λyl hyl=> ?_⟩;refine ⟨yl,axs++(["","zz"]:List Str),rfl,t1.trans (A0d hyl),by rw [A0b,Z0s];rfl,A5x ok.ax (λy hy=> ?_),by rw [Z06];show axs.length+2<=200;omega,by simp⟩;rcases Z0e.mp hy with rfl | hy
   ·exact oke
   ·rw [Z0w.mp hy];exact okz
  rintro σ H6 ⟨sl,sn,rfl,s56,hsl6,okn,lsn,nsn⟩;have k6:=k5.trans (KI.of s56);have a6:=ap.ki k6;have hD6:=s56 _ _ hD5;have hkl6:=s56 _ _ hkl5;refine ⟨_,rfl,kl,_,rfl,.inl (SqL.of hkl6),rfl,_,rfl,A8a (λ_=> ?_) (λhne=> ?_)⟩
  ·refine ⟨_,rfl,_,_,rfl,rfl,⟨by decide,by decide,by decide⟩,_,_,rfl,rfl,C9q,A0h (by simp),λp hp=> ?_⟩;refine k (.ref p) (.num (c%10^(30:Int).toNat)) ms1 _ rfl rfl True.intro (k6.trans (KI.of (A0d hp))) ((A0d hp) _ _ hD6) (.tup (A0l (A4c k6 hp) A0b) (.cons (.str _) (.cons (.int _) .nil)))
  have kpos:0<kn.length:=by
   rcases Nat.eq_zero_or_pos kn.length with z | z
   ·exact absurd (by rw [Z08,z];rfl) hne
   ·exact z
  obtain ⟨arr',har,ear⟩:=A9j (f:=V.str) (xs:=kn) (i:=c%(kn.length:Int)) (Z1v _ (by omega)) (Z1p _ (by omega));have oka:=okk arr' (Z13 har);refine ⟨_,rfl,_,rfl,_,rfl,kl,_,rfl,.inl (SqL.of hkl6),_,_,rfl,rfl,(by show (0:Int)<((kn.map V.str).length:Int);rw [Z08];omega),kl,_,_,_,rfl,rfl,SqL.of hkl6,(by rw [Z08];exact ear),?_⟩;obtain ⟨sk,hsk,awk⟩:=a6.sh;refine ⟨λσ H7=>∃m:Int,σ=[some (.ref D),some (.ref ab),some (.ref b),some (.bl tp),some (.bl wd),some (.int c),some (.ref kl),some (.ref sl),some (.int way),some (.str arr'),some (.int m),none,none,none]/\H6=H7/\0<=m/\m<=3,?_,?_⟩
  ·rcases B0a (a:=arr') awk with ⟨e1,e2⟩ | ⟨zs,cz,e1,e2,hc⟩
   ·have g:B5b H6 x.shd (.str arr') none:= .inl ⟨sk,Sum.inr arr',.inl hsk,rfl,e2.symm⟩;exact ⟨_,rfl,_,rfl,ab,_,rfl,a6.get (A4r x),x.shd,_,rfl,g,_,rfl,A2q ⟨0,rfl,rfl,by omega,by omega⟩⟩
   ·have g:B5b H6 x.shd (.str arr') (some (.ref cz)):= .inl ⟨sk,Sum.inr arr',.inl hsk,rfl,e2.symm⟩
    have lz3:zs.length<=3:=by
     unfold shp at e1;obtain ⟨ee,he1,he2⟩:=Z0i.mp e1;rw [<-he2];exact ok.le ee (List.mem_of_find?_eq_some he1)
    refine ⟨_,rfl,_,rfl,ab,_,rfl,a6.get (A4r x),x.shd,_,rfl,g,_,rfl,A8y ?_⟩;exact ⟨_,rfl,ab,_,rfl,a6.get (A4r x),_,rfl,x.shd,_,rfl,g,cz,_,rfl,.inl (SqL.of hc),_,rfl,rfl,by omega,by rw [Z08];omega⟩
  rintro σ H7 ⟨m,rfl,rfl,m0,m3⟩;refine ⟨λσ H7=>∃m:Int,σ=[some (.ref D),some (.ref ab),some (.ref b),some (.bl tp),some (.bl wd),some (.int c),some (.ref kl),some (.ref sl),some (.int way),some (.str arr'),some (.int m),none,none,none]/\H6=H7/\0<=m/\m<=4,?_,?_⟩
  ·refine ⟨_,rfl,_,rfl,A9w (λ_=>⟨_,rfl,rfl,_,rfl,A9w (λ_=> ?_) (λ_=>⟨m,rfl,rfl,m0,by omega⟩)⟩) (λ_=>A2q ⟨m,rfl,rfl,m0,by omega⟩)⟩;refine ⟨_,rfl,_,rfl,_,_,rfl,rfl,⟨by decide,by decide⟩,_,_,rfl,rfl,(by show (0:Int)<5;decide),_,_,rfl,rfl,⟨by decide,by decide⟩,_,_,rfl,rfl,_,rfl,_,_,rfl,rfl,⟨by decide,by decide⟩,_,_,rfl,rfl,(by show (0:Int)<5;decide),_,_,rfl,rfl,⟨by decide,by decide⟩,_,_,rfl,rfl,_,_,rfl,?_⟩;refine ⟨_,rfl,rfl,?_,?_⟩
   ·split <;> omega
   ·split <;> omega
  rintro σ H7 ⟨m,rfl,rfl,m0,m4⟩;refine ⟨A0h (by simp),λil hil=> ?_⟩
  have spos:0<sn.length:=by
   rcases Nat.eq_zero_or_pos sn.length with z | z
   ·exact absurd (List.eq_nil_of_length_eq_zero z) nsn
   ·exact z
  have hilH:∀{bb:Addr} {u:HO},(∀n xs,u≠.lst (V.int n::xs))->H bb=some u->bb≠il:=λn e=>A0g (k6 _ _ n e) hil;have ilD:il≠D:=(A0g hD6 hil).symm;have ilsl:il≠sl:=(A0g hsl6 hil).symm;refine ⟨_,rfl,_,rfl,(by omega),(by omega),?_⟩
  refine B3y (n:=m.toNat) (λi σ H8=>∃(o12 o13:Option V) (ms2:List Int) (ys:List V) (ix:List (Str×Int)),σ=[some (.ref D),some (.ref ab),some (.ref b),some (.bl tp),some (.bl wd),some (.int c),some (.ref kl),some (.ref sl),some (.int way),some (.str arr'),some (.int m),some (.ref il),o12,o13]/\KI H H8/\H8 D=some (.lst (ms2.map V.int))/\H8 sl=some (.lst (sn.map V.str))/\H8 il=some (.lst ys)/\Paired (λ(v:V) (e:Str×Int)=>∃q,v= .ref q/\Nw H q/\H8 q=some (.tup [.str e.1,.int e.2])) ys ix/\ys.length=i/\∀e∈ix,OkX e.1)
   ⟨none,none,ms1,[],[],rfl,k6.trans (KI.of (A0d hil)),(A0d hil) _ _ hD6,(A0d hil) _ _ hsl6,A0b,.nil,rfl,(by intro e he;cases he)⟩ ?_ ?_
  ·rintro i σ H8 hi ⟨o12,o13,ms2,ys,ix,rfl,k8,hD8,hsl8,hil8,px,ly,oki⟩;refine ⟨_,rfl,D,ms2,rfl,hD8,λc2 ms3 H9 l9 h9 o9 e9=> ?_⟩;have k89:=A4q hD8 o9 e9;have hsl9:=k89.str hsl8;have hil9:H9 il=some (.lst ys):=by rw [o9 il ilD];exact hil8
   have px9:Paired (λ(v:V) (e:Str×Int)=>∃q,v= .ref q/\Nw H q/\H9 q=some (.tup [.str e.1,.int e.2])) ys ix:=Paired.mapP px λ_ _ ⟨q,e,nq,hq⟩=>⟨q,e,nq,k89 _ _ (by intro n xs z;cases z) hq⟩;obtain ⟨y,hy,ey⟩:=A9j (f:=V.str) (xs:=sn) (i:=c2%(sn.length:Int)) (Z1v _ (by omega)) (Z1p _ (by omega));refine ⟨_,rfl,.inl ⟨rfl,_,SqL.of hil9⟩,_,rfl,_,rfl,_,rfl,sl,_,rfl,.inl (SqL.of hsl9),_,_,rfl,rfl,(by show (0:Int)<((sn.map V.str).length:Int);rw [Z08];omega),sl,_,_,_,rfl,rfl,SqL.of hsl9,(by rw [Z08];exact ey),?_⟩;refine ⟨_,rfl,_,_,rfl,rfl,⟨by decide,by decide⟩,_,_,rfl,rfl,⟨by decide,by decide,by decide⟩,_,_,rfl,rfl,.inl ⟨by decide,by decide⟩,_,_,rfl,rfl,C2d,_,_,rfl,rfl,⟨by decide,by decide,by decide⟩,_,_,rfl,rfl,A0h (by simp),λq hq=> ?_⟩;dsimp only;generalize c2/5%(2*10^(29:Int).toNat)-10^(29:Int).toNat=zz at hq;have nwq:Nw H q:=A4c (k8.trans k89) hq;have sq:A0w H9 (upd H9 q (.tup [.str y,.int zz])):=A0d hq;have hqq:upd H9 q (.tup [.str y,.int zz]) q=some (.tup [.str y,.int zz]):=A0b;generalize upd H9 q (.tup [.str y,.int zz])=H10 at sq hqq;refine ⟨il,_,_,rfl,rfl,sq _ _ hil9,A1h (by omega),?_⟩;have up:∀{bb:Addr} {u:HO},bb≠il->H10 bb=some u->upd H10 il (.lst (ys++[.ref q])) bb=some u:=λn e=>by rw [A0j n];exact e
   refine ⟨_,_,ms3,ys++[.ref q],ix++[(y,zz)],rfl,λbb u n e=>up (hilH n e) (sq _ _ (k89 _ _ n (k8 _ _ n e))),up ilD.symm (sq _ _ h9),up ilsl.symm (sq _ _ hsl9),A0b,C7n (Paired.mapP px9 λ_ _ ⟨q',e,nq',hq'⟩=>⟨q',e,nq',up (A1l (sq _ _ hq') (sq _ _ hil9) (by intro z;cases z)) (sq _ _ hq')⟩) (.cons ⟨q,rfl,nwq,up (A1l hqq (sq _ _ hil9) (by intro z;cases z)) hqq⟩ .nil),by rw [Z06];simp only [Z0y,List.length_nil];omega,λe he=> ?_⟩;rcases Z07.mp he with he | he
   ·exact oki e he
   ·rw [Z0w.mp he];exact okn y (Z13 hy)
  ·rintro σ H8 ⟨o12,o13,ms2,ys,ix,rfl,k8,hD8,hsl8,hil8,px,ly,oki⟩;have lix:=Paired.length px;refine ⟨_,rfl,_,rfl,A0h (by simp),λp hp=> ?_⟩;have sp':=A0d (o:= .tup [.str "read",.str arr',.ref il]) hp
   have rp:Rep (restr (Nw H) H8) (.ref il) (A3o ix):= .lst (A0l (A4c k6 hil) hil8) (by
    clear ly oki lix hil8
    induction px with
    | nil=>exact .nil
    | cons r _ ih =>
     obtain ⟨q,rfl,nq,hq⟩:=r
     exact .cons (.tup (A0l nq hq) (.cons (.str _) (.cons (.int _) .nil))) ih)
   exact k (.ref p) (.read arr' ix) ms2 _ rfl rfl ⟨oka,by omega,oki⟩ (k8.trans (KI.of sp')) (sp' _ _ hD8) (.tup (A0l (A4c k8 hp) A0b) (.cons (.str _) (.cons (.str _) (.cons (rp.same (A0m sp')) .nil))))
end
theorem B2n {α:Type} {f:α->V} {xs:List α} {i:Nat} {v:V} (h:(xs.map f)[i]? =some v):∃x,xs[i]? =some x/\v=f x:=by
 rw [Z1z] at h
 cases e:xs[i]? with
 | none=>rw [e] at h;cases h
 | some x=>rw [e] at h;exact ⟨x,rfl,(Z1a h).symm⟩
theorem C8k {c:Prop} {dc:Decidable c} {b:Bool} {te:TE} {σ:St} {H:Hp} {Q:VK} (h:∀x:Bool,Q (.bl x) H) (ha:(∀x:Bool,Q (.bl x) H)->te σ H Q): @ite Prop c dc (te σ H Q) (Q (.bl b) H):=by
 by_cases hc:c
 ·rw [Z12 hc];exact ha h
 ·rw [Z0t hc];exact h b
def A9x (n:Nat):Sp:=λvs H Q _=>∃(D ab b:Addr) (tp st:Bool) (dd:Int) (ms:List Int) (x:Ab) (axs ahs als bs:List Str) (es:List (Str×List Str)),vs=[.ref D,.ref ab,.ref b,.bl tp,.bl st,.int dd]/\dd=(n:Int)/\H D=some (.lst (ms.map V.int))/\B8z H ab x axs ahs als es/\D0o x axs ahs als es/\H b=some (.lst (bs.map V.str))/\OkN bs/\bs.length+n<=90/\
 ∀(v:V) (u:Tm) (ms':List Int) (H':Hp),dep u<=n+1->nod u<2^(n+1)->OkT u->KI H H'->H' D=some (.lst (ms'.map V.int))->Rep (restr (Nw H) H') v (A1m u)->Q v H'
theorem C3c (z:Int):∃op,opN op=z%3:=by
 have h:z%3=0\/z%3=1\/z%3=2:=by omega
 rcases h with h | h | h
 ·exact ⟨.plus,h.symm⟩
 ·exact ⟨.minus,h.symm⟩
 ·exact ⟨.times,h.symm⟩
theorem A6e {n:Nat} (h:1<=n):2^(n-1+1)+2^(n-1+1)=2^(n+1):=by
 have e:n-1+1=n:=by omega
 rw [e,Nat.pow_succ];omega
section
variable {P:Program} {w:World} {K:PySem.W.Frag} {mg:Str->Option Value} {base:Heap} {t:Adr}
theorem B1q (T:Txt K mg t) {m n:Nat} {sp':Sp} (hm:2<=m) (G_l_grown:A2f P w K mg base CX0 m t.bF t.bH ["_law_rest","_law_about","_law_bound","_law_top","_law_still","_law_deep"] sp') (hs:1<=n->∀vs H Q,A9x (n-1) vs H Q E0->sp' vs H Q E0):A2f P w K mg base CX0 (m+1) t.bF t.bH ["_law_rest","_law_about","_law_bound","_law_top","_law_still","_law_deep"] (A9x n):=by
 have G_l_cell:=A8m (P:=P) (w:=w) (base:=base) T;have G_l_read:=C0w (P:=P) (w:=w) (base:=base) T;refine T.bo.ok A1y (λvs H Q E h=> ?_) (λcdv A outer s H vs Q E hr h=> ?_)
 ·obtain ⟨D,ab,b,tp,st,dd,ms,x,axs,ahs,als,bs,es,rfl,_⟩:=h;rfl
 ·obtain ⟨D,ab,b,tp,st,dd,ms,x,axs,ahs,als,bs,es,rfl,edd,hD,ap,ok,hb,okb,lb,k⟩:=h;have hu:=B1e hr;have la':=ok.la;have oke:OkX "":=A7m (by decide +kernel);have okz:OkX "zz":=A7m (by decide +kernel)
  have p2:2<=2^(n+1):=by
   have:0<2^n:=Nat.pow_pos (by decide);rw [Nat.pow_succ];omega
  refine ⟨_,(A0c (A0x (i:=6) A1y.nd rfl (Or.inl rfl) (A0p G_l_cell (hr.mono (by omega)) rfl T.aQ T.aG.kp T.aN .nil A1e (A0a (pv 0) A0e)))
   (A0c (A0x (i:=7) A1y.nd rfl (Or.inl rfl) (A0y A2a (pv 6) A0i))
   (A0c (A0x (i:=8) A1y.nd rfl (Or.inl rfl) (B0k (A1p hu (pv 1) A0r (λ_ _=>rfl)) (B0x (A7r A2s (A0y A2a (A0y A2o (pv 6) A0i) A0i) A0i (A1c _)))))
   (A3n (A1f (A0s A2s (pv 5) A0i (A1c _))
    (A0f (A0x (i:=7) A1y.nd rfl (Or.inl rfl) (A0y A2a (pv 7) A0i)))
    A0n)
   (A0c (A0x (i:=9) A1y.nd rfl (Or.inl rfl) (pv 2))
   (A3n (A1f (A2d (pv 8))
    (A0f (A0x (i:=9) A1y.nd rfl (Or.inl rfl) (A0y A5g (A1p hu (pv 1) A0r (λ_ _=>rfl)) (A2r (A0a A0r (A0a A0r A0e))))))
    A0n)
   (A0c (A1f (PW.pt (C1d (A0s A2s (pv 7) A0i (A1c _)) (B3n (A0s A2s (pv 7) A0i (A1c _)))))
    (A3n (A1f (B6t (A2d (pv 8)))
     (A0f (C0u (i₀:=9) (N':=["_law_name_here","_law_bound"]) (ix:=(List.replicate 1 none++[some 2])) (tc:=C7u (tOp (rIn K true) (D0b 0) (D0b 1))) A1y.nd rfl (Or.inl rfl) rfl (A8l (x:="_law_bound") rfl rfl rfl (by decide +kernel) (by decide +kernel)) (A6s (N0:=["_law_name_here"]) rfl (Or.inl rfl) (by first | exact Or.inl rfl | exact Or.inr rfl | (simp [relabel];rfl) | (with_unfolding_all exact Or.inl rfl) | (with_unfolding_all exact Or.inr rfl) | (with_unfolding_all decide))) (A3e (A1p hu (pv 1) A0r (λ_ _=>rfl))) (λ_ _ _ _=>(A1a (i:=0) B9d rfl (Or.inl rfl) (Or.inr rfl))) (λ_ _ _ _=>(A0s A1x (pv 0) (pv 1) (by with_unfolding_all rfl))) (λ_ _ _ _=>(pv 0))))
     A0n)
    (A0c (A1f (PW.pt (A6h (A0s A2s (pv 7) A0i (A1c _)) (A4p (A0s C3f (A0u A1b (by rfl) T.aW Z0r (A0a (pv 9) A0e)) A0i (A1c _)))))
     (A0c (A0x (i:=10) A1y.nd rfl (Or.inl rfl) (A1n A4s (pv 9) (A0y A2a (A0y A2o (pv 6) A0i) (A0u A1b (by rfl) T.aW Z0r (A0a (pv 9) A0e))) (λ_ _=>rfl)))
     (A0f (A0v (A4k (A0a A0r (A0a (pv 10) (A0a (A0p G_l_grown (hr.mono (by omega)) rfl T.bI T.bo.kp T.bE .nil A1e (A0a (pv 0) (A0a (pv 1) (A0a (A0y A5g (pv 2) (A2r (A0a (pv 10) A0e))) (A0a (B0k (pv 3) (B0x (pv 4))) (A0a (pv 4) (A0a (A0y A6i (pv 5) A0i) A0e))))))) A0e)))))))
     A0n)
    (A0c (A0x (i:=11) A1y.nd rfl (Or.inl rfl) (A0p G_l_grown (hr.mono (by omega)) rfl T.bI T.bo.kp T.bE .nil A1e (A0a (pv 0) (A0a (pv 1) (A0a (pv 2) (A0a (pv 3) (A0a A5o (A0a (A0u (B0z rfl) (by rfl) T.jw PyProof.Rows.boot_max (A0a (A0y A6i (pv 5) A0i) (A0a A0i A0e))) A0e))))))))
    (A0f (A0v (A4k (A0a A0r (A0a (A0y A2a (A0y A2o (pv 6) A0i) A0i) (A0a (pv 11) (A0a (A0p G_l_grown (hr.mono (by omega)) rfl T.bI T.bo.kp T.bE .nil A1e (A0a (pv 0) (A0a (pv 1) (A0a (pv 2) (A0a (pv 3) (A0a A5o (A0a (A0u (B0z rfl) (by rfl) T.jw PyProof.Rows.boot_max (A0a (A0y A6i (pv 5) A0i) (A0a A0i A0e))) A0e))))))) A0e))))))))))
    A0n)
   (A0c (A1f (PW.pt (C1d (A0s A2s (pv 7) A0i (A1c _)) (B3n (A0s A2s (pv 7) A0i (A1c _)))))
    (A0f (A0v (A0p G_l_read (hr.mono (by omega)) rfl T.jq T.iM.kp T.jl .nil A1e (A0a (pv 0) (A0a (pv 1) (A0a (pv 2) (A0a (pv 3) (A0a (pv 8) A0e))))))))
    A0n)
   (A0c (A1f (PW.pt (C1d (A0s A2s (pv 7) A0i (A1c _)) (B3n (A0s A2s (A0u A1b (by rfl) T.aW Z0r (A0a (pv 9) A0e)) A0i (A1c _)))))
    (A0f (A0v (A4k (A0a A0r (A0a (A0y A6i (A0y A2a (A0y A2o (pv 6) A0i) (A0y B1p A0i (A0y A9o A0i A0i))) (A0y A9o A0i A0i)) A0e)))))
    A0n)
   (A0c (A0x (i:=10) A1y.nd rfl (Or.inl rfl) (A1n A4s (pv 9) (A0y A2a (A0y A2o (pv 6) A0i) (A0u A1b (by rfl) T.aW Z0r (A0a (pv 9) A0e))) (λ_ _=>rfl)))
   (A0c (A1f (A0s A2s (pv 7) A0i (A1c _))
    (A0f (A0v (A4k (A0a A0r (A0a (pv 10) A0e)))))
    A0n)
   (A0c (A0x (i:=12) A1y.nd rfl (Or.inl rfl) (A0y A6i (A0y A2a (A0p G_l_cell (hr.mono (by omega)) rfl T.aQ T.aG.kp T.aN .nil A1e (A0a (pv 0) A0e)) (A0y B1p A0i (A0y A9o A0i A0i))) (A0y A9o A0i A0i)))
   (A0c (A0x (i:=13) A1y.nd rfl (Or.inl rfl) (A0p G_l_grown (hr.mono (by omega)) rfl T.bI T.bo.kp T.bE .nil A1e (A0a (pv 0) (A0a (pv 1) (A0a (pv 2) (A0a (pv 3) (A0a A5o (A0a (A0y A6i (pv 5) A0i) A0e))))))))
   (A0f (A0v (A4k (A0a A0r (A0a (pv 10) (A0a (pv 12) (A0a (A0y A5k (pv 12) (A0y A2a (A0y A2o (pv 6) A0i) A0i)) (A0a (pv 13) (A0a (A0p G_l_grown (hr.mono (by omega)) rfl T.bI T.bo.kp T.bE .nil A1e (A0a (pv 0) (A0a (pv 1) (A0a (pv 2) (A0a (pv 3) (A0a A5o (A0a (A0y A6i (pv 5) A0i) A0e))))))) A0e)))))))))))))))))))))),?_⟩
  refine ⟨_,rfl,D,ms,rfl,hD,λc ms1 H1 l1 h1 o1 e1=> ?_⟩;have k1:=A4q hD o1 e1;have a1:=ap.ki k1;have hb1:=k1.str hb;refine ⟨_,rfl,_,_,rfl,rfl,(by show (0:Int)<8;decide),?_⟩;refine ⟨_,rfl,ab,_,rfl,a1.get (B4y x),_,rfl,?_⟩;refine C8k (b:=false) ?_ ?_
  case refine_2=>exact λh=>⟨_,rfl,_,_,rfl,rfl,⟨by decide,by decide⟩,_,_,rfl,rfl,(by show (0:Int)<3;decide),rfl,h _⟩
  refine λwd=> ?_;refine ⟨λσ H2=>∃way:Int,σ=[some (.ref D),some (.ref ab),some (.ref b),some (.bl tp),some (.bl st),some (.int dd),some (.int c),some (.int way),some (.bl wd),none,none,none,none,none]/\H1=H2/\0<=way/\way<8/\(n=0->way<4),?_,?_⟩
  ·refine ⟨_,rfl,rfl,_,rfl,A8a (λh0=> ?_) (λh0=>⟨_,rfl,rfl,by omega,by omega,λz=>absurd (by rw [edd,z];rfl) h0⟩)⟩;exact ⟨_,rfl,_,_,rfl,rfl,(by show (0:Int)<4;decide),_,rfl,rfl,by omega,by omega,λ_=>by omega⟩
  rintro σ H2 ⟨way,rfl,rfl,w0,w8,wn⟩;refine ⟨_,rfl,?_⟩;refine ⟨λσ H2=>∃(sl:Addr) (sn:List Str),σ=[some (.ref D),some (.ref ab),some (.ref b),some (.bl tp),some (.bl st),some (.int dd),some (.int c),some (.int way),some (.bl wd),some (.ref sl),none,none,none,none]/\A0w H1 H2/\H2 sl=some (.lst (sn.map V.str))/\OkN sn/\sn.length<=200,?_,?_⟩
  ·refine ⟨_,rfl,_,rfl,A9w (λ_=> ?_) (λ_=>⟨b,bs,rfl,A0w.refl _,hb1,okb,by omega⟩)⟩;refine ⟨_,rfl,ab,_,rfl,a1.get (A9n x),A0h (by simp),λzl hzl=> ?_⟩;have t1:A0w H1 (upd H1 zl (.lst [.str "",.str "zz"])):=A0d hzl;refine ⟨x.axl,zl,_,_,rfl,rfl,t1 _ _ a1.ax,A0b,A0h (by rw [Z08];show axs.length+2<=1000000;omega),λyl hyl=> ?_⟩;refine ⟨yl,axs++(["","zz"]:List Str),rfl,t1.trans (A0d hyl),by rw [A0b,Z0s];rfl,A5x ok.ax (λy hy=> ?_),by rw [Z06];show axs.length+2<=200;omega⟩;rcases Z0e.mp hy with rfl | hy
   ·exact oke
   ·rw [Z0w.mp hy];exact okz
  rintro σ H2 ⟨sl,sn,rfl,s12,hsl2,oks,lsn⟩;have k2:=k1.trans (KI.of s12);have a2:=ap.ki k2;have hb2:=s12 _ _ hb1;have hD2:=s12 _ _ h1
  have rec':1<=n->∀(b':Addr) (tp' st':Bool) (dd':Int) (ms':List Int) (bs':List Str) (H3:Hp) (Q':VK),dd'=dd-1->H3 D=some (.lst (ms'.map V.int))->KI H H3->H3 b'=some (.lst (bs'.map V.str))->OkN bs'->bs'.length<=bs.length+1->(∀(v:V) (u:Tm) (ms2:List Int) (H':Hp),dep u<=n->nod u<2^(n-1+1)->OkT u->KI H3 H'->H' D=some (.lst (ms2.map V.int))->Rep (restr (Nw H) H') v (A1m u)->Q' v H')->sp' [.ref D,.ref ab,.ref b',.bl tp',.bl st',.int dd'] H3 Q' E0:=λn1 b' tp' st' dd' ms' bs' H3 Q' hd hD3 k3 hb3 okb3 lb3 kk =>
   hs n1 _ _ _ ⟨D,ab,b',tp',st',dd',ms',x,axs,ahs,als,bs',es,rfl,by omega,hD3,ap.ki k3,ok,hb3,okb3,by omega,λv u ms2 H' d1 n2 ok2 ki2 hD2 rp2=>kk v u ms2 H' (by omega) n2 ok2 ki2 hD2 (C6j k3 rp2)⟩
  refine ⟨_,rfl,rfl,_,rfl,A8a (λh7=>A8y ?_) (λh7=>⟨_,rfl,rfl,_,rfl,A8a (λh4=> ?_) (λh4=> ?_)⟩)⟩
  ·have w4:4<=way:=by have:=V.int.inj h7;omega
   have n1:1<=n:=by
    rcases Nat.eq_zero_or_pos n with z | z
    ·have:=wn z;omega
    ·exact z
   refine ⟨λσ H3=>∃(sl:Addr) (sn:List Str),σ=[some (.ref D),some (.ref ab),some (.ref b),some (.bl tp),some (.bl st),some (.int dd),some (.int c),some (.int way),some (.bl wd),some (.ref sl),none,none,none,none]/\A0w H2 H3/\H3 sl=some (.lst (sn.map V.str))/\OkN sn/\sn.length<=200,?_,?_⟩
   ·refine ⟨_,rfl,_,rfl,A9w (λ_=> ?_) (λ_=>⟨sl,sn,rfl,A0w.refl _,hsl2,oks,lsn⟩)⟩;refine ⟨_,rfl,ab,_,rfl,a2.get (A9n x),x.axl,rfl,⟨_,SqL.of a2.ax⟩,λD2 hD2'=> ?_⟩;refine B0c (K:=K) (a:=x.axl) (D:=D2) (xs:=axs.map V.str) (λj ys H3=>A0w H2 H3/\H3 D2=some (.lst ys)/\∃zs:List Str,ys=zs.map V.str/\zs.length<=j/\∀z∈zs,z∈axs) ⟨A0d hD2',A0b,[],rfl,by simp,(by intro z hz;cases hz)⟩ (λj ys H3 ⟨s3,_⟩=>SqL.of (s3 _ _ a2.ax)) ?_ ?_
    ·rintro j y ys H3 hy ⟨s3,h3,zs,rfl,lz,mz⟩;obtain ⟨z,hz,rfl⟩:=B2n hy;have hj:j<axs.length:=(Z03.mp hz).1;refine ⟨⟨rfl,True.intro⟩,_,rfl,_,rfl,b,_,rfl,.inl (SqL.of (s3 _ _ hb2)),rfl,A1t bs,_,rfl,?_⟩;show if (!inV (V.str z) (bs.map V.str))=true then _ else _
     rw [A2n];refine A4l (λ_=> ?_) (λ_=> ?_)
     ·refine ⟨_,rfl,h3,A1h (by rw [Z08];omega),A0t s3 hD2',A0b,zs++[z],by simp,(by rw [Z06];simp only [Z0y,List.length_nil];omega),λy hy=> ?_⟩;rcases Z07.mp hy with hy | hy
      ·exact mz y hy
      ·rw [Z0w.mp hy];exact Z13 hz
     ·exact ⟨s3,h3,zs,rfl,by omega,mz⟩
    rintro ys H3 ⟨s3,h3,zs,rfl,lz,mz⟩;rw [Z08] at lz;exact ⟨D2,zs,rfl,s3,h3,λy hy=>ok.ax y (mz y hy),by omega⟩
   rintro σ H3 ⟨sl,sn,rfl,s23,hsl3,oks,lsn⟩;have k3:=k2.trans (KI.of s23);have hD3:=s23 _ _ hD2;refine ⟨_,rfl,rfl,_,rfl,A9w (λ_=>⟨_,rfl,sl,_,rfl,.inl (SqL.of hsl3),_,_,rfl,rfl,_,rfl,A8a (λhpos=> ?_) (λ_=> ?_)⟩) (λ_=>A2q ?_)⟩
   ·have spos:(0:Int)<((sn.map V.str).length:Int):=hpos;rw [Z08] at spos;obtain ⟨ax',hax,eax⟩:=A9j (f:=V.str) (xs:=sn) (i:=c/24%(sn.length:Int)) (Z1v _ (by omega)) (Z1p _ spos);have okax:=oks ax' (Z13 hax);refine ⟨_,rfl,_,rfl,_,_,rfl,rfl,⟨by decide,by decide⟩,_,rfl,sl,_,rfl,.inl (SqL.of hsl3),_,_,rfl,rfl,hpos,sl,_,_,_,rfl,rfl,SqL.of hsl3,(by rw [Z08];exact eax),?_⟩;refine ⟨_,rfl,_,rfl,_,rfl,_,rfl,_,rfl,A0h (by simp),λzl hzl=> ?_⟩;have t1:A0w H3 (upd H3 zl (.lst [.str ax'])):=A0d hzl;refine ⟨b,zl,_,_,rfl,rfl,t1 _ _ (s23 _ _ hb2),A0b,A0h (by rw [Z08];show bs.length+1<=1000000;omega),λb3 hb3=> ?_⟩;have t2:A0w (upd H3 zl (.lst [.str ax'])) (upd (upd H3 zl (.lst [.str ax'])) b3 (.lst (bs.map V.str++[.str ax']))):=A0d hb3;have hb5:upd (upd H3 zl (.lst [.str ax'])) b3 (.lst (bs.map V.str++[.str ax'])) b3=some (.lst ((bs++[ax']).map V.str)):=by rw [A0b,Z0s];rfl
    have s5:=t1.trans t2;generalize upd (upd H3 zl (.lst [.str ax'])) b3 (.lst (bs.map V.str++[.str ax']))=H5 at s5 hb5;clear t1 t2;have hD5:=s5 _ _ hD3
    cases tp with
    | true =>
      refine ⟨_,rfl,_,rfl,A8y ⟨_,rfl,_,rfl,_,rfl,_,_,rfl,rfl,?_⟩⟩;refine rec' n1 b3 _ st _ ms1 (bs++[ax']) _ _ rfl hD5 (k3.trans (KI.of s5)) hb5 (A5x okb λy hy=>by rw [Z0w.mp hy];exact okax) (by rw [Z06];exact Z09 _) λv u ms2 H' d1 nd1 okt ki hD' rp=>⟨A0h (by simp),λp hp=> ?_⟩;have sp'':=A0d (o:= .tup [.str "sum",.str ax',v]) hp;refine k (.ref p) (.sum ax' u) ms2 _ (by show dep u+1<=n+1;omega) (by show nod u+1<2^(n+1);have:=A6e n1;omega) ⟨okax,okt⟩ ((k3.trans (KI.of s5)).trans (ki.trans (KI.of sp''))) (sp'' _ _ hD') (.tup (A0l (A4c ((k3.trans (KI.of s5)).trans ki) hp) A0b) (.cons (.str _) (.cons (.str _) (.cons (rp.same (A0m sp'')) .nil))))
    | false =>
      refine ⟨_,rfl,_,rfl,A2q ⟨_,rfl,_,rfl,_,_,rfl,rfl,?_⟩⟩;refine rec' n1 b3 _ st _ ms1 (bs++[ax']) _ _ rfl hD5 (k3.trans (KI.of s5)) hb5 (A5x okb λy hy=>by rw [Z0w.mp hy];exact okax) (by rw [Z06];exact Z09 _) λv u ms2 H' d1 nd1 okt ki hD' rp=>⟨A0h (by simp),λp hp=> ?_⟩;have sp'':=A0d (o:= .tup [.str "sum",.str ax',v]) hp;refine k (.ref p) (.sum ax' u) ms2 _ (by show dep u+1<=n+1;omega) (by show nod u+1<2^(n+1);have:=A6e n1;omega) ⟨okax,okt⟩ ((k3.trans (KI.of s5)).trans (ki.trans (KI.of sp''))) (sp'' _ _ hD') (.tup (A0l (A4c ((k3.trans (KI.of s5)).trans ki) hp) A0b) (.cons (.str _) (.cons (.str _) (.cons (rp.same (A0m sp'')) .nil))))
   ·refine ⟨_,rfl,_,rfl,_,rfl,_,rfl,_,rfl,_,_,rfl,rfl,_,_,rfl,?_⟩;refine rec' n1 b _ _ _ ms1 bs _ _ (by split <;> omega) hD3 k3 (s23 _ _ hb2) okb (by omega) λvl ul ms2 H4 d1 nd1 okl ki1 hD4 rl=> ?_;refine ⟨_,rfl,_,_,rfl,rfl,⟨by decide,by decide⟩,_,_,rfl,rfl,(by show (0:Int)<3;decide),_,rfl,_,rfl,_,rfl,_,rfl,_,rfl,_,rfl,_,_,rfl,rfl,_,_,rfl,?_⟩;refine rec' n1 b _ _ _ ms2 bs _ _ (by split <;> omega) hD4 (k3.trans ki1) (ki1.str (s23 _ _ hb2)) okb (by omega) λvr ur ms3 H5 d2 nd2 okr ki2 hD5 rr=>⟨A0h (by simp),λp hp=> ?_⟩;obtain ⟨op,eop⟩:=C3c (c/24);have sp'':=A0d (o:= .tup [.str "pair",.int (c/24%3),vl,vr]) hp;refine k (.ref p) (.pair op ul ur) ms3 _ (by show max (dep ul) (dep ur)+1<=n+1;omega) (by show nod ul+nod ur+1<2^(n+1);have:=A6e n1;omega) ⟨okl,okr⟩ (k3.trans (ki1.trans (ki2.trans (KI.of sp'')))) (sp'' _ _ hD5) (.tup (A0l (A4c (k3.trans (ki1.trans ki2)) hp) A0b) (.cons (.str _) (.cons (by rw [eop];exact .int _) (.cons ((Rep.ki (A8s ki2) rl (A7i _)).same (A0m sp'')) (.cons (rr.same (A0m sp'')) .nil)))))
   ·refine ⟨_,rfl,_,rfl,_,rfl,_,rfl,_,rfl,_,_,rfl,rfl,_,_,rfl,?_⟩;refine rec' n1 b _ _ _ ms1 bs _ _ (by split <;> omega) hD3 k3 (s23 _ _ hb2) okb (by omega) λvl ul ms2 H4 d1 nd1 okl ki1 hD4 rl=> ?_;refine ⟨_,rfl,_,_,rfl,rfl,⟨by decide,by decide⟩,_,_,rfl,rfl,(by show (0:Int)<3;decide),_,rfl,_,rfl,_,rfl,_,rfl,_,rfl,_,rfl,_,_,rfl,rfl,_,_,rfl,?_⟩;refine rec' n1 b _ _ _ ms2 bs _ _ (by split <;> omega) hD4 (k3.trans ki1) (ki1.str (s23 _ _ hb2)) okb (by omega) λvr ur ms3 H5 d2 nd2 okr ki2 hD5 rr=>⟨A0h (by simp),λp hp=> ?_⟩;obtain ⟨op,eop⟩:=C3c (c/24);have sp'':=A0d (o:= .tup [.str "pair",.int (c/24%3),vl,vr]) hp;refine k (.ref p) (.pair op ul ur) ms3 _ (by show max (dep ul) (dep ur)+1<=n+1;omega) (by show nod ul+nod ur+1<2^(n+1);have:=A6e n1;omega) ⟨okl,okr⟩ (k3.trans (ki1.trans (ki2.trans (KI.of sp'')))) (sp'' _ _ hD5) (.tup (A0l (A4c (k3.trans (ki1.trans ki2)) hp) A0b) (.cons (.str _) (.cons (by rw [eop];exact .int _) (.cons ((Rep.ki (A8s ki2) rl (A7i _)).same (A0m sp'')) (.cons (rr.same (A0m sp'')) .nil)))))
  ·have w4:4<=way:=by have:=V.int.inj h4;omega
   have n1:1<=n:=by
    rcases Nat.eq_zero_or_pos n with z | z
    ·have:=wn z;omega
    ·exact z
   refine ⟨λσ H3=>∃(sl:Addr) (sn:List Str),σ=[some (.ref D),some (.ref ab),some (.ref b),some (.bl tp),some (.bl st),some (.int dd),some (.int c),some (.int way),some (.bl wd),some (.ref sl),none,none,none,none]/\A0w H2 H3/\H3 sl=some (.lst (sn.map V.str))/\OkN sn/\sn.length<=200,?_,?_⟩
   ·refine ⟨_,rfl,_,rfl,A9w (λ_=> ?_) (λ_=>⟨sl,sn,rfl,A0w.refl _,hsl2,oks,lsn⟩)⟩;refine ⟨_,rfl,ab,_,rfl,a2.get (A9n x),x.axl,rfl,⟨_,SqL.of a2.ax⟩,λD2 hD2'=> ?_⟩;refine B0c (K:=K) (a:=x.axl) (D:=D2) (xs:=axs.map V.str) (λj ys H3=>A0w H2 H3/\H3 D2=some (.lst ys)/\∃zs:List Str,ys=zs.map V.str/\zs.length<=j/\∀z∈zs,z∈axs) ⟨A0d hD2',A0b,[],rfl,by simp,(by intro z hz;cases hz)⟩ (λj ys H3 ⟨s3,_⟩=>SqL.of (s3 _ _ a2.ax)) ?_ ?_
    ·rintro j y ys H3 hy ⟨s3,h3,zs,rfl,lz,mz⟩;obtain ⟨z,hz,rfl⟩:=B2n hy;have hj:j<axs.length:=(Z03.mp hz).1;refine ⟨⟨rfl,True.intro⟩,_,rfl,_,rfl,b,_,rfl,.inl (SqL.of (s3 _ _ hb2)),rfl,A1t bs,_,rfl,?_⟩;show if (!inV (V.str z) (bs.map V.str))=true then _ else _
     rw [A2n];refine A4l (λ_=> ?_) (λ_=> ?_)
     ·refine ⟨_,rfl,h3,A1h (by rw [Z08];omega),A0t s3 hD2',A0b,zs++[z],by simp,(by rw [Z06];simp only [Z0y,List.length_nil];omega),λy hy=> ?_⟩;rcases Z07.mp hy with hy | hy
      ·exact mz y hy
      ·rw [Z0w.mp hy];exact Z13 hz
     ·exact ⟨s3,h3,zs,rfl,by omega,mz⟩
    rintro ys H3 ⟨s3,h3,zs,rfl,lz,mz⟩;rw [Z08] at lz;exact ⟨D2,zs,rfl,s3,h3,λy hy=>ok.ax y (mz y hy),by omega⟩
   rintro σ H3 ⟨sl,sn,rfl,s23,hsl3,oks,lsn⟩;have k3:=k2.trans (KI.of s23);have hD3:=s23 _ _ hD2;refine ⟨_,rfl,rfl,_,rfl,A9w (λ_=>⟨_,rfl,sl,_,rfl,.inl (SqL.of hsl3),_,_,rfl,rfl,_,rfl,A8a (λhpos=> ?_) (λ_=> ?_)⟩) (λ_=>A2q ?_)⟩
   ·have spos:(0:Int)<((sn.map V.str).length:Int):=hpos;rw [Z08] at spos;obtain ⟨ax',hax,eax⟩:=A9j (f:=V.str) (xs:=sn) (i:=c/24%(sn.length:Int)) (Z1v _ (by omega)) (Z1p _ spos);have okax:=oks ax' (Z13 hax);refine ⟨_,rfl,_,rfl,_,_,rfl,rfl,⟨by decide,by decide⟩,_,rfl,sl,_,rfl,.inl (SqL.of hsl3),_,_,rfl,rfl,hpos,sl,_,_,_,rfl,rfl,SqL.of hsl3,(by rw [Z08];exact eax),?_⟩;refine ⟨_,rfl,_,rfl,_,rfl,_,rfl,_,rfl,A0h (by simp),λzl hzl=> ?_⟩;have t1:A0w H3 (upd H3 zl (.lst [.str ax'])):=A0d hzl;refine ⟨b,zl,_,_,rfl,rfl,t1 _ _ (s23 _ _ hb2),A0b,A0h (by rw [Z08];show bs.length+1<=1000000;omega),λb3 hb3=> ?_⟩;have t2:A0w (upd H3 zl (.lst [.str ax'])) (upd (upd H3 zl (.lst [.str ax'])) b3 (.lst (bs.map V.str++[.str ax']))):=A0d hb3;have hb5:upd (upd H3 zl (.lst [.str ax'])) b3 (.lst (bs.map V.str++[.str ax'])) b3=some (.lst ((bs++[ax']).map V.str)):=by rw [A0b,Z0s];rfl
    have s5:=t1.trans t2;generalize upd (upd H3 zl (.lst [.str ax'])) b3 (.lst (bs.map V.str++[.str ax']))=H5 at s5 hb5;clear t1 t2;have hD5:=s5 _ _ hD3
    cases tp with
    | true =>
      refine ⟨_,rfl,_,rfl,A8y ⟨_,rfl,_,rfl,_,rfl,_,_,rfl,rfl,?_⟩⟩;refine rec' n1 b3 _ st _ ms1 (bs++[ax']) _ _ rfl hD5 (k3.trans (KI.of s5)) hb5 (A5x okb λy hy=>by rw [Z0w.mp hy];exact okax) (by rw [Z06];exact Z09 _) λv u ms2 H' d1 nd1 okt ki hD' rp=>⟨A0h (by simp),λp hp=> ?_⟩;have sp'':=A0d (o:= .tup [.str "sum",.str ax',v]) hp;refine k (.ref p) (.sum ax' u) ms2 _ (by show dep u+1<=n+1;omega) (by show nod u+1<2^(n+1);have:=A6e n1;omega) ⟨okax,okt⟩ ((k3.trans (KI.of s5)).trans (ki.trans (KI.of sp''))) (sp'' _ _ hD') (.tup (A0l (A4c ((k3.trans (KI.of s5)).trans ki) hp) A0b) (.cons (.str _) (.cons (.str _) (.cons (rp.same (A0m sp'')) .nil))))
    | false =>
      refine ⟨_,rfl,_,rfl,A2q ⟨_,rfl,_,rfl,_,_,rfl,rfl,?_⟩⟩;refine rec' n1 b3 _ st _ ms1 (bs++[ax']) _ _ rfl hD5 (k3.trans (KI.of s5)) hb5 (A5x okb λy hy=>by rw [Z0w.mp hy];exact okax) (by rw [Z06];exact Z09 _) λv u ms2 H' d1 nd1 okt ki hD' rp=>⟨A0h (by simp),λp hp=> ?_⟩;have sp'':=A0d (o:= .tup [.str "sum",.str ax',v]) hp;refine k (.ref p) (.sum ax' u) ms2 _ (by show dep u+1<=n+1;omega) (by show nod u+1<2^(n+1);have:=A6e n1;omega) ⟨okax,okt⟩ ((k3.trans (KI.of s5)).trans (ki.trans (KI.of sp''))) (sp'' _ _ hD') (.tup (A0l (A4c ((k3.trans (KI.of s5)).trans ki) hp) A0b) (.cons (.str _) (.cons (.str _) (.cons (rp.same (A0m sp'')) .nil))))
   ·refine ⟨_,rfl,_,rfl,_,rfl,_,rfl,_,rfl,_,_,rfl,rfl,_,_,rfl,?_⟩;refine rec' n1 b _ _ _ ms1 bs _ _ (by split <;> omega) hD3 k3 (s23 _ _ hb2) okb (by omega) λvl ul ms2 H4 d1 nd1 okl ki1 hD4 rl=> ?_;refine ⟨_,rfl,_,_,rfl,rfl,⟨by decide,by decide⟩,_,_,rfl,rfl,(by show (0:Int)<3;decide),_,rfl,_,rfl,_,rfl,_,rfl,_,rfl,_,rfl,_,_,rfl,rfl,_,_,rfl,?_⟩;refine rec' n1 b _ _ _ ms2 bs _ _ (by split <;> omega) hD4 (k3.trans ki1) (ki1.str (s23 _ _ hb2)) okb (by omega) λvr ur ms3 H5 d2 nd2 okr ki2 hD5 rr=>⟨A0h (by simp),λp hp=> ?_⟩;obtain ⟨op,eop⟩:=C3c (c/24);have sp'':=A0d (o:= .tup [.str "pair",.int (c/24%3),vl,vr]) hp;refine k (.ref p) (.pair op ul ur) ms3 _ (by show max (dep ul) (dep ur)+1<=n+1;omega) (by show nod ul+nod ur+1<2^(n+1);have:=A6e n1;omega) ⟨okl,okr⟩ (k3.trans (ki1.trans (ki2.trans (KI.of sp'')))) (sp'' _ _ hD5) (.tup (A0l (A4c (k3.trans (ki1.trans ki2)) hp) A0b) (.cons (.str _) (.cons (by rw [eop];exact .int _) (.cons ((Rep.ki (A8s ki2) rl (A7i _)).same (A0m sp'')) (.cons (rr.same (A0m sp'')) .nil)))))
   ·refine ⟨_,rfl,_,rfl,_,rfl,_,rfl,_,rfl,_,_,rfl,rfl,_,_,rfl,?_⟩;refine rec' n1 b _ _ _ ms1 bs _ _ (by split <;> omega) hD3 k3 (s23 _ _ hb2) okb (by omega) λvl ul ms2 H4 d1 nd1 okl ki1 hD4 rl=> ?_;refine ⟨_,rfl,_,_,rfl,rfl,⟨by decide,by decide⟩,_,_,rfl,rfl,(by show (0:Int)<3;decide),_,rfl,_,rfl,_,rfl,_,rfl,_,rfl,_,rfl,_,_,rfl,rfl,_,_,rfl,?_⟩;refine rec' n1 b _ _ _ ms2 bs _ _ (by split <;> omega) hD4 (k3.trans ki1) (ki1.str (s23 _ _ hb2)) okb (by omega) λvr ur ms3 H5 d2 nd2 okr ki2 hD5 rr=>⟨A0h (by simp),λp hp=> ?_⟩;obtain ⟨op,eop⟩:=C3c (c/24);have sp'':=A0d (o:= .tup [.str "pair",.int (c/24%3),vl,vr]) hp;refine k (.ref p) (.pair op ul ur) ms3 _ (by show max (dep ul) (dep ur)+1<=n+1;omega) (by show nod ul+nod ur+1<2^(n+1);have:=A6e n1;omega) ⟨okl,okr⟩ (k3.trans (ki1.trans (ki2.trans (KI.of sp'')))) (sp'' _ _ hD5) (.tup (A0l (A4c (k3.trans (ki1.trans ki2)) hp) A0b) (.cons (.str _) (.cons (by rw [eop];exact .int _) (.cons ((Rep.ki (A8s ki2) rl (A7i _)).same (A0m sp'')) (.cons (rr.same (A0m sp'')) .nil)))))
  refine ⟨_,rfl,rfl,_,rfl,A8a (λh2=>A8y ?_) (λh2=>⟨_,rfl,rfl,_,rfl,A8a (λh3=> ?_) (λh3=> ?_)⟩)⟩
  ·exact ⟨_,rfl,_,rfl,_,rfl,_,rfl,_,rfl,D,ab,b,tp,wd,ms1,x,axs,ahs,als,bs,es,rfl,hD2,a2,ok,hb2,okb,by omega,λv u ms' H' d1 n1 okt ki hD' rp=>k v u ms' H' (by omega) (by omega) okt (k2.trans ki) hD' (C6j k2 rp)⟩
  ·exact ⟨_,rfl,_,rfl,_,rfl,_,rfl,_,rfl,D,ab,b,tp,wd,ms1,x,axs,ahs,als,bs,es,rfl,hD2,a2,ok,hb2,okb,by omega,λv u ms' H' d1 n1 okt ki hD' rp=>k v u ms' H' (by omega) (by omega) okt (k2.trans ki) hD' (C6j k2 rp)⟩
  refine ⟨_,rfl,rfl,_,rfl,A8a (λh0=>A8y ?_) (λh0=>⟨_,rfl,sl,_,rfl,.inl (SqL.of hsl2),rfl,_,rfl,A8a (λhz=> ?_) (λhne=> ?_)⟩)⟩
  ·refine ⟨_,rfl,_,_,rfl,rfl,⟨by decide,by decide⟩,_,_,rfl,rfl,⟨by decide,by decide,by decide⟩,_,_,rfl,rfl,.inl ⟨by decide,by decide⟩,_,_,rfl,rfl,C2d,_,_,rfl,rfl,⟨by decide,by decide,by decide⟩,_,_,rfl,rfl,A0h (by simp),λp hp=> ?_⟩;exact k (.ref p) (.num _) ms1 _ (by show 1<=n+1;omega) (by show 1<2^(n+1);omega) True.intro (k2.trans (KI.of (A0d hp))) ((A0d hp) _ _ hD2) (.tup (A0l (A4c k2 hp) A0b) (.cons (.str _) (.cons (.int _) .nil)))
  ·refine ⟨_,rfl,_,_,rfl,rfl,⟨by decide,by decide⟩,_,_,rfl,rfl,⟨by decide,by decide,by decide⟩,_,_,rfl,rfl,.inl ⟨by decide,by decide⟩,_,_,rfl,rfl,C2d,_,_,rfl,rfl,⟨by decide,by decide,by decide⟩,_,_,rfl,rfl,A0h (by simp),λp hp=> ?_⟩;exact k (.ref p) (.num _) ms1 _ (by show 1<=n+1;omega) (by show 1<2^(n+1);omega) True.intro (k2.trans (KI.of (A0d hp))) ((A0d hp) _ _ hD2) (.tup (A0l (A4c k2 hp) A0b) (.cons (.str _) (.cons (.int _) .nil)))
  have spos:0<sn.length:=by
   rcases Nat.eq_zero_or_pos sn.length with z | z
   ·exact absurd (by rw [Z08,z];rfl) hne
   ·exact z
  obtain ⟨ax',hax,eax⟩:=A9j (f:=V.str) (xs:=sn) (i:=c/24%(sn.length:Int)) (Z1v _ (by omega)) (Z1p _ (by omega));have okax:=oks ax' (Z13 hax);refine ⟨_,rfl,_,rfl,_,_,rfl,rfl,⟨by decide,by decide⟩,_,rfl,sl,_,rfl,.inl (SqL.of hsl2),_,_,rfl,rfl,(by show (0:Int)<((sn.map V.str).length:Int);rw [Z08];omega),sl,_,_,_,rfl,rfl,SqL.of hsl2,(by rw [Z08];exact eax),?_⟩;refine ⟨_,rfl,rfl,_,rfl,A8a (λh1'=> ?_) (λh1'=> ?_)⟩
  ·refine ⟨_,rfl,A0h (by simp),λp hp=> ?_⟩;exact k (.ref p) (.place ax') ms1 _ (by show 1<=n+1;omega) (by show 1<2^(n+1);omega) okax (k2.trans (KI.of (A0d hp))) ((A0d hp) _ _ hD2) (.tup (A0l (A4c k2 hp) A0b) (.cons (.str _) (.cons (.str _) .nil)))
  have n1:1<=n:=by
   rcases Nat.eq_zero_or_pos n with z | z
   ·have:=wn z;have q7:way≠7:=λz=>h7 (by rw [z]);have q4:way≠4:=λz=>h4 (by rw [z]);have q2:way≠2:=λz=>h2 (by rw [z]);have q3:way≠3:=λz=>h3 (by rw [z]);have q0:way≠0:=λz=>h0 (by rw [z]);have q1:way≠1:=λz=>h1' (by rw [z]);omega
   ·exact z
  refine ⟨_,rfl,D,ms1,rfl,hD2,λc2 ms2 H3 l3 hD3 o3 e3=> ?_⟩;have k23:=A4q hD2 o3 e3;have k3:=k2.trans k23;refine ⟨_,_,rfl,rfl,⟨by decide,by decide,by decide⟩,_,_,rfl,rfl,.inl ⟨by decide,by decide⟩,_,_,rfl,rfl,C2d,_,_,rfl,rfl,⟨by decide,by decide,by decide⟩,_,_,rfl,rfl,?_⟩;dsimp only;generalize c2%(2*10^(29:Int).toNat)-10^(29:Int).toNat=low;refine ⟨_,rfl,_,rfl,_,rfl,_,rfl,_,rfl,_,_,rfl,rfl,?_⟩;refine rec' n1 b _ _ _ ms2 bs _ _ rfl hD3 k3 (k23.str hb2) okb (by omega) λvl ul ms3 H4 d1 nd1 okl ki1 hD4 rl=> ?_;refine ⟨_,rfl,_,rfl,_,rfl,_,rfl,_,_,rfl,rfl,⟨by decide,by decide⟩,_,_,rfl,rfl,(by show (0:Int)<100;decide),_,_,rfl,rfl,_,rfl,_,rfl,_,rfl,_,rfl,_,rfl,_,rfl,_,_,rfl,rfl,?_⟩;refine rec' n1 b _ _ _ ms3 bs _ _ rfl hD4 (k3.trans ki1) (ki1.str (k23.str hb2)) okb (by omega) λvr ur ms4 H5 d2 nd2 okr ki2 hD5 rr=>⟨A0h (by simp),λp hp=> ?_⟩;have sp'':=A0d (o:= .tup [.str "guard",.str ax',.int low,.int (low+c/99%100),vl,vr]) hp;exact k (.ref p) (.guard ax' low (low+c/99%100) ul ur) ms4 _ (by show max (dep ul) (dep ur)+1<=n+1;omega) (by show nod ul+nod ur+1<2^(n+1);have:=A6e n1;omega) ⟨okax,okl,okr⟩ (k3.trans (ki1.trans (ki2.trans (KI.of sp'')))) (sp'' _ _ hD5) (.tup (A0l (A4c (k3.trans (ki1.trans ki2)) hp) A0b) (.cons (.str _) (.cons (.str _) (.cons (.int _) (.cons (.int _) (.cons ((Rep.ki (A8s ki2) rl (A7i _)).same (A0m sp'')) (.cons (rr.same (A0m sp'')) .nil)))))))
theorem B6f (T:Txt K mg t):∀n:Nat,A2f P w K mg base CX0 (n+3) t.bF t.bH ["_law_rest","_law_about","_law_bound","_law_top","_law_still","_law_deep"] (A9x n)
 | 0=>B1q T (sp':=λ_ _ _ _=>False) (m:=2) (by omega) (A2f.none λ_ _ _ _ h=>h) λh=>absurd h (by omega)
 | n+1=>B1q T (m:=n+3) (by omega) (B6f T n) λ_ vs H Q h=>h
end
theorem A3c {c A B:Prop} [Decidable c] (h:¬c) (q:B):if decide c=true then A else B:=A8a (λz=>absurd z h) (λ_=>q)
theorem A5m {c A B:Prop} [Decidable c] (h:c) (q:A):if decide c=true then A else B:=A8a (λ_=>q) (λz=>absurd h z)
theorem sne {x y:Str} (h:decide (x=y)=false):¬V.str x=V.str y:=λz=>by rw [Z20 (V.str.inj z)] at h;cases h
section
variable {H:Hp} {v:V}
theorem C4t {z:Int} (h:Rep H v (A1m (.num z))):∃p,v= .ref p/\H p=some (.tup [.str "number",.int z]):=by
 obtain ⟨p,xs,rfl,e,r⟩:=A9i (show Rep H v (.tuple [.str "number",.int z]) from h);cases r with | cons a r=>cases r with | cons b r=>cases r;cases a;cases b;exact ⟨p,rfl,e⟩
theorem B7a {x:Str} (h:Rep H v (A1m (.place x))):∃p,v= .ref p/\H p=some (.tup [.str "place",.str x]):=by
 obtain ⟨p,xs,rfl,e,r⟩:=A9i (show Rep H v (.tuple [.str "place",.str x]) from h);cases r with | cons a r=>cases r with | cons b r=>cases r;cases a;cases b;exact ⟨p,rfl,e⟩
theorem C1x {a:Str} {ix:List (Str×Int)} (h:Rep H v (A1m (.read a ix))):∃p l,v= .ref p/\H p=some (.tup [.str "read",.str a,.ref l])/\Rep H (.ref l) (A3o ix):=by
 obtain ⟨p,xs,rfl,e,r⟩:=A9i (show Rep H v (.tuple [.str "read",.str a,A3o ix]) from h)
 cases r with | cons q1 r=>cases r with | cons q2 r=>cases r with | cons q3 r =>
  cases r;cases q1;cases q2
  obtain ⟨l,xs,rfl,_⟩:=A4a (show Rep H _ (.list (ix.map A9q)) from q3);exact ⟨p,l,rfl,e,q3⟩
theorem C4z {x:Str} {b:Tm} (h:Rep H v (A1m (.sum x b))):∃p w,v= .ref p/\H p=some (.tup [.str "sum",.str x,w])/\Rep H w (A1m b):=by
 obtain ⟨p,xs,rfl,e,r⟩:=A9i (show Rep H v (.tuple [.str "sum",.str x,A1m b]) from h)
 cases r with | cons q1 r=>cases r with | cons q2 r=>cases r with | cons q3 r =>
  cases r;cases q1;cases q2;exact ⟨p,_,rfl,e,q3⟩
theorem B9v {k:Op3} {l r':Tm} (h:Rep H v (A1m (.pair k l r'))):∃p w1 w2,v= .ref p/\H p=some (.tup [.str "pair",.int (opN k),w1,w2])/\Rep H w1 (A1m l)/\Rep H w2 (A1m r'):=by
 obtain ⟨p,xs,rfl,e,r⟩:=A9i (show Rep H v (.tuple [.str "pair",.int (opN k),A1m l,A1m r']) from h)
 cases r with | cons q1 r=>cases r with | cons q2 r=>cases r with | cons q3 r=>cases r with | cons q4 r =>
  cases r;cases q1;cases q2;exact ⟨p,_,_,rfl,e,q3,q4⟩
theorem B6z {x:Str} {lo hi:Int} {l r':Tm} (h:Rep H v (A1m (.guard x lo hi l r'))):∃p w1 w2,v= .ref p/\H p=some (.tup [.str "guard",.str x,.int lo,.int hi,w1,w2])/\Rep H w1 (A1m l)/\Rep H w2 (A1m r'):=by
 obtain ⟨p,xs,rfl,e,r⟩:=A9i (show Rep H v (.tuple [.str "guard",.str x,.int lo,.int hi,A1m l,A1m r']) from h)
 cases r with | cons q1 r=>cases r with | cons q2 r=>cases r with | cons q3 r=>cases r with | cons q4 r=>cases r with | cons q5 r=>cases r with | cons q6 r =>
  cases r;cases q1;cases q2;cases q3;cases q4;exact ⟨p,_,_,rfl,e,q5,q6⟩
end
def rdL (es:List (Str×List Str)) (own:Str) (bd:List Str) (tp:Bool) (a:Str) (ix:List (Str×Int)):Option Bool:=match B3g es bd a ix with
 | some b=>some b
 | none=>if a=own/\tp=false then some false else none
def A5n (kn:List Str) (es:List (Str×List Str)) (own:Str):Tm->List Str->Bool->Bool->Option Bool
 | .num _,_,_,_=>none
 | .place x,bd,_,_=>if x∈bd then none else some false
 | .read a ix,bd,tp,_=>rdL es own bd tp a ix
 | .sum x b,bd,tp,st=>if x∈kn then (if x∈bd then some false else A5n kn es own b (bd++[x]) (tp&&st) st) else some false
 | .pair _ l r,bd,tp,_=>match A5n kn es own l bd tp false with
  | some b=>some b
  | none=>A5n kn es own r bd tp false
 | .guard x _ _ l r,bd,tp,_=>if x∈bd then (match A5n kn es own l bd tp false with
  | some b=>some b
  | none=>A5n kn es own r bd tp false) else some false
def A6j:Option Bool->Str
 | none=>"by"
 | some true=>"name"
 | some false=>"shape"
theorem C0g {r:Option Bool}:A6j r="by"↔r=none:=by
 cases r with
 | none=>exact ⟨λ_=>rfl,λ_=>rfl⟩
 | some b =>
  refine ⟨λh=> ?_,λh=>(by cases h)⟩;cases b
  ·exact absurd h (by decide +kernel)
  ·exact absurd h (by decide +kernel)
theorem B6w {es:List (Str×List Str)} {a:Str}:shp es a=none↔a∉es.map (·.1):=by
 unfold shp;rw [Option.map_eq_none_iff,List.find?_eq_none];refine ⟨λh m=> ?_,λh e he=> ?_⟩
 ·obtain ⟨e,he,ee⟩:=Z2c.mp m;exact h e he (Z20 ee)
 ·intro z;exact h (Z2c.mpr ⟨e,he,of_decide_eq_true z⟩)
theorem C5c {α:Type} {f:α->Option Bool} {a b:List α}:(a++b).findSome? f=match a.findSome? f with | some x=>some x | none=>b.findSome? f:=by
 rw [List.findSome?_append];cases a.findSome? f <;> rfl
theorem A4d {kn:List Str} {es:List (Str×List Str)} {own:Str} {ys:List Str} {nt:Nat}:∀(u:Tm) (s:List Str) (g:List Gd),nt<=s.length->A5n kn es own u (ys++s) (decide (s.length<=nt)) false=(prT u s g).findSome? (pOk kn es own ys nt)
 | .num _,s,g,_=>rfl
 | .place x,s,g,_=>by
  show (if x∈ys++s then none else some false)=List.findSome? _ [_];simp only [List.findSome?_cons,List.findSome?_nil,pOk];split <;> simp_all
 | .read a ix,s,g,h=>by
  show rdL es own (ys++s) (decide (s.length<=nt)) a ix=List.findSome? _ [_];simp only [List.findSome?_cons,List.findSome?_nil,pOk,rdL]
  cases B3g es (ys++s) a ix with
  | some b=>rfl
  | none =>
   have e:(a=own/\decide (s.length<=nt)=false)=(a=own/\nt<s.length):=by
    by_cases hl:s.length<=nt
    ·simp [hl]
    ·simp [hl];intro _;omega
   simp only [e];split <;> simp_all
 | .sum x b,s,g,h=>by
  have ih:=A4d (kn:=kn) (es:=es) (own:=own) (ys:=ys) (nt:=nt) b (s++[x]) g (by rw [Z06];omega);have ef:decide ((s++[x]).length<=nt)=false:=Z1j (by rw [Z06];show¬s.length+1<=nt;omega);rw [ef,<-Z0z] at ih;simp only [A5n,prT,List.findSome?_cons,pOk,Bool.and_false];by_cases h1:x∈kn
  ·by_cases h2:x∈ys++s
   ·rw [Z12 h1,Z12 h2,Z12 h1,Z12 h2]
   ·rw [Z12 h1,Z0t h2,Z12 h1,Z0t h2];exact ih
  ·rw [Z0t h1,Z0t h1]
 | .pair k l r,s,g,h=>by
  have i1:=A4d (kn:=kn) (es:=es) (own:=own) (ys:=ys) (nt:=nt) l s g h;have i2:=A4d (kn:=kn) (es:=es) (own:=own) (ys:=ys) (nt:=nt) r s g h;simp only [A5n,prT,List.findSome?_cons,pOk];rw [C5c,<-i1,<-i2]
 | .guard x lo hi l r,s,g,h=>by
  have i1:=A4d (kn:=kn) (es:=es) (own:=own) (ys:=ys) (nt:=nt) l s (g++[(x,lo,hi,true)]) h;have i2:=A4d (kn:=kn) (es:=es) (own:=own) (ys:=ys) (nt:=nt) r s (g++[(x,lo,hi,false)]) h;simp only [A5n,prT,List.findSome?_cons,pOk];by_cases h2:x∈ys++s
  ·rw [Z12 h2,Z12 h2,C5c,<-i1,<-i2]
  ·rw [Z0t h2,Z0t h2]
theorem B6i {kn:List Str} {es:List (Str×List Str)} {own:Str} {ys:List Str}:∀(u:Tm) (s:List Str) (g:List Gd),A5n kn es own u (ys++s) true true=(prT u s g).findSome? (pOk kn es own ys (s.length+(A9z u).length))
 | .sum x b,s,g=>by
  have ih:=B6i (kn:=kn) (es:=es) (own:=own) (ys:=ys) b (s++[x]) g;rw [<-Z0z] at ih;have el:(s++[x]).length+(A9z b).length=s.length+(A9z (.sum x b)).length:=by rw [Z06];show s.length+1+_=s.length+((A9z b).length+1);omega
  rw [el] at ih;simp only [A5n,prT,List.findSome?_cons,pOk,Bool.and_true];by_cases h1:x∈kn
  ·by_cases h2:x∈ys++s
   ·rw [Z12 h1,Z12 h2,Z12 h1,Z12 h2]
   ·rw [Z12 h1,Z0t h2,Z12 h1,Z0t h2];exact ih
  ·rw [Z0t h1,Z0t h1]
 | .num _,s,g=>rfl
 | .place x,s,g=>by
  have:=A4d (kn:=kn) (es:=es) (own:=own) (ys:=ys) (nt:=s.length) (.place x) s g (Z09 _);exact this
 | .read a ix,s,g=>by
  have:=A4d (kn:=kn) (es:=es) (own:=own) (ys:=ys) (nt:=s.length) (.read a ix) s g (Z09 _);rw [Z20 (Z09 s.length)] at this;exact this
 | .pair k l r,s,g=>by
  have:=A4d (kn:=kn) (es:=es) (own:=own) (ys:=ys) (nt:=s.length) (.pair k l r) s g (Z09 _);rw [Z20 (Z09 s.length)] at this;exact this
 | .guard x lo hi l r,s,g=>by
  have:=A4d (kn:=kn) (es:=es) (own:=own) (ys:=ys) (nt:=s.length) (.guard x lo hi l r) s g (Z09 _);rw [Z20 (Z09 s.length)] at this;exact this
theorem C2s {kn:List Str} {es:List (Str×List Str)} {l:Lt}:A5n kn (B5z es l) l.1 l.2.2 l.2.1 true true=B8b kn es l:=by
 have:=B6i (kn:=kn) (es:=B5z es l) (own:=l.1) (ys:=l.2.1) l.2.2 [] [];rw [Z0u,List.length_nil,Nat.zero_add] at this;exact this
def C5u:Sp:=λvs H Q _=>∃(p l ab b:Addr) (tp:Bool) (a:Str) (ix:List (Str×Int)) (x:Ab) (axs ahs als bs:List Str) (es:List (Str×List Str)),vs=[.ref p,.ref ab,.ref b,.bl tp]/\H p=some (.tup [.str "read",.str a,.ref l])/\Rep H (.ref l) (A3o ix)/\B8z H ab x axs ahs als es/\es.map (·.1)=ahs++[x.own]/\H b=some (.lst (bs.map V.str))/\∀H',A0w H H'->Q (.str (A6j (rdL es x.own bs tp a ix))) H'
def B6o (n:Nat):Sp:=λvs H Q _=>∃(v:V) (u:Tm) (ab b:Addr) (tp st:Bool) (x:Ab) (axs ahs als bs:List Str) (es:List (Str×List Str)),vs=[v,.ref ab,.ref b,.bl tp,.bl st]/\Rep H v (A1m u)/\dep u<=n+1/\B8z H ab x axs ahs als es/\es.map (·.1)=ahs++[x.own]/\H b=some (.lst (bs.map V.str))/\bs.length+dep u<=1000/\∀H',A0w H H'->Q (.str (A6j (A5n axs es x.own u bs tp st))) H'
section
variable {P:Program} {w:World} {K:PySem.W.Frag} {mg:Str->Option Value} {base:Heap} {t:Adr}
theorem B2t (T:Txt K mg t):A2f P w K mg base CX0 1 t.cI t.ci ["_law_tree","_law_about","_law_bound","_law_top"] C5u:=by
 refine T.fi.ok A5p (λvs H Q E h=> ?_) (λcdv A outer s H vs Q E hr h=> ?_)
 ·obtain ⟨p,l,ab,b,tp,a,ix,x,axs,ahs,als,bs,es,rfl,_⟩:=h;rfl
 ·obtain ⟨p,l,ab,b,tp,a,ix,x,axs,ahs,als,bs,es,rfl,hp,rl,ap,ks,hb,k⟩:=h;have hu:=B1e hr;obtain ⟨l',xs,el,hl,rs⟩:=A4a (show Rep H (.ref l) (.list (ix.map A9q)) from rl);cases el;have lxs:=rs.len;rw [Z08] at lxs;have e1:atI [V.str "read",V.str a,V.ref l] 1=some (.str a):=A1d (j:=1) rfl;have e2:atI [V.str "read",V.str a,V.ref l] 2=some (.ref l):=A1d (j:=2) rfl;obtain ⟨sk,hsk,awk⟩:=ap.sh;have s0:=A0w.refl H
  refine ⟨_,(A0c (A1f (PW.pt (A6h (A0s A1x (A1n A1i (pv 0) A0i (λ_ _=>rfl)) (A1p hu (pv 1) A0r (λ_ _=>rfl)) (by with_unfolding_all rfl)) (A4p (A0s B1d (A1n A1i (pv 0) A0i (λ_ _=>rfl)) (A1p hu (pv 1) A0r (λ_ _=>rfl)) (A1c _)))))
    (A0f (A0v A0r))
    A0n)
   (A0c (A1f (A0s B1d (A0u A1b (by rfl) T.aW Z0r (A0a (A1n A1i (pv 0) A0i (λ_ _=>rfl)) A0e)) (A0u A1b (by rfl) T.aW Z0r (A0a (A1p hu (A1p hu (pv 1) A0r (λ_ _=>rfl)) (A1n A1i (pv 0) A0i (λ_ _=>rfl)) (λ_ _=>rfl)) A0e)) (A1c _))
    (A0f (A0v A0r))
    A0n)
   (A0c (A4n PassesOwn.never rfl (A3e (A1n A1i (pv 0) A0i (λ_ _=>rfl))) (A8e (n:=2) rfl (A2c (A1a (i:=4) A5p.nd rfl (Or.inl rfl) (Or.inl rfl)) (A2c (A1a (i:=5) A5p.nd rfl (Or.inl rfl) (Or.inl rfl)) A5z)))
    (A0f (A1f (PW.pt (A6h (A0s B1d (pv 4) A0r (A1c _)) (A4p (A0s A1x (pv 4) (pv 2) (by with_unfolding_all rfl)))))
     (A0f (A0v A0r))
     A0n)))
   (A0c (A1f (PW.pt (A6h (A0s A2s (A1n A1i (pv 0) A0i (λ_ _=>rfl)) (A1p hu (pv 1) A0r (λ_ _=>rfl)) (A1c _)) (A4p (B6t (A2d (pv 3))))))
    (A0f (A0v A0r))
    A0n)
   (A0f (A0v A0r)))))),?_⟩
  have cont:∀{Z:Prop},(a∈ahs\/a=x.own)->(∀zs c,shp es a=some zs->B5b H x.shd (.str a) (some (.ref c))->H c=some (.lst (zs.map V.str))->Z)->Z:=λh kk=>by
   rcases B0a (a:=a) awk with ⟨q1,_⟩ | ⟨zs,c,q1,q2,hc⟩
   ·have:=B6w.mp q1;rw [ks] at this;exact absurd (by rcases h with h | h;exact Z05 _ h;exact Z02 _ (by rw [h];exact .head _)) this
   ·exact kk zs c q1 (.inl ⟨sk,Sum.inr a,.inl hsk,rfl,q2.symm⟩) hc
  refine ⟨_,rfl,p,_,_,_,rfl,rfl,SqT.of hp,e1,_,rfl,ab,_,rfl,ap.get (B3b x),x.ahl,_,rfl,.inl (SqL.of ap.ah),rfl,A1t _,_,rfl,?_⟩;rw [A2n];refine A4l (λhno=>⟨_,rfl,p,_,_,_,rfl,rfl,SqT.of hp,e1,_,rfl,ab,_,rfl,ap.get (B0p x),rfl,_,rfl,A4l (λhne=> ?_) (λheq=>cont (.inr (V.str.inj heq)) λzs c q1 g hc=> ?_)⟩) (λhin=>A2q (cont (.inl hin) λzs c q1 g hc=> ?_))
  ·have er:rdL es x.own bs tp a ix=some true:=by
    unfold rdL B3g;rw [B6w.mpr (by rw [ks];intro m;rcases Z07.mp m with m | m;exact hno m;exact hne (by rw [Z0w.mp m]))]
   have:=k H s0;rw [er] at this;exact this
  ·refine ⟨_,rfl,p,_,_,_,rfl,rfl,SqT.of hp,e2,l,_,rfl,.inl (SqL.of hl),_,rfl,ab,_,rfl,ap.get (A4r x),_,rfl,p,_,_,_,rfl,rfl,SqT.of hp,e1,x.shd,_,rfl,g,c,_,rfl,.inl (SqL.of hc),rfl,_,rfl,A4l (λhne=> ?_) (λheq=> ?_)⟩
   ·have hne:ix.length≠zs.length:=λz=>hne (by rw [lxs,z,Z08]);have er:rdL es x.own bs tp a ix=some false:=by unfold rdL B3g;rw [q1];simp only [Z12 hne]
    have:=k H s0;rw [er] at this;exact this
   have heq:ix.length=zs.length:=by have:=V.int.inj heq;rw [lxs,Z08] at this;omega
   have er:B3g es bs a ix=if ixB bs ix=true then none else some false:=by unfold B3g;rw [q1];exact Z0t (λz=>z heq)
   refine ⟨_,rfl,p,_,_,_,rfl,rfl,SqT.of hp,e2,l,rfl,⟨_,SqL.of hl⟩,?_⟩;refine A3r (K:=K) (a:=l) (xs:=xs) (λi σ H2=>∃(o4 o5:Option V),σ=[some (.ref p),some (.ref ab),some (.ref b),some (.bl tp),o4,o5]/\A0w H H2/\∀j e,j<i->ix[j]? =some e->e.1=""\/e.1∈bs) ⟨none,none,rfl,A0w.refl _,(by intro j e h;omega)⟩ (λi σ H2 _ ⟨_,_,_,s2,_⟩=>SqL.of (s2 _ _ hl)) ?_ ?_
   ·rintro i y σ H2 hy ⟨o4,o5,rfl,s2,gd⟩;obtain ⟨e,he,rx⟩:=A9m rs hy;obtain ⟨pp,rfl,ep⟩:=C3p rx
    have nxt:(e.1=""\/e.1∈bs)->∀j e',j<i+1->ix[j]? =some e'->e'.1=""\/e'.1∈bs:=λh j e' hj he'=>by
     rcases Nat.lt_or_ge j i with hji | hji
     ·exact gd j e' hji he'
     ·have:j=i:=by omega
      subst this;rw [he] at he';cases he';exact h
    refine ⟨pp,_,rfl,SqT.of (s2 _ _ ep),rfl,_,_,rfl,_,_,rfl,rfl,?_⟩;refine ⟨_,rfl,rfl,_,rfl,A4l (λhne=>⟨_,rfl,_,rfl,b,_,rfl,.inl (SqL.of (s2 _ _ hb)),rfl,A1t _,_,rfl,?_⟩) (λheq=>A2q ⟨_,_,rfl,s2,nxt (.inl (V.str.inj heq))⟩)⟩;rw [A2n];refine A4l (λhno=> ?_) (λhin=>⟨_,_,rfl,s2,nxt (.inr hin)⟩)
    have er2:rdL es x.own bs tp a ix=some false:=by
     unfold rdL;rw [er,Z0t λz=> ?_];have:=List.all_eq_true.mp z e (Z13 he);rcases Bool.or_eq_true_iff.mp this with z | z
     ·exact hne (by rw [of_decide_eq_true z])
     ·exact hno (of_decide_eq_true z)
    have:=k H2 s2;rw [er2] at this;exact this
   rintro σ H2 ⟨o4,o5,rfl,s2,gd⟩
   have eb:ixB bs ix=true:=List.all_eq_true.mpr λe he=>by
    obtain ⟨j,hj⟩:=List.getElem?_of_mem he;rcases gd j e (by rw [lxs];exact (Z03.mp hj).1) hj with z | z
    ·rw [Z20 z];rfl
    ·rw [Z20 z,Bool.or_true]
   rw [Z12 eb] at er;have er2:rdL es x.own bs tp a ix=if a=x.own/\tp=false then some false else none:=by unfold rdL;rw [er]
   have kk:=k H2 s2;rw [er2] at kk;refine ⟨_,rfl,p,_,_,_,rfl,rfl,SqT.of (s2 _ _ hp),e1,_,rfl,ab,_,rfl,(ap.ki (KI.of s2)).get (B0p x),rfl,_,rfl,A8a (λheq2=>⟨_,rfl,_,rfl,?_⟩) (λhne2=>A2q ?_)⟩
   ·cases tp with
    | true=>rw [Z0t (λz=>by cases z.2)] at kk;exact A2q kk
    | false=>rw [Z12 ⟨V.str.inj heq2,rfl⟩] at kk;exact A8y kk
   ·rw [Z0t (λz=>hne2 (by rw [z.1]))] at kk;exact kk
  ·refine ⟨_,rfl,p,_,_,_,rfl,rfl,SqT.of hp,e2,l,_,rfl,.inl (SqL.of hl),_,rfl,ab,_,rfl,ap.get (A4r x),_,rfl,p,_,_,_,rfl,rfl,SqT.of hp,e1,x.shd,_,rfl,g,c,_,rfl,.inl (SqL.of hc),rfl,_,rfl,A4l (λhne=> ?_) (λheq=> ?_)⟩
   ·have hne:ix.length≠zs.length:=λz=>hne (by rw [lxs,z,Z08]);have er:rdL es x.own bs tp a ix=some false:=by unfold rdL B3g;rw [q1];simp only [Z12 hne]
    have:=k H s0;rw [er] at this;exact this
   have heq:ix.length=zs.length:=by have:=V.int.inj heq;rw [lxs,Z08] at this;omega
   have er:B3g es bs a ix=if ixB bs ix=true then none else some false:=by unfold B3g;rw [q1];exact Z0t (λz=>z heq)
   refine ⟨_,rfl,p,_,_,_,rfl,rfl,SqT.of hp,e2,l,rfl,⟨_,SqL.of hl⟩,?_⟩;refine A3r (K:=K) (a:=l) (xs:=xs) (λi σ H2=>∃(o4 o5:Option V),σ=[some (.ref p),some (.ref ab),some (.ref b),some (.bl tp),o4,o5]/\A0w H H2/\∀j e,j<i->ix[j]? =some e->e.1=""\/e.1∈bs) ⟨none,none,rfl,A0w.refl _,(by intro j e h;omega)⟩ (λi σ H2 _ ⟨_,_,_,s2,_⟩=>SqL.of (s2 _ _ hl)) ?_ ?_
   ·rintro i y σ H2 hy ⟨o4,o5,rfl,s2,gd⟩;obtain ⟨e,he,rx⟩:=A9m rs hy;obtain ⟨pp,rfl,ep⟩:=C3p rx
    have nxt:(e.1=""\/e.1∈bs)->∀j e',j<i+1->ix[j]? =some e'->e'.1=""\/e'.1∈bs:=λh j e' hj he'=>by
     rcases Nat.lt_or_ge j i with hji | hji
     ·exact gd j e' hji he'
     ·have:j=i:=by omega
      subst this;rw [he] at he';cases he';exact h
    refine ⟨pp,_,rfl,SqT.of (s2 _ _ ep),rfl,_,_,rfl,_,_,rfl,rfl,?_⟩;refine ⟨_,rfl,rfl,_,rfl,A4l (λhne=>⟨_,rfl,_,rfl,b,_,rfl,.inl (SqL.of (s2 _ _ hb)),rfl,A1t _,_,rfl,?_⟩) (λheq=>A2q ⟨_,_,rfl,s2,nxt (.inl (V.str.inj heq))⟩)⟩;rw [A2n];refine A4l (λhno=> ?_) (λhin=>⟨_,_,rfl,s2,nxt (.inr hin)⟩)
    have er2:rdL es x.own bs tp a ix=some false:=by
     unfold rdL;rw [er,Z0t λz=> ?_];have:=List.all_eq_true.mp z e (Z13 he);rcases Bool.or_eq_true_iff.mp this with z | z
     ·exact hne (by rw [of_decide_eq_true z])
     ·exact hno (of_decide_eq_true z)
    have:=k H2 s2;rw [er2] at this;exact this
   rintro σ H2 ⟨o4,o5,rfl,s2,gd⟩
   have eb:ixB bs ix=true:=List.all_eq_true.mpr λe he=>by
    obtain ⟨j,hj⟩:=List.getElem?_of_mem he;rcases gd j e (by rw [lxs];exact (Z03.mp hj).1) hj with z | z
    ·rw [Z20 z];rfl
    ·rw [Z20 z,Bool.or_true]
   rw [Z12 eb] at er;have er2:rdL es x.own bs tp a ix=if a=x.own/\tp=false then some false else none:=by unfold rdL;rw [er]
   have kk:=k H2 s2;rw [er2] at kk;refine ⟨_,rfl,p,_,_,_,rfl,rfl,SqT.of (s2 _ _ hp),e1,_,rfl,ab,_,rfl,(ap.ki (KI.of s2)).get (B0p x),rfl,_,rfl,A8a (λheq2=>⟨_,rfl,_,rfl,?_⟩) (λhne2=>A2q ?_)⟩
   ·cases tp with
    | true=>rw [Z0t (λz=>by cases z.2)] at kk;exact A2q kk
    | false=>rw [Z12 ⟨V.str.inj heq2,rfl⟩] at kk;exact A8y kk
   ·rw [Z0t (λz=>hne2 (by rw [z.1]))] at kk;exact kk
theorem B6h (T:Txt K mg t) {m n:Nat} {sp':Sp} (hm:1<=m) (G_l_due:A2f P w K mg base CX0 m t.dP t.dL ["_law_tree","_law_about","_law_bound","_law_top","_law_still"] sp') (hs0:∀vs H Q,1<=n->B6o (n-1) vs H Q E0->sp' vs H Q E0):A2f P w K mg base CX0 (m+1) t.dP t.dL ["_law_tree","_law_about","_law_bound","_law_top","_law_still"] (B6o n):=by
 have G_l_read_due:=B2t (P:=P) (w:=w) (base:=base) T;refine T.cg.ok B2y (λvs H Q E h=> ?_) (λcdv A outer s H vs Q E hr h=> ?_)
 ·obtain ⟨v,u,ab,b,tp,st,x,axs,ahs,als,bs,es,rfl,_⟩:=h;rfl
 ·obtain ⟨v,u,ab,b,tp,st,x,axs,ahs,als,bs,es,rfl,rp,hd,ap,ks,hb,lb,k⟩:=h;have hu:=B1e hr;have s0:=A0w.refl H
  have hs:∀(v':V) (u':Tm) (b':Addr) (bs':List Str) (tp' st':Bool) (H':Hp) (Q':VK),A0w H H'->Rep H' v' (A1m u')->dep u'+1<=dep u->H' b'=some (.lst (bs'.map V.str))->bs'.length<=bs.length+1->(∀H2,A0w H' H2->Q' (.str (A6j (A5n axs es x.own u' bs' tp' st'))) H2)->sp' [v',.ref ab,.ref b',.bl tp',.bl st'] H' Q' E0:=λv' u' b' bs' tp' st' H' Q' sh r' d' hb' lb' kk=>by
   have:=B5w u';exact hs0 _ _ _ (by omega) ⟨v',u',ab,b',tp',st',x,axs,ahs,als,bs',es,rfl,r',by omega,ap.ki (KI.of sh),ks,hb',by omega,kk⟩
  refine ⟨_,(A0c (A1f (A0s A2s (A1n A1i (pv 0) A0i (λ_ _=>rfl)) A0r (A1c _))
    (A0f (A0v A0r))
    A0n)
   (A0c (A1f (A0s A2s (A1n A1i (pv 0) A0i (λ_ _=>rfl)) A0r (A1c _))
    (A0f (A0v (A0p G_l_read_due (hr.mono (by omega)) rfl T.ik T.fi.kp T.g_ .nil A1e (A0a (pv 0) (A0a (pv 1) (A0a (pv 2) (A0a (pv 3) A0e)))))))
    A0n)
   (A0c (A1f (A0s A2s (A1n A1i (pv 0) A0i (λ_ _=>rfl)) A0r (A1c _))
    (A0c (A0x (i:=5) B2y.nd rfl (Or.inl rfl) (A0p G_l_due (hr.mono (by omega)) rfl T.dN T.cg.kp T.dO .nil A1e (A0a (A1n A1i (pv 0) A0i (λ_ _=>rfl)) (A0a (pv 1) (A0a (pv 2) (A0a (pv 3) (A0a A5o A0e)))))))
    (A0c (A1f (A0s B1d (pv 5) A0r (A1c _))
     (A0f (A0v (pv 5)))
     A0n)
    (A0f (A0v (A0p G_l_due (hr.mono (by omega)) rfl T.dN T.cg.kp T.dO .nil A1e (A0a (A1n A1i (pv 0) A0i (λ_ _=>rfl)) (A0a (pv 1) (A0a (pv 2) (A0a (pv 3) (A0a A5o A0e))))))))))
    A0n)
   (A0c (A1f (A0s A2s (A1n A1i (pv 0) A0i (λ_ _=>rfl)) A0r (A1c _))
    (A0c (A1f (PW.pt (C1d (A0s A1x (A1n A1i (pv 0) A0i (λ_ _=>rfl)) (A1p hu (pv 1) A0r (λ_ _=>rfl)) (by with_unfolding_all rfl)) (B3n (A0s A6w (A1n A1i (pv 0) A0i (λ_ _=>rfl)) (pv 2) (by with_unfolding_all rfl)))))
     (A0f (A0v A0r))
     A0n)
    (A0f (A0v (A0p G_l_due (hr.mono (by omega)) rfl T.dN T.cg.kp T.dO .nil A1e (A0a (A1n A1i (pv 0) A0i (λ_ _=>rfl)) (A0a (pv 1) (A0a (A0y A5g (pv 2) (A2r (A0a (A1n A1i (pv 0) A0i (λ_ _=>rfl)) A0e))) (A0a (B0k (pv 3) (B0x (pv 4))) (A0a (pv 4) A0e)))))))))
    A0n)
   (A0c (A1f (A0s A1x (A1n A1i (pv 0) A0i (λ_ _=>rfl)) (pv 2) (by with_unfolding_all rfl))
    (A0f (A0v A0r))
    A0n)
   (A0c (A1f (A0s A2s (A1n A1i (pv 0) A0i (λ_ _=>rfl)) A0r (A1c _))
    (A0f (A0v A0r))
    A0n)
   (A0c (A0x (i:=5) B2y.nd rfl (Or.inl rfl) (A0p G_l_due (hr.mono (by omega)) rfl T.dN T.cg.kp T.dO .nil A1e (A0a (A1n A1i (pv 0) A0i (λ_ _=>rfl)) (A0a (pv 1) (A0a (pv 2) (A0a (pv 3) (A0a A5o A0e)))))))
   (A0c (A1f (A0s B1d (pv 5) A0r (A1c _))
    (A0f (A0v (pv 5)))
    A0n)
   (A0f (A0v (A0p G_l_due (hr.mono (by omega)) rfl T.dN T.cg.kp T.dO .nil A1e (A0a (A1n A1i (pv 0) A0i (λ_ _=>rfl)) (A0a (pv 1) (A0a (pv 2) (A0a (pv 3) (A0a A5o A0e)))))))))))))))),?_⟩
  cases u with
  | num z =>
   obtain ⟨p,rfl,hp⟩:=C4t rp;have e0:atI [V.str "number",V.int z] 0=some (.str "number"):=A1d (j:=0) rfl;refine ⟨_,rfl,p,_,_,_,rfl,rfl,SqT.of hp,e0,rfl,_,rfl,A5m rfl ?_⟩;exact k H s0
  | read a ix =>
   obtain ⟨p,l,rfl,hp,rl⟩:=C1x rp;have e0:atI [V.str "read",V.str a,V.ref l] 0=some (.str "read"):=A1d (j:=0) rfl;refine ⟨_,rfl,p,_,_,_,rfl,rfl,SqT.of hp,e0,rfl,_,rfl,A3c (sne (by decide +kernel)) ?_⟩;refine ⟨_,rfl,p,_,_,_,rfl,rfl,SqT.of hp,e0,rfl,_,rfl,A5m rfl ?_⟩;exact ⟨_,rfl,_,rfl,_,rfl,_,rfl,p,l,ab,b,tp,a,ix,x,axs,ahs,als,bs,es,rfl,hp,rl,ap,ks,hb,k⟩
  | pair op l r =>
   obtain ⟨p,w1,w2,rfl,hp,r1,r2⟩:=B9v rp;have hdl:dep l+1<=dep (.pair op l r):=by show dep l+1<=max (dep l) (dep r)+1;omega
   have hdr:dep r+1<=dep (.pair op l r):=by show dep r+1<=max (dep l) (dep r)+1;omega
   have e0:atI [V.str "pair",V.int (opN op),w1,w2] 0=some (.str "pair"):=A1d (j:=0) rfl;have e2:atI [V.str "pair",V.int (opN op),w1,w2] 2=some w1:=A1d (j:=2) rfl;have e3:atI [V.str "pair",V.int (opN op),w1,w2] 3=some w2:=A1d (j:=3) rfl;refine ⟨_,rfl,p,_,_,_,rfl,rfl,SqT.of hp,e0,rfl,_,rfl,A3c (sne (by decide +kernel)) ?_⟩;refine ⟨_,rfl,p,_,_,_,rfl,rfl,SqT.of hp,e0,rfl,_,rfl,A3c (sne (by decide +kernel)) ?_⟩;refine ⟨_,rfl,p,_,_,_,rfl,rfl,SqT.of hp,e0,rfl,_,rfl,A5m rfl ?_⟩;refine ⟨_,rfl,p,_,_,_,rfl,rfl,SqT.of hp,e2,_,rfl,_,rfl,_,rfl,hs w1 l b bs tp false H _ s0 r1 hdl hb (by omega) λH1 s1=> ?_⟩;refine ⟨_,rfl,rfl,_,rfl,A4l (λhne=> ?_) (λheq=> ?_)⟩
   ·cases e:A5n axs es x.own l bs tp false with
    | none=>exact absurd (by rw [e];rfl) hne
    | some q =>
     have kk:=k H1 s1;rw [show A5n axs es x.own (.pair op l r) bs tp st=some q by simp only [A5n,e]] at kk;exact ⟨_,rfl,kk⟩
   ·have e:=C0g.mp (V.str.inj heq);refine ⟨_,rfl,p,_,_,_,rfl,rfl,SqT.of (s1 _ _ hp),e3,_,rfl,_,rfl,_,rfl,hs w2 r b bs tp false H1 _ s1 (r2.same s1) hdr (s1 _ _ hb) (by omega) λH2 s2=> ?_⟩;have kk:=k H2 (s1.trans s2);rw [show A5n axs es x.own (.pair op l r) bs tp st=A5n axs es x.own r bs tp false by simp only [A5n,e]] at kk;exact kk
  | sum y bb =>
   obtain ⟨p,w1,rfl,hp,r1⟩:=C4z rp;have e0:atI [V.str "sum",V.str y,w1] 0=some (.str "sum"):=A1d (j:=0) rfl;have e1:atI [V.str "sum",V.str y,w1] 1=some (.str y):=A1d (j:=1) rfl;have e2:atI [V.str "sum",V.str y,w1] 2=some w1:=A1d (j:=2) rfl;have lb:bs.length+(dep bb+1)<=1000:=lb;refine ⟨_,rfl,p,_,_,_,rfl,rfl,SqT.of hp,e0,rfl,_,rfl,A3c (sne (by decide +kernel)) ?_⟩;refine ⟨_,rfl,p,_,_,_,rfl,rfl,SqT.of hp,e0,rfl,_,rfl,A3c (sne (by decide +kernel)) ?_⟩;refine ⟨_,rfl,p,_,_,_,rfl,rfl,SqT.of hp,e0,rfl,_,rfl,A3c (sne (by decide +kernel)) ?_⟩;refine ⟨_,rfl,p,_,_,_,rfl,rfl,SqT.of hp,e0,rfl,_,rfl,A5m rfl ?_⟩;refine ⟨_,rfl,p,_,_,_,rfl,rfl,SqT.of hp,e1,_,rfl,ab,_,rfl,ap.get (A9n x),x.axl,_,rfl,.inl (SqL.of ap.ax),rfl,A1t _,_,rfl,?_⟩;rw [A2n];refine A4l (λhno=>A8y ?_) (λhin=> ?_)
   ·have kk:=k H s0;rw [show A5n axs es x.own (.sum y bb) bs tp st=some false by simp only [A5n,Z0t hno]] at kk;exact kk
   refine ⟨_,rfl,p,_,_,_,rfl,rfl,SqT.of hp,e1,_,rfl,b,_,rfl,.inl (SqL.of hb),rfl,A1t _,_,rfl,?_⟩;rw [A2n];refine A8a (λhbd=> ?_) (λhbd=> ?_)
   ·have kk:=k H s0;rw [show A5n axs es x.own (.sum y bb) bs tp st=some false by simp only [A5n,Z12 hin,Z12 hbd]] at kk;exact kk
   have er:A5n axs es x.own (.sum y bb) bs tp st=A5n axs es x.own bb (bs++[y]) (tp&&st) st:=by simp only [A5n,Z12 hin,Z0t hbd]
   refine ⟨_,rfl,p,_,_,_,rfl,rfl,SqT.of hp,e2,_,rfl,_,rfl,_,rfl,p,_,_,_,rfl,rfl,SqT.of hp,e1,A0h (by simp),λzl hzl=> ?_⟩;have t1:A0w H (upd H zl (.lst [.str y])):=A0d hzl;refine ⟨b,zl,_,_,rfl,rfl,t1 _ _ hb,A0b,A0h (by rw [Z08];show bs.length+1<=1000000;omega),λb3 hb3=> ?_⟩;have s5:=t1.trans (A0d (o:= .lst (bs.map V.str++[.str y])) hb3);have hb5:upd (upd H zl (.lst [.str y])) b3 (.lst (bs.map V.str++[.str y])) b3=some (.lst ((bs++[y]).map V.str)):=by rw [A0b,Z0s];rfl
   generalize upd (upd H zl (.lst [.str y])) b3 (.lst (bs.map V.str++[.str y]))=H5 at s5 hb5
   cases tp with
   | true =>
    refine ⟨_,rfl,_,rfl,A8y ⟨_,rfl,_,rfl,hs w1 bb b3 (bs++[y]) st st H5 _ s5 (r1.same s5) (Z09 _) hb5 (by rw [Z06];exact Z09 _) λH6 s6=> ?_⟩⟩;have kk:=k H6 (s5.trans s6);rw [er] at kk;exact kk
   | false =>
    refine ⟨_,rfl,_,rfl,A2q ⟨_,rfl,hs w1 bb b3 (bs++[y]) false st H5 _ s5 (r1.same s5) (Z09 _) hb5 (by rw [Z06];exact Z09 _) λH6 s6=> ?_⟩⟩;have kk:=k H6 (s5.trans s6);rw [er] at kk;exact kk
  | place y =>
   obtain ⟨p,rfl,hp⟩:=B7a rp;have e0:atI [V.str "place",V.str y] 0=some (.str "place"):=A1d (j:=0) rfl;have e1:atI [V.str "place",V.str y] 1=some (.str y):=A1d (j:=1) rfl;refine ⟨_,rfl,p,_,_,_,rfl,rfl,SqT.of hp,e0,rfl,_,rfl,A3c (sne (by decide +kernel)) ?_⟩;refine ⟨_,rfl,p,_,_,_,rfl,rfl,SqT.of hp,e0,rfl,_,rfl,A3c (sne (by decide +kernel)) ?_⟩;refine ⟨_,rfl,p,_,_,_,rfl,rfl,SqT.of hp,e0,rfl,_,rfl,A3c (sne (by decide +kernel)) ?_⟩;refine ⟨_,rfl,p,_,_,_,rfl,rfl,SqT.of hp,e0,rfl,_,rfl,A3c (sne (by decide +kernel)) ?_⟩;refine ⟨_,rfl,p,_,_,_,rfl,rfl,SqT.of hp,e1,_,rfl,b,_,rfl,.inl (SqL.of hb),rfl,A1t _,_,rfl,?_⟩;rw [A2n];refine A4l (λhno=> ?_) (λhin=> ?_)
   ·have kk:=k H s0;rw [show A5n axs es x.own (.place y) bs tp st=some false by simp only [A5n,Z0t hno]] at kk;exact kk
   ·have kk:=k H s0;rw [show A5n axs es x.own (.place y) bs tp st=none by simp only [A5n,Z12 hin]] at kk;refine ⟨_,rfl,p,_,_,_,rfl,rfl,SqT.of hp,e0,rfl,_,rfl,A5m rfl ?_⟩;exact kk
  | guard y lo hi l r =>
   obtain ⟨p,w1,w2,rfl,hp,r1,r2⟩:=B6z rp;have hdl:dep l+1<=dep (.guard y lo hi l r):=by show dep l+1<=max (dep l) (dep r)+1;omega
   have hdr:dep r+1<=dep (.guard y lo hi l r):=by show dep r+1<=max (dep l) (dep r)+1;omega
   have e0:atI [V.str "guard",V.str y,V.int lo,V.int hi,w1,w2] 0=some (.str "guard"):=A1d (j:=0) rfl;have e1:atI [V.str "guard",V.str y,V.int lo,V.int hi,w1,w2] 1=some (.str y):=A1d (j:=1) rfl;have e4:atI [V.str "guard",V.str y,V.int lo,V.int hi,w1,w2] 4=some w1:=A1d (j:=4) rfl;have e5:atI [V.str "guard",V.str y,V.int lo,V.int hi,w1,w2] 5=some w2:=A1d (j:=5) rfl;refine ⟨_,rfl,p,_,_,_,rfl,rfl,SqT.of hp,e0,rfl,_,rfl,A3c (sne (by decide +kernel)) ?_⟩;refine ⟨_,rfl,p,_,_,_,rfl,rfl,SqT.of hp,e0,rfl,_,rfl,A3c (sne (by decide +kernel)) ?_⟩;refine ⟨_,rfl,p,_,_,_,rfl,rfl,SqT.of hp,e0,rfl,_,rfl,A3c (sne (by decide +kernel)) ?_⟩;refine ⟨_,rfl,p,_,_,_,rfl,rfl,SqT.of hp,e0,rfl,_,rfl,A3c (sne (by decide +kernel)) ?_⟩;refine ⟨_,rfl,p,_,_,_,rfl,rfl,SqT.of hp,e1,_,rfl,b,_,rfl,.inl (SqL.of hb),rfl,A1t _,_,rfl,?_⟩;rw [A2n];refine A4l (λhno=> ?_) (λhin=> ?_)
   ·have kk:=k H s0;rw [show A5n axs es x.own (.guard y lo hi l r) bs tp st=some false by simp only [A5n,Z0t hno]] at kk;exact kk
   refine ⟨_,rfl,p,_,_,_,rfl,rfl,SqT.of hp,e0,rfl,_,rfl,A3c (sne (by decide +kernel)) ?_⟩;refine ⟨_,rfl,p,_,_,_,rfl,rfl,SqT.of hp,e4,_,rfl,_,rfl,_,rfl,hs w1 l b bs tp false H _ s0 r1 hdl hb (by omega) λH1 s1=> ?_⟩;refine ⟨_,rfl,rfl,_,rfl,A4l (λhne=> ?_) (λheq=> ?_)⟩
   ·cases e:A5n axs es x.own l bs tp false with
    | none=>exact absurd (by rw [e];rfl) hne
    | some q =>
     have kk:=k H1 s1;rw [show A5n axs es x.own (.guard y lo hi l r) bs tp st=some q by simp only [A5n,Z12 hin,e]] at kk;exact ⟨_,rfl,kk⟩
   ·have e:=C0g.mp (V.str.inj heq);refine ⟨_,rfl,p,_,_,_,rfl,rfl,SqT.of (s1 _ _ hp),e5,_,rfl,_,rfl,_,rfl,hs w2 r b bs tp false H1 _ s1 (r2.same s1) hdr (s1 _ _ hb) (by omega) λH2 s2=> ?_⟩;have kk:=k H2 (s1.trans s2);rw [show A5n axs es x.own (.guard y lo hi l r) bs tp st=A5n axs es x.own r bs tp false by simp only [A5n,Z12 hin,e]] at kk;exact kk
theorem C5b (T:Txt K mg t):∀n:Nat,A2f P w K mg base CX0 (n+2) t.dP t.dL ["_law_tree","_law_about","_law_bound","_law_top","_law_still"] (B6o n)
 | 0=>B6h T (sp':=λ_ _ _ _=>False) (m:=1) (by omega) (A2f.none λ_ _ _ _ h=>h) λ_ _ _ h=>absurd h (by omega)
 | n+1=>B6h T (m:=n+2) (by omega) (C5b T n) λvs H Q _ h=>h
end
def KB (p:Addr) (H H':Hp):Prop:=∀b o,b≠p->H b=some o->H' b=some o
theorem KB.upd {p:Addr} {H H':Hp} {o:HO} (k:KB p H H'):KB p H (upd H' p o):=λb u hb e=>by rw [A0j hb];exact k b u hb e
theorem KB.refl {p:Addr} {H:Hp}:KB p H H:=λ_ _ _ e=>e
theorem KB.trans {p:Addr} {H H' H2:Hp} (a:KB p H H') (b:KB p H' H2):KB p H H2:=λc o hc e=>b c o hc (a c o hc e)
theorem KB.of {p:Addr} {H H':Hp} (s:A0w H H'):KB p H H':=λb o _ e=>s _ _ e
theorem KB.free {p b:Addr} {H H':Hp} {u:HO} (k:KB p H H') (hp:H' p=some u) (hb:H' b=none):H b=none:=by
 cases e:H b with
 | none=>rfl
 | some o =>
  have hne:b≠p:=λz=>by subst z;rw [hp] at hb;cases hb
  rw [k b o hne e] at hb;cases hb
theorem KB.restr {p:Addr} {H H':Hp} (k:KB p H H'):A0w (restr (λb=>b≠p) H) (restr (λb=>b≠p) H'):=λb o e=>A0l (A0k e).1 (k b o (A0k e).1 (A0k e).2)
abbrev LsV:={ys:List V //∀n zs,HO.lst ys≠.lst (V.int n::zs)}
structure Md (A:Adr) (H H':Hp) (kp:Addr) (xs:List V) (o:Addr) (u:Tm) (ks:List Addr):Prop where
 hk:H' kp=some (.lst (xs++ks.map V.ref))
 lk:ks.length<=nod u
 fk:∀k∈ks,H k=none/\∃ys:LsV,H' k=some (.lst ys.1)
 ob:Ob A (restr (λb=>H b=none/\b∉ks) H') (.ref o) u
 kb:KB kp H H'
 h0:∃o,H kp=some o
def B2o (A:Adr) (n:Nat):Sp:=λvs H Q _=>∃(v:V) (kp:Addr) (u:Tm) (xs:List V),vs=[v,.ref kp]/\Rep (restr (λb=>b≠kp) H) v (A1m u)/\OkT u/\dep u<=n+1/\dep u<=40/\H kp=some (.lst xs)/\xs.length+nod u<=100000/\∀(o:Addr) (ks:List Addr) (H':Hp),Md A H H' kp xs o u ks->Q (.ref o) H'
theorem Md.nk {A:Adr} {H H1:Hp} {kp:Addr} {xs:List V} {o:Addr} {u:Tm} {ks:List Addr} (m:Md A H H1 kp xs o u ks) {b:Addr} (h:H b=none):b≠kp:=λz=>by
 obtain ⟨o',e⟩:=m.h0;rw [z,e] at h;cases h
theorem Md.first {A:Adr} {H H1 H2:Hp} {kp:Addr} {xs:List V} {o:Addr} {u:Tm} {ks ks':List Addr} (m:Md A H H1 kp xs o u ks) (k:KB kp H1 H2) (hf:∀k∈ks',H1 k=none):Ob A (restr (λb=>H b=none/\b∉ks++ks') H2) (.ref o) u:=by
 refine m.ob.imp λb o' e=> ?_;obtain ⟨⟨h1,h2⟩,h3⟩:=A0k e;exact A0l ⟨h1,λz=>(Z07.mp z).elim h2 λz=>by rw [hf b z] at h3;cases h3⟩ (k b o' (m.nk h1) h3)
theorem Md.second {A:Adr} {H H1 H2:Hp} {kp:Addr} {xs xs':List V} {o o2:Addr} {u u2:Tm} {ks ks':List Addr} (m:Md A H H1 kp xs o u ks) (m2:Md A H1 H2 kp xs' o2 u2 ks'):Ob A (restr (λb=>H b=none/\b∉ks++ks') H2) (.ref o2) u2:=by
 refine m2.ob.imp λb o' e=> ?_;obtain ⟨⟨h1,h2⟩,h3⟩:=A0k e;refine A0l ⟨m.kb.free m.hk h1,λz=>(Z07.mp z).elim (λz=> ?_) h2⟩ h3;obtain ⟨ys,e2⟩:=(m.fk b z).2;rw [h1] at e2;cases e2
theorem Md.fk2 {A:Adr} {H H1 H2:Hp} {kp:Addr} {xs xs':List V} {o o2:Addr} {u u2:Tm} {ks ks':List Addr} (m:Md A H H1 kp xs o u ks) (m2:Md A H1 H2 kp xs' o2 u2 ks'):∀k∈ks++ks',H k=none/\∃ys:LsV,H2 k=some (.lst ys.1):=λk hk=>by
 rcases Z07.mp hk with hk | hk
 ·obtain ⟨h1,ys,h2⟩:=m.fk k hk;exact ⟨h1,ys,m2.kb _ _ (m.nk h1) h2⟩
 ·obtain ⟨h1,ys,h2⟩:=m2.fk k hk;exact ⟨m.kb.free m.hk h1,ys,h2⟩
theorem A9g {kp:Addr} {H H1:Hp} {x dx:Addr} {o1 o2 o3:HO} (hx:H1 x=none) (hd:H1 dx=none) (k:KB kp H H1):KB kp H (upd (upd (upd H1 dx o1) x o2) x o3):=λb o n e=>A2e hx hd _ _ (k b o n e)
theorem D0v (ix:List (Str×Int)):hdI (ix.map A9q)=true:=by
 cases ix with
 | nil=>rfl
 | cons e r=>rfl
section
variable {P:Program} {w:World} {K:PySem.W.Frag} {mg:Str->Option Value} {base:Heap} {t:Adr}
theorem B4v (T:Txt K mg t) {m n:Nat} {sp':Sp} (hm:6<=m) (G_l_made:A2f P w K mg base CX0 m t.c4 t.c8 ["_law_tree","_law_kept"] sp') (hs0:∀vs H Q,1<=n->B2o t (n-1) vs H Q E0->sp' vs H Q E0):A2f P w K mg base CX0 (m+1) t.c4 t.c8 ["_law_tree","_law_kept"] (B2o t n):=by
 have G_Number_init:=B1g (P:=P) (w:=w) (base:=base) T;have G_Place_init:=B2s (P:=P) (w:=w) (base:=base) T;have G_Read_init:=B4t (P:=P) (w:=w) (base:=base) T;have G_Sum_init:=B5y (P:=P) (w:=w) (base:=base) T;have G_Guard_init:=B3a (P:=P) (w:=w) (base:=base) T;have G_Pair_init:=B4d (P:=P) (w:=w) (base:=base) T;refine T.bL.ok A6x (λvs H Q E h=> ?_) (λcdv A outer s H vs Q E hr h=> ?_)
 ·obtain ⟨v,kp,u,xs,rfl,_⟩:=h;rfl
 ·obtain ⟨v,kp,u,xs,rfl,rp,okt,hd,h40,hkp,lxs,k⟩:=h;have hu:=B1e hr
  have hs:∀(v':V) (u':Tm) (H':Hp) (Q':VK) (ys:List V),KB kp H H'->Rep (restr (λb=>b≠kp) H) v' (A1m u')->OkT u'->dep u'+1<=dep u->H' kp=some (.lst ys)->ys.length+nod u'<=100000->(∀(o:Addr) (ks:List Addr) (H2:Hp),Md t H' H2 kp ys o u' ks->Q' (.ref o) H2)->sp' [v',.ref kp] H' Q' E0:=λv' u' H' Q' ys kb r' ok' d' hk' ly kk=>by
   have:=B5w u';exact hs0 _ _ _ (by omega) ⟨v',kp,u',ys,rfl,r'.same kb.restr,ok',by omega,by omega,hk',ly,kk⟩
  refine ⟨_,(A0c (A1f (A0s A2s (A1n A1i (pv 0) A0i (λ_ _=>rfl)) A0r (A1c _))
    (A0f (A0v (A2w T.jc G_Number_init (hr.mono (by omega)) rfl T.jk T.gF .nil A1e (A0a (A1n A1i (pv 0) A0i (λ_ _=>rfl)) A0e))))
    A0n)
   (A0c (A1f (A0s A2s (A1n A1i (pv 0) A0i (λ_ _=>rfl)) A0r (A1c _))
    (A0f (A0v (A2w T.ju G_Place_init (hr.mono (by omega)) rfl T.j4 T.gX .nil A1e (A0a (A1n A1i (pv 0) A0i (λ_ _=>rfl)) A0e))))
    A0n)
   (A0c (A1f (A0s A2s (A1n A1i (pv 0) A0i (λ_ _=>rfl)) A0r (A1c _))
    (A0c (A2k (B1l Z0k Z0n Z0o A3u (pv 1) (A0a (A3l A3y (by rfl) T.dF Z1o (A0a (A1n A1i (pv 0) A0i (λ_ _=>rfl)) A0e)) A0e)))
    (A0f (A0v (A2w T.jH G_Read_init (hr.mono (by omega)) rfl T.jx T.iQ .nil A1e (A0a (A1n A1i (pv 0) A0i (λ_ _=>rfl)) (A0a (A1n A4s (pv 1) (D0j C9v A0i) (λ_ _=>rfl)) A0e))))))
    A0n)
   (A0c (A1f (A0s A2s (A1n A1i (pv 0) A0i (λ_ _=>rfl)) A0r (A1c _))
    (A0f (A0v (A2w T.jP G_Sum_init (hr.mono (by omega)) rfl T.j5 T.iR .nil A1e (A0a (A1n A1i (pv 0) A0i (λ_ _=>rfl)) (A0a (A0p G_l_made (hr.mono (by omega)) rfl T.c0 T.bL.kp T.c7 .nil A1e (A0a (A1n A1i (pv 0) A0i (λ_ _=>rfl)) (A0a (pv 1) A0e))) A0e)))))
    A0n)
   (A0c (A1f (A0s A2s (A1n A1i (pv 0) A0i (λ_ _=>rfl)) A0r (A1c _))
    (A0c (A0x (i:=2) A6x.nd rfl (Or.inl rfl) (A0p G_l_made (hr.mono (by omega)) rfl T.c0 T.bL.kp T.c7 .nil A1e (A0a (A1n A1i (pv 0) A0i (λ_ _=>rfl)) (A0a (pv 1) A0e))))
    (A0c (A1f (A0s (C9g hr.units) (A1n A1i (pv 0) A0i (λ_ _=>rfl)) (A1n A1i (pv 0) A0i (λ_ _=>rfl)) (A1c _))
     (A0f (A0v (A2w T.iK G_Guard_init (hr.mono (by omega)) rfl T.fQ T.eT .nil A1e (A0a (A1n A1i (pv 0) A0i (λ_ _=>rfl)) (A0a (A1n A1i (pv 0) A0i (λ_ _=>rfl)) (A0a (A1n A1i (pv 0) A0i (λ_ _=>rfl)) (A0a (pv 2) (A0a (pv 2) A0e))))))))
     A0n)
    (A0f (A0v (A2w T.iK G_Guard_init (hr.mono (by omega)) rfl T.fQ T.eT .nil A1e (A0a (A1n A1i (pv 0) A0i (λ_ _=>rfl)) (A0a (A1n A1i (pv 0) A0i (λ_ _=>rfl)) (A0a (A1n A1i (pv 0) A0i (λ_ _=>rfl)) (A0a (pv 2) (A0a (A0p G_l_made (hr.mono (by omega)) rfl T.c0 T.bL.kp T.c7 .nil A1e (A0a (A1n A1i (pv 0) A0i (λ_ _=>rfl)) (A0a (pv 1) A0e))) A0e))))))))))
    A0n)
   (A0c (A0x (i:=3) A6x.nd rfl (Or.inl rfl) (A0p G_l_made (hr.mono (by omega)) rfl T.c0 T.bL.kp T.c7 .nil A1e (A0a (A1n A1i (pv 0) A0i (λ_ _=>rfl)) (A0a (pv 1) A0e))))
   (A0c (A0x (i:=4) A6x.nd rfl (Or.inl rfl) (pv 3))
   (A3n (A1f (A0s (C8p hr.units) (A1n A1i (pv 0) A0i (λ_ _=>rfl)) (A1n A1i (pv 0) A0i (λ_ _=>rfl)) (A1c _))
    (A0f (A0x (i:=4) A6x.nd rfl (Or.inl rfl) (A0p G_l_made (hr.mono (by omega)) rfl T.c0 T.bL.kp T.c7 .nil A1e (A0a (A1n A1i (pv 0) A0i (λ_ _=>rfl)) (A0a (pv 1) A0e)))))
    A0n)
   (A0c (A1f (A0s A2s (A1n A1i (pv 0) A0i (λ_ _=>rfl)) A0i (A1c _))
    (A0f (A0v (A2w T.jB G_Pair_init (hr.mono (by omega)) rfl T.jO T.dy .nil A1e (A0a (pv 3) (A0a (pv 4) A0e)))))
    A0n)
   (A0c (A1f (A0s A2s (A1n A1i (pv 0) A0i (λ_ _=>rfl)) A0i (A1c _))
    (A0f (A0v (A2w T.jo G_Pair_init (hr.mono (by omega)) rfl T.jC T.dy .nil A1e (A0a (pv 3) (A0a (pv 4) A0e)))))
    A0n)
   (A0f (A0v (A2w T.jj G_Pair_init (hr.mono (by omega)) rfl T.jD T.dy .nil A1e (A0a (pv 3) (A0a (pv 4) A0e))))))))))))))),?_⟩
  cases u with
  | num z =>
   obtain ⟨p,rfl,hp0⟩:=C4t rp;have hp:=(A0k hp0).2;have e0:atI [V.str "number",V.int z] 0=some (.str "number"):=A1d (j:=0) rfl;have e1:atI [V.str "number",V.int z] 1=some (.int z):=A1d (j:=1) rfl;refine ⟨_,rfl,p,_,_,_,rfl,rfl,SqT.of hp,e0,rfl,_,rfl,A5m rfl ?_⟩;refine ⟨_,rfl,p,_,_,_,rfl,rfl,SqT.of hp,e1,λx dx hx hdx hne=>⟨x,_,dx,_,rfl,A0b,T.c6,T.fq,rfl,?_⟩⟩;exact k x [] _ ⟨by rw [List.map_nil,Z0u];exact A2e hx hdx _ _ hkp,by simp,(by intro k hk;cases hk),.num (A0l ⟨hx,by simp⟩ A0b),A9g hx hdx KB.refl,_,hkp⟩
  | place y =>
   obtain ⟨p,rfl,hp0⟩:=B7a rp;have hp:=(A0k hp0).2;have e0:atI [V.str "place",V.str y] 0=some (.str "place"):=A1d (j:=0) rfl;have e1:atI [V.str "place",V.str y] 1=some (.str y):=A1d (j:=1) rfl;refine ⟨_,rfl,p,_,_,_,rfl,rfl,SqT.of hp,e0,rfl,_,rfl,A3c (sne (by decide +kernel)) ?_⟩;refine ⟨_,rfl,p,_,_,_,rfl,rfl,SqT.of hp,e0,rfl,_,rfl,A5m rfl ?_⟩;refine ⟨_,rfl,p,_,_,_,rfl,rfl,SqT.of hp,e1,λx dx hx hdx hne=>⟨x,_,dx,_,rfl,A0b,T.c5,T.dU,rfl,?_⟩⟩;exact k x [] _ ⟨by rw [List.map_nil,Z0u];exact A2e hx hdx _ _ hkp,by simp,(by intro k hk;cases hk),.place (A0l ⟨hx,by simp⟩ A0b),A9g hx hdx KB.refl,_,hkp⟩
  | read a ix =>
   obtain ⟨p,l,rfl,hp0,rl⟩:=C1x rp;have hp:=(A0k hp0).2;have e0:atI [V.str "read",V.str a,V.ref l] 0=some (.str "read"):=A1d (j:=0) rfl;have e1:atI [V.str "read",V.str a,V.ref l] 1=some (.str a):=A1d (j:=1) rfl;have e2:atI [V.str "read",V.str a,V.ref l] 2=some (.ref l):=A1d (j:=2) rfl;obtain ⟨l',zs,el,hl0,rs⟩:=A4a (show Rep _ (.ref l) (.list (ix.map A9q)) from rl);cases el;have hl:=(A0k hl0).2;have zsn:∀n ys,HO.lst zs≠.lst (V.int n::ys):=C9h rs (D0v ix);refine ⟨_,rfl,p,_,_,_,rfl,rfl,SqT.of hp,e0,rfl,_,rfl,A3c (sne (by decide +kernel)) ?_⟩;refine ⟨_,rfl,p,_,_,_,rfl,rfl,SqT.of hp,e0,rfl,_,rfl,A3c (sne (by decide +kernel)) ?_⟩;refine ⟨_,rfl,p,_,_,_,rfl,rfl,SqT.of hp,e0,rfl,_,rfl,A5m rfl ?_⟩;refine ⟨_,rfl,.inl ⟨rfl,_,SqL.of hkp⟩,_,rfl,p,_,_,_,rfl,rfl,SqT.of hp,e2,l,_,rfl,.inl (SqL.of hl),λq hq=> ?_⟩;have s1:A0w H (upd H q (.lst zs)):=A0d hq;have qk:q≠kp:=(A0g hkp hq).symm;have hn:xs.length+1<=100000:=lxs;refine ⟨kp,_,_,rfl,rfl,s1 _ _ hkp,A1h (by omega),?_⟩;have kb2:KB kp H (upd (upd H q (.lst zs)) kp (.lst (xs++[.ref q]))):=(KB.of s1).upd;have hk2:upd (upd H q (.lst zs)) kp (.lst (xs++[.ref q])) kp=some (.lst (xs++[.ref q])):=A0b;have hq2:upd (upd H q (.lst zs)) kp (.lst (xs++[.ref q])) q=some (.lst zs):=by rw [A0j qk];exact A0b
   generalize upd (upd H q (.lst zs)) kp (.lst (xs++[.ref q]))=H2 at kb2 hk2 hq2;have pk:p≠kp:=(A0k hp0).1;have el':atI (xs++[V.ref q]) (-1)=some (.ref q):=C3k xs (.ref q);refine ⟨_,rfl,p,_,_,_,rfl,rfl,SqT.of (kb2 _ _ pk hp),e1,_,rfl,_,rfl,kp,_,_,_,rfl,rfl,SqL.of hk2,el',λx dx hx hdx hne=> ?_⟩;have u3:A0w H2 (upd (upd H2 dx (.own x)) x (.ins t.aj dx [])):=A0t (A0d hdx) hx;have rq:Rep H2 (.ref q) (A3o ix):= .lst hq2 (rs.same λb o e=>kb2 b o (A0k e).1 (A0k e).2);refine ⟨x,dx,q,a,ix,rfl,A0b,rq.same u3,by have:=okt.2.1;omega,λl1 H4 hx4 rp4 kb4=>⟨rfl,?_⟩⟩;have s4:A0w H2 H4:=λb o e=>kb4 b o (A0g e hx) (u3 _ _ e);have xH:H x=none:=kb2.free hk2 hx;have xq:x≠q:=λz=>by rw [z,hq2] at hx;cases hx
   refine k x [q] _ ⟨s4 _ _ hk2,by show 1<=1;omega,λk' hk'=>by rw [Z0w.mp hk'];exact ⟨hq,⟨zs,zsn⟩,s4 _ _ hq2⟩,.read (A0l ⟨xH,by simpa using xq⟩ hx4) (rp4.imp λb o e=> ?_),λb o n e=>s4 _ _ (kb2 _ _ n e),_,hkp⟩;obtain ⟨h1,h2⟩:=A0k e;have h1':=u3.free h1;exact A0l ⟨kb2.free hk2 h1',λz=>by rw [Z0w.mp z,hq2] at h1';cases h1'⟩ h2
  | sum y bb =>
   obtain ⟨p,w1,rfl,hp0,r1⟩:=C4z rp;have hp:=(A0k hp0).2;have e0:atI [V.str "sum",V.str y,w1] 0=some (.str "sum"):=A1d (j:=0) rfl;have e1:atI [V.str "sum",V.str y,w1] 1=some (.str y):=A1d (j:=1) rfl;have e2:atI [V.str "sum",V.str y,w1] 2=some w1:=A1d (j:=2) rfl;have lxs:xs.length+(nod bb+1)<=100000:=lxs;refine ⟨_,rfl,p,_,_,_,rfl,rfl,SqT.of hp,e0,rfl,_,rfl,A3c (sne (by decide +kernel)) ?_⟩;refine ⟨_,rfl,p,_,_,_,rfl,rfl,SqT.of hp,e0,rfl,_,rfl,A3c (sne (by decide +kernel)) ?_⟩;refine ⟨_,rfl,p,_,_,_,rfl,rfl,SqT.of hp,e0,rfl,_,rfl,A3c (sne (by decide +kernel)) ?_⟩;refine ⟨_,rfl,p,_,_,_,rfl,rfl,SqT.of hp,e0,rfl,_,rfl,A5m rfl ?_⟩;refine ⟨_,rfl,p,_,_,_,rfl,rfl,SqT.of hp,e1,_,rfl,p,_,_,_,rfl,rfl,SqT.of hp,e2,_,rfl,hs w1 bb H _ xs KB.refl r1 okt.2 (Z09 _) hkp (by omega) λo1 ks H1 m1=> ?_⟩;refine λx dx hx hdx hne=>⟨x,_,dx,_,_,rfl,A0b,T.bQ,T.bN,T.df,rfl,?_⟩;have si:=A2e (o:= .own x) (u:= .ins t.av dx []) (v:= .ins t.av dx [("axis",.str y),("body",.ref o1)]) hx hdx;have xH:H x=none:=m1.kb.free m1.hk hx;refine k x ks _ ⟨si _ _ m1.hk,by have:=m1.lk;show ks.length<=nod bb+1;omega,λk' hk'=>⟨(m1.fk k' hk').1,let ⟨ys,e⟩:=(m1.fk k' hk').2;⟨ys,si _ _ e⟩⟩,.sum (A0l ⟨xH,λz=>by obtain ⟨ys,e⟩:=(m1.fk x z).2;rw [hx] at e;cases e⟩ A0b) (m1.ob.imp (A0m si)),A9g hx hdx m1.kb,_,hkp⟩
  | guard y lo hi l r =>
   obtain ⟨p,w1,w2,rfl,hp0,r1,r2⟩:=B6z rp;have hp:=(A0k hp0).2;have pk:p≠kp:=(A0k hp0).1;have hdl:dep l+1<=dep (.guard y lo hi l r):=by show dep l+1<=max (dep l) (dep r)+1;omega
   have hdr:dep r+1<=dep (.guard y lo hi l r):=by show dep r+1<=max (dep l) (dep r)+1;omega
   have h40:max (dep l) (dep r)+1<=40:=h40;have lxs:xs.length+(nod l+nod r+1)<=100000:=lxs;have e0:atI [V.str "guard",V.str y,V.int lo,V.int hi,w1,w2] 0=some (.str "guard"):=A1d (j:=0) rfl;have e1:atI [V.str "guard",V.str y,V.int lo,V.int hi,w1,w2] 1=some (.str y):=A1d (j:=1) rfl;have e2:atI [V.str "guard",V.str y,V.int lo,V.int hi,w1,w2] 2=some (.int lo):=A1d (j:=2) rfl;have e3:atI [V.str "guard",V.str y,V.int lo,V.int hi,w1,w2] 3=some (.int hi):=A1d (j:=3) rfl;have e4:atI [V.str "guard",V.str y,V.int lo,V.int hi,w1,w2] 4=some w1:=A1d (j:=4) rfl;have e5:atI [V.str "guard",V.str y,V.int lo,V.int hi,w1,w2] 5=some w2:=A1d (j:=5) rfl;have sh1:=A8b (A8k okt.2.1) (by have:=A8c l;omega);have sh2:=A8b (A8k okt.2.2) (by have:=A8c r;omega);refine ⟨_,rfl,p,_,_,_,rfl,rfl,SqT.of hp,e0,rfl,_,rfl,A3c (sne (by decide +kernel)) ?_⟩;refine ⟨_,rfl,p,_,_,_,rfl,rfl,SqT.of hp,e0,rfl,_,rfl,A3c (sne (by decide +kernel)) ?_⟩;refine ⟨_,rfl,p,_,_,_,rfl,rfl,SqT.of hp,e0,rfl,_,rfl,A3c (sne (by decide +kernel)) ?_⟩;refine ⟨_,rfl,p,_,_,_,rfl,rfl,SqT.of hp,e0,rfl,_,rfl,A3c (sne (by decide +kernel)) ?_⟩;refine ⟨_,rfl,p,_,_,_,rfl,rfl,SqT.of hp,e0,rfl,_,rfl,A5m rfl ?_⟩;refine ⟨_,rfl,p,_,_,_,rfl,rfl,SqT.of hp,e4,_,rfl,hs w1 l H _ xs KB.refl r1 okt.2.1 hdl hkp (by omega) λo1 ks H1 m1=> ?_⟩;have hp1:=m1.kb _ _ pk hp;refine ⟨_,rfl,p,_,_,_,rfl,rfl,SqT.of hp1,e4,_,rfl,p,_,_,_,rfl,rfl,SqT.of hp1,e5,_,_,(r1.same m1.kb.restr).same A1g,(r2.same m1.kb.restr).same A1g,sh1,sh2,_,rfl,A9w (λheq=> ?_) (λ_=> ?_)⟩
   ·have elr:l=r:=C4e (by simpa using heq);refine ⟨_,rfl,p,_,_,_,rfl,rfl,SqT.of hp1,e1,_,rfl,p,_,_,_,rfl,rfl,SqT.of hp1,e2,_,rfl,p,_,_,_,rfl,rfl,SqT.of hp1,e3,_,rfl,_,rfl,λx dx hx hdx hne=>⟨x,dx,_,_,_,_,_,rfl,A0b,rfl,?_⟩⟩;have si:=A2e (o:= .own x) (u:= .ins t.aa dx []) (v:= .ins t.aa dx [("axis",.str y),("low",.int lo),("high",.int hi),("inner",.ref o1),("outer",.ref o1)]) hx hdx;have xH:H x=none:=m1.kb.free m1.hk hx;have ob1:=m1.ob.imp (A0m si);refine k x ks _ ⟨si _ _ m1.hk,by have:=m1.lk;show ks.length<=nod l+nod r+1;omega,λk' hk'=>⟨(m1.fk k' hk').1,let ⟨ys,e⟩:=(m1.fk k' hk').2;⟨ys,si _ _ e⟩⟩,.guard (A0l ⟨xH,λz=>by obtain ⟨ys,e⟩:=(m1.fk x z).2;rw [hx] at e;cases e⟩ A0b) ob1 (by rw [<-elr];exact ob1),A9g hx hdx m1.kb,_,hkp⟩
   ·refine ⟨_,rfl,p,_,_,_,rfl,rfl,SqT.of hp1,e1,_,rfl,p,_,_,_,rfl,rfl,SqT.of hp1,e2,_,rfl,p,_,_,_,rfl,rfl,SqT.of hp1,e3,_,rfl,_,rfl,p,_,_,_,rfl,rfl,SqT.of hp1,e5,_,rfl,hs w2 r H1 _ (xs++ks.map V.ref) m1.kb r2 okt.2.2 hdr m1.hk (by have:=m1.lk;rw [Z06,Z08];omega) λo2 ks2 H2 m2=> ?_⟩;refine λx dx hx hdx hne=>⟨x,dx,_,_,_,_,_,rfl,A0b,rfl,?_⟩;have si:=A2e (o:= .own x) (u:= .ins t.aa dx []) (v:= .ins t.aa dx [("axis",.str y),("low",.int lo),("high",.int hi),("inner",.ref o1),("outer",.ref o2)]) hx hdx;have kb02:=m1.kb.trans m2.kb;have xH:H x=none:=kb02.free m2.hk hx;have f2:=m1.fk2 m2;refine k x (ks++ks2) _ ⟨by rw [Z0s,<-Z0z];exact si _ _ m2.hk,by have:=m1.lk;have:=m2.lk;rw [Z06];show ks.length+ks2.length<=nod l+nod r+1;omega,λk' hk'=>⟨(f2 k' hk').1,let ⟨ys,e⟩:=(f2 k' hk').2;⟨ys,si _ _ e⟩⟩,.guard (A0l ⟨xH,λz=>by obtain ⟨ys,e⟩:=(f2 x z).2;rw [hx] at e;cases e⟩ A0b) ((m1.first m2.kb λk hk=>(m2.fk k hk).1).imp (A0m si)) ((m1.second m2).imp (A0m si)),A9g hx hdx kb02,_,hkp⟩
  | pair op l r =>
   obtain ⟨p,w1,w2,rfl,hp0,r1,r2⟩:=B9v rp;have hp:=(A0k hp0).2;have pk:p≠kp:=(A0k hp0).1;have hdl:dep l+1<=dep (.pair op l r):=by show dep l+1<=max (dep l) (dep r)+1;omega
   have hdr:dep r+1<=dep (.pair op l r):=by show dep r+1<=max (dep l) (dep r)+1;omega
   have h40:max (dep l) (dep r)+1<=40:=h40;have lxs:xs.length+(nod l+nod r+1)<=100000:=lxs;have e0:atI [V.str "pair",V.int (opN op),w1,w2] 0=some (.str "pair"):=A1d (j:=0) rfl;have e1:atI [V.str "pair",V.int (opN op),w1,w2] 1=some (.int (opN op)):=A1d (j:=1) rfl;have e2:atI [V.str "pair",V.int (opN op),w1,w2] 2=some w1:=A1d (j:=2) rfl;have e3:atI [V.str "pair",V.int (opN op),w1,w2] 3=some w2:=A1d (j:=3) rfl;have sh1:=A8b (A8k okt.1) (by have:=A8c l;omega);have sh2:=A8b (A8k okt.2) (by have:=A8c r;omega);refine ⟨_,rfl,p,_,_,_,rfl,rfl,SqT.of hp,e0,rfl,_,rfl,A3c (sne (by decide +kernel)) ?_⟩;refine ⟨_,rfl,p,_,_,_,rfl,rfl,SqT.of hp,e0,rfl,_,rfl,A3c (sne (by decide +kernel)) ?_⟩;refine ⟨_,rfl,p,_,_,_,rfl,rfl,SqT.of hp,e0,rfl,_,rfl,A3c (sne (by decide +kernel)) ?_⟩;refine ⟨_,rfl,p,_,_,_,rfl,rfl,SqT.of hp,e0,rfl,_,rfl,A3c (sne (by decide +kernel)) ?_⟩;refine ⟨_,rfl,p,_,_,_,rfl,rfl,SqT.of hp,e0,rfl,_,rfl,A3c (sne (by decide +kernel)) ?_⟩;refine ⟨_,rfl,p,_,_,_,rfl,rfl,SqT.of hp,e2,_,rfl,hs w1 l H _ xs KB.refl r1 okt.1 hdl hkp (by omega) λo1 ks H1 m1=> ?_⟩;have hp1:=m1.kb _ _ pk hp;refine ⟨_,rfl,?_⟩;refine ⟨λσ' H2=>∃(o2:Addr) (ks2:List Addr),σ'=[some (.ref p),some (.ref kp),none,some (.ref o1),some (.ref o2)]/\H2 kp=some (.lst (xs++(ks++ks2).map V.ref))/\(ks++ks2).length<=nod l+nod r/\(∀k∈ks++ks2,H k=none/\∃ys:LsV,H2 k=some (.lst ys.1))/\Ob t (restr (λb=>H b=none/\b∉ks++ks2) H2) (.ref o1) l/\Ob t (restr (λb=>H b=none/\b∉ks++ks2) H2) (.ref o2) r/\KB kp H H2,?_,?_⟩
   ·refine ⟨_,rfl,p,_,_,_,rfl,rfl,SqT.of hp1,e2,_,rfl,p,_,_,_,rfl,rfl,SqT.of hp1,e3,_,_,(r1.same m1.kb.restr).same A1g,(r2.same m1.kb.restr).same A1g,sh1,sh2,_,rfl,A9w (λhne=> ?_) (λheq=> ?_)⟩
    ·refine ⟨_,rfl,p,_,_,_,rfl,rfl,SqT.of hp1,e3,_,rfl,hs w2 r H1 _ (xs++ks.map V.ref) m1.kb r2 okt.2 hdr m1.hk (by have:=m1.lk;rw [Z06,Z08];omega) λo2 ks2 H2 m2=> ?_⟩;exact ⟨o2,ks2,rfl,by rw [Z0s,<-Z0z];exact m2.hk,by have:=m1.lk;have:=m2.lk;rw [Z06];omega,m1.fk2 m2,m1.first m2.kb λk hk=>(m2.fk k hk).1,m1.second m2,m1.kb.trans m2.kb⟩
    ·have elr:l=r:=C4e (by simpa using heq);refine ⟨o1,[],rfl,by rw [Z0u];exact m1.hk,by have:=m1.lk;rw [Z0u];omega,by rw [Z0u];exact m1.fk,by rw [Z0u];exact m1.ob,by rw [Z0u,<-elr];exact m1.ob,m1.kb⟩
   rintro σ' H2 ⟨o2,ks2,rfl,hk2,lk2,fk2,ob1,ob2,kb2⟩;have hp2:=kb2 _ _ pk hp
   have fin:∀(x dx:Addr),H2 x=none->H2 dx=none->Q (.ref x) (upd (upd (upd H2 dx (.own x)) x (.ins (A6y t op) dx [])) x (.ins (A6y t op) dx [("left",.ref o1),("right",.ref o2)])):=λx dx hx hdx=>by
    have si:=A2e (o:= .own x) (u:= .ins (A6y t op) dx []) (v:= .ins (A6y t op) dx [("left",.ref o1),("right",.ref o2)]) hx hdx;have xH:H x=none:=kb2.free hk2 hx;exact k x (ks++ks2) _ ⟨si _ _ hk2,by show (ks++ks2).length<=nod l+nod r+1;omega,λk' hk'=>⟨(fk2 k' hk').1,let ⟨ys,e⟩:=(fk2 k' hk').2;⟨ys,si _ _ e⟩⟩,.pair (A0l ⟨xH,λz=>by obtain ⟨ys,e⟩:=(fk2 x z).2;rw [hx] at e;cases e⟩ A0b) (ob1.imp (A0m si)) (ob2.imp (A0m si)),A9g hx hdx kb2,_,hkp⟩
   cases op with
   | plus =>
    refine ⟨_,rfl,p,_,_,_,rfl,rfl,SqT.of hp2,e1,rfl,_,rfl,A5m rfl ?_⟩;exact ⟨_,rfl,_,rfl,λx dx hx hdx hne=>⟨x,_,dx,_,_,rfl,A0b,T.hZ,T.eX,T.eh,rfl,fin x dx hx hdx⟩⟩
   | minus =>
    refine ⟨_,rfl,p,_,_,_,rfl,rfl,SqT.of hp2,e1,rfl,_,rfl,A3c (λz=>absurd (V.int.inj z) (by decide)) ?_⟩;refine ⟨_,rfl,p,_,_,_,rfl,rfl,SqT.of hp2,e1,rfl,_,rfl,A5m rfl ?_⟩;exact ⟨_,rfl,_,rfl,λx dx hx hdx hne=>⟨x,_,dx,_,_,rfl,A0b,T.gc,T.d_,T.c_,rfl,fin x dx hx hdx⟩⟩
   | times =>
    refine ⟨_,rfl,p,_,_,_,rfl,rfl,SqT.of hp2,e1,rfl,_,rfl,A3c (λz=>absurd (V.int.inj z) (by decide)) ?_⟩;refine ⟨_,rfl,p,_,_,_,rfl,rfl,SqT.of hp2,e1,rfl,_,rfl,A3c (λz=>absurd (V.int.inj z) (by decide)) ?_⟩;exact ⟨_,rfl,_,rfl,λx dx hx hdx hne=>⟨x,_,dx,_,_,rfl,A0b,T.gh,T.eg,T.cX,rfl,fin x dx hx hdx⟩⟩
theorem B9k (T:Txt K mg t):∀n:Nat,A2f P w K mg base CX0 (n+7) t.c4 t.c8 ["_law_tree","_law_kept"] (B2o t n)
 | 0=>B4v T (sp':=λ_ _ _ _=>False) (m:=6) (by omega) (A2f.none λ_ _ _ _ h=>h) λ_ _ _ h=>absurd h (by omega)
 | n+1=>B4v T (m:=n+7) (by omega) (B9k T n) λvs H Q _ h=>h
end
structure C2j (ax:List (Str×Int)) (tb:List (Str×List Str)) (ls:List Lt) (os:List Str) (b:Bool):Prop where
 tm:C8u ax tb ls
 wh:b=true->D1f ax tb ls os/\GdN ax tb ls os/\GdS ax tb ls/\∃r,A1v (axN ax) tb ls=some r
def C2x (A:Adr):Sp:=λvs H Q E=>∃(p:Addr) (b:Bool) (wh:Int) (ax:List (Str×Int)) (tb:List (Str×List Str)) (ls:List Lt) (os:List Str),vs=[.ref p,.bl b]/\B4x A H p wh ax tb ls os/\C2j ax tb ls os b/\Out A (A1v (axN ax) tb ls) Q E H
def C9t (A:Adr):Sp:=λvs H Q _=>∃(p:Addr) (b:Bool) (wh:Int) (ax:List (Str×Int)) (tb:List (Str×List Str)) (ls:List Lt) (os:List Str),vs=[.ref p,.bl b]/\B4x A H p wh ax tb ls os/\C2j ax tb ls os b/\∀H',A0w H H'->Q (.str (A6j (A1v (axN ax) tb ls))) H'
def C3b (A:Adr):Sp:=λvs H Q _=>∃(p:Addr) (wh:Int) (ax:List (Str×Int)) (tb:List (Str×List Str)) (ls:List Lt) (os:List Str) (r:Bool),vs=[.ref p]/\B4x A H p wh ax tb ls os/\C8u ax tb ls/\A1v (axN ax) tb ls=some r/\∀H',A0w H H'->Q (.bl true) H'
section
variable {P:Program} {w:World} {K:PySem.W.Frag} {mg:Str->Option Value} {base:Heap} {t:Adr}
theorem B7k (T:Txt K mg t):A2f P w K mg base (CXF P w) 17 t.fv t.fA ["_law_program","_law_whole"] (C2x t):=by
 have G_look:=C6h (P:=P) (w:=w) (base:=base) T;have G_look_terms:=A6c (P:=P) (w:=w) (base:=base) T;refine T.gR.okF B7o (λvs H Q E h=> ?_) (λcdv A outer s H vs Q E hr h=> ?_)
 ·obtain ⟨p,b,wh,ax,tb,ls,os,rfl,_⟩:=h;rfl
 ·obtain ⟨p,b,wh,ax,tb,ls,os,rfl,pr,ok,ko⟩:=h
  refine ⟨_,(A0c (A1f (A2d (pv 1))
    (A0f (A0v (A0p G_look (hr.mono (by omega)) rfl T.jU T.jn.kp T.jR .nil A9l (A0a (pv 0) A0e))))
    A0n)
   (A0f (A0v (A0p G_look_terms (hr.mono (by omega)) rfl T.cr T.bC.kp T.cv .nil A9l (A0a (pv 0) A0e))))),?_⟩
  refine ⟨_,rfl,_,rfl,D1k (λb1=> ?_) (λ_=> ?_)⟩
  ·obtain ⟨nin,gn,gs,r,el⟩:=ok.wh b1;exact ⟨_,rfl,p,wh,ax,tb,ls,os,r,rfl,pr,ok.tm,nin,gn,gs,el,ko.2 r el⟩
  ·exact ⟨_,rfl,p,wh,ax,tb,ls,os,rfl,pr,ok.tm,ko⟩
theorem C2w (T:Txt K mg t):A2f P w K mg base CX0 18 t.hU t.ia ["_law_program","_law_whole"] (C9t t):=by
 have G_l_asked:=B7k (P:=P) (w:=w) (base:=base) T;refine T.fR.ok A8x (λvs H Q E h=> ?_) (λcdv A outer s H vs Q E hr h=> ?_)
 ·obtain ⟨p,b,wh,ax,tb,ls,os,rfl,_⟩:=h;rfl
 ·obtain ⟨p,b,wh,ax,tb,ls,os,rfl,pr,ok,k⟩:=h
  refine ⟨_,(A0c (A0x (i:=2) A8x.nd rfl (Or.inl rfl) C4w)
   (A0c (C6i (i:=2) ⟨rfl,rfl⟩ (B8q G_l_asked (hr.mono (by omega)) rfl T.je T.gR.kp T.j6 (A0a (pv 0) (A0a (pv 1) A0e))) A8x.nd rfl (Or.inl rfl))
   (A0c (A1f (A0s C8l (pv 2) C4w (A1c _))
    (A0f (A0v A0r))
    A0n)
   (A0f (A0v A0r))))),?_⟩
  refine ⟨_,rfl,_,rfl,p,b,wh,ax,tb,ls,os,rfl,pr,ok,λhn H1 s1=> ?_,λbb hbb H1 s1=> ?_⟩
  ·have kk:=k H1 s1;rw [hn] at kk;exact ⟨_,rfl,rfl,true,rfl,A8y kk⟩
  cases bb with
  | true =>
   refine ⟨t.ai,_,rfl,(B6r (i:=3) rfl T.aZ T.ft A8x.nd rfl rfl (λ_=>(A0c (A1f (A2d (A0u (B0m (K:=K) rfl) (by rfl) T.ae Z0d (A0a (pv 3) (A0a (A4k (A0a (A3z (v:=V.ref t.ag) rfl T.aK rfl) (A0a (A3z (v:=V.ref t.aR) rfl T.gO rfl) A0e))) A0e))))
    (A0f (A0v A0r))
    A0n)
   (A0f (A0v A0r))))),λea hea=> ?_⟩
   ·have s0:A0w H1 (upd H1 ea (.ext (xcF ea t.ai))):=A0d hea;refine ⟨_,rfl,A0h (by show 2<=1000000;decide),λtp htp=> ?_⟩;have s2:=A0d (o:= .tup [.ref t.ag,.ref t.aR]) htp;have kk:=k _ (s1.trans (s0.trans s2));rw [hbb] at kk;refine ⟨ea,t.ai,tp,_,false,rfl,s2 _ _ A0b,T.gS,A0b,A4h (cs:=[t.ag,t.aR]) (λc hc=> ?_),false,rfl,A2q kk⟩;simp only [Z0e,Z1i,or_false] at hc;rcases hc with rfl | rfl
    ·exact T.eP
    ·exact T.fe
  | false =>
   refine ⟨t.ag,_,rfl,(C6m rfl T.aZ T.fc (B6r (i:=3) rfl T.aK T.eL A8x.nd rfl rfl (λ_=>(A0c (A1f (A2d (A0u (B0m (K:=K) rfl) (by rfl) T.ae Z0d (A0a (pv 3) (A0a (A4k (A0a (A3z (v:=V.ref t.ai) rfl T.aZ rfl) (A0a (A3z (v:=V.ref t.aR) rfl T.gO rfl) A0e))) A0e))))
    (A0f (A0v A0r))
    A0n)
   (A0f (A0v A0r)))))),λea hea=> ?_⟩
   ·have s0:A0w H1 (upd H1 ea (.ext (xcF ea t.ag))):=A0d hea;refine ⟨_,rfl,A0h (by show 2<=1000000;decide),λtp htp=> ?_⟩;have s2:=A0d (o:= .tup [.ref t.ai,.ref t.aR]) htp;have kk:=k _ (s1.trans (s0.trans s2));rw [hbb] at kk;refine ⟨ea,t.ag,tp,_,false,rfl,s2 _ _ A0b,T.gf,A0b,A4h (cs:=[t.ai,t.aR]) (λc hc=> ?_),false,rfl,A2q kk⟩;simp only [Z0e,Z1i,or_false] at hc;rcases hc with rfl | rfl
    ·exact T.ff
    ·exact T.eF
theorem B7z (T:Txt K mg t):A2f P w K mg base CX0 16 t.fu t.fw ["_law_program"] (C3b t):=by
 have G_look_terms:=A6c (P:=P) (w:=w) (base:=base) T;refine T.gQ.ok A9a (λvs H Q E h=> ?_) (λcdv A outer s H vs Q E hr h=> ?_)
 ·obtain ⟨p,wh,ax,tb,ls,os,r,rfl,_⟩:=h;rfl
 ·obtain ⟨p,wh,ax,tb,ls,os,r,rfl,pr,ok,el,k⟩:=h
  refine ⟨_,(A0c (C7i ⟨rfl,rfl⟩ (B8q G_look_terms (hr.mono (by omega)) rfl T.cr T.bC.kp T.cv (A0a (pv 0) A0e)))
   (A0f (A0v A5o))),?_⟩
  refine ⟨_,rfl,p,wh,ax,tb,ls,os,rfl,pr,ok,λhn=>(by rw [el] at hn;cases hn),λbb hbb H1 s1=> ?_⟩
  cases bb with
  | true=>exact ⟨t.ai,_,rfl,(B6r (i:=1) rfl T.fE T.dR A9a.nd rfl rfl (λ_=>(A0f (A0v (A0u (B1u (K:=K) rfl) (by rfl) T.ae Z0d (A0a (pv 1) (A0a (A4v (v:=V.ty "ValueError") rfl T.eR PyProof.Rows.Boot.«ValueError» rfl) A0e))))))),λea hea=>⟨_,rfl,ea,t.ai,_,true,rfl,A0b,T.gS,B4w T.dm (by decide +kernel),k _ (s1.trans (A0d hea))⟩⟩
  | false=>exact ⟨t.ag,_,rfl,(B6r (i:=1) rfl T.fE T.dz A9a.nd rfl rfl (λ_=>(A0f (A0v (A0u (B1u (K:=K) rfl) (by rfl) T.ae Z0d (A0a (pv 1) (A0a (A4v (v:=V.ty "ValueError") rfl T.eR PyProof.Rows.Boot.«ValueError» rfl) A0e))))))),λea hea=>⟨_,rfl,ea,t.ag,_,true,rfl,A0b,T.gf,B4w T.cP (by decide +kernel),k _ (s1.trans (A0d hea))⟩⟩
end
def NM (ab:Addr) (x:Ab) (ld b:Addr):Prop:=b≠ab/\b≠x.ahl/\b≠x.shd/\b≠x.kpl/\b≠ld
def Kx (N:Addr->Prop) (H H':Hp):Prop:=∀b u,N b->(∀n xs,u≠.lst (V.int n::xs))->H b=some u->H' b=some u
theorem Kx.ki {N:Addr->Prop} {H H':Hp} (k:KI H H'):Kx N H H':=λb u _ n e=>k b u n e
theorem Kx.of {N:Addr->Prop} {H H':Hp} (s:A0w H H'):Kx N H H':=λb u _ _ e=>s b u e
theorem Kx.trans {N:Addr->Prop} {H H' H2:Hp} (a:Kx N H H') (b:Kx N H' H2):Kx N H H2:=λc u m n e=>b c u m n (a c u m n e)
theorem Kx.at {N:Addr->Prop} {H H':Hp} {c:Addr} {o:HO} (k:Kx N H H') (h:¬N c):Kx N H (upd H' c o):=λb u m n e=>by
 have hb:b≠c:=λz=>h (z▸m);rw [A0j hb];exact k b u m n e
theorem D1s {N:Addr->Prop} {G H:Hp} {b:Addr} (k:Kx N G H) (hb:N b) (h:H b=none):Nw G b:=λu e=>Classical.byContradiction λhn=>by
 have:=k b u hb (λn xs z=>hn ⟨n,xs,z⟩) e;rw [h] at this;cases this
theorem C7e {kvs:List (Key×V)}:∀n xs,HO.dK kvs≠.lst (V.int n::xs):=λn xs z=>by cases z
theorem B5u {G:Hp} {b c:Addr} {u:HO} (h:Nw G b) (e:G c=some u) (n:∀n xs,u≠.lst (V.int n::xs)):b≠c:=λz=>by
 subst z;obtain ⟨m,xs,y⟩:=h _ e;exact n m xs y
def xo (x:Ab) (ow du:Str):Ab:={ x with own:=ow,due:=du }
structure AbS (H:Hp) (ab ld:Addr) (x:Ab) (axs ahs als:List Str) (es:List (Str×List Str)):Prop where
 d:H ab=some (.dK (abK x))
 ax:H x.axl=some (.lst (axs.map V.str))
 ah:H x.ahl=some (.lst (ahs.map V.str))
 al:H x.all=some (.lst (als.map V.str))
 sh:∃sk,H x.shd=some (.dK sk)/\B2j (λb=>b≠x.ahl/\b≠x.kpl/\b≠ld) H sk es
structure DsA (ab ld:Addr) (x:Ab):Prop where
 s:x.shd≠ab
 l:ab≠ld/\x.axl≠ld/\x.ahl≠ld/\x.all≠ld/\x.shd≠ld/\x.kpl≠ld
 k:ab≠x.kpl/\x.axl≠x.kpl/\x.ahl≠x.kpl/\x.all≠x.kpl/\x.shd≠x.kpl
 h:ab≠x.ahl/\x.axl≠x.ahl/\x.all≠x.ahl/\x.shd≠x.ahl
theorem DsA.xo {ab ld:Addr} {x:Ab} (h:DsA ab ld x) (ow du:Str):DsA ab ld (xo x ow du):=⟨h.s,h.l,h.k,h.h⟩
section
variable {H H':Hp} {ab ld:Addr} {x:Ab} {axs ahs als:List Str} {es:List (Str×List Str)}
theorem AbS.at (h:AbS H ab ld x axs ahs als es):B8z H ab x axs ahs als es:=⟨h.d,h.ax,h.ah,h.al,let ⟨sk,e,p⟩:=h.sh;⟨sk,e,Paired.mapP p λ_ _ ⟨z1,b,z2,_,z4⟩=>⟨z1,b,z2,True.intro,z4⟩⟩⟩
theorem AbS.ki (h:AbS H ab ld x axs ahs als es) (k:KI H H'):AbS H' ab ld x axs ahs als es:=⟨k.dk h.d,k.str h.ax,k.str h.ah,k.str h.al,let ⟨sk,e,p⟩:=h.sh;⟨sk,k.dk e,Paired.mapP p λ_ _ ⟨z1,b,z2,z3,z4⟩=>⟨z1,b,z2,z3,k.str z4⟩⟩⟩
theorem AbS.keep (h:AbS H ab ld x axs ahs als es) (ds:DsA ab ld x) (f:∀b o,b≠x.kpl->b≠ld->H b=some o->H' b=some o):AbS H' ab ld x axs ahs als es :=
 ⟨f _ _ ds.k.1 ds.l.1 h.d,f _ _ ds.k.2.1 ds.l.2.1 h.ax,f _ _ ds.k.2.2.1 ds.l.2.2.1 h.ah,f _ _ ds.k.2.2.2.1 ds.l.2.2.2.1 h.al,let ⟨sk,e,p⟩:=h.sh;⟨sk,f _ _ ds.k.2.2.2.2 ds.l.2.2.2.2.1 e,Paired.mapP p λ_ _ ⟨z1,b,z2,z3,z4⟩=>⟨z1,b,z2,z3,f _ _ z3.2.1 z3.2.2 z4⟩⟩⟩
theorem AbS.put (h:AbS H ab ld x axs ahs als es) (ds:DsA ab ld x) (ow du:Str):AbS (upd H ab (.dK (abK (xo x ow du)))) ab ld (xo x ow du) axs ahs als es:=by
 obtain ⟨d,ax,ah,al,sk,e,p⟩:=h;exact ⟨A0b,(A0j (A1l ax d (by intro z;cases z))).trans ax,(A0j (A1l ah d (by intro z;cases z))).trans ah,(A0j (A1l al d (by intro z;cases z))).trans al,sk,(A0j ds.s).trans e,Paired.mapP p λ_ _ ⟨z1,b,z2,z3,z4⟩=>⟨z1,b,z2,z3,(A0j (A1l z4 d (by intro z;cases z))).trans z4⟩⟩
theorem B0d {α β:Type} {R:α->β->Prop}:∀{as:List α} {bs:List β},Paired R as bs->∀a∈as,∃b∈bs,R a b
 | _,_,.nil,_,h=>by cases h
 | _,_,.cons r t,a,h=>by
  rcases Z0e.mp h with rfl | h
  ·exact ⟨_,.head _,r⟩
  ·obtain ⟨b,hb,hr⟩:=B0d t a h;exact ⟨b,.tail _ hb,hr⟩
theorem AbS.shp (h:AbS H ab ld x axs ahs als es) (ds:DsA ab ld x) {n:Str} {p:Addr} {ys:List Str} (hn:n∉es.map (·.1)) (hp:H p=some (.lst (ys.map V.str))) (lp:p≠x.ahl/\p≠x.kpl/\p≠ld) :
  ∃sk,H x.shd=some (.dK sk)/\sk.length=es.length/\AbS (upd H x.shd (.dK (A4o sk (Sum.inr n) (.ref p)))) ab ld x axs ahs als (es++[(n,ys)]):=by
 obtain ⟨d,ax,ah,al,sk,e,pr⟩:=h;refine ⟨sk,e,Paired.length pr,(A0j ds.s.symm).trans d,(A0j (A1l ax e (by intro z;cases z))).trans ax,(A0j (A1l ah e (by intro z;cases z))).trans ah,(A0j (A1l al e (by intro z;cases z))).trans al,_,A0b,?_⟩;rw [A9y (λq hq z=> ?_)]
 ·exact Paired.snoc ⟨rfl,p,rfl,lp,(A0j (A1l hp e (by intro z;cases z))).trans hp⟩ (Paired.mapP pr λ_ _ ⟨z1,b,z2,z3,z4⟩=>⟨z1,b,z2,z3,(A0j (A1l z4 e (by intro z;cases z))).trans z4⟩)
 ·obtain ⟨e',he',z1,_⟩:=B0d pr q hq;rw [z1] at z;injection z with z;exact hn (z▸Z2c.mpr ⟨e',he',rfl⟩)
theorem AbS.ahd (h:AbS H ab ld x axs ahs als es) (ds:DsA ab ld x) (n:Str):AbS (upd H x.ahl (.lst (ahs.map V.str++[.str n]))) ab ld x axs (ahs++[n]) als es:=by
 obtain ⟨d,ax,ah,al,sk,e,pr⟩:=h;exact ⟨(A0j ds.h.1).trans d,(A0j ds.h.2.1).trans ax,by rw [A0b,Z0s];rfl,(A0j ds.h.2.2.1).trans al,sk,(A0j ds.h.2.2.2).trans e,Paired.mapP pr λ_ _ ⟨z1,b,z2,z3,z4⟩=>⟨z1,b,z2,z3,(A0j z3.1).trans z4⟩⟩
theorem AbS.nm (h:AbS H ab ld x axs ahs als es) {k l:HO} (hk:H x.kpl=some k) (hl:H ld=some l) {b:Addr} (hb:H b=none):NM ab x ld b:=⟨(A0g h.d hb).symm,(A0g h.ah hb).symm,let ⟨_,e,_⟩:=h.sh;(A0g e hb).symm,(A0g hk hb).symm,(A0g hl hb).symm⟩
end
theorem kn {a b:Str} (h:decide (a=b)=false):¬((Sum.inr a:Key)=Sum.inr b):=λz=>by
 injection z with z;rw [Z20 z] at h;cases h
theorem C5v (x:Ab) (z:Str):A4o (abK x) (Sum.inr ("own":Str)) (V.str z)=abK (xo x z x.due):=by
 unfold A4o;rw [Z12 (List.any_eq_true.mpr ⟨(Sum.inr ("own":Str),V.str x.own),by unfold abK;simp,Z20 rfl⟩)];unfold abK xo;simp only [Z0p,List.map_nil];rw [Z0t (kn (a:="axes") (b:="own") (by decide +kernel)),Z0t (kn (a:="ahead") (b:="own") (by decide +kernel)),Z0t (kn (a:="shapes") (b:="own") (by decide +kernel)),Z12 True.intro,Z0t (kn (a:="due") (b:="own") (by decide +kernel)),Z0t (kn (a:="wild") (b:="own") (by decide +kernel)),Z0t (kn (a:="all") (b:="own") (by decide +kernel)),Z0t (kn (a:="kept") (b:="own") (by decide +kernel))]
theorem C6t (x:Ab) (z:Str):A4o (abK x) (Sum.inr ("due":Str)) (V.str z)=abK (xo x x.own z):=by
 unfold A4o;rw [Z12 (List.any_eq_true.mpr ⟨(Sum.inr ("due":Str),V.str x.due),by unfold abK;simp,Z20 rfl⟩)];unfold abK xo;simp only [Z0p,List.map_nil];rw [Z0t (kn (a:="axes") (b:="due") (by decide +kernel)),Z0t (kn (a:="ahead") (b:="due") (by decide +kernel)),Z0t (kn (a:="shapes") (b:="due") (by decide +kernel)),Z0t (kn (a:="own") (b:="due") (by decide +kernel)),Z12 True.intro,Z0t (kn (a:="wild") (b:="due") (by decide +kernel)),Z0t (kn (a:="all") (b:="due") (by decide +kernel)),Z0t (kn (a:="kept") (b:="due") (by decide +kernel))]
def ScF (K:PySem.W.Frag) (H:Hp) (a:Addr) (xs:List V):Prop:=(∃o,H a=some (.frz o (.lst xs)))\/∀H',SqL K H' a xs
theorem ScF.mk {K:PySem.W.Frag} {H:Hp} {a:Addr} {xs:List V} (o:D0c H) (s:SqL K H a xs):ScF K H a xs:=by
 rcases s with (h | ⟨o',h⟩) | h
 ·rcases o a with z | ⟨o',ys,z⟩
  ·rw [h] at z;cases z
  ·rw [h] at z;cases z
 ·exact .inl ⟨o',h⟩
 ·exact .inr λH'=> .inr h
theorem ScF.sq {K:PySem.W.Frag} {H:Hp} {a:Addr} {xs:List V} (s:ScF K H a xs):SqL K H a xs:=by
 rcases s with ⟨o,h⟩ | h
 ·exact .inl (.inr ⟨o,h⟩)
 ·exact h H
theorem ScF.keep {K:PySem.W.Frag} {H H':Hp} {a:Addr} {xs:List V} (s:ScF K H a xs) (f:∀o,H a=some (.frz o (.lst xs))->H' a=some (.frz o (.lst xs))):ScF K H' a xs:=by
 rcases s with ⟨o,h⟩ | h
 ·exact .inl ⟨o,f o h⟩
 ·exact .inr h
def shs (ls:List Lt):List (Str×List Str):=ls.map λl=>(l.1,l.2.1)
theorem B0o {kn:List Str} {l:Lt}:∀(ls:List Lt) (es:List (Str×List Str)),A1v kn es (ls++[l])=match A1v kn es ls with | some b=>some b | none=>B8b kn (es++shs ls) l
 | [],es=>by
  show (match B8b kn es l with | some b=>some b | none=>A1v kn (B5z es l) [])=B8b kn (es++[]) l
  rw [Z0u];cases B8b kn es l <;> rfl
 | a::r,es=>by
  show (match B8b kn es a with | some b=>some b | none=>A1v kn (B5z es a) (r++[l]))=match (match B8b kn es a with | some b=>some b | none=>A1v kn (B5z es a) r) with | some b=>some b | none=>B8b kn (es++shs (a::r)) l
  cases B8b kn es a with
  | some b=>rfl
  | none =>
   dsimp only;rw [B0o r (B5z es a)];have:B5z es a++shs r=es++shs (a::r):=by unfold B5z shs;simp
   rw [this]
def SS (G:Hp) (ks:List Addr) (ld b:Addr):Prop:=Nw G b/\b∉ks/\b≠ld
structure LI (A:Adr) (G H:Hp) (ab ld:Addr) (x0:Ab) (axs als:List Str) (es0:List (Str×List Str)) (nm:List Str) (i:Nat) (ow:Str) (xs:List V) (ls:List Lt) (ks:List Addr):Prop where
 kx:Kx (NM ab x0 ld) G H
 bs:AbS H ab ld (xo x0 ow (A6j (A1v axs es0 ls))) axs ((es0++shs ls).map (·.1)) als (es0++shs ls)
 hk:H x0.kpl=some (.lst (ks.map V.ref))
 hl:H ld=some (.lst xs)
 kl:∀k∈ks,NM ab x0 ld k/\∃ys:LsV,H k=some (.lst ys.1)
 lk:ks.length<=200*i
 lt:B8t A (λ_=>True) (restr (SS G ks ld) H) xs ls
 nm:ls.map (·.1)=nm.take i
 ok:∀e∈ls,AxN axs e.2.1/\OkT e.2.2/\dep e.2.2<=9/\nod e.2.2<=200
structure LP (G:Hp) (ab nl:Addr) (x:Ab) (axs als:List Str) (es:List (Str×List Str)) (nm:List Str):Prop where
 att:B8z G ab x axs (es.map (·.1)) als es
 sl:∃sk,G x.shd=some (.dK sk)/\B2j (λb=>b≠x.ahl/\b≠x.kpl) G sk es
 kp:G x.kpl=some (.lst [])
 du:x.due="by"
 hn:G nl=some (.lst (nm.map V.str))
 ds:x.shd≠ab/\x.axl≠x.kpl/\x.ahl≠x.kpl/\x.all≠x.kpl/\x.axl≠x.ahl/\x.all≠x.ahl/\nl≠x.ahl/\nl≠x.kpl
 nd:(es.map (·.1)++nm).Nodup
 on:OkN (es.map (·.1)++nm)
 oa:OkN axs
 ol:OkN als
 na:axs.Nodup
 la:axs.length<=8
 ll:als.length<=100
 le:es.length<=3
 l3:∀e∈es,e.2.length<=3
 lm:nm.length<=8
def C5p (K:PySem.W.Frag) (A:Adr):Sp:=λvs H Q _=>∃(a ab nl:Addr) (told:Int) (ns:List Int) (x:Ab) (axs als:List Str) (es:List (Str×List Str)) (nm:List Str),vs=[.ref a,.ref ab,.ref nl,.int told]/\told=(nm.length:Int)/\ScF K H a (ns.map V.int)/\ns.length<=63/\LP H ab nl x axs als es nm/\OkX x.own/\
 ∀(ld:Addr) (ow:Str) (xs:List V) (ls:List Lt) (ks:List Addr) (H':Hp),H ld=none->LI A H H' ab ld x axs als es nm nm.length ow xs ls ks->Q (.ref ld) H'
theorem C1n (ks:List Addr):∀n xs,HO.lst (ks.map V.ref)≠.lst (V.int n::xs):=λn xs z=>by
 cases ks with
 | nil=>cases z
 | cons k r=>cases z
theorem C0a {A:Adr} {S:Addr->Prop} {H:Hp} {xs:List V} {ls:List Lt} (h:B8t A S H xs ls):∀n ys,HO.lst xs≠.lst (V.int n::ys):=λn ys z=>by
 cases h with
 | nil=>cases z
 | cons r _ =>
  obtain ⟨a,_,_,_,_,e,_⟩:=r;subst e;cases z
theorem C5k {a nm:List Str} {i:Nat} {y:Str} (h:(a++nm).Nodup) (e:nm[i]? =some y):y∉a++nm.take i:=λhm=>by
 have hi:=(Z03.mp e).1;have ey:nm[i]=y:=(Z03.mp e).2
 have e2:nm=nm.take i++y::nm.drop (i+1):=by
  rw [<-ey,List.getElem_cons_drop,Z2e]
 rw [e2,<-Z0z] at h;exact (Z0l.mp h).2.2 y hm y (.head _) rfl
theorem B8w {ms0:List Int}:∀{zs:List V},(∀z∈zs,z∈ms0.map V.int)->∃ms:List Int,zs=ms.map V.int
 | [],_=>⟨[],rfl⟩
 | z::zs,h=>by
  obtain ⟨ms,rfl⟩:=B8w (zs:=zs) λy hy=>h y (.tail _ hy);obtain ⟨m,_,rfl⟩:=Z2c.mp (h z (.head _));exact ⟨m::ms,rfl⟩
theorem B5s {α:Type} (f:α->V) (nm:List α) (lo hi:Option Int):∃zs:List α,C0z (nm.map f) lo hi=zs.map f/\zs.length<=nm.length/\∀x∈zs,x∈nm:=by
 refine ⟨(nm.drop (HT.sIx nm.length 0 lo)).take (HT.sIx nm.length nm.length hi-HT.sIx nm.length 0 lo),?_,?_,λx hx=> ?_⟩
 ·unfold C0z;rw [Z08,<-List.map_drop,<-List.map_take]
 ·rw [Z0x,Z19];omega
 ·exact List.mem_of_mem_drop (List.mem_of_mem_take hx)
section
variable {P:Program} {w:World} {K:PySem.W.Frag} {mg:Str->Option Value} {base:Heap} {t:Adr}
theorem B8h (T:Txt K mg t):A2f P w K mg base CX0 9 t.bF t.bH ["_law_rest","_law_about","_law_bound","_law_top","_law_still","_law_deep"] (A9x 6):=B6f T 6
theorem C2u (T:Txt K mg t):A2f P w K mg base CX0 8 t.dP t.dL ["_law_tree","_law_about","_law_bound","_law_top","_law_still"] (B6o 6):=C5b T 6
theorem B9j (T:Txt K mg t):A2f P w K mg base CX0 13 t.c4 t.c8 ["_law_tree","_law_kept"] (B2o t 6):=B9k T 6
theorem B9z (T:Txt K mg t):A2f P w K mg base CX0 14 t.g7 t.gi ["_law_script","_law_about","_law_names","_law_told"] (C5p K t):=by
 have G_Let_init:=B5t (P:=P) (w:=w) (base:=base) T;have G_l_axes:=B4k (P:=P) (w:=w) (base:=base) T;have G_l_cell:=A8m (P:=P) (w:=w) (base:=base) T;have G_l_due:=C2u (P:=P) (w:=w) (base:=base) T;have G_l_grown:=B8h (P:=P) (w:=w) (base:=base) T;have G_l_made:=B9j (P:=P) (w:=w) (base:=base) T;refine T.iO.ok A4u (λvs H Q E h=> ?_) (λcdv A outer s H vs Q E hr h=> ?_)
 ·obtain ⟨a,ab,nl,told,ns,x,axs,als,es,nm,rfl,_⟩:=h;rfl
 ·obtain ⟨a,ab,nl,told,ns,x0,axs,als,es0,nm,rfl,etold,hS,hns,lp,okw,k⟩:=h;have hu:=B1e hr;have lm:=lp.lm;have la8:=lp.la;have le3:=lp.le
  refine ⟨_,(A0c (A0x (i:=4) A4u.nd rfl (Or.inl rfl) (A2r A0e))
   (A0c (A4n PassesOwn.never rfl (A3k rfl T.bA (A0a (pv 3) A0e)) (A1a (i:=5) A4u.nd rfl (Or.inl rfl) (Or.inl rfl))
    (A0c (B5o (i₀:=6) (N':=["_law_cell_here"]) (ix:=(List.replicate 1 none)) A4u.nd rfl (Or.inl rfl) rfl (A2j rfl (by decide +kernel) (by decide +kernel)) (A2m rfl) (C4u rfl T.fV (A0a (A4e A6f (C0l (A4e A6f (pv 0) (A5d A0i) A5e) (A5d (pv 5)) A5e (pv 3)) A5e (A5d A0i)) A0e)) (λ_ _ _ _=>(A1a (i:=0) B9h rfl (Or.inl rfl) (Or.inr rfl))) (λ_ _ _ _=>(pv 0)))
    (A0c (A0x (i:=7) A4u.nd rfl (Or.inl rfl) (A0p G_l_axes (hr.mono (by omega)) rfl T.iI T.gu.kp T.iw .nil A1e (A0a (A0p G_l_cell (hr.mono (by omega)) rfl T.aQ T.aG.kp T.aN .nil A1e (A0a (pv 6) A0e)) (A0a (A1p hu (pv 1) A0r (λ_ _=>rfl)) A0e))))
    (A0c (A5c hu (pv 1) A0r (A1n A4s (pv 2) (pv 5) (λ_ _=>rfl)) rfl)
    (A0c (A5c hu (A1p hu (pv 1) A0r (λ_ _=>rfl)) (A1n A4s (pv 2) (pv 5) (λ_ _=>rfl)) (pv 7) rfl)
    (A0c (A0x (i:=8) A4u.nd rfl (Or.inl rfl) (A0p G_l_grown (hr.mono (by omega)) rfl T.bI T.bo.kp T.bE .nil A1e (A0a (pv 6) (A0a (pv 1) (A0a (pv 7) (A0a A5o (A0a A5o (A0a A0i A0e))))))))
    (A3n (A1f (A0s A2s (A1p hu (pv 1) A0r (λ_ _=>rfl)) A0r (A1c _))
     (A0f (A5c hu (pv 1) A0r (A0p G_l_due (hr.mono (by omega)) rfl T.dN T.cg.kp T.dO .nil A1e (A0a (pv 8) (A0a (pv 1) (A0a (pv 7) (A0a A5o (A0a A5o A0e)))))) rfl))
     A0n)
    (A0c (A2k (B1l Z0k Z0n Z0o A3u (A1p hu (pv 1) A0r (λ_ _=>rfl)) (A0a (A1n A4s (pv 2) (pv 5) (λ_ _=>rfl)) A0e)))
    (A0c (A0x (i:=9) A4u.nd rfl (Or.inl rfl) (A2r A0e))
    (A0c (A2k (B1l Z0k Z0n Z0o A3u (pv 4) (A0a (A2w T.jQ G_Let_init (hr.mono (by omega)) rfl T.jZ T.iS .nil A1e (A0a (A1n A4s (pv 2) (pv 5) (λ_ _=>rfl)) (A0a (pv 7) (A0a (A0p G_l_made (hr.mono (by omega)) rfl T.c0 T.bL.kp T.c7 .nil A1e (A0a (pv 8) (A0a (pv 9) A0e))) A0e)))) A0e)))
    (A0f (A2k (B1l Z0k PySem.F.slot_list_extend PySem.F.type_list_extend B3t (A1p hu (pv 1) A0r (λ_ _=>rfl)) (A0a (pv 9) A0e))))))))))))))
   (A0f (A0v (pv 4))))),?_⟩
  refine ⟨A0h (by simp),λld hld=> ?_⟩;obtain ⟨sk0,esk0,psk0⟩:=lp.sl;have d1:=lp.att.d;obtain ⟨dsa,dak,dhk,dlk,dah,dlh,nlh,nlk⟩:=lp.ds;have ds:DsA ab ld x0:=⟨dsa,⟨A0g d1 hld,A0g lp.att.ax hld,A0g lp.att.ah hld,A0g lp.att.al hld,A0g esk0 hld,A0g lp.kp hld⟩,⟨A1l d1 lp.kp (by intro z;cases z),dak,dhk,dlk,A1l esk0 lp.kp (by intro z;cases z)⟩,⟨A1l d1 lp.att.ah (by intro z;cases z),dah,dlh,A1l esk0 lp.att.ah (by intro z;cases z)⟩⟩;have nwN:∀b,Nw H b->b≠ld->NM ab x0 ld b:=λb h hl=>⟨B5u h d1 C7e,B5u h lp.att.ah (B3d _),B5u h esk0 C7e,B5u h lp.kp (by intro n xs z;cases z),hl⟩;have nNM:NM ab x0 ld nl:=⟨A1l lp.hn d1 (by intro z;cases z),nlh,A1l lp.hn esk0 (by intro z;cases z),nlk,A0g lp.hn hld⟩;have NL:∀{H2:Hp},Kx (NM ab x0 ld) H H2->H2 nl=some (.lst (nm.map V.str)):=λk=>k _ _ nNM (B3d _) lp.hn;have SC:∀{H2:Hp},Kx (NM ab x0 ld) H H2->SqL K H2 a (ns.map V.int):=λk=>(hS.keep λo e=>k _ _ ⟨A1l e d1 (by intro z;cases z),A1l e lp.att.ah (by intro z;cases z),A1l e esk0 (by intro z;cases z),A1l e lp.kp (by intro z;cases z),A0g e hld⟩ (by intro n xs z;cases z) e).sq;have nab:¬NM ab x0 ld ab:=λz=>z.1 rfl;have nah:¬NM ab x0 ld x0.ahl:=λz=>z.2.1 rfl;have nsh:¬NM ab x0 ld x0.shd:=λz=>z.2.2.1 rfl;have nkp:¬NM ab x0 ld x0.kpl:=λz=>z.2.2.2.1 rfl;have nld:¬NM ab x0 ld ld:=λz=>z.2.2.2.2 rfl;refine ⟨_,rfl,_,rfl,by omega,by omega,?_⟩
  refine B3y (n:=told.toNat) (λi σ Hi=>∃(o5 o6 o7 o8 o9:Option V) (ow:Str) (xs:List V) (ls:List Lt) (ks:List Addr),σ=[some (.ref a),some (.ref ab),some (.ref nl),some (.int told),some (.ref ld),o5,o6,o7,o8,o9]/\LI t H Hi ab ld x0 axs als es0 nm i ow xs ls ks/\OkX ow)
   ⟨none,none,none,none,none,x0.own,[],[],[],rfl,?_,okw⟩ ?_ ?_
  ·have s0:A0w H (upd H ld (.lst [])):=A0d hld;refine ⟨Kx.of s0,⟨?_,s0 _ _ lp.att.ax,?_,s0 _ _ lp.att.al,sk0,s0 _ _ esk0,?_⟩,s0 _ _ lp.kp,A0b,(by intro k hk;cases hk),Z1e _,.nil,rfl,(by intro e he;cases he)⟩
   ·have e:abK (xo x0 x0.own (A6j (A1v axs es0 [])))=abK x0:=by
     show abK { x0 with own:=x0.own,due:="by" }=abK x0;rw [<-lp.du]
    rw [e];exact s0 _ _ d1
   ·show upd H ld (.lst []) x0.ahl=some (.lst (((es0++[]).map λ(e:Str×List Str)=>e.1).map V.str));rw [Z0u];exact s0 _ _ lp.att.ah
   ·show B2j _ _ sk0 (es0++[]);rw [Z0u];exact Paired.mapP psk0 λ_ _ ⟨z1,b,z2,z3,z4⟩=>⟨z1,b,z2,⟨z3.1,z3.2,A0g z4 hld⟩,s0 _ _ z4⟩
  ·rintro i σ Hi hi ⟨o5,o6,o7,o8,o9,ow,xs,ls,ks,rfl,I,okow⟩;rw [Int.zero_add];have hin:i<nm.length:=by omega
   obtain ⟨nme,hnme⟩:∃y,nm[i]? =some y:=⟨_,Z0b hin⟩;have hat:atI (nm.map V.str) (i:Int)=some (.str nme):=A1d (by rw [Z1z,hnme];rfl)
   have lls:ls.length=i:=by
    have:=congrArg List.length I.nm;rw [Z08,Z0x] at this;omega
   have lxs:xs.length=i:=by rw [Paired.length I.lt];exact lls
   obtain ⟨z8,e8,l8,_⟩:=B5s V.int ns (some 8) none;refine ⟨_,rfl,_,rfl,a,_,rfl,SC I.kx,λp1 hp1=> ?_⟩;rw [e8];have y1:=A0d (o:= .lst (z8.map V.int)) hp1;refine ⟨_,rfl,_,rfl,_,rfl,p1,_,_,_,rfl,rfl,rfl,rfl,by omega,by omega,SqL.of A0b,λp2 zz hp2 lzz mzz=> ?_⟩;obtain ⟨mz,rfl⟩:=B8w mzz;have y2:=y1.trans (A0d (o:= .lst (mz.map V.int)) hp2);refine ⟨_,rfl,p2,_,rfl,SqL.of A0b,λcl hcl=> ?_⟩;obtain ⟨cs,ecs,lcs,_⟩:=B5s V.int mz none (some 28)
   have lcs:cs.length<=63:=by
    rw [Z08,Z08] at lzz;omega
   rw [ecs];have y3:=y2.trans (A0d (o:= .lst (cs.map V.int)) hcl);have hcl3:upd (upd (upd Hi p1 (.lst (z8.map V.int))) p2 (.lst (mz.map V.int))) cl (.lst (cs.map V.int)) cl=some (.lst (cs.map V.int)):=A0b;generalize upd (upd (upd Hi p1 (.lst (z8.map V.int))) p2 (.lst (mz.map V.int))) cl (.lst (cs.map V.int))=H1 at y3 hcl3;refine ⟨cl,_,rfl,SqL.of hcl3,λD hD=> ?_⟩;refine A3d (D:=D) (cs.map V.int).length (λj ys H2=>A0w H1 H2/\H2 D=some (.lst ys)/\∃ms:List Int,ys=ms.map V.int/\ms.length=j) ⟨A0d hD,A0b,[],rfl,rfl⟩ (λj ys H2 hj ⟨h,_⟩=>⟨_,(cs.map V.int)[(cs.map V.int).length-1-j],SqL.of (h _ _ hcl3),rfl,hj,Z0b (by omega)⟩) (λys H2 _=>rfl) ?_ ?_
   ·rintro j ys H2 hj ⟨h,hD2,ms,rfl,hms⟩ y H3 ⟨rfl,hy⟩;have hy:=hy _ (SqL.of (h _ _ hcl3));rw [Z1z] at hy;obtain ⟨z,_,rfl⟩:=Z0i.mp hy;exact ⟨True.intro,_,rfl,hD2,A1h (by rw [Z08] at hj⊢;omega),A0t h hD,A0b,ms++[z],by simp,by simp [hms]⟩
   rintro ys2 H2 ⟨s2,hD2,ms,rfl,hms⟩;have s02:A0w Hi H2:=y3.trans s2;refine ⟨_,rfl,D,ms,rfl,hD2,λc ms1 H3 l3 hD3 o3 e3=> ?_⟩;have ki3:=(KI.of s02).trans (A4q hD2 o3 e3);have a3:=I.bs.ki ki3;have hk3:=ki3 _ _ (C1n ks) I.hk;have hl3:=ki3 _ _ (C0a I.lt) I.hl;refine ⟨_,rfl,ab,_,rfl,a3.at.get (A9n _),c,x0.axl,axs,rfl,a3.ax,lp.la,lp.na,λys p H4 hp s4 h4 axn=> ?_⟩;have few:=axn.few;have ki4:=ki3.trans (KI.of s4);have a4:=I.bs.ki ki4;have hD4:=s4 _ _ hD3;have kxi4:Kx (NM ab x0 ld) Hi H4:=Kx.ki ki4;have pah:p≠x0.ahl:=(A0g a3.ah hp).symm;have pkp:p≠x0.kpl:=(A0g hk3 hp).symm;have pld:p≠ld:=(A0g hl3 hp).symm;have eo:A4o (abK (xo x0 ow (A6j (A1v axs es0 ls)))) (Sum.inr ("own":Str)) (V.str nme)=abK (xo x0 nme (A6j (A1v axs es0 ls))):=C5v _ _;refine ⟨_,rfl,_,rfl,nl,_,_,_,rfl,rfl,SqL.of (NL (I.kx.trans kxi4)),hat,_,rfl,ab,_,rfl,B6v.k (k:=Sum.inr "own") a4.d (A1h (by show 8<=1000000;decide)),?_⟩;rw [eo];have a5:AbS (upd H4 ab (.dK (abK (xo x0 nme (A6j (A1v axs es0 ls)))))) ab ld (xo x0 nme (A6j (A1v axs es0 ls))) axs ((es0++shs ls).map (·.1)) als (es0++shs ls):=a4.put (ds.xo _ _) nme _;have kxi5:Kx (NM ab x0 ld) Hi (upd H4 ab (.dK (abK (xo x0 nme (A6j (A1v axs es0 ls)))))):=kxi4.at nab;have hp5:upd H4 ab (.dK (abK (xo x0 nme (A6j (A1v axs es0 ls))))) p=some (.lst (ys.map V.str)):=(A0j (A1l h4 a4.d (by intro z;cases z))).trans h4;have hD5:upd H4 ab (.dK (abK (xo x0 nme (A6j (A1v axs es0 ls))))) D=some (.lst (ms1.map V.int)):=(A0j (A1l hD4 a4.d (by intro z;cases z))).trans hD4;have hk5:upd H4 ab (.dK (abK (xo x0 nme (A6j (A1v axs es0 ls))))) x0.kpl=some (.lst (ks.map V.ref)):=(A0j ds.k.1.symm).trans (s4 _ _ hk3);have hl5:upd H4 ab (.dK (abK (xo x0 nme (A6j (A1v axs es0 ls))))) ld=some (.lst xs):=(A0j ds.l.1.symm).trans (s4 _ _ hl3);generalize upd H4 ab (.dK (abK (xo x0 nme (A6j (A1v axs es0 ls)))))=H5 at a5 kxi5 hp5 hD5 hk5 hl5
   have eks:(es0++shs ls).map (·.1)=es0.map (·.1)++nm.take i:=by
    rw [Z0s,<-I.nm];unfold shs;rw [List.map_map];rfl
   have hnin:nme∉(es0++shs ls).map (·.1):=by rw [eks];exact C5k lp.nd hnme
   have lsh:(es0++shs ls).length=es0.length+i:=by rw [Z06];unfold shs;rw [Z08,lls]
   obtain ⟨sk,esk,lsk,a6⟩:=a5.shp (ds.xo _ _) (n:=nme) (p:=p) (ys:=ys) hnin hp5 ⟨pah,pkp,pld⟩;refine ⟨_,rfl,_,rfl,ab,_,rfl,a5.at.get (A4r _),_,rfl,_,rfl,nl,_,_,_,rfl,rfl,SqL.of (NL (I.kx.trans kxi5)),hat,x0.shd,_,rfl,B6v.k (k:=Sum.inr nme) esk (A1h (by omega)),?_⟩;have kxi6:Kx (NM ab x0 ld) Hi (upd H5 x0.shd (.dK (A4o sk (Sum.inr nme) (.ref p)))):=kxi5.at nsh;have hp6:upd H5 x0.shd (.dK (A4o sk (Sum.inr nme) (.ref p))) p=some (.lst (ys.map V.str)):=(A0j (A1l hp5 esk (by intro z;cases z))).trans hp5;have hD6:upd H5 x0.shd (.dK (A4o sk (Sum.inr nme) (.ref p))) D=some (.lst (ms1.map V.int)):=(A0j (A1l hD5 esk (by intro z;cases z))).trans hD5;have a6:AbS (upd H5 x0.shd (.dK (A4o sk (Sum.inr nme) (.ref p)))) ab ld (xo x0 nme (A6j (A1v axs es0 ls))) axs ((es0++shs ls).map (·.1)) als (es0++shs ls++[(nme,ys)]):=a6;have hk6:upd H5 x0.shd (.dK (A4o sk (Sum.inr nme) (.ref p))) x0.kpl=some (.lst (ks.map V.ref)):=(A0j ds.k.2.2.2.2.symm).trans hk5;have hl6:upd H5 x0.shd (.dK (A4o sk (Sum.inr nme) (.ref p))) ld=some (.lst xs):=(A0j ds.l.2.2.2.2.1.symm).trans hl5;generalize upd H5 x0.shd (.dK (A4o sk (Sum.inr nme) (.ref p)))=H6 at a6 kxi6 hp6 hD6 hk6 hl6;have okns:∀y∈nm,OkX y:=λy hy=>lp.on y (Z02 _ hy);have oknme:OkX nme:=okns nme (Z13 hnme);have okys:OkN ys:=λy hy=>lp.oa y (axn.sub y hy)
   have ok6:D0o (xo x0 nme (A6j (A1v axs es0 ls))) axs ((es0++shs ls).map (·.1)) als (es0++shs ls++[(nme,ys)]):=by
    refine ⟨oknme,lp.oa,?_,lp.ol,by omega,by rw [Z08];omega,lp.ll,λe he=> ?_⟩
    ·rw [eks];intro y hy;rcases Z07.mp hy with hy | hy
     ·exact lp.on y (Z05 _ hy)
     ·exact okns y (List.mem_of_mem_take hy)
    ·rcases Z07.mp he with he | he
     ·rcases Z07.mp he with he | he
      ·exact lp.l3 e he
      ·obtain ⟨l,hl,rfl⟩:=Z2c.mp he;exact (I.ok l hl).1.few
     ·rw [Z0w.mp he];exact few
   refine ⟨_,rfl,_,rfl,_,rfl,D,ab,p,true,true,6,ms1,xo x0 nme (A6j (A1v axs es0 ls)),axs,(es0++shs ls).map (·.1),als,ys,es0++shs ls++[(nme,ys)],rfl,rfl,hD6,a6.at,ok6,hp6,okys,by omega,λv u ms2 H7 d7 n7 okt ki7 hD7 rp=> ?_⟩;have n7:nod u<128:=n7;have a7:=a6.ki ki7;have kxi7:=kxi6.trans (Kx.ki ki7);have hp7:=ki7.str hp6;refine ⟨λσ H9=>σ=[some (.ref a),some (.ref ab),some (.ref nl),some (.int told),some (.ref ld),some (.int (i:Int)),some (.ref D),some (.ref p),some v,o9]/\AbS H9 ab ld (xo x0 nme (A6j (A1v axs es0 (ls++[(nme,ys,u)])))) axs ((es0++shs ls).map (·.1)) als (es0++shs ls++[(nme,ys)])/\KB ab H7 H9,?_,?_⟩
   ·refine ⟨_,rfl,ab,_,rfl,a7.at.get (C4p _),rfl,_,rfl,A8a (λh=> ?_) (λh=> ?_)⟩
    ·have hby:A1v axs es0 ls=none:=C0g.mp (V.str.inj h);refine ⟨_,rfl,_,rfl,_,rfl,v,u,ab,p,true,true,xo x0 nme (A6j (A1v axs es0 ls)),axs,_,als,ys,_,rfl,rp.same A1g,d7,a7.at,by rw [Z0s];rfl,hp7,by omega,λH8 s8=> ?_⟩
     have er:A5n axs (es0++shs ls++[(nme,ys)]) nme u ys true true=A1v axs es0 (ls++[(nme,ys,u)]):=by
      rw [B0o,hby];exact C2s (kn:=axs) (es:=es0++shs ls) (l:=(nme,ys,u))
     have a8:=a7.ki (KI.of s8);refine ⟨_,rfl,ab,_,rfl,B6v.k (k:=Sum.inr "due") a8.d (A1h (by show 8<=1000000;decide)),rfl,?_,(KB.of s8).upd⟩
     have eo2:A4o (abK (xo x0 nme (A6j (A1v axs es0 ls)))) (Sum.inr ("due":Str)) (V.str (A6j (A5n axs (es0++shs ls++[(nme,ys)]) nme u ys true true)))=abK (xo x0 nme (A6j (A1v axs es0 (ls++[(nme,ys,u)])))):=by
      rw [er];exact C6t _ _
     have a9:AbS (upd H8 ab (.dK (abK (xo x0 nme (A6j (A1v axs es0 (ls++[(nme,ys,u)]))))))) ab ld (xo x0 nme (A6j (A1v axs es0 (ls++[(nme,ys,u)])))) axs ((es0++shs ls).map (·.1)) als (es0++shs ls++[(nme,ys)]):=a8.put (ds.xo _ _) nme _;rw [<-eo2] at a9;exact a9
    ·have e:A1v axs es0 (ls++[(nme,ys,u)])=A1v axs es0 ls:=by
      rw [B0o]
      cases hq:A1v axs es0 ls with
      | some b=>rfl
      | none =>
       refine absurd ?_ h;show V.str (A6j (A1v axs es0 ls))=V.str "by";rw [hq];rfl
     exact ⟨rfl,by rw [e];exact a7,KB.refl⟩
   rintro σ H9 ⟨rfl,a9,kb9⟩;have kxi9:Kx (NM ab x0 ld) Hi H9:=λb u' m n e=>kb9 b u' m.1 (kxi7 b u' m n e);refine ⟨_,rfl,ab,_,rfl,a9.at.get (B3b _),.inl ⟨rfl,_,SqL.of a9.ah⟩,_,rfl,_,rfl,nl,_,_,_,rfl,rfl,SqL.of (NL (I.kx.trans kxi9)),hat,x0.ahl,_,_,rfl,rfl,a9.ah,A1h (by rw [Z08,Z08];omega),?_⟩;have a10:=a9.ahd (ds.xo _ _) nme;have a10:AbS (upd H9 x0.ahl (.lst (((es0++shs ls).map (·.1)).map V.str++[.str nme]))) ab ld (xo x0 nme (A6j (A1v axs es0 (ls++[(nme,ys,u)])))) axs ((es0++shs ls).map (·.1)++[nme]) als (es0++shs ls++[(nme,ys)]):=a10;have kxi10:Kx (NM ab x0 ld) Hi (upd H9 x0.ahl (.lst (((es0++shs ls).map (·.1)).map V.str++[.str nme]))):=kxi9.at nah
   have rp10:Rep (restr (Nw H6) (upd H9 x0.ahl (.lst (((es0++shs ls).map (·.1)).map V.str++[.str nme])))) v (A1m u):=rp.same λb o e=>by
    obtain ⟨nw,e⟩:=A0k e;exact A0l nw ((A0j (B5u nw a6.ah (B3d _))).trans (kb9 b o (B5u nw a6.d C7e) e))
   have hp10:upd H9 x0.ahl (.lst (((es0++shs ls).map (·.1)).map V.str++[.str nme])) p=some (.lst (ys.map V.str)):=(A0j pah).trans (kb9 _ _ (A1l hp7 a7.d (by intro z;cases z)) hp7);have hk10:upd H9 x0.ahl (.lst (((es0++shs ls).map (·.1)).map V.str++[.str nme])) x0.kpl=some (.lst (ks.map V.ref)):=(A0j dhk.symm).trans (kb9 _ _ ds.k.1.symm (ki7 _ _ (C1n ks) hk6));have hl10:upd H9 x0.ahl (.lst (((es0++shs ls).map (·.1)).map V.str++[.str nme])) ld=some (.lst xs):=(A0j ds.l.2.2.1.symm).trans (kb9 _ _ ds.l.1.symm (ki7 _ _ (C0a I.lt) hl6));generalize upd H9 x0.ahl (.lst (((es0++shs ls).map (·.1)).map V.str++[.str nme]))=H10 at a10 kxi10 rp10 hp10 hk10 hl10;refine ⟨A0h (by simp),λkp hkp=> ?_⟩;have s11:A0w H10 (upd H10 kp (.lst [])):=A0d hkp;have rp11:Rep (restr (λb=>b≠kp) (upd H10 kp (.lst []))) v (A1m u):=rp10.same λb o e=>A0l (A0g (A0k e).2 hkp) (s11 _ _ (A0k e).2);refine ⟨_,rfl,.inl ⟨rfl,_,SqL.of (s11 _ _ hl10)⟩,_,rfl,_,rfl,nl,_,_,_,rfl,rfl,SqL.of (s11 _ _ (NL (I.kx.trans kxi10))),hat,_,rfl,_,rfl,_,rfl,v,kp,u,[],rfl,rp11,okt,d7,by omega,A0b,by show 0+nod u<=100000;omega,λo kn H12 md=> ?_⟩;have s12:A0w H10 H12:=λb o' e=>md.kb b o' (A0g e hkp) (s11 _ _ e);refine λlt dt hlt hdt hne=> ?_;have u1:A0w H12 (upd (upd H12 dt (.own lt)) lt (.ins t.aI dt [])):=A0t (A0d hdt) hlt;refine ⟨lt,dt,p,.ref o,nme,ys,rfl,A0b,u1 _ _ (s12 _ _ hp10),by omega,λc2 H13 hc2 e13 ec13 kb13=>⟨rfl,?_⟩⟩;have s13:A0w H12 H13:=λb o' e=>kb13 b o' (A0g e hlt) (u1 _ _ e);have s10:=s12.trans s13;refine ⟨ld,_,_,rfl,rfl,s10 _ _ hl10,A1h (by omega),?_⟩;have a14:AbS (upd H13 ld (.lst (xs++[.ref lt]))) ab ld (xo x0 nme (A6j (A1v axs es0 (ls++[(nme,ys,u)])))) axs ((es0++shs ls).map (·.1)++[nme]) als (es0++shs ls++[(nme,ys)]):=(a10.ki (KI.of s10)).keep (ds.xo _ _) λb o' _ hl e=>(A0j hl).trans e;have hk14:upd H13 ld (.lst (xs++[.ref lt])) x0.kpl=some (.lst (ks.map V.ref)):=(A0j ds.l.2.2.2.2.2).trans (s10 _ _ hk10);have kpld:kp≠ld:=(A0g hl10 hkp).symm;have hkp14:upd H13 ld (.lst (xs++[.ref lt])) kp=some (.lst ([]++kn.map V.ref)):=(A0j kpld).trans (s13 _ _ md.hk);have lkn:=md.lk;have lk:=I.lk;refine ⟨_,rfl,ab,_,rfl,a14.at.get (C0y _),.inl ⟨rfl,_,SqL.of hk14⟩,_,rfl,x0.kpl,kp,_,_,rfl,rfl,hk14,hkp14,A0h (by simp only [Z08,Z06,List.length_nil];omega),?_⟩;have kxi15:Kx (NM ab x0 ld) Hi (upd (upd H13 ld (.lst (xs++[.ref lt]))) x0.kpl (.lst (ks.map V.ref++([]++kn.map V.ref)))):=((kxi10.trans (Kx.of s10)).at nld).at nkp;have k15:∀b o',b≠ld->b≠x0.kpl->H12 b=some o'->upd (upd H13 ld (.lst (xs++[.ref lt]))) x0.kpl (.lst (ks.map V.ref++([]++kn.map V.ref))) b=some o':=λb o' h1 h2 e=>(A0j h2).trans ((A0j h1).trans (s13 _ _ e));have a15:AbS (upd (upd H13 ld (.lst (xs++[.ref lt]))) x0.kpl (.lst (ks.map V.ref++([]++kn.map V.ref)))) ab ld (xo x0 nme (A6j (A1v axs es0 (ls++[(nme,ys,u)])))) axs ((es0++shs ls).map (·.1)++[nme]) als (es0++shs ls++[(nme,ys)]):=a14.keep (ds.xo _ _) λb o' hk _ e=>(A0j hk).trans e;have hk15:upd (upd H13 ld (.lst (xs++[.ref lt]))) x0.kpl (.lst (ks.map V.ref++([]++kn.map V.ref))) x0.kpl=some (.lst ((ks++kn).map V.ref)):=by rw [A0b,List.nil_append,Z0s]
   have hl15:upd (upd H13 ld (.lst (xs++[.ref lt]))) x0.kpl (.lst (ks.map V.ref++([]++kn.map V.ref))) ld=some (.lst (xs++[.ref lt])):=(A0j ds.l.2.2.2.2.2.symm).trans A0b;have e15:upd (upd H13 ld (.lst (xs++[.ref lt]))) x0.kpl (.lst (ks.map V.ref++([]++kn.map V.ref))) lt=some (.ins t.aI dt [("name",.str nme),("axes",.ref c2),("term",.ref o)]):=(A0j (A0g (s12 _ _ hk10) hlt).symm).trans ((A0j (A0g (s12 _ _ hl10) hlt).symm).trans e13);have c10:H12 c2=none:=u1.free hc2;have ec15:upd (upd H13 ld (.lst (xs++[.ref lt]))) x0.kpl (.lst (ks.map V.ref++([]++kn.map V.ref))) c2=some (.lst (ys.map V.str)):=(A0j (A0g (s12 _ _ hk10) c10).symm).trans ((A0j (A0g (s12 _ _ hl10) c10).symm).trans ec13);generalize upd (upd H13 ld (.lst (xs++[.ref lt]))) x0.kpl (.lst (ks.map V.ref++([]++kn.map V.ref)))=H15 at kxi15 k15 a15 hk15 hl15 e15 ec15
   have fr:∀b,H10 b=none->b∉kn->SS H (ks++kn) ld b:=λb hb hk=>by
    have nmb:NM ab x0 ld b:=a10.nm (x:=xo x0 nme (A6j (A1v axs es0 (ls++[(nme,ys,u)])))) hk10 hl10 hb;refine ⟨D1s (I.kx.trans kxi10) nmb hb,λz=>(Z07.mp z).elim (λz=> ?_) hk,nmb.2.2.2.2⟩;obtain ⟨nk,ys',e'⟩:=I.kl b z;have:=kxi10 b _ nk ys'.2 e';rw [hb] at this;cases this
   have knn:∀b,H12 b=none->b∉kn:=λb hb z=>by
    obtain ⟨ys',e'⟩:=(md.fk b z).2;rw [hb] at e';cases e'
   have lk':nod u<=200:=by omega
   have eE:es0++shs (ls++[(nme,ys,u)])=es0++shs ls++[(nme,ys)]:=by unfold shs;simp
   refine ⟨some (.int (i:Int)),some (.ref D),some (.ref p),some v,some (.ref kp),nme,xs++[.ref lt],ls++[(nme,ys,u)],ks++kn,rfl,⟨I.kx.trans kxi15,?_,hk15,hl15,λk hk=> ?_,by rw [Z06];omega,?_,?_,λe he=> ?_⟩,oknme⟩
   ·rw [eE,Z0s];exact a15
   ·rcases Z07.mp hk with hk | hk
    ·obtain ⟨nk,ys',e'⟩:=I.kl k hk;exact ⟨nk,ys',kxi15 _ _ nk ys'.2 e'⟩
    ·obtain ⟨h1,ys',e'⟩:=md.fk k hk;have nmb:NM ab x0 ld k:=a10.nm (x:=xo x0 nme (A6j (A1v axs es0 (ls++[(nme,ys,u)])))) hk10 hl10 (s11.free h1);exact ⟨nmb,ys',k15 _ _ nmb.2.2.2.2 nmb.2.2.2.1 e'⟩
   ·refine Paired.snoc ⟨lt,dt,c2,.ref o,(),rfl,A0l (fr lt (s12.free hlt) (knn lt hlt)) e15,True.intro,A0l (fr c2 (s12.free c10) (knn c2 c10)) ec15,md.ob.imp λb o' e=> ?_⟩ (Paired.mapP I.lt λ_ _ z=>z.ki λb u' n e=> ?_)
    ·obtain ⟨⟨nw,nk,nlb⟩,e'⟩:=A0k e;have nmb:=nwN b nw nlb;refine A0l ⟨nw,λz=>(Z07.mp z).elim nk λz=> ?_,nlb⟩ (kxi15 b u' nmb n e');have h1:=(md.fk b z).1;rw [s11 _ _ (kxi10 b u' nmb n e')] at h1;cases h1
    ·obtain ⟨⟨h1,h2⟩,h3⟩:=A0k e;have h10:=s11.free h1;have nmb:NM ab x0 ld b:=a10.nm (x:=xo x0 nme (A6j (A1v axs es0 (ls++[(nme,ys,u)])))) hk10 hl10 h10;exact A0l (fr b h10 h2) (k15 _ _ nmb.2.2.2.2 nmb.2.2.2.1 h3)
   ·rw [Z0s,I.nm,Z14,hnme];rfl
   ·rcases Z07.mp he with he | he
    ·exact I.ok e he
    ·rw [Z0w.mp he];exact ⟨axn,okt,by show dep u<=9;omega,lk'⟩
  rintro σ Hf ⟨o5,o6,o7,o8,o9,ow,xs,ls,ks,rfl,I,_⟩;have et:told.toNat=nm.length:=by omega
  rw [et] at I;exact ⟨_,rfl,k ld ow xs ls ks _ hld I⟩
end
def C2m (K:PySem.W.Frag):Sp:=λvs H Q _=>∃(a:Addr) (ns:List Int),vs=[.ref a]/\ScF K H a (ns.map V.int)/\ns.length<=63/\∀H',Q (.bl true) H'
theorem C0t {ys:List Str} {i:Nat} {x:Str} (h:ys[i]? =some x):atI (ys.map V.str) (i:Int)=some (.str x):=A1d (by rw [Z1z,h];rfl)
def D1z (H:Hp) (v:V) (e:Str×Int):Prop:=∃q,v= .ref q/\H q=some (.tup [.str e.1,.int e.2])
theorem C1g {H:Hp}:∀{xs:List V} {ax:List (Str×Int)},Paired (D1z H) xs ax->A3x H xs (ax.map A9q)
 | _,_,.nil=> .nil
 | _,_,.cons ⟨q,e1,e2⟩ t=>by rw [e1];exact .cons (.tup e2 (.cons (.str _) (.cons (.int _) .nil))) (C1g t)
def TbA (D:Addr) (H:Hp) (v:V) (e:Str×List Str):Prop:=∃q c,v= .ref q/\H q=some (.tup [.str e.1,.ref c])/\c≠D/\H c=some (.lst (e.2.map V.str))
theorem B6s {D:Addr} {H:Hp}:∀{xs:List V} {tb:List (Str×List Str)},Paired (TbA D H) xs tb->A3x H xs (tb.map B6g)
 | _,_,.nil=> .nil
 | _,_,.cons ⟨q,c,e1,e2,_,e3⟩ t=>by rw [e1];exact .cons (D1e e2 e3) (B6s t)
theorem B4j {α:Type} {f:α->Str} {ts:List α} {ns:List Str} {x:α} {i:Nat} (h:ts.map f=ns.take i) (e:ns[i]? =some (f x)):(ts++[x]).map f=ns.take (i+1):=by
 rw [Z0s,h,Z14,e];rfl
theorem A9s {ws:List (Key×V)} {ks:List Str} {n:Str} {v:V} (h:ws.map (·.1)=ks.map Sum.inr) (d:decide (n∈ks)=false):A4o ws (Sum.inr n) v=ws++[(Sum.inr n,v)]:=by
 refine A9y (λp hp z=> ?_) v;have m:p.1∈ks.map (Sum.inr:Str->Key):=by rw [<-h];exact Z2c.mpr ⟨p,hp,rfl⟩
 obtain ⟨y,hy,e⟩:=Z2c.mp m;rw [z] at e;injection e with e;subst e;rw [Z20 hy] at d;cases d
def ab5 (axl ahl shd:Addr):List (Key×V):=[(Sum.inr "axes",.ref axl),(Sum.inr "ahead",.ref ahl),(Sum.inr "shapes",.ref shd),(Sum.inr "own",.str ""),(Sum.inr "due",.str "by")]
theorem B9e (axl ahl shd:Addr):A2z [] (ab5 axl ahl shd)=ab5 axl ahl shd:=by
 show A4o (A4o (A4o (A4o (A4o [] (Sum.inr ("axes":Str):Key) (V.ref axl)) (Sum.inr ("ahead":Str)) (V.ref ahl)) (Sum.inr ("shapes":Str)) (V.ref shd)) (Sum.inr ("own":Str)) (V.str "")) (Sum.inr ("due":Str)) (V.str "by")=_;rw [A9s (ks:=[]) (n:="axes") rfl rfl];rw [A9s (ks:=["axes"]) (n:="ahead") rfl (by decide +kernel)];rw [A9s (ks:=["axes","ahead"]) (n:="shapes") rfl (by decide +kernel)];rw [A9s (ks:=["axes","ahead","shapes"]) (n:="own") rfl (by decide +kernel)];rw [A9s (ks:=["axes","ahead","shapes","own"]) (n:="due") rfl (by decide +kernel)];rfl
theorem ab6 (axl ahl shd:Addr) (wd:Bool):A4o (ab5 axl ahl shd) (Sum.inr ("wild":Str)) (V.bl wd)=ab5 axl ahl shd++[((Sum.inr ("wild":Str):Key),V.bl wd)]:=A9s (ks:=["axes","ahead","shapes","own","due"]) (n:="wild") rfl (by decide +kernel)
theorem ab7 (axl ahl shd all:Addr) (wd:Bool):A4o (ab5 axl ahl shd++[((Sum.inr ("wild":Str):Key),V.bl wd)]) (Sum.inr ("all":Str)) (V.ref all)=ab5 axl ahl shd++[((Sum.inr ("wild":Str):Key),V.bl wd)]++[((Sum.inr ("all":Str):Key),V.ref all)]:=A9s (ks:=["axes","ahead","shapes","own","due","wild"]) (n:="all") rfl (by decide +kernel)
theorem ab8 (axl ahl shd all kpl:Addr) (wd:Bool):A4o (ab5 axl ahl shd++[((Sum.inr ("wild":Str):Key),V.bl wd)]++[((Sum.inr ("all":Str):Key),V.ref all)]) (Sum.inr ("kept":Str)) (V.ref kpl)=abK ⟨axl,ahl,shd,"","by",wd,all,kpl⟩:=A9s (ks:=["axes","ahead","shapes","own","due","wild","all"]) (n:="kept") rfl (by decide +kernel)
theorem C2c {seed:Int} {nm:List Str} (l:nm.length<=26) (h:∀(j:Nat) (z:Str),nm[j]? =some z->NmD seed (j:Int) z):nm.Nodup:=by
 rw [List.Nodup,List.pairwise_iff_getElem];intro i j hi hj hij e;have h1:=h i _ (Z0b hi);have h2:=h j _ (Z0b hj);rw [<-e] at h2;have:=C6y (by omega) (by omega) (by omega) (by omega) h1 h2;omega
theorem B5f {p:Str->Prop} {ns:List Str} (nd:ns.Nodup) (h:∀x∈ns,p x):B1o p ns:=λi x e=>by
 refine ⟨h x (Z13 e),?_⟩;have:=C5k (a:=[]) (nm:=ns) nd e;exact this
section
variable {P:Program} {w:World} {K:PySem.W.Frag} {mg:Str->Option Value} {base:Heap} {t:Adr}
theorem D0a (T:Txt K mg t):A2f P w K mg base CX0 19 t.jt t.jp ["_law_script"] (C2m K):=by
 have G_Program_init:=B0v (P:=P) (w:=w) (base:=base) T;have G_l_axes:=B4k (P:=P) (w:=w) (base:=base) T;have G_l_cell:=A8m (P:=P) (w:=w) (base:=base) T;have G_l_got:=C2w (P:=P) (w:=w) (base:=base) T;have G_l_lets:=B9z (P:=P) (w:=w) (base:=base) T;have G_l_name:=B9m (P:=P) (w:=w) (base:=base) T;have G_l_under:=B7z (P:=P) (w:=w) (base:=base) T;refine T.jX.ok A3w (λvs H Q E h=> ?_) (λcdv A outer s H vs Q E hr h=> ?_)
 ·obtain ⟨a,ns,rfl,_⟩:=h;rfl
 ·obtain ⟨a,ns,rfl,hS,hn,k⟩:=h;have hu:=B1e hr
  refine ⟨_,(A0c (A0x (i:=1) A3w.nd rfl (Or.inr rfl) (A2x (N':=["_law_cell_here"]) (ix:=(List.replicate 1 none)) rfl (A2j rfl (by decide +kernel) (by decide +kernel)) (A2m rfl) (C4u rfl T.fV (A0a (A4e A6f (pv 0) A5e (A5d A0i)) A0e)) (λ_ _ _ _=>(A1a (i:=0) B7i rfl (Or.inl rfl) (Or.inr rfl))) (λ_ _ _ _=>(pv 0))))
   (A0c (A0x (i:=2) A3w.nd rfl (Or.inr rfl) (A0y A2a (A0p G_l_cell (hr.mono (by omega)) rfl T.aQ T.aG.kp T.aN .nil A1e (A0a (pv 1) A0e)) A0i))
   (A0c (A0x (i:=3) A3w.nd rfl (Or.inl rfl) (A0y A2a (A0p G_l_cell (hr.mono (by omega)) rfl T.aQ T.aG.kp T.aN .nil A1e (A0a (pv 1) A0e)) A0i))
   (A0c (A0x (i:=4) A3w.nd rfl (Or.inl rfl) (A0y A5k A0i (A0y A2o (A0y B1p (A0y A2a (A0p G_l_cell (hr.mono (by omega)) rfl T.aQ T.aG.kp T.aN .nil A1e (A0a (pv 1) A0e)) A0i) (A0y A2a (A0p G_l_cell (hr.mono (by omega)) rfl T.aQ T.aG.kp T.aN .nil A1e (A0a (pv 1) A0e)) A0i)) A0i)))
   (A0c (A0x (i:=5) A3w.nd rfl (Or.inr rfl) (A0p G_l_cell (hr.mono (by omega)) rfl T.aQ T.aG.kp T.aN .nil A1e (A0a (pv 1) A0e)))
   (A0c (A0x (i:=6) A3w.nd rfl (Or.inr rfl) (A2x (N':=["_law_k","_law_seed"]) (ix:=(List.replicate 1 none++[some 5])) rfl (A8l (x:="_law_seed") rfl rfl rfl (by decide +kernel) (by decide +kernel)) (A6s (N0:=["_law_k"]) rfl (Or.inl rfl) (by first | exact Or.inl rfl | exact Or.inr rfl | (simp [relabel];rfl) | (with_unfolding_all exact Or.inl rfl) | (with_unfolding_all exact Or.inr rfl) | (with_unfolding_all decide))) (A3k rfl T.bA (A0a (A0y A5k (A0y A5k (pv 2) (pv 3)) (pv 4)) A0e)) (λ_ _ _ _=>(A1a (i:=0) B7g rfl (Or.inl rfl) (Or.inr rfl))) (λ_ _ _ _=>(A0p G_l_name (hr.mono (by omega)) rfl T.ji T.iN.kp T.jr .nil A1e (A0a (pv 0) (A0a (pv 1) A0e))))))
   (A0c (A0x (i:=7) A3w.nd rfl (Or.inr rfl) (A2x (N':=["_law_k","_law_rest"]) (ix:=(List.replicate 1 none++[some 1])) rfl (A8l (x:="_law_rest") rfl rfl rfl (by decide +kernel) (by decide +kernel)) (A6s (N0:=["_law_k"]) rfl (Or.inl rfl) (by first | exact Or.inl rfl | exact Or.inr rfl | (simp [relabel];rfl) | (with_unfolding_all exact Or.inl rfl) | (with_unfolding_all exact Or.inr rfl) | (with_unfolding_all decide))) (A3k rfl T.bA (A0a A0i A0e)) (λ_ _ _ _=>(A1a (i:=0) B7q rfl (Or.inl rfl) (Or.inr rfl))) (λ_ _ _ _=>(A0p G_l_cell (hr.mono (by omega)) rfl T.aQ T.aG.kp T.aN .nil A1e (A0a (pv 1) A0e)))))
   (A0c (B5o (i₀:=8) (N':=["_law_k","_law_cells","_law_many","_law_names"]) (ix:=(List.replicate 1 none++[some 7,some 2,some 6])) A3w.nd rfl (Or.inl rfl) rfl (B0g (cl:=[("_law_names",_),("_law_many",_),("_law_cells",_)]) (xs:=["_law_names","_law_many","_law_cells"]) rfl ⟨rfl,rfl,rfl,trivial⟩ rfl rfl (by decide +kernel) (by decide +kernel)) (B0t (N0:=["_law_k"]) (xs:=["_law_cells","_law_many","_law_names"]) (js:=[7,2,6]) ⟨⟨rfl,Or.inl rfl,(by first | exact Or.inl rfl | exact Or.inr rfl | (simp [relabel];rfl) | (with_unfolding_all exact Or.inl rfl) | (with_unfolding_all exact Or.inr rfl) | (with_unfolding_all decide))⟩,⟨rfl,Or.inl rfl,(by first | exact Or.inl rfl | exact Or.inr rfl | (simp [relabel];rfl) | (with_unfolding_all exact Or.inl rfl) | (with_unfolding_all exact Or.inr rfl) | (with_unfolding_all decide))⟩,⟨rfl,Or.inl rfl,(by first | exact Or.inl rfl | exact Or.inr rfl | (simp [relabel];rfl) | (with_unfolding_all exact Or.inl rfl) | (with_unfolding_all exact Or.inr rfl) | (with_unfolding_all decide))⟩,trivial⟩) (A3k rfl T.bA (A0a (pv 3) A0e)) (λ_ _ _ _=>(A1a (i:=0) B8a rfl (Or.inl rfl) (Or.inr rfl))) (λ_ _ _ _=>(A4k (A0a (A1n (B0b (K:=K) rfl) (pv 3) (A0y A5k (pv 2) (pv 0)) (λ_ _=>rfl)) (A0a (A0p G_l_axes (hr.mono (by omega)) rfl T.iI T.gu.kp T.iw .nil A1e (A0a (A1n (B0b (K:=K) rfl) (pv 1) (pv 0) (λ_ _=>rfl)) (A0a (A4e (C4b (K:=K) rfl) (pv 3) A5e (A5d (pv 2))) A0e))) A0e)))))
   (A0c (A0x (i:=9) A3w.nd rfl (Or.inl rfl) (C6g (A8o A0r (A4e A6f (pv 6) A5e (A5d (pv 2))) (A8o A0r (A2x (N':=["_law_pair"]) (ix:=(List.replicate 1 none)) rfl (A2j rfl (by decide +kernel) (by decide +kernel)) (A2m rfl) (A3e (pv 8)) (λ_ _ _ _=>(A1a (i:=0) B7r rfl (Or.inl rfl) (Or.inr rfl))) (λ_ _ _ _=>(A1n (C7j (K:=K) rfl) (pv 0) A0i (λ_ _=>rfl)))) (A8o A0r B7c (A8o A0r A0r (A8o A0r A0r C7f))))) rfl rfl (by simp) (by decide)))
   (A0c (A5c hu (pv 9) A0r (A7r A2s (A0y A2a (A0u A1b (by rfl) T.aW Z0r (A0a (pv 0) A0e)) A0i) A0i (A1c _)) rfl)
   (A0c (A5c hu (pv 9) A0r (A0y A5g (pv 6) (A2r (A0a A0r (A0a A0r A0e)))) rfl)
   (A0c (A5c hu (pv 9) A0r (A2r A0e) rfl)
   (A0c (A4n PassesOwn.never rfl (A3e (pv 8)) (A8e (n:=2) rfl (A2c (A1a (i:=10) A3w.nd rfl (Or.inl rfl) (Or.inl rfl)) (A2c (A1a (i:=11) A3w.nd rfl (Or.inl rfl) (Or.inl rfl)) A5z)))
    (A0f (A5c hu (A1p hu (pv 9) A0r (λ_ _=>rfl)) (pv 10) (A3l A3y (by rfl) T.dF Z1o (A0a (pv 11) A0e)) rfl)))
   (A0c (A0x (i:=12) A3w.nd rfl (Or.inl rfl) (A0p G_l_lets (hr.mono (by omega)) rfl T.jm T.iO.kp T.jy .nil A1e (A0a (pv 0) (A0a (pv 9) (A0a (A4e A6f (pv 6) (A5d (A0y A5k (pv 2) (pv 3))) A5e) (A0a (pv 4) A0e))))))
   (A0c (B5o (i₀:=11) (N':=["_law_k","_law_names","_law_seed"]) (ix:=(List.replicate 1 none++[some 6,some 5])) A3w.nd rfl (Or.inl rfl) rfl (B0g (cl:=[("_law_seed",_),("_law_names",_)]) (xs:=["_law_seed","_law_names"]) rfl ⟨rfl,rfl,trivial⟩ rfl rfl (by decide +kernel) (by decide +kernel)) (B0t (N0:=["_law_k"]) (xs:=["_law_names","_law_seed"]) (js:=[6,5]) ⟨⟨rfl,Or.inl rfl,(by first | exact Or.inl rfl | exact Or.inr rfl | (simp [relabel];rfl) | (with_unfolding_all exact Or.inl rfl) | (with_unfolding_all exact Or.inr rfl) | (with_unfolding_all decide))⟩,⟨rfl,Or.inl rfl,(by first | exact Or.inl rfl | exact Or.inr rfl | (simp [relabel];rfl) | (with_unfolding_all exact Or.inl rfl) | (with_unfolding_all exact Or.inr rfl) | (with_unfolding_all decide))⟩,trivial⟩) (A3k rfl T.bA (A0a (pv 2) A0e)) (λ_ _ _ _=>(A1a (i:=0) B8i rfl (Or.inl rfl) (Or.inr rfl))) (λ_ _ _ _=>(A4k (A0a (A1n (B0b (K:=K) rfl) (pv 1) (pv 0) (λ_ _=>rfl)) (A0a (A0y A5k A0i (A0y A2a (A0y A5k (A0y A2o (pv 2) A0i) (A0y B1p (pv 0) (pv 0))) A0i)) A0e)))))
   (A0c (A0x (i:=13) A3w.nd rfl (Or.inl rfl) (A2r (A0a (A1n A4s (pv 6) (pv 2) (λ_ _=>rfl)) A0e)))
   (A0c (A0x (i:=14) A3w.nd rfl (Or.inl rfl) (A2w T.iY G_Program_init (hr.mono (by omega)) rfl T.j8 T.fX .nil A1e (A0a (A0y A5k A0i (A0y A2a (pv 5) (A0y A9o A0i A0i))) (A0a (pv 11) (A0a (pv 8) (A0a (pv 12) (A0a (pv 13) A0e)))))))
   (A0c (A1f (A0s B1d (A0p G_l_got (hr.mono (by omega)) rfl T.ib T.fR.kp T.gZ .nil A1e (A0a (pv 14) (A0a A5o A0e))) (A1p hu (pv 9) A0r (λ_ _=>rfl)) (A1c _))
    (A0f (A0v A5o))
    A0n)
   (A0c (A4n PassesOwn.never rfl (A3e (A0y A5g (A1p hu (pv 9) A0r (λ_ _=>rfl)) (A2r (A0a (pv 11) (A0a (pv 8) (A0a (pv 12) (A0a (pv 13) A0e))))))) (A1a (i:=15) A3w.nd rfl (Or.inl rfl) (Or.inl rfl))
    (A0f (A2k (B9l Z0k PySem.F.slot_list_clear PySem.F.type_list_clear C3r (pv 15)))))
   (A0c (A1f (A0s B1d (A0p G_l_got (hr.mono (by omega)) rfl T.ib T.fR.kp T.gZ .nil A1e (A0a (pv 14) (A0a A5o A0e))) (A1p hu (pv 9) A0r (λ_ _=>rfl)) (A1c _))
    (A0f (A0v A5o))
    A0n)
   (A0f (A0v (D0w (A7r A2s (A1p hu (pv 9) A0r (λ_ _=>rfl)) A0r (A1c _)) (B0x (B0k (A7r A2s (A0p G_l_got (hr.mono (by omega)) rfl T.ib T.fR.kp T.gZ .nil A1e (A0a (pv 14) (A0a A5o A0e))) (A1p hu (pv 9) A0r (λ_ _=>rfl)) (A1c _)) (B0x (A0p G_l_under (hr.mono (by omega)) rfl T.j9 T.gQ.kp T.jf .nil A1e (A0a (pv 14) A0e)))))))))))))))))))))))))))),?_⟩
  obtain ⟨zs,ez,lz,_⟩:=B5s V.int ns none (some 8);refine ⟨_,rfl,_,rfl,a,_,rfl,hS.sq,λp0 hp0=> ?_⟩;rw [ez];have sp0:=A0d (o:= .lst (zs.map V.int)) hp0;refine ⟨p0,_,rfl,SqL.of A0b,λr hr0=> ?_⟩;have pD:p0≠r:=λz=>by subst z;rw [A0b] at hr0;cases hr0
  have rH:H r=none:=sp0.free hr0;refine A3d (D:=r) (zs.map V.int).length (λi ys H2=>A0w H H2/\H2 p0=some (.lst (zs.map V.int))/\H2 r=some (.lst ys)/\∃ms:List Int,ys=ms.map V.int/\ms.length=i) ⟨sp0.trans (A0d hr0),by rw [A0j pD];exact A0b,A0b,[],rfl,rfl⟩ (λi ys H2 hi ⟨_,h,_⟩=> ?_) (λys H2 _=>rfl) ?_ ?_
  ·exact ⟨_,(zs.map V.int)[(zs.map V.int).length-1-i],SqL.of h,rfl,hi,Z0b (by omega)⟩
  ·rintro i ys H2 hi ⟨sa,h,hD2,ms,rfl,hms⟩ x H3 ⟨rfl,hx⟩;have hx:=hx _ (SqL.of h);rw [Z1z] at hx;obtain ⟨z,_,rfl⟩:=Z0i.mp hx;refine ⟨True.intro,_,rfl,hD2,A1h (by simp at hi⊢;omega),A0t sa rH,by rw [A0j pD];exact h,A0b,ms++[z],by simp,by simp [hms]⟩
  rintro ys H2 ⟨s2,_,h2,ms,rfl,hms⟩;refine ⟨_,rfl,r,ms,rfl,h2,λi1 ms1 H3 l3 h3 o3 e3=>⟨_,_,rfl,rfl,(by show (0:Int)<9;decide),?_⟩⟩;refine ⟨_,rfl,r,ms1,rfl,h3,λi2 ms2 H4 l4 h4 o4 e4=>⟨_,_,rfl,rfl,(by show (0:Int)<4;decide),?_⟩⟩;refine ⟨_,rfl,r,ms2,rfl,h4,λi3 ms3 H5 l5 h5 o5 e5=>⟨_,_,rfl,rfl,(by show (0:Int)<8;decide),?_⟩⟩;refine ⟨_,rfl,r,ms3,rfl,h5,λi4 ms4 H6 l6 h6 o6 e6=>⟨_,_,rfl,rfl,(by show (0:Int)<3;decide),?_⟩⟩;refine ⟨_,_,rfl,rfl,.inl ⟨by omega,by omega⟩,_,_,rfl,rfl,⟨by decide,by decide⟩,_,_,rfl,rfl,?_⟩;refine ⟨_,rfl,r,ms4,rfl,h6,λseed ms5 H7 l7 h7 o7 e7=> ?_⟩;have ki7:KI H H7:=(KI.of s2).trans ((A4q h2 o3 e3).trans ((A4q h3 o4 e4).trans ((A4q h4 o5 e5).trans ((A4q h5 o6 e6).trans (A4q h6 o7 e7)))));obtain ⟨m,em,m9⟩:∃m:Nat,i1%9=(m:Int)/\m<=8:=⟨(i1%9).toNat,by omega,by omega⟩;obtain ⟨tn,et,t4⟩:∃m:Nat,i2%4=(m:Int)/\m<=3:=⟨(i2%4).toNat,by omega,by omega⟩
  obtain ⟨un,eu,u1,u8⟩:∃m:Nat,1+i3%8*(i4%3)/2=(m:Int)/\1<=m/\m<=8:=by
   have h1:i4%3=0\/i4%3=1\/i4%3=2:=by omega
   have h2:0<=i3%8/\i3%8<8:=by omega
   have h3:0<=i3%8*(i4%3)/\i3%8*(i4%3)<=14:=by
    rcases h1 with z | z | z <;> rw [z] <;> omega
   generalize i3%8*(i4%3)=q at h3;exact ⟨(1+q/2).toNat,by omega,by omega,by omega⟩
  dsimp only;rw [em,et,eu];clear em et eu h2 h3 h4 h5 h6 o3 o4 o5 o6 o7 e3 e4 e5 e6 e7 l3 l4 l5 l6 l7 s2 pD sp0 hr0;refine ⟨_,rfl,_,rfl,_,_,rfl,rfl,_,rfl,_,_,rfl,rfl,_,rfl,by omega,by omega,λN hN=> ?_⟩;refine A3d (D:=N) ((m:Int)+tn+un).toNat (λi ys H8=>A0w H7 H8/\H8 N=some (.lst ys)/\∃zs:List Str,ys=zs.map V.str/\zs.length=i/\∀(j:Nat) (z:Str),zs[j]? =some z->NmD seed (j:Int) z) ⟨A0d hN,A0b,[],rfl,rfl,by intro j z hz;simp at hz⟩ (λi ys H8 hi _=>hi) (λys H8 _=>Z09 _) ?_ ?_
  ·rintro i ys H8 hi ⟨s8,h8,zs,rfl,hz,oz⟩ x H9 ⟨rfl,rfl⟩;refine ⟨⟨rfl,True.intro⟩,_,rfl,_,rfl,_,_,rfl,λz H10 nz s10=> ?_⟩;rw [Int.zero_add] at nz;refine ⟨s10 _ _ h8,A1h (by simp;omega),A0t (s8.trans s10) hN,A0b,zs++[z],by simp,by simp [hz],λj y hy=> ?_⟩;by_cases hj:j<zs.length
   ·rw [Z26 hj] at hy;exact oz j y hy
   ·have hj2:j<(zs++[z]).length:=(Z03.mp hy).1;rw [Z06,Z0j] at hj2;have ej:j=zs.length:=by omega
    subst ej;rw [Z1l (Z09 _),Nat.sub_self] at hy;cases hy;rw [hz];exact nz
  rintro ys H8 ⟨s8,h8N,nm,rfl,hnl,onm⟩;have hnl:nm.length=m+tn+un:=by omega
  have ndn:=C2c (by omega) onm
  have okn:∀z∈nm,nmB z=true/\OkX z:=λz hz=>by
   obtain ⟨j,hj⟩:=List.getElem?_of_mem hz;exact C9z (onm j z hj)
  have h8r:=s8 _ _ h7;have ki8:=ki7.trans (KI.of s8);clear s8 h7 ki7 hN;refine ⟨_,rfl,by decide,by decide,λC hC=> ?_⟩;have rC:r≠C:=A0g h8r hC;have NC:N≠C:=A0g h8N hC;refine A3d (D:=C) 3 (λi ys G=>KI H8 G/\(∃ms:List Int,G r=some (.lst (ms.map V.int)))/\G C=some (.lst ys)/\∃cs:List Int,ys=cs.map V.int/\cs.length=i) ⟨KI.of (A0d hC),⟨ms5,(A0j rC).trans h8r⟩,A0b,[],rfl,rfl⟩ (λi ys G hi _=>hi) (λys G _=>Z09 _) ?_ ?_
  ·rintro i ys G hi ⟨kG,⟨ms,hr'⟩,hCG,cs,rfl,lc⟩ x G1 ⟨rfl,rfl⟩;refine ⟨⟨rfl,True.intro⟩,_,rfl,r,ms,rfl,hr',λc ms1 G2 l2 h2 o2 e2=> ?_⟩;have hC2:G2 C=some (.lst (cs.map V.int)):=by rw [o2 C rC.symm];exact hCG
   refine ⟨hC2,A1h (by rw [Z08];omega),(kG.trans (A4q hr' o2 e2)).fresh hC,⟨ms1,(A0j rC).trans h2⟩,A0b,cs++[c],by simp,by simp [lc]⟩
  rintro ys G1 ⟨kG1,_,hC1,cs,rfl,lc⟩;have k1:=ki8.trans kG1;have hN1:=kG1.str h8N;clear kG1 ki8 h8r h8N hC;refine ⟨_,rfl,_,rfl,by omega,by omega,λTL hTL=> ?_⟩;refine A3d (D:=TL) (tn:Int).toNat (λi ys G2=>A0w G1 G2/\G2 TL=some (.lst ys)/\∃tb:List (Str×List Str),tb.map (·.1)=(nm.drop m).take i/\(∀e∈tb,AxN (nm.take m) e.2)/\Paired (TbA TL G2) ys tb) ⟨A0d hTL,A0b,[],rfl,(by intro e he;cases he),.nil⟩ (λi ys G2 hi _=>hi) (λys G2 _=>Z09 _) ?_ ?_
  ·rintro i ys G3 hi ⟨sG,h2,tb,hx,ha,px⟩ x G2 ⟨rfl,rfl⟩;have hi':m+i<nm.length:=by omega
   have hxi:nm[m+i]? =some nm[m+i]:=Z0b hi';have hci:cs[i]? =some (cs[i]'(by omega)):=Z0b (by omega);have lys:=Paired.length px
   have ltb:tb.length<=i:=by
    have:=congrArg List.length hx;rw [Z08,Z0x] at this;omega
   have at1:atI (nm.map V.str) ((m:Int)+(0+(i:Int)))=some (.str nm[m+i]):=by
    rw [show (m:Int)+(0+(i:Int))=((m+i:Nat):Int) by omega];exact C0t hxi
   have at2:atI (cs.map V.int) (0+(i:Int))=some (.int (cs[i]'(by omega))):=by
    rw [Int.zero_add];exact A1d (by rw [Z1z,hci];rfl)
   refine ⟨⟨rfl,rfl,rfl,True.intro⟩,_,rfl,_,rfl,_,rfl,_,_,rfl,rfl,N,_,_,_,rfl,rfl,SqL.of (sG _ _ hN1),at1,?_⟩;refine ⟨_,rfl,_,rfl,C,_,_,_,rfl,rfl,SqL.of (sG _ _ hC1),at2,_,rfl,_,rfl,_,rfl,N,_,rfl,SqL.of (sG _ _ hN1),λp3 hp3=> ?_⟩;rw [A8v (by omega)];have s3:A0w G2 (upd G2 p3 (.lst ((nm.take m).map V.str))):=A0d hp3;refine ⟨_,p3,nm.take m,rfl,A0b,by rw [Z0x];omega,(List.take_sublist m nm).nodup ndn,λys' c G4 hc s4 h4 axn=>⟨A0h (by simp),λq hq=> ?_⟩⟩;have s34:=s3.trans s4;have sq:=A0d (o:= .tup [.str nm[m+i],.ref c]) hq;have ss:=s34.trans sq;have nc:c≠TL:=(A0g (s3 _ _ h2) hc).symm;have nq:q≠TL:=(A0g (s34 _ _ h2) hq).symm;refine ⟨ss _ _ h2,A1h (by omega),A0t (sG.trans ss) hTL,A0b,tb++[(nm[m+i],ys')],B4j hx (by rw [List.getElem?_drop];exact hxi),λe he=> ?_,Paired.snoc ⟨q,c,rfl,by rw [A0j nq];exact A0b,nc,by rw [A0j nc];exact sq _ _ h4⟩ (Paired.mapP px λ_ _ ⟨b,d,e1,e2,e3,e4⟩=>⟨b,d,e1,?_,e3,?_⟩)⟩
   ·rcases Z07.mp he with he | he
    ·exact ha e he
    ·rw [Z0w.mp he];exact axn
   ·rw [A0j (A1l e2 h2 (by intro z;cases z))];exact ss _ _ e2
   ·rw [A0j e3];exact ss _ _ e4
  rintro tvs G2 ⟨s2,h2T,tb,htb,hta,ptb⟩;have tn0:(tn:Int).toNat=tn:=by omega
  rw [tn0] at htb
  have ltb:tb.length=tn:=by
   have:=congrArg List.length htb;rw [Z08,Z0x,Z19] at this;omega
  have ltv:=Paired.length ptb;have k2:=k1.trans (KI.of s2);have hN2:=s2 _ _ hN1;clear s2 k1 hN1 hC1 hTL;have sc2:ScF K G2 a (ns.map V.int):=hS.keep λo e=>k2 _ _ (by intro n xs z;cases z) e;clear k2;refine λab hab=> ?_;have y0:A0w G2 (upd G2 ab (.dK [])):=A0d hab;have hab0:upd G2 ab (.dK []) ab=some (.dK []):=A0b;generalize upd G2 ab (.dK [])=Ga at y0 hab0;refine ⟨_,rfl,_,rfl,_,rfl,N,_,rfl,SqL.of (y0 _ _ hN2),λaxl haxl=> ?_⟩;rw [A8v (by omega)];have y1:A0w Ga (upd Ga axl (.lst ((nm.take m).map V.str))):=A0d haxl;have hax1:upd Ga axl (.lst ((nm.take m).map V.str)) axl=some (.lst ((nm.take m).map V.str)):=A0b;generalize upd Ga axl (.lst ((nm.take m).map V.str))=G3 at y1 hax1;have y01:=y0.trans y1;refine ⟨_,rfl,TL,rfl,⟨_,SqL.of (y01 _ _ h2T)⟩,λAH hAH=> ?_⟩;refine A4g (K:=K) (a:=TL) (D:=AH) (xs:=tvs) (λi ys G=>A0w G3 G/\G AH=some (.lst ys)/\ys=((tb.take i).map λ(e:Str×List Str)=>e.1).map V.str) ⟨A0d hAH,A0b,rfl⟩ (λi ys G ⟨sG,_⟩=>SqL.of (sG _ _ (y01 _ _ h2T))) ?_ ?_
  ·rintro i y ys G hy ⟨sG,hG,rfl⟩;obtain ⟨e,he,q,c,rfl,eq,nc,ec⟩:=B9a ptb hy;have hi:=(Z03.mp hy).1;have e0:atI [V.str e.1,V.ref c] 0=some (.str e.1):=A1d (j:=0) rfl;refine ⟨True.intro,_,rfl,q,_,_,_,rfl,rfl,SqT.of (sG _ _ (y01 _ _ eq)),e0,hG,A1h (by rw [Z08,Z08,Z0x];omega),A0t sG hAH,A0b,?_⟩;rw [Z14,he,Option.toList_some,Z0s,Z0s];rfl
  rintro ys G4 ⟨y2,hah4,rfl⟩;rw [ltv,Z18] at hah4;refine λshd hshd=> ?_;have y3:A0w G4 (upd G4 shd (.dK [])):=A0d hshd;have hsh5:upd G4 shd (.dK []) shd=some (.dK []):=A0b;have shab:shd≠ab:=(A0g (y2 _ _ (y1 _ _ hab0)) hshd).symm;have shG:G2 shd=none:=y01.free (y2.free hshd);have ahG:G2 AH=none:=y01.free hAH;generalize upd G4 shd (.dK [])=G5 at y3 hsh5;have y23:=y2.trans y3;have hab5:=y23 _ _ (y1 _ _ hab0);refine ⟨hab5,ab5 axl AH shd,rfl,by show 5<=15;decide,?_⟩;rw [B9e];have S6:A0w G2 (upd G5 ab (.dK (ab5 axl AH shd))):=A0t (y01.trans y23) hab;have hab6:upd G5 ab (.dK (ab5 axl AH shd)) ab=some (.dK (ab5 axl AH shd)):=A0b;have hax6:upd G5 ab (.dK (ab5 axl AH shd)) axl=some (.lst ((nm.take m).map V.str)):=(A0j (A1l (y23 _ _ hax1) hab5 (by intro z;cases z))).trans (y23 _ _ hax1);have hah6:upd G5 ab (.dK (ab5 axl AH shd)) AH=some (.lst ((tb.map λ(e:Str×List Str)=>e.1).map V.str)):=(A0j (A1l (y3 _ _ hah4) hab5 (by intro z;cases z))).trans (y3 _ _ hah4);have hsh6:upd G5 ab (.dK (ab5 axl AH shd)) shd=some (.dK []):=(A0j shab).trans hsh5;have axah:axl≠AH:=A0g hax1 hAH;generalize upd G5 ab (.dK (ab5 axl AH shd))=G6 at S6 hab6 hax6 hah6 hsh6;clear hab5 y23 hsh5 y3 hah4 y2 hax1 y01 y1 hab0 y0 hshd hAH haxl;have sc6:ScF K G6 a (ns.map V.int):=sc2.keep λo e=>S6 _ _ e;refine ⟨_,rfl,a,_,rfl,.inl sc6.sq,_,_,rfl,rfl,(by show (0:Int)<2;decide),rfl,_,rfl,ab,_,rfl,B6v.k (k:=Sum.inr ("wild":Str)) hab6 (A1h (by show 5<=1000000;decide)),?_⟩;dsimp only;generalize decide (V.int (((ns.map V.int).length:Int)%2)=V.int 1)=wd;rw [ab6];have S7:A0w G2 (upd G6 ab (.dK (ab5 axl AH shd++[((Sum.inr ("wild":Str):Key),V.bl wd)]))):=A0t S6 hab;have hab7:upd G6 ab (.dK (ab5 axl AH shd++[((Sum.inr ("wild":Str):Key),V.bl wd)])) ab=some (.dK (ab5 axl AH shd++[((Sum.inr ("wild":Str):Key),V.bl wd)])):=A0b;have kb7:KB ab G6 (upd G6 ab (.dK (ab5 axl AH shd++[((Sum.inr ("wild":Str):Key),V.bl wd)]))):=KB.refl.upd;generalize upd G6 ab (.dK (ab5 axl AH shd++[((Sum.inr ("wild":Str):Key),V.bl wd)]))=G7 at S7 hab7 kb7;refine ⟨_,rfl,A0h (by simp),λzl hzl=> ?_⟩;have z1:A0w G7 (upd G7 zl (.lst [.str "zz",.str "y"])):=A0d hzl;have hz1:upd G7 zl (.lst [.str "zz",.str "y"]) zl=some (.lst [.str "zz",.str "y"]):=A0b;generalize upd G7 zl (.lst [.str "zz",.str "y"])=G8 at z1 hz1;refine ⟨N,zl,_,_,rfl,rfl,z1 _ _ (S7 _ _ hN2),hz1,A0h (by rw [Z08];show nm.length+2<=1000000;omega),λall hall=> ?_⟩;have z2:A0w G8 (upd G8 all (.lst (nm.map V.str++[.str "zz",.str "y"]))):=A0d hall;have hal9:upd G8 all (.lst (nm.map V.str++[.str "zz",.str "y"])) all=some (.lst ((nm++(["zz","y"]:List Str)).map V.str)):=by rw [A0b,Z0s];rfl
  generalize upd G8 all (.lst (nm.map V.str++[.str "zz",.str "y"]))=G9 at z2 hal9;have z12:=z1.trans z2;have hab9:=z12 _ _ hab7;refine ⟨_,rfl,ab,_,rfl,B6v.k (k:=Sum.inr ("all":Str)) hab9 (A1h (by show 6<=1000000;decide)),?_⟩;rw [ab7];have SA:A0w G2 (upd G9 ab (.dK (ab5 axl AH shd++[((Sum.inr ("wild":Str):Key),V.bl wd)]++[((Sum.inr ("all":Str):Key),V.ref all)]))):=A0t (S7.trans z12) hab;have habA:upd G9 ab (.dK (ab5 axl AH shd++[((Sum.inr ("wild":Str):Key),V.bl wd)]++[((Sum.inr ("all":Str):Key),V.ref all)])) ab=some (.dK (ab5 axl AH shd++[((Sum.inr ("wild":Str):Key),V.bl wd)]++[((Sum.inr ("all":Str):Key),V.ref all)])):=A0b;have kbA:KB ab G9 (upd G9 ab (.dK (ab5 axl AH shd++[((Sum.inr ("wild":Str):Key),V.bl wd)]++[((Sum.inr ("all":Str):Key),V.ref all)]))):=KB.refl.upd;generalize upd G9 ab (.dK (ab5 axl AH shd++[((Sum.inr ("wild":Str):Key),V.bl wd)]++[((Sum.inr ("all":Str):Key),V.ref all)]))=GA at SA habA kbA;refine ⟨A0h (by simp),λkpl hkpl=> ?_⟩;have z3:A0w GA (upd GA kpl (.lst [])):=A0d hkpl;have hkB:upd GA kpl (.lst []) kpl=some (.lst []):=A0b;generalize upd GA kpl (.lst [])=GB at z3 hkB;have habB:=z3 _ _ habA;refine ⟨_,rfl,ab,_,rfl,B6v.k (k:=Sum.inr ("kept":Str)) habB (A1h (by show 7<=1000000;decide)),?_⟩;rw [ab8];have kb6A:KB ab G6 GA:=kb7.trans ((KB.of z12).trans kbA);have axA:=kb6A _ _ (A1l hax6 hab6 (by intro z;cases z)) hax6;have ahA:=kb6A _ _ (A1l hah6 hab6 (by intro z;cases z)) hah6;have shA:=kb6A _ _ shab hsh6;have alA:=kbA _ _ (A1l hal9 hab9 (by intro z;cases z)) hal9;have axal:all≠AH:=(A0g (z1 _ _ (kb7 _ _ (A1l hah6 hab6 (by intro z;cases z)) hah6)) hall).symm;have kpG:G2 kpl=none:=SA.free hkpl;have axkp:axl≠kpl:=A0g axA hkpl;have ahkp:AH≠kpl:=A0g ahA hkpl;have alkp:all≠kpl:=A0g alA hkpl;generalize hX:(⟨axl,AH,shd,"","by",wd,all,kpl⟩:Ab)=X;have X1:X.axl=axl:=by rw [<-hX]
  have X2:X.ahl=AH:=by rw [<-hX]
  have X3:X.shd=shd:=by rw [<-hX]
  have X4:X.all=all:=by rw [<-hX]
  have X5:X.kpl=kpl:=by rw [<-hX]
  have X6:X.own="":=by rw [<-hX]
  have X7:X.due="by":=by rw [<-hX]
  have SC:A0w G2 (upd GB ab (.dK (abK X))):=A0t (SA.trans z3) hab;have habC:upd GB ab (.dK (abK X)) ab=some (.dK (abK X)):=A0b;have kbC:KB ab GA (upd GB ab (.dK (abK X))):=(KB.of z3).upd;have kpC:upd GB ab (.dK (abK X)) kpl=some (.lst []):=(A0j (A1l hkB habB (by intro z;cases z))).trans hkB;have axC:=kbC _ _ (A1l axA habA (by intro z;cases z)) axA;have ahC:=kbC _ _ (A1l ahA habA (by intro z;cases z)) ahA;have shC:=kbC _ _ shab shA;have alC:=kbC _ _ (A1l alA habA (by intro z;cases z)) alA;generalize upd GB ab (.dK (abK X))=GC at SC habC kbC kpC axC ahC shC alC;clear kbC z3 kb6A axA ahA shA alA habB hkB hkpl kbA SA habA z12 z1 z2 hal9 hab9 hall hzl hz1 S7 hab7 kb7 S6 hab6 hax6 hah6 hsh6 sc6
  have ndt:(tb.map λ(e:Str×List Str)=>e.1).Nodup:=by
   rw [show (tb.map λ(e:Str×List Str)=>e.1)=(nm.drop m).take tn from htb];exact (List.take_sublist _ _).nodup ((List.drop_sublist _ _).nodup ndn)
  refine ⟨_,rfl,TL,rfl,⟨_,SqL.of (SC _ _ h2T)⟩,?_⟩
  refine A3r (K:=K) (a:=TL) (xs:=tvs) (λi σ G=>∃(o10 o11:Option V) (sk:List (Key×V)),σ=[some (.ref a),some (.ref r),some (.int m),some (.int tn),some (.int un),some (.int seed),some (.ref N),some (.ref C),some (.ref TL),some (.ref ab),o10,o11,none,none,none,none]/\KB shd GC G/\G shd=some (.dK sk)/\B2j (λb=>GC b=none) G sk (tb.take i))
   ⟨none,none,[],rfl,KB.refl,shC,.nil⟩ (λi σ G _ ⟨_,_,_,_,kb,_⟩=>SqL.of (kb _ _ (A0g h2T shG) (SC _ _ h2T))) ?_ ?_
  ·rintro i y σ G hy ⟨o10,o11,sk,rfl,kb,hsk,pk⟩;obtain ⟨e,he,q,c,rfl,eq,nc,ec⟩:=B9a ptb hy;have hi:=(Z03.mp hy).1;have lsk:=Paired.length pk;rw [Z0x] at lsk;have K2:∀{b:Addr} {u:HO},G2 b=some u->G b=some u:=λ{b u} z=>kb _ _ (A0g z shG) (SC _ _ z);refine ⟨q,_,rfl,SqT.of (K2 eq),rfl,_,_,rfl,_,_,rfl,rfl,?_⟩;refine ⟨_,rfl,c,_,rfl,.inl (SqL.of (K2 ec)),λl hl=> ?_⟩;have sl:A0w G (upd G l (.lst (e.2.map V.str))):=A0d hl;have hll:upd G l (.lst (e.2.map V.str)) l=some (.lst (e.2.map V.str)):=A0b
   have lGC:GC l=none:=by
    cases hq:GC l with
    | none=>rfl
    | some o =>
     have:G l=some o:=kb _ _ (A0g hsk hl).symm hq;rw [hl] at this;cases this
   generalize upd G l (.lst (e.2.map V.str))=Gn at sl hll;have habn:Gn ab=some (.dK (abK X)):=sl _ _ (kb _ _ shab.symm habC);have gs:=A4r X;rw [X3] at gs;refine ⟨_,rfl,ab,_,rfl,.inl ⟨_,Sum.inr "shapes",.inl habn,rfl,gs.symm⟩,_,rfl,shd,_,rfl,B6v.k (k:=Sum.inr e.1) (sl _ _ hsk) (A1h (by omega)),?_⟩
   have hnin:e.1∉(tb.take i).map (λ(e:Str×List Str)=>e.1):=by
    have:=C5k (a:=[]) (nm:=tb.map λ(e:Str×List Str)=>e.1) (i:=i) (y:=e.1) ndt (by rw [Z1z,he];rfl);rw [<-List.map_take] at this;exact this
   refine ⟨_,_,_,rfl,(kb.trans (KB.of sl)).upd,A0b,?_⟩;rw [Z14,he,Option.toList_some];rw [A9y (λq hq z=> ?_)]
   ·exact Paired.snoc ⟨rfl,l,rfl,lGC,(A0j (A1l hll (sl _ _ hsk) (by intro z;cases z))).trans hll⟩ (Paired.mapP pk λ_ _ ⟨z1,b,z2,z3,z4⟩=>⟨z1,b,z2,z3,(A0j (A1l (sl _ _ z4) (sl _ _ hsk) (by intro z;cases z))).trans (sl _ _ z4)⟩)
   ·obtain ⟨e',he',z1,_⟩:=B0d pk q hq;rw [z1] at z;injection z with z;exact hnin (z▸Z2c.mpr ⟨e',he',rfl⟩)
  rintro σ GD ⟨o10,o11,sk,rfl,kbD,skD,pkD⟩;rw [ltv,Z18] at pkD;have KD:∀{b:Addr} {u:HO},G2 b=some u->GD b=some u:=λ{b u} z=>kbD _ _ (A0g z shG) (SC _ _ z);refine ⟨_,rfl,_,rfl,_,rfl,_,rfl,_,rfl,_,_,rfl,rfl,_,rfl,N,_,rfl,SqL.of (KD hN2),λnl hnl=> ?_⟩
  have ecut:C0z (nm.map V.str) (some ((m:Int)+(tn:Int))) none=(nm.drop (m+tn)).map V.str:=by
   rw [show (m:Int)+(tn:Int)=((m+tn:Nat):Int) by omega];exact C3u (by omega)
  rw [ecut];have sE:A0w GD (upd GD nl (.lst ((nm.drop (m+tn)).map V.str))):=A0d hnl;have hnE:upd GD nl (.lst ((nm.drop (m+tn)).map V.str)) nl=some (.lst ((nm.drop (m+tn)).map V.str)):=A0b;generalize upd GD nl (.lst ((nm.drop (m+tn)).map V.str))=GE at sE hnE;have axE:=sE _ _ (kbD _ _ (A1l axC shC (by intro z;cases z)) axC);have ahE:=sE _ _ (kbD _ _ (A1l ahC shC (by intro z;cases z)) ahC);have alE:=sE _ _ (kbD _ _ (A1l alC shC (by intro z;cases z)) alC);have kpE:=sE _ _ (kbD _ _ (A1l kpC shC (by intro z;cases z)) kpC);have abE:=sE _ _ (kbD _ _ shab.symm habC);have skE:=sE _ _ skD;have KE:∀{b:Addr} {u:HO},G2 b=some u->GE b=some u:=λz=>sE _ _ (KD z);have scE:ScF K GE a (ns.map V.int):=sc2.keep λo e=>KE e;have okz:OkX "zz":=A7m (by decide +kernel);have oky:OkX "y":=A7m (by decide +kernel)
  have ekey:(tb.map λ(e:Str×List Str)=>e.1)++nm.drop (m+tn)=nm.drop m:=by
   rw [show (tb.map λ(e:Str×List Str)=>e.1)=(nm.drop m).take tn from htb,<-List.drop_drop,Z2e]
  have lpE:LP GE ab nl X (nm.take m) (nm++(["zz","y"]:List Str)) tb (nm.drop (m+tn)):=by
   refine ⟨⟨abE,by rw [X1];exact axE,by rw [X2];exact ahE,by rw [X4];exact alE,sk,by rw [X3];exact skE,?_⟩,⟨sk,by rw [X3];exact skE,?_⟩,by rw [X5];exact kpE,X7,hnE,?_,?_,?_,?_,?_,(List.take_sublist _ _).nodup ndn,by rw [Z0x];omega,by rw [Z06];show nm.length+2<=100;omega,by omega,λe he=>(hta e he).few,by rw [Z19];omega⟩
   ·exact Paired.mapP pkD λ_ _ ⟨z1,b,z2,z3,z4⟩=>⟨z1,b,z2,True.intro,sE _ _ z4⟩
   ·refine Paired.mapP pkD λ_ _ ⟨z1,b,z2,z3,z4⟩=>⟨z1,b,z2,⟨?_,?_⟩,sE _ _ z4⟩
    ·rw [X2];exact (A0g ahC z3).symm
    ·rw [X5];exact (A0g kpC z3).symm
   ·rw [X1,X2,X3,X4,X5];exact ⟨shab,axkp,ahkp,alkp,axah,axal,(A0g (kbD _ _ (A1l ahC shC (by intro z;cases z)) ahC) hnl).symm,(A0g (kbD _ _ (A1l kpC shC (by intro z;cases z)) kpC) hnl).symm⟩
   ·rw [ekey];exact (List.drop_sublist _ _).nodup ndn
   ·rw [ekey];exact λy hy=>(okn y (List.mem_of_mem_drop hy)).2
   ·exact λy hy=>(okn y (List.mem_of_mem_take hy)).2
   ·refine A5x (λy hy=>(okn y hy).2) λy hy=> ?_;rcases Z0e.mp hy with rfl | hy
    ·exact okz
    ·rw [Z0w.mp hy];exact oky
  refine ⟨_,rfl,a,ab,nl,_,ns,X,nm.take m,nm++(["zz","y"]:List Str),tb,nm.drop (m+tn),rfl,by rw [Z19];omega,scE,hn,lpE,by rw [X6];exact A7m (by decide +kernel),λld ow xs ls ks Hl hld I=> ?_⟩;have lu:(nm.drop (m+tn)).length=un:=by rw [Z19];omega
  rw [lu] at I;have hln:ls.map (λ(e:Lt)=>e.1)=nm.drop (m+tn):=I.nm.trans (List.take_of_length_le (by omega));have Kl:KI G2 Hl:=λb u n e=>I.kx b u ⟨A0g e hab,by rw [X2];exact A0g e ahG,by rw [X3];exact A0g e shG,by rw [X5];exact A0g e kpG,A0g (KE e) hld⟩ n (KE e);have hNl:=Kl.str hN2
  have tvn:∀n ys,HO.lst tvs≠.lst (V.int n::ys):=λn ys z=>by
   cases ptb with
   | nil=>cases z
   | cons r' _ =>
    obtain ⟨q,c,e,_⟩:=r';subst e;cases z
  have hTl:=Kl _ _ tvn h2T;have ptl:Paired (TbA TL Hl) tvs tb:=Paired.mapP ptb λ_ _ ⟨q,c,e1,e2,e3,e4⟩=>⟨q,c,e1,Kl _ _ (by intro n xs z;cases z) e2,e3,Kl.str e4⟩;have abl:=I.bs.d;have lt:=I.lt;have lxs:=Paired.length lt
  have lls:ls.length=un:=by
   have:=congrArg List.length hln;rw [Z08,lu] at this;exact this
  have nwT:∀b,Nw GE b->b≠TL:=λb h=>B5u h (KE h2T) tvn;have hll:=I.hl;have hkl:=I.hk;have kll:=I.kl;have lkl:=I.lk;have lok:=I.ok;clear I KE KD sE kbD skD pkD axE ahE alE kpE abE skE scE lpE SC habC kpC axC ahC shC alC;generalize hdu:A6j (A1v (nm.take m) tb ls)=du at abl;have dg:∀{G:Hp},G ab=some (.dK (abK (xo X ow du)))->B5b G ab (.str "due") (some (.str du)):=λh=> .inl ⟨_,Sum.inr "due",.inl h,rfl,(C4p (xo X ow du)).symm⟩;have kg:∀{G:Hp},G ab=some (.dK (abK (xo X ow du)))->B5b G ab (.str "kept") (some (.ref kpl)):=λh=> .inl ⟨_,Sum.inr "kept",.inl h,rfl,by rw [<-X5];exact (C0y (xo X ow du)).symm⟩;rw [X5] at hkl;refine ⟨_,rfl,_,rfl,by omega,by omega,λAX hAX=> ?_⟩;refine A3d (D:=AX) (m:Int).toNat (λi ys H2=>A0w Hl H2/\H2 AX=some (.lst ys)/\∃ax:List (Str×Int),ax.map (·.1)=nm.take i/\Paired (D1z H2) ys ax) ⟨A0d hAX,A0b,[],rfl,.nil⟩ (λi ys H6 hi _=>hi) (λys H6 _=>Z09 _) ?_ ?_
  ·rintro i ys H2 hi ⟨s2,h2,ax,hx,px⟩ x H3 ⟨rfl,rfl⟩;have hi':i<nm.length:=by omega
   have hxi:nm[i]? =some nm[i]:=Z0b hi';have lys:=Paired.length px
   have lax:ax.length<=i:=by
    have:=congrArg List.length hx;rw [Z08,Z0x] at this;omega
   refine ⟨⟨rfl,rfl,True.intro⟩,_,rfl,_,rfl,N,_,_,_,rfl,rfl,SqL.of (s2 _ _ hNl),(by rw [Int.zero_add];exact C0t hxi),?_⟩;refine ⟨_,rfl,_,_,rfl,rfl,⟨by decide,by decide⟩,_,rfl,_,rfl,_,_,rfl,rfl,.inl ⟨by omega,by omega⟩,_,_,rfl,rfl,_,_,rfl,rfl,(by show (0:Int)<60;decide),_,_,rfl,rfl,A0h (by simp),λq hq=> ?_⟩;have nq:q≠AX:=(A0g h2 hq).symm;refine ⟨by rw [A0j nq.symm];exact h2,A1h (by omega),A0t (s2.trans (A0d hq)) hAX,A0b,ax++[(nm[i],_)],B4j hx hxi,Paired.snoc ⟨q,rfl,by rw [A0j nq];exact A0b⟩ (Paired.mapP px λ_ _ ⟨b,e1,e2⟩=>⟨b,e1,?_⟩)⟩;rw [A0j (A1l e2 h2 (by intro z;cases z)),A0j (A0g e2 hq)];exact e2
  rintro ysA J1 ⟨j1,h1A,ax,hax,pax⟩;have m0:(m:Int).toNat=m:=by omega
  rw [m0] at hax;have hax:axN ax=nm.take m:=hax
  have lax:ax.length=m:=by
   have:=congrArg List.length hax;rw [axN,Z08,Z0x] at this;omega
  obtain ⟨oy,hoy⟩:∃y,nm[m]? =some y:=⟨_,Z0b (by omega)⟩;refine ⟨_,rfl,_,rfl,N,_,_,_,rfl,rfl,SqL.of (j1 _ _ hNl),C0t hoy,A0h (by simp),λou hou=> ?_⟩;have j2:A0w J1 (upd J1 ou (.lst [V.str oy])):=A0d hou;have hou2:upd J1 ou (.lst [V.str oy]) ou=some (.lst (([oy]:List Str).map V.str)):=A0b;generalize upd J1 ou (.lst [V.str oy])=J2 at j2 hou2;have j12:=j1.trans j2;have w29:(0:Int)<10^(29:Int).toNat:=by decide +kernel
  refine ⟨_,rfl,_,_,rfl,rfl,⟨by decide,by decide,by decide⟩,_,_,rfl,rfl,w29,_,_,rfl,rfl,?_⟩;dsimp only;generalize 2+seed%10^(29:Int).toNat=wh;refine ⟨_,rfl,_,rfl,_,rfl,_,rfl,λp dp hp hdp ndp=> ?_⟩;have sP:A0w J2 (upd (upd J2 dp (.own p)) p (.ins t.ac dp [])):=(A0d hdp).trans (A0d (by rw [A0j ndp.symm];exact hp));have hpP:upd (upd J2 dp (.own p)) p (.ins t.ac dp []) p=some (.ins t.ac dp []):=A0b;generalize upd (upd J2 dp (.own p)) p (.ins t.ac dp [])=J3 at sP hpP;have RA:Rep J3 (.ref AX) (A3o ax):= .lst (sP _ _ (j2 _ _ h1A)) (C1g (Paired.mapP pax λ_ _ ⟨b,e1,e2⟩=>⟨b,e1,sP _ _ (j2 _ _ e2)⟩));have RT:Rep J3 (.ref TL) (B1k tb):= .lst (sP _ _ (j12 _ _ hTl)) (B6s (Paired.mapP ptl λ_ _ ⟨b,d,e1,e2,e3,e4⟩=>⟨b,d,e1,sP _ _ (j12 _ _ e2),e3,sP _ _ (j12 _ _ e4)⟩));refine ⟨p,dp,AX,TL,ld,ou,wh,ax,tb,xs,[oy],rfl,hpP,RA,by omega,RT,by omega,λe he=> ?_,sP _ _ (j12 _ _ hll),by omega,λx hx=> ?_,C5m (sP _ _ hou2),by simp,λa' t' l' o' J5 ep ra rt hl' el' ro kp=>⟨rfl,?_⟩⟩
  ·have:=(hta e he).few;omega
  ·obtain ⟨i,hi'⟩:=List.getElem?_of_mem hx;obtain ⟨le,_,b,db,c,n,dn,rfl,eb,_⟩:=B9a lt hi';have eb:=j12 _ _ (A0k eb).2;exact ⟨b,db,_,rfl,A0g eb hp,sP _ _ eb⟩
  have s25:A0w J2 J5:=λb u e=>kp b u (A0g e hp) (sP _ _ e);have sl5:=j12.trans s25;have ab5':=sl5 _ _ abl;generalize hcl:ks++[AX,TL,ld,ou]=cl
  have cl3:∀c∈cl,∃ys,J3 c=some (.lst ys):=λc hc=>by
   rw [<-hcl] at hc;rcases Z07.mp hc with hc | hc
   ·obtain ⟨_,ys,e⟩:=kll c hc;exact ⟨_,sP _ _ (j12 _ _ e)⟩
   ·simp only [Z0e,Z1i,or_false] at hc;rcases hc with rfl | rfl | rfl | rfl
    ·exact ⟨_,sP _ _ (j2 _ _ h1A)⟩
    ·exact ⟨_,sP _ _ (j12 _ _ hTl)⟩
    ·exact ⟨_,sP _ _ (j12 _ _ hll)⟩
    ·exact ⟨_,sP _ _ hou2⟩
  have cl5:∀c∈cl,∃ys,J5 c=some (.lst ys):=λc hc=>by
   obtain ⟨ys,e⟩:=cl3 c hc;exact ⟨ys,kp _ _ (A1l e hpP (by intro z;cases z)) e⟩
  have ncl:∀b,J3 b=none->b∉cl:=λb hb z=>by
   obtain ⟨ys,e⟩:=cl3 b z;rw [hb] at e;cases e
  have toR:A0w (restr (λb=>J3 b=none) J5) (restr (λb=>b∉cl) J5):=λb o e=>A0l (ncl b (A0k e).1) (A0k e).2
  have pr:B4x t (restr (λb=>b∉cl) J5) p wh ax tb ls [oy]:=by
   refine ⟨dp,a',t',l',o',A0l (λz=> ?_) ep,ra.same toR,rt.same toR,⟨xs,A0l (ncl _ hl') el',Paired.mapP lt λ_ _ z=>z.same λb o e=> ?_⟩,ro.same toR⟩
   ·obtain ⟨ys,e⟩:=cl3 p z;rw [hpP] at e;cases e
   ·obtain ⟨⟨nw,nk,nl'⟩,e⟩:=A0k e;refine A0l (λz=> ?_) (sl5 _ _ e);rw [<-hcl] at z;rcases Z07.mp z with z | z
    ·exact nk z
    ·simp only [Z0e,Z1i,or_false] at z;rcases z with rfl | rfl | rfl | rfl
     ·rw [hAX] at e;cases e
     ·exact nwT _ nw rfl
     ·exact nl' rfl
     ·rw [j1 _ _ e] at hou;cases hou
  have pr5:=pr.same A1g
  have har:arN tb ls=nm.drop m:=by
   unfold arN;rw [show ls.map (λ(e:Lt)=>e.1)=nm.drop (m+tn) from hln];exact ekey
  have tmin:C8u ax tb ls:=⟨by omega,by omega,by omega,by rw [har];exact (List.drop_sublist _ _).nodup ndn,λe he=>by
   obtain ⟨z1,z2,z3,z4⟩:=lok e he;have:=z1.few;refine ⟨by omega,(okn e.1 ?_).2,z2,z3,by omega⟩;have:e.1∈nm.drop (m+tn):=by rw [<-hln];exact Z2c.mpr ⟨e,he,rfl⟩
   exact List.mem_of_mem_drop this⟩
  have ask0:C2j ax tb ls [oy] false:=⟨tmin,nofun⟩;have edu:A6j (A1v (axN ax) tb ls)=du:=by rw [hax];exact hdu
  refine ⟨_,rfl,p,false,wh,ax,tb,ls,[oy],rfl,pr5,ask0,λJ6 s6=> ?_⟩;rw [edu];refine ⟨_,rfl,ab,_,rfl,dg (s6 _ _ ab5'),rfl,_,rfl,A4l (λz=>absurd rfl z) (λ_=> ?_)⟩;have pr6:B4x t (restr (λb=>b∉cl) J6) p wh ax tb ls [oy]:=pr.same (A0m s6);have ab6':=s6 _ _ ab5';have cl6:∀c∈cl,∃ys,J6 c=some (.lst ys):=λc hc=>let ⟨ys,e⟩:=cl5 c hc;⟨ys,s6 _ _ e⟩;have hk6:=s6 _ _ (sl5 _ _ hkl);refine ⟨_,rfl,ab,_,rfl,kg ab6',_,rfl,_,rfl,_,rfl,_,rfl,A0h (by simp),λzl hzl=> ?_⟩;have s7:A0w J6 (upd J6 zl (.lst [V.ref AX,V.ref TL,V.ref ld,V.ref ou])):=A0d hzl;have hz7:upd J6 zl (.lst [V.ref AX,V.ref TL,V.ref ld,V.ref ou]) zl=some (.lst [V.ref AX,V.ref TL,V.ref ld,V.ref ou]):=A0b;generalize upd J6 zl (.lst [V.ref AX,V.ref TL,V.ref ld,V.ref ou])=J7 at s7 hz7;refine ⟨kpl,zl,_,_,rfl,rfl,s7 _ _ hk6,hz7,A0h (by rw [Z08];show ks.length+4<=1000000;omega),λW hW=> ?_⟩;have s8:A0w J7 (upd J7 W (.lst (ks.map V.ref++[V.ref AX,V.ref TL,V.ref ld,V.ref ou]))):=A0d hW;have hW8:upd J7 W (.lst (ks.map V.ref++[V.ref AX,V.ref TL,V.ref ld,V.ref ou])) W=some (.lst (cl.map V.ref)):=by rw [A0b,<-hcl,Z0s];rfl
  have Wcl:W∉cl:=λz=>by
   obtain ⟨ys,e⟩:=cl6 W z;rw [s7 _ _ e] at hW;cases hW
  generalize upd J7 W (.lst (ks.map V.ref++[V.ref AX,V.ref TL,V.ref ld,V.ref ou]))=J8 at s8 hW8;have s68:=s7.trans s8;refine ⟨W,rfl,⟨_,SqL.of hW8⟩,?_⟩
  refine A3r (K:=K) (a:=W) (xs:=cl.map V.ref) (λi σ G=>∃o15:Option V,σ=[some (.ref a),some (.ref r),some (.int m),some (.int tn),some (.int un),some (.int seed),some (.ref N),some (.ref C),some (.ref TL),some (.ref ab),o10,some (.ref AX),some (.ref ld),some (.ref ou),some (.ref p),o15]/\(∀b o,b∉cl->J8 b=some o->G b=some o)/\∀c∈cl,∃ys,G c=some (.lst ys))
   ⟨none,rfl,λ_ _ _ e=>e,λc hc=>let ⟨ys,e⟩:=cl6 c hc;⟨ys,s68 _ _ e⟩⟩ (λi σ G _ ⟨_,_,kG,_⟩=>SqL.of (kG _ _ Wcl hW8)) ?_ ?_
  ·rintro i y σ G hy ⟨o15,rfl,kG,cG⟩;rw [Z1z] at hy;obtain ⟨c,hc,rfl⟩:=Z0i.mp hy;have hcm:=Z13 hc;obtain ⟨ys,e⟩:=cG c hcm;refine ⟨_,rfl,.inl ⟨rfl,_,SqL.of e⟩,c,_,rfl,rfl,e,_,rfl,λb o hb eb=> ?_,λd hd=> ?_⟩
   ·have:b≠c:=λz=>hb (z▸hcm);rw [A0j this];exact kG b o hb eb
   ·by_cases z:d=c
    ·subst z;exact ⟨[],A0b⟩
    ·obtain ⟨ys',e'⟩:=cG d hd;exact ⟨ys',(A0j z).trans e'⟩
  rintro σ J9 ⟨o15,rfl,kJ,_⟩;have pr9:B4x t J9 p wh ax tb ls [oy]:=pr6.same λb o e=>kJ b o (A0k e).1 (s68 _ _ (A0k e).2)
  have abn:ab∉cl:=λz=>by
   obtain ⟨ys,e⟩:=cl6 ab z;rw [ab6'] at e;cases e
  have ab9:=kJ _ _ abn (s68 _ _ ab6');refine ⟨_,rfl,p,false,wh,ax,tb,ls,[oy],rfl,pr9,ask0,λJA sA=> ?_⟩;rw [edu];refine ⟨_,rfl,ab,_,rfl,dg (sA _ _ ab9),rfl,_,rfl,A4l (λz=>absurd rfl z) (λ_=> ?_)⟩;have prA:=pr9.same sA;have abA:=sA _ _ ab9;refine ⟨_,rfl,ab,_,rfl,dg abA,rfl,_,rfl,A8a (λ_=>k _) (λhne=> ?_)⟩;have oknm:∀x∈nm,nmB x=true:=λx hx=>(okn x hx).1
  have ask1:C2j ax tb ls [oy] true:=by
   refine ⟨tmin,λ_=>⟨⟨by omega,by omega,by omega,by simp,?_,?_,λe he=> ?_⟩,⟨?_,by simp,?_⟩,λe he=> ?_,?_⟩⟩
   ·rw [hax,har,Z2e];exact λy hy=>(okn y hy).2
   ·intro y hy;rw [Z0w.mp hy];exact (okn oy (Z13 hoy)).2
   ·have ha:AxN (nm.take m) e.2:=by
     rcases Z07.mp he with he | he
     ·exact hta e he
     ·obtain ⟨l,hl,rfl⟩:=Z2c.mp he;exact (lok l hl).1
    have:=ha.few;exact ⟨by omega,λy hy=>(okn y (List.mem_of_mem_take (ha.sub y hy))).2⟩
   ·rw [hax,har,Z2e];exact B5f ndn oknm
   ·rw [har];refine B5f (by simp) λx hx=> ?_;rw [Z0w.mp hx];exact Z13 (i:=0) (by rw [List.getElem?_drop];exact hoy)
   ·have ha:AxN (nm.take m) e.2:=by
     rcases Z07.mp he with he | he
     ·exact hta e he
     ·obtain ⟨l,hl,rfl⟩:=Z2c.mp he;exact (lok l hl).1
    rw [hax];exact ⟨ha.few,B5f ha.nd λx hx=>ha.sub x hx⟩
   ·cases hq:A1v (axN ax) tb ls with
    | some b=>exact ⟨b,rfl⟩
    | none =>
     refine absurd ?_ hne;rw [<-edu,hq];rfl
  obtain ⟨rr,hrr⟩:=(ask1.wh rfl).2.2.2;refine ⟨_,rfl,p,true,wh,ax,tb,ls,[oy],rfl,prA,ask1,λJB sB=> ?_⟩;rw [edu];refine ⟨_,rfl,ab,_,rfl,dg (sB _ _ abA),rfl,_,rfl,A5m rfl ?_⟩;exact ⟨_,rfl,p,wh,ax,tb,ls,[oy],rr,rfl,prA.same sB,tmin,hrr,λJC _=>k _⟩
end
end My
namespace PySem.W.Fast
def tw11727937497022036782:=()
def tw16414415572052457336:=()
def tw5670814464637414346:=()
def tw6932187132432030908:=()
def tw15273857285595072169:=()
def tw7211530882776478357:=()
def tw4102073273207576613:=()
def tw14632290236376915865:=()
def tw3415501170288990407:=()
def tw9531249062338922797:=()
def tw14894555621048037697:=()
def tw3704318851822805772:=()
def tw14226128538890133768:=()
def tw17470722518242041641:=()
def tw10439072831588453065:=()
def tw8753730228768464033:=()
def tw15004937770707262356:=()
def tw11253058797122602889:=()
def tw9754703021843319697:=()
def tw13275487874991383252:=()
def tw7437267054273593527:=()
def tw4168095294216339881:=()
def tw1658469251611084866:=()
def tw10924770599503559737:=()
def tw12976883791802163770:=()
def tw11005461610738868316:=()
def tw4003079187725933824:=()
def tw17878948518771792380:=()
def tw5278974914816057146:=()
def tw3436173873587643470:=()
def tw1601616688472657675:=()
def tw3322411435193123963:=()
def tw15613920405126690717:=()
def tw4317632571526841752:=()
def tw2878117887752624640:=()
def tw16614528359232257525:=()
def tw18039027633932178781:=()
def tw2796563494214180828:=()
def tw7467570239670074174:=()
def tw1332995356413275239:=()
def tw9497298631338960093:=()
def tw5389486185293721774:=()
def tw7090936691353309093:=()
def tw14399718957475102062:=()
def tw14734304661463554950:=()
def tw5434997925001540414:=()
def tw11167453837780239077:=()
def tw17143819284761074178:=()
def tw4207249810934650303:=()
def tw16901719540219054636:=()
def tw11521919044015487407:=()
def tw3363902481481167647:=()
def tw17075042987640187303:=()
def tw12282945773159911793:=()
def tw9891039404662401333:=()
def tw14330247869247874471:=()
def tw12792450562409179708:=()
def tw15726661085190691223:=()
def tw6740280792389564744:=()
def tw13863330704765657603:=()
def tw5792036869677053786:=()
def tw6112095336395209657:=()
def tw7770036522244877814:=()
def tw4150703238731786451:=()
def tw1505975949927442435:=()
def tw3364192900861657648:=()
def tw17043517367106656089:=()
def tw8064098774314154968:=()
def tw1023542223633076273:=()
def tw17191478840807044407:=()
def tw1803346240471136574:=()
def tw1569451659549962182:=()
def tw13261672993432792435:=()
def tw1456797406602490327:=()
def tw7666664242799603327:=()
def tw15051243359239662947:=()
def tw13361421585483770759:=()
def tw1022334333460807877:=()
def tw1468473589514751742:=()
def tw3263392822736531982:=()
def tw5323933515059842034:=()
def tw3320531949399782496:=()
def tw1547906793791003992:=()
def tw12574532126137673907:=()
def tw10830983259351772568:=()
def tw11264942202924701498:=()
def tw14042144583636371836:=()
def tw17468503653866180192:=()
def tw6233894413145163448:=()
def tw9913653381865705000:=()
def tw14523878947548425706:=()
def tw566184138363602047:=()
def tw8496206611066512612:=()
def tw10084586516592101294:=()
def tw12026586000523723045:=()
def tw17371517152061260282:=()
def tw575215866815885569:=()
def tw4927864249230795797:=()
def tw7451380718606438845:=()
def tw4026510448443807125:=()
def tw1762917434336253851:=()
def tw7445202737782852492:=()
def tw2181857638335798049:=()
def tw10745820622742967159:=()
def tw13605866684722435352:=()
def tw11328310725400022215:=()
def tw17347145917371611422:=()
def tw8684542475561547534:=()
def tw12793585930074625836:=()
def tw6391460760931119107:=()
def tw4975401279800655906:=()
def tw267720976864992251:=()
def tw9433848234193442811:=()
def tw11220770519629993178:=()
def tw16657686115152525150:=()
def tw13020720322841056337:=()
def tw9731783902779399594:=()
def tw6066732625353537768:=()
def tw8555499083203350097:=()
def tw14691925500646464448:=()
def tw15921541761516483912:=()
def tw3147849275494422696:=()
def tw2502580866034795663:=()
def tw7812330045965017793:=()
def tw9513061116129942799:=()
def tw14971079437923240259:=()
def tw668981009786037690:=()
def tw17320289092854923968:=()
def tw3071198562182216500:=()
def tw10689370077870820406:=()
def tw15076785787979593742:=()
def tw13895068542694791702:=()
def tw8858274016483159704:=()
def tw17643148944004152228:=()
def tw655307259739320145:=()
def tw8009758659989480669:=()
def tw4819346200865556604:=()
def tw11456893598888795704:=()
def tw18010091859202947583:=()
def tw14151055462951696163:=()
def tw5658585362734559830:=()
def tw8362208398524400150:=()
def tw13362558623695337740:=()
def tw15404125353915775482:=()
def tw16846580724391480574:=()
def tw8231883902950931837:=()
def tw13410195426764039335:=()
def tw12442904871665726672:=()
def tw1154493627481706351:=()
def tw10037029843581324153:=()
def tw12655580362285937387:=()
def tw17013678033630530554:=()
def tw6439745953952007364:=()
def tw1439693316806896136:=()
def tw3825831617333957684:=()
def tw10986819876561731150:=()
def tw1297966441996753125:=()
def tw18100688611249357739:=()
def tw16171518555934981028:=()
def tw4529394842747481850:=()
def tw1857174044739142993:=()
def tw4266541185634293330:=()
def tw17710902849587977299:=()
def tw12743493823762354952:=()
def tw16780175213024666929:=()
def tw1560034548285236643:=()
def tw9046081472187688463:=()
def tw2929310051364187481:=()
def tw4136015067195455652:=()
def tw3969141860273549358:=()
def tw1600641546698484282:=()
def tw4564647588037548266:=()
def tw5768825007962086884:=()
def tw1462701394206917403:=()
def tw14535143597494642048:=()
def tw8261097504937214167:=()
def tw3275013058336151970:=()
def tw7530138189512348162:=()
def tw15319278933892105400:=()
def tw595301876721710923:=()
def tw6897452923501513001:=()
def tw14254068983160410944:=()
def tw13460347277068462043:=()
def tw11815545871148308300:=()
def tw12406187311832676146:=()
def tw6709101399569328573:=()
def tw11807447066729630527:=()
def tw7557781022994409362:=()
def tw5399380125464435151:=()
def tw4592611920403160466:=()
def tw13307796425099228145:=()
def tw2493853222799931696:=()
def tw7139099973798283427:=()
def tw13043867043115701217:=()
def tw2021405151498906485:=()
def tw6824134518351175719:=()
def tw18326576751053866232:=()
def tw16444520404524948272:=()
def tw15522978964765317397:=()
def tw17364907062842792584:=()
def tw16541579636345374046:=()
def tw17741647869217350721:=()
def tw10187123367862605240:=()
def tw8409565744471446364:=()
def tw8155374439593725571:=()
def tw1178459346807393980:=()
def tw9987815740736992448:=()
def tw2808639603186624692:=()
def tw6338119841834146173:=()
def tw9536073051878579930:=()
def tw3896772125862794506:=()
def tw7986668447588038363:=()
def tw6075753394379264492:=()
def tw9016130782019707237:=()
def tw12390186740634282501:=()
def tw5469201248392275467:=()
def tw13165522546199243122:=()
def tw12775101896172848820:=()
def tw12122123518687706248:=()
def tw15296723904666002791:=()
def tw12464190040432126622:=()
def tw2308990713565255171:=()
def tw3515096267256019560:=()
def tw17481014156205543987:=()
def tw3894958799522613533:=()
def tw3568803086186433230:=()
def tw7977713322245672592:=()
def tw7855763999984902357:=()
def tw15801754917754479702:=()
def tw3399698206725613754:=()
def tw17034313904541788795:=()
def tw4588578853427736501:=()
def tw17645073558590445689:=()
def tw16785495733084010889:=()
def tw15240172769142211457:=()
def tw7033558236732159601:=()
def tw8989695647199587500:=()
def tw2124149676131134689:=()
def tw5009240793997783289:=()
def tw13319834292999090257:=()
def tw2912807040561705974:=()
def tw17051803096256725037:=()
def tw4192360514471902588:=()
def tw9876585618354550692:=()
def tw3701149270584180112:=()
def tw6921602281455733560:=()
def tw9825139805171269966:=()
def tw18096394891334192698:=()
def tw687319025088447516:=()
def tw10923576409887514714:=()
def tw10355779603577421624:=()
def tw604468507420706003:=()
def tw5583388664348177686:=()
def tw11172878161397230693:=()
def tw17807653023732322033:=()
def tw9935827363347532190:=()
def tw6890075237036758894:=()
def tw13043090256622206379:=()
def tw909860669590383590:=()
def tw12812293289747293324:=()
def tw14709756671561699490:=()
def tw10316494986676236940:=()
def tw183810387047502854:=()
def tw4195894008337372342:=()
def tw13912857843369334307:=()
def tw1131277416093923111:=()
def tw6340716336527898461:=()
def tw10179782656785966303:=()
def tw12352379583606763773:=()
def tw7792629157733257121:=()
def tw15242218766052554752:=()
def tw15761476879013508236:=()
def tw12972350276243557607:=()
def tw16174190416614460825:=()
def tw12961108355800757289:=()
def tw7052599743240636493:=()
def tw15163594679577609997:=()
def tw14710099529297808804:=()
def tw3865641165967973181:=()
def tw16796615046688943263:=()
def tw6441322378084102131:=()
def tw13426040705308217894:=()
def tw2905792565276106526:=()
def tw17916774524931700147:=()
def tw11762365014627502412:=()
def tw16245196690465917127:=()
def tw13146486432323752889:=()
def tw10552087695118625215:=()
def tw5757276537174511511:=()
def tw5441983487640118417:=()
def tw6431050180560465748:=()
def tw17027728410004413661:=()
def tw1305715808007240329:=()
def tw17283856808165138640:=()
def tw11875950905621685716:=()
def tw4074746107156549036:=()
def tw4007498498779399631:=()
def tw2230958393386955464:=()
def tw5241414183480851473:=()
def tw12613883717572642920:=()
def tw2554046904465539894:=()
def tw14946104596855806718:=()
def tw6465759150776696917:=()
def tw16851193086195908802:=()
def tw17271847105220157000:=()
def tw6305224351359587498:=()
def tw626521954472933183:=()
def tw4256367418247188659:=()
def tw18331527480513449972:=()
def tw13712796496876971386:=()
def tw13596502575959025351:=()
def tw2371449003489251761:=()
def tw17708360700988254107:=()
def tw9061657038575300289:=()
def tw11623480302030530025:=()
def tw12532404168020880086:=()
def tw17815973909954496681:=()
def tw3382420202008528275:=()
def tw11984955947300630023:=()
def tw7370188244400743446:=()
def tw10300162172165634873:=()
def tw3587704609419672883:=()
def tw8777905266787299701:=()
def tw12897567309403249821:=()
def tw8082220700203919141:=()
def tw12872409232044189512:=()
def tw4710730631088930809:=()
def tw18321552090404879036:=()
def tw16766128871154507308:=()
def tw16980154150177785460:=()
def tw4823030151393486811:=()
def tw18106494871944749289:=()
def tw1316242924428023042:=()
def tw10088534913512221005:=()
def tw5709633695309812611:=()
def tw9133671460687906981:=()
def tw14414684888500045558:=()
def tw8654627353914292638:=()
def tw3859339589430423746:=()
def tw3623924172007485837:=()
def tw2585629209550540209:=()
def tw15712241396609210308:=()
def tw7624639752824854433:=()
def tw8525401648770253262:=()
def tw17470338855206396768:=()
def tw16831009630102381321:=()
def tw8943967814101620762:=()
def tw16907877061418326089:=()
def tw16832659706427534752:=()
def tw16184953218868465605:=()
def tw2047891501948438997:=()
def tw16924720959431729063:=()
def tw2807221609662593734:=()
def tw17618051692495975551:=()
def tw12655579688589859883:=()
def tw12421492363158289877:=()
def tw10744856936617150090:=()
def tw824392103430605724:=()
def tw13103447787621897170:=()
def tw1267526884990134398:=()
def tw14676539825533586748:=()
def tw5806567913092458855:=()
def tw16034633077476330066:=()
def tw10489151561605499255:=()
def tw3515525554572540232:=()
def tw17265352247992256037:=()
def tw931824197150240881:=()
def tw747632152564082359:=()
def tw279807599392520041:=()
def tw5194396757813540896:=()
def tw4101946672896710984:=()
def tw2349548419075646638:=()
def tw5425754973133333937:=()
def tw9493004131501756572:=()
def tw15917628490741676082:=()
def tw1078593093176245083:=()
def tw3841883421121272357:=()
def tw16412344854137294939:=()
def tw9260130004528910568:=()
def tw16911271538517687121:=()
def tw10325047749420545986:=()
def tw9647931810065773595:=()
def tw8047356295433318497:=()
def tw7744010118673323659:=()
def tw18295234733443157698:=()
def tw1006094081353689286:=()
def tw526032301636755171:=()
def tw14653882493168991655:=()
def tw4916771943279380202:=()
def tw17575871517980758041:=()
def tw6756635887223415923:=()
def tw536173742188244273:=()
def tw4852592592541474481:=()
def tw15693307623412377521:=()
def tw14127954779827240590:=()
def tw10017258066585351377:=()
def tw6401411006557004947:=()
def tw7601360727312056504:=()
def tw4508102773018108012:=()
def tw257207814930208671:=()
def tw15937923161396437294:=()
def tw15693289521877698175:=()
def tw3057054533485175054:=()
def tw8464272109169542645:=()
def tw6008498508867375047:=()
def tw5002797351449548727:=()
def tw11615525283791983951:=()
def tw3029187002424827646:=()
def tw9604115554594953842:=()
def tw7399319093412210201:=()
def tw16073606487828718840:=()
def tw15684053181945473833:=()
def tw3392719401291877479:=()
def tw2241106475898898004:=()
def tw14487683862424760111:=()
def tw10399191207802134201:=()
def tw7559369404431025612:=()
def tw3277221948516601883:=()
def tw3774894285637845923:=()
def tw16209454544722618129:=()
def tw1563242939309495275:=()
def tw17031145993191178737:=()
def tw13243880995105204459:=()
def tw8006429143026224127:=()
def tw9079487651043079058:=()
def tw8793790249655184447:=()
def tw8736210521342342876:=()
def tw12392429318110986232:=()
def tw8066494960597124695:=()
def tw2071415265158433810:=()
def tw16540148846475891690:=()
def tw4060026373793435203:=()
def tw6559622312095270434:=()
def tw6392950072587348473:=()
def tw8742813600264086871:=()
def tw8140696436714140002:=()
def tw18216389859160249791:=()
def tw14051586922177317443:=()
def tw6779565649123608728:=()
def tw9049491709042065449:=()
def tw7623901755469500214:=()
def tw7534126301764281762:=()
def tw16009027421737161003:=()
def tw13187993272636535670:=()
def tw6265669332510279439:=()
def tw12752519709411336175:=()
def tw11443334112382567715:=()
def tw14987434315453953987:=()
def tw1177466301011193553:=()
def tw3569689924063387574:=()
def tw15440103095067516596:=()
def tw1539890361916835783:=()
def tw11574378955715885047:=()
def tw136791960366610915:=()
def tw14687525740540372279:=()
def tw1821047920992382695:=()
def tw9570998976893144258:=()
def tw10218565618786505960:=()
def tw7858103284223938536:=()
def tw1125662200190311313:=()
def tw8079039534814823219:=()
def tw5571835702645404573:=()
def tw4844191905173654748:=()
def tw11464670405767159004:=()
def tw10941183322633819965:=()
def tw8713563684723887025:=()
def tw13444087395790464069:=()
def tw12784354219218451279:=()
def tw8471417866836502981:=()
def tw9141373875196518649:=()
def tw6631069936852495577:=()
def tw10434636873499014832:=()
def tw9967197663062911393:=()
def tw12651031505807098891:=()
def tw8227273513205022032:=()
def tw10055551034709338857:=()
def tw1284742071275704699:=()
def tw7130364796857996968:=()
def tw2905942930170895853:=()
def tw3744282497957328589:=()
def tw2821873710609090516:=()
def tw1143490653177081299:=()
def tw3317325590955454051:=()
def tw15643995276299242136:=()
def tw11356501864326547717:=()
def tw3868883986252904454:=()
def tw8967429454277879611:=()
def tw8388915954174764506:=()
def tw6738248804158066077:=()
def tw5789997902298693324:=()
def tw5780957997330623654:=()
def tw5739015498329922302:=()
def tw2018624625340647090:=()
def tw18136140348306104035:=()
def tw15249870179926030699:=()
def tw13404763195214321321:=()
def tw10979522719166869538:=()
def tw10936656112517995143:=()
def tw714607657024795646:=()
def tw4250844863404176981:=()
def tw3639753940703127564:=()
def tw3162156224319521476:=()
def tw15158413902286089142:=()
def tw14626910428391470256:=()
def tw12431043352643595612:=()
def tw12119258642868557396:=()
def tw13298640525406064930:=()
def tw15477761754117685637:=()
def tw5957466194395811249:=()
def tw1631298597913223355:=()
def tw8618889629484479022:=()
def tw14074637569760489368:=()
def tw14557801944656516644:=()
def tw11690351313847809689:=()
def tw5137936486623664612:=()
def tw8596897920380988581:=()
def tw9428620977990934624:=()
def tw3939428375389433783:=()
def tw2679819362989212541:=()
def tw11337262684472042125:=()
def tw851955028820278696:=()
def tw16465853834919374076:=()
def tw8919149228628144348:=()
def tw9534793382723754810:=()
def tw4638567979185737861:=()
def tw15031997039869238148:=()
def tw13107669761926295517:=()
def tw2509609963378541302:=()
def tw17241786805711203458:=()
def tw9025063879367131502:=()
def tw4904129256206151739:=()
def tw2501245011384884270:=()
def tw17803688323501853308:=()
def tw17693533872688211753:=()
def tw17672807985112450020:=()
def tw13686965129550251895:=()
def tw12200046371049725782:=()
def tw10525755939753053191:=()
def tw10331887731166205165:=()
def tw7769704652325239927:=()
def tw7016060723820415415:=()
def tw5976615061654136452:=()
def tw591600541564614532:=()
def tw16048778376220177889:=()
def tw15416699682080892160:=()
def tw12512399501518397113:=()
def tw11636119949359951056:=()
def tw17361177248749734777:=()
def tw9277772990002619820:=()
def tw14876214798079785336:=()
def tw11681792866451296389:=()
def tw11188897363363946090:=()
def tw10608889558032634800:=()
def tw13380409533534304083:=()
def tw1150844251836736876:=()
def tw15174865019295680127:=()
def tw1010340044419629769:=()
def tw18337583160558529409:=()
def tw5767470191815298748:=()
def tw7909829748048385734:=()
def tw6790501829845310569:=()
end PySem.W.Fast
namespace My
open PySem L2
abbrev LkF (K:PySem.W.Frag) (x q:Str) (st:Stmt) (f:Addr):Prop:=∃(oc:Value) (od:Option Addr) (kV dc pm:Value) (an:Option Addr) (cd ct:Value) (sl:Array (Option Value)),K.lookup f=some ⟨oc,od,.func (PySem.W.fnOf x q (A7t st) (A5q st) (A0q st) .none kV dc pm an cd ct),sl⟩/\PySem.W.codeIn K cd q=true/\PySem.W.keepIn K (.ref f)=true
theorem C9w {K:PySem.W.Frag} {x q:Str} {st:Stmt} {f:Addr} {oc:Value} {od:Option Addr} {kV dc pm:Value} {an:Option Addr} {cd ct:Value} {sl:Array (Option Value)} (l:K.lookup f=some ⟨oc,od,.func (PySem.W.fnOf x q (A7t st) (A5q st) (A0q st) .none kV dc pm an cd ct),sl⟩) (c:PySem.W.codeIn K cd q=true) (k:PySem.W.keepIn K (.ref f)=true):LkF K x q st f:=⟨_,_,_,_,_,_,_,_,_,l,c,k⟩
theorem A2i {K:PySem.W.Frag} {x q:Str} {st:Stmt} {f:Addr} {ps:List Str} (l:LkF K x q st f) (h:∀(kV doc pm:Value) (an:Option Addr) (cdv ct:Value) (us:List Value),us.length=ps.length->bindArgs (PySem.W.fnOf x q (A7t st) (A5q st) (A0q st) .none kV doc pm an cdv ct) ⟨us,[]⟩=pure (ps.zip us)):∃d,Fun K x q st f d/\A1u K d ps []/\PySem.W.keepIn K (.ref f)=true:=by
 obtain ⟨_,_,_,_,_,_,_,_,_,l,c,k⟩:=l;have F:=C4h (st:=st) l c k;exact ⟨_,F,F.binds h,k⟩
theorem A5a {p:List Value->Prop} (h:p []):∀us:List Value,us.length=0->p us:=λus e=>by rw [List.length_eq_zero_iff.mp e];exact h
theorem A1w {n:Nat} {p:List Value->Prop} (h:∀(a:Value) (us:List Value),us.length=n->p (a::us)):∀us:List Value,us.length=n+1->p us
 | a::r,e=>h a r (Nat.succ.inj e)
theorem C9p {l:PySem.W.OpenLaw} {w:World} {K:PySem.W.Frag} {h:Heap} {mg:Str->Option Value} {fa:Addr} (X:K.In h) (G:h.Ns mainGlobals mg) (hfa:mg "law"=some (.ref fa))
  {C_LoomError C_NoName C_NoShape C_TooMuch C_BeyondRim C_NotYet C_Term C_Number C_Place C_Read C_Pair C_Plus C_Minus C_Times C_Sum C_Guard C_Part C_Let C_Program:Addr}
  (aC_LoomError:PySem.W.nsIn K mainGlobals "LoomError"=some (some (.ref C_LoomError)))
  (aC_NoName:PySem.W.nsIn K mainGlobals "NoName"=some (some (.ref C_NoName)))
  (aC_NoShape:PySem.W.nsIn K mainGlobals "NoShape"=some (some (.ref C_NoShape)))
  (aC_TooMuch:PySem.W.nsIn K mainGlobals "TooMuch"=some (some (.ref C_TooMuch)))
  (aC_BeyondRim:PySem.W.nsIn K mainGlobals "BeyondRim"=some (some (.ref C_BeyondRim)))
  (aC_NotYet:PySem.W.nsIn K mainGlobals "NotYet"=some (some (.ref C_NotYet)))
  (aC_Term:PySem.W.nsIn K mainGlobals "Term"=some (some (.ref C_Term)))
  (aC_Number:PySem.W.nsIn K mainGlobals "Number"=some (some (.ref C_Number)))
  (aC_Place:PySem.W.nsIn K mainGlobals "Place"=some (some (.ref C_Place)))
  (aC_Read:PySem.W.nsIn K mainGlobals "Read"=some (some (.ref C_Read)))
  (aC_Pair:PySem.W.nsIn K mainGlobals "Pair"=some (some (.ref C_Pair)))
  (aC_Plus:PySem.W.nsIn K mainGlobals "Plus"=some (some (.ref C_Plus)))
  (aC_Minus:PySem.W.nsIn K mainGlobals "Minus"=some (some (.ref C_Minus)))
  (aC_Times:PySem.W.nsIn K mainGlobals "Times"=some (some (.ref C_Times)))
  (aC_Sum:PySem.W.nsIn K mainGlobals "Sum"=some (some (.ref C_Sum)))
  (aC_Guard:PySem.W.nsIn K mainGlobals "Guard"=some (some (.ref C_Guard)))
  (aC_Part:PySem.W.nsIn K mainGlobals "Part"=some (some (.ref C_Part)))
  (aC_Let:PySem.W.nsIn K mainGlobals "Let"=some (some (.ref C_Let)))
  (aC_Program:PySem.W.nsIn K mainGlobals "Program"=some (some (.ref C_Program)))
  {f0:Addr}
  (a0:PySem.W.nsIn K mainGlobals "copied"=some (some (.ref f0)))
  (l0:LkF K "copied" "copied" B2g f0)
  {f1:Addr}
  (a1:PySem.W.findIn K (.ref C_Number) "__init__"=some (some (.ref f1)))
  (l1:LkF K "__init__" "Number.__init__" A5w f1)
  (i1:PySem.W.isFn K (.ref f1)=true)
  {f2:Addr}
  (a2:PySem.W.findIn K (.ref C_Place) "__init__"=some (some (.ref f2)))
  (l2:LkF K "__init__" "Place.__init__" A6n f2)
  (i2:PySem.W.isFn K (.ref f2)=true)
  {f3:Addr}
  (a3:PySem.W.findIn K (.ref C_Read) "__init__"=some (some (.ref f3)))
  (l3:LkF K "__init__" "Read.__init__" A7v f3)
  (i3:PySem.W.isFn K (.ref f3)=true)
  {f4:Addr}
  (a4:PySem.W.findIn K (.ref C_Pair) "__init__"=some (some (.ref f4)))
  (l4:LkF K "__init__" "Pair.__init__" A7o f4)
  (i4:PySem.W.isFn K (.ref f4)=true)
  {f5:Addr}
  (a5:PySem.W.findIn K (.ref C_Sum) "__init__"=some (some (.ref f5)))
  (l5:LkF K "__init__" "Sum.__init__" A9c f5)
  (i5:PySem.W.isFn K (.ref f5)=true)
  {f6:Addr}
  (a6:PySem.W.findIn K (.ref C_Guard) "__init__"=some (some (.ref f6)))
  (l6:LkF K "__init__" "Guard.__init__" A6o f6)
  (i6:PySem.W.isFn K (.ref f6)=true)
  {f7:Addr}
  (a7:PySem.W.findIn K (.ref C_Part) "__init__"=some (some (.ref f7)))
  (l7:LkF K "__init__" "Part.__init__" A7s f7)
  (i7:PySem.W.isFn K (.ref f7)=true)
  {f8:Addr}
  (a8:PySem.W.nsIn K mainGlobals "parts_of"=some (some (.ref f8)))
  (l8:LkF K "parts_of" "parts_of" A9e f8)
  {f9:Addr}
  (a9:PySem.W.nsIn K mainGlobals "parts_from"=some (some (.ref f9)))
  (l9:LkF K "parts_from" "parts_from" A6m f9)
  {f10:Addr}
  (a10:PySem.W.nsIn K mainGlobals "parts_right_within"=some (some (.ref f10)))
  (l10:LkF K "parts_right_within" "parts_right_within" A3b f10)
  {f11:Addr}
  (a11:PySem.W.nsIn K mainGlobals "sums_at_top"=some (some (.ref f11)))
  (l11:LkF K "sums_at_top" "sums_at_top" A5t f11)
  {f12:Addr}
  (a12:PySem.W.findIn K (.ref C_Let) "__init__"=some (some (.ref f12)))
  (l12:LkF K "__init__" "Let.__init__" A9d f12)
  (i12:PySem.W.isFn K (.ref f12)=true)
  {f13:Addr}
  (a13:PySem.W.findIn K (.ref C_Program) "__init__"=some (some (.ref f13)))
  (l13:LkF K "__init__" "Program.__init__" A5f f13)
  (i13:PySem.W.isFn K (.ref f13)=true)
  {f14:Addr}
  (a14:PySem.W.nsIn K mainGlobals "axis_names"=some (some (.ref f14)))
  (l14:LkF K "axis_names" "axis_names" A7d f14)
  {f15:Addr}
  (a15:PySem.W.nsIn K mainGlobals "table_names"=some (some (.ref f15)))
  (l15:LkF K "table_names" "table_names" A5y f15)
  {f16:Addr}
  (a16:PySem.W.nsIn K mainGlobals "array_names"=some (some (.ref f16)))
  (l16:LkF K "array_names" "array_names" A6b f16)
  {f17:Addr}
  (a17:PySem.W.nsIn K mainGlobals "arrays_of"=some (some (.ref f17)))
  (l17:LkF K "arrays_of" "arrays_of" A7w f17)
  {f18:Addr}
  (a18:PySem.W.nsIn K mainGlobals "look_names"=some (some (.ref f18)))
  (l18:LkF K "look_names" "look_names" A6l f18)
  {f19:Addr}
  (a19:PySem.W.nsIn K mainGlobals "look_told_names"=some (some (.ref f19)))
  (l19:LkF K "look_told_names" "look_told_names" A3q f19)
  {f20:Addr}
  (a20:PySem.W.nsIn K mainGlobals "is_name"=some (some (.ref f20)))
  (l20:LkF K "is_name" "is_name" B0y f20)
  {f21:Addr}
  (a21:PySem.W.nsIn K mainGlobals "is_of_letters"=some (some (.ref f21)))
  (l21:LkF K "is_of_letters" "is_of_letters" A4t f21)
  {f22:Addr}
  (a22:PySem.W.nsIn K mainGlobals "look_outs"=some (some (.ref f22)))
  (l22:LkF K "look_outs" "look_outs" A7q f22)
  {f23:Addr}
  (a23:PySem.W.nsIn K mainGlobals "look_axes"=some (some (.ref f23)))
  (l23:LkF K "look_axes" "look_axes" A7n f23)
  {f24:Addr}
  (a24:PySem.W.nsIn K mainGlobals "look_terms"=some (some (.ref f24)))
  (l24:LkF K "look_terms" "look_terms" A6t f24)
  {f25:Addr}
  (a25:PySem.W.nsIn K mainGlobals "look_part"=some (some (.ref f25)))
  (l25:LkF K "look_part" "look_part" A7y f25)
  {f26:Addr}
  (a26:PySem.W.nsIn K mainGlobals "look_bound"=some (some (.ref f26)))
  (l26:LkF K "look_bound" "look_bound" A6u f26)
  {f27:Addr}
  (a27:PySem.W.nsIn K mainGlobals "look_sum"=some (some (.ref f27)))
  (l27:LkF K "look_sum" "look_sum" A9b f27)
  {f28:Addr}
  (a28:PySem.W.nsIn K mainGlobals "look_read"=some (some (.ref f28)))
  (l28:LkF K "look_read" "look_read" A7l f28)
  {f29:Addr}
  (a29:PySem.W.nsIn K mainGlobals "look_own_read"=some (some (.ref f29)))
  (l29:LkF K "look_own_read" "look_own_read" A4i f29)
  {f30:Addr}
  (a30:PySem.W.nsIn K mainGlobals "look"=some (some (.ref f30)))
  (l30:LkF K "look" "look" C1l f30)
  {f31:Addr}
  (a31:PySem.W.nsIn K mainGlobals "_law_cell"=some (some (.ref f31)))
  (l31:LkF K "_law_cell" "_law_cell" B2r f31)
  {f32:Addr}
  (a32:PySem.W.nsIn K mainGlobals "_law_name"=some (some (.ref f32)))
  (l32:LkF K "_law_name" "_law_name" B2h f32)
  {f33:Addr}
  (a33:PySem.W.nsIn K mainGlobals "_law_axes"=some (some (.ref f33)))
  (l33:LkF K "_law_axes" "_law_axes" B2k f33)
  {f34:Addr}
  (a34:PySem.W.nsIn K mainGlobals "_law_read"=some (some (.ref f34)))
  (l34:LkF K "_law_read" "_law_read" B2a f34)
  {f35:Addr}
  (a35:PySem.W.nsIn K mainGlobals "_law_grown"=some (some (.ref f35)))
  (l35:LkF K "_law_grown" "_law_grown" B0e f35)
  {f36:Addr}
  (a36:PySem.W.nsIn K mainGlobals "_law_read_due"=some (some (.ref f36)))
  (l36:LkF K "_law_read_due" "_law_read_due" A7c f36)
  {f37:Addr}
  (a37:PySem.W.nsIn K mainGlobals "_law_due"=some (some (.ref f37)))
  (l37:LkF K "_law_due" "_law_due" B5p f37)
  {f38:Addr}
  (a38:PySem.W.nsIn K mainGlobals "_law_made"=some (some (.ref f38)))
  (l38:LkF K "_law_made" "_law_made" B1x f38)
  {f39:Addr}
  (a39:PySem.W.nsIn K mainGlobals "_law_asked"=some (some (.ref f39)))
  (l39:LkF K "_law_asked" "_law_asked" B0i f39)
  {f40:Addr}
  (a40:PySem.W.nsIn K mainGlobals "_law_got"=some (some (.ref f40)))
  (l40:LkF K "_law_got" "_law_got" B6c f40)
  {f41:Addr}
  (a41:PySem.W.nsIn K mainGlobals "_law_under"=some (some (.ref f41)))
  (l41:LkF K "_law_under" "_law_under" B0f f41)
  {f42:Addr}
  (a42:PySem.W.nsIn K mainGlobals "_law_lets"=some (some (.ref f42)))
  (l42:LkF K "_law_lets" "_law_lets" B2f f42)
  {f43:Addr}
  (a43:PySem.W.nsIn K mainGlobals "law"=some (some (.ref f43)))
  (l43:LkF K "law" "law" C2i f43)
  {pt_MOST_LETTERS:Tok}
  (aP_MOST_LETTERS:PySem.W.nsIn K mainGlobals "MOST_LETTERS"=some (some (.int (8) pt_MOST_LETTERS)))
  {pt_MOST_AXES:Tok}
  (aP_MOST_AXES:PySem.W.nsIn K mainGlobals "MOST_AXES"=some (some (.int (3) pt_MOST_AXES)))
  {p_WORDS_OF_TERMS:Addr} {pd_WORDS_OF_TERMS:Option Addr} {pn_WORDS_OF_TERMS:Nat} {ps_WORDS_OF_TERMS:Array (Option Value)} {pt0_WORDS_OF_TERMS pt1_WORDS_OF_TERMS:Tok}
  (aP_WORDS_OF_TERMS:PySem.W.nsIn K mainGlobals "WORDS_OF_TERMS"=some (some (.ref p_WORDS_OF_TERMS)))
  (lP_WORDS_OF_TERMS:K.lookup p_WORDS_OF_TERMS=some ⟨.type "tuple",pd_WORDS_OF_TERMS,.seq #[.str "if" pt0_WORDS_OF_TERMS,.str "sum" pt1_WORDS_OF_TERMS] pn_WORDS_OF_TERMS,ps_WORDS_OF_TERMS⟩)
  (xm_NoName_ValueError:PySem.W.mroIn K C_NoName (.type "ValueError")=some true)
  (xm_NoShape_ValueError:PySem.W.mroIn K C_NoShape (.type "ValueError")=some true)
  (xe_NoName:PySem.W.excIn K C_NoName [.type "ValueError",.type "Exception",.type "BaseException",.type "object"] "ValueError.__new__"=true)
  (xe_NoShape:PySem.W.excIn K C_NoShape [.type "ValueError",.type "Exception",.type "BaseException",.type "object"] "ValueError.__new__"=true)
  (x1_NoName:PySem.W.findIn K (.ref C_NoName) "__getattribute__"=some (some (.builtin "BaseException.__getattribute__")))
  (x2_NoName:PySem.W.findIn K (.ref C_NoName) "__getattr__"=some none)
  (x3_NoName:PySem.W.mroIn K C_NoName (.type "BaseException")=some true)
  (x4_NoName:PySem.W.mroIn K C_NoName (.type "object")=some true)
  (x5_NoName:PySem.W.findIn K (.ref C_NoName) "__class__"=some (some (.builtin "object.__class__")))
  (x6_NoName:PySem.W.specialIn K (.builtin "object.__class__") "__get__"=some (some (.builtin "getset_descriptor.__get__")))
  (x7_NoName:PySem.W.takesIn K (.builtin "object.__class__")=some true)
  (cs_NoShape:PySem.W.isClsIn K C_NoShape=true)
  (ct_NoShape:PySem.W.typeIn K (.ref C_NoShape)=some (.type "type"))
  (mr_NoName_NoShape:PySem.W.mroIn K C_NoName (.ref C_NoShape)=some false)
  (ne_NoName_NoShape:(Value.ref C_NoName == Value.ref C_NoShape)=false)
  (cs_TooMuch:PySem.W.isClsIn K C_TooMuch=true)
  (ct_TooMuch:PySem.W.typeIn K (.ref C_TooMuch)=some (.type "type"))
  (mr_NoName_TooMuch:PySem.W.mroIn K C_NoName (.ref C_TooMuch)=some false)
  (ne_NoName_TooMuch:(Value.ref C_NoName == Value.ref C_TooMuch)=false)
  (x1_NoShape:PySem.W.findIn K (.ref C_NoShape) "__getattribute__"=some (some (.builtin "BaseException.__getattribute__")))
  (x2_NoShape:PySem.W.findIn K (.ref C_NoShape) "__getattr__"=some none)
  (x3_NoShape:PySem.W.mroIn K C_NoShape (.type "BaseException")=some true)
  (x4_NoShape:PySem.W.mroIn K C_NoShape (.type "object")=some true)
  (x5_NoShape:PySem.W.findIn K (.ref C_NoShape) "__class__"=some (some (.builtin "object.__class__")))
  (x6_NoShape:PySem.W.specialIn K (.builtin "object.__class__") "__get__"=some (some (.builtin "getset_descriptor.__get__")))
  (x7_NoShape:PySem.W.takesIn K (.builtin "object.__class__")=some true)
  (cs_NoName:PySem.W.isClsIn K C_NoName=true)
  (ct_NoName:PySem.W.typeIn K (.ref C_NoName)=some (.type "type"))
  (mr_NoShape_NoName:PySem.W.mroIn K C_NoShape (.ref C_NoName)=some false)
  (ne_NoShape_NoName:(Value.ref C_NoShape == Value.ref C_NoName)=false)
  (mr_NoShape_TooMuch:PySem.W.mroIn K C_NoShape (.ref C_TooMuch)=some false)
  (ne_NoShape_TooMuch:(Value.ref C_NoShape == Value.ref C_TooMuch)=false)
  (mr_NoName_NoName:PySem.W.mroIn K C_NoName (.ref C_NoName)=some true)
  (eb_NoName:PySem.W.mroIn K C_NoName (.type "BaseException")=some true)
  (cs_LoomError:PySem.W.isClsIn K C_LoomError=true)
  (ct_LoomError:PySem.W.typeIn K (.ref C_LoomError)=some (.type "type"))
  (mr_NoName_LoomError:PySem.W.mroIn K C_NoName (.ref C_LoomError)=some true)
  (eb_LoomError:PySem.W.mroIn K C_LoomError (.type "BaseException")=some true)
  (mr_NoShape_NoShape:PySem.W.mroIn K C_NoShape (.ref C_NoShape)=some true)
  (eb_NoShape:PySem.W.mroIn K C_NoShape (.type "BaseException")=some true)
  (mr_NoShape_LoomError:PySem.W.mroIn K C_NoShape (.ref C_LoomError)=some true)
  (pg_Guard:PySem.W.plainGet K C_Guard Str.empty=true)
  (hd_Guard:PySem.W.hasDictIn K C_Guard=true)
  (po_Guard:PySem.W.plainOver K C_Guard=true)
  (sa_Guard:PySem.W.findIn K (.ref C_Guard) "__setattr__"=some (some (.builtin "object.__setattr__")))
  (mk_Guard:PySem.W.makesIn K C_Guard=true)
  (kc_Guard:PySem.W.keepIn K (.ref C_Guard)=true)
  (in_Guard:PySem.W.findIn K (.ref C_Guard) "__init__"=some (some (.ref f6)))
  (na_Guard_axis:PySem.W.findIn K (.ref C_Guard) "axis"=some none)
  (na_Guard_low:PySem.W.findIn K (.ref C_Guard) "low"=some none)
  (na_Guard_high:PySem.W.findIn K (.ref C_Guard) "high"=some none)
  (na_Guard_inner:PySem.W.findIn K (.ref C_Guard) "inner"=some none)
  (na_Guard_outer:PySem.W.findIn K (.ref C_Guard) "outer"=some none)
  (t1_Guard:PySem.W.findIn K (.ref C_Guard) "__class__"=some (some (.builtin "object.__class__")))
  (t2_Guard:PySem.W.specialIn K (.builtin "object.__class__") "__get__"=some (some (.builtin "getset_descriptor.__get__")))
  (t3_Guard:PySem.W.takesIn K (.builtin "object.__class__")=some true)
  (t4_Guard:PySem.W.mroIn K C_Guard (.type "object")=some true)
  (cs_Guard:PySem.W.isClsIn K C_Guard=true)
  (ct_Guard:PySem.W.typeIn K (.ref C_Guard)=some (.type "type"))
  (mr_Guard_Guard:PySem.W.mroIn K C_Guard (.ref C_Guard)=some true)
  (cs_Pair:PySem.W.isClsIn K C_Pair=true)
  (ct_Pair:PySem.W.typeIn K (.ref C_Pair)=some (.type "type"))
  (mr_Guard_Pair:PySem.W.mroIn K C_Guard (.ref C_Pair)=some false)
  (ne_Guard_Pair:(Value.ref C_Guard == Value.ref C_Pair)=false)
  (cs_Read:PySem.W.isClsIn K C_Read=true)
  (ct_Read:PySem.W.typeIn K (.ref C_Read)=some (.type "type"))
  (mr_Guard_Read:PySem.W.mroIn K C_Guard (.ref C_Read)=some false)
  (ne_Guard_Read:(Value.ref C_Guard == Value.ref C_Read)=false)
  (cs_Sum:PySem.W.isClsIn K C_Sum=true)
  (ct_Sum:PySem.W.typeIn K (.ref C_Sum)=some (.type "type"))
  (mr_Guard_Sum:PySem.W.mroIn K C_Guard (.ref C_Sum)=some false)
  (ne_Guard_Sum:(Value.ref C_Guard == Value.ref C_Sum)=false)
  (cs_Place:PySem.W.isClsIn K C_Place=true)
  (ct_Place:PySem.W.typeIn K (.ref C_Place)=some (.type "type"))
  (mr_Guard_Place:PySem.W.mroIn K C_Guard (.ref C_Place)=some false)
  (ne_Guard_Place:(Value.ref C_Guard == Value.ref C_Place)=false)
  (pg_Let:PySem.W.plainGet K C_Let Str.empty=true)
  (hd_Let:PySem.W.hasDictIn K C_Let=true)
  (po_Let:PySem.W.plainOver K C_Let=true)
  (sa_Let:PySem.W.findIn K (.ref C_Let) "__setattr__"=some (some (.builtin "object.__setattr__")))
  (mk_Let:PySem.W.makesIn K C_Let=true)
  (kc_Let:PySem.W.keepIn K (.ref C_Let)=true)
  (in_Let:PySem.W.findIn K (.ref C_Let) "__init__"=some (some (.ref f12)))
  (na_Let_name:PySem.W.findIn K (.ref C_Let) "name"=some none)
  (na_Let_axes:PySem.W.findIn K (.ref C_Let) "axes"=some none)
  (na_Let_term:PySem.W.findIn K (.ref C_Let) "term"=some none)
  (t1_Let:PySem.W.findIn K (.ref C_Let) "__class__"=some (some (.builtin "object.__class__")))
  (t2_Let:PySem.W.specialIn K (.builtin "object.__class__") "__get__"=some (some (.builtin "getset_descriptor.__get__")))
  (t3_Let:PySem.W.takesIn K (.builtin "object.__class__")=some true)
  (t4_Let:PySem.W.mroIn K C_Let (.type "object")=some true)
  (mb_Let_list:PySem.W.mroIn K C_Let (.type "list")=some false)
  (mb_Let_tuple:PySem.W.mroIn K C_Let (.type "tuple")=some false)
  (mb_Let_dict:PySem.W.mroIn K C_Let (.type "dict")=some false)
  (mr_Let_Guard:PySem.W.mroIn K C_Let (.ref C_Guard)=some false)
  (ne_Let_Guard:(Value.ref C_Let == Value.ref C_Guard)=false)
  (mr_Let_Pair:PySem.W.mroIn K C_Let (.ref C_Pair)=some false)
  (ne_Let_Pair:(Value.ref C_Let == Value.ref C_Pair)=false)
  (mr_Let_Read:PySem.W.mroIn K C_Let (.ref C_Read)=some false)
  (ne_Let_Read:(Value.ref C_Let == Value.ref C_Read)=false)
  (mr_Let_Sum:PySem.W.mroIn K C_Let (.ref C_Sum)=some false)
  (ne_Let_Sum:(Value.ref C_Let == Value.ref C_Sum)=false)
  (mr_Let_Place:PySem.W.mroIn K C_Let (.ref C_Place)=some false)
  (ne_Let_Place:(Value.ref C_Let == Value.ref C_Place)=false)
  (pg_Minus:PySem.W.plainGet K C_Minus Str.empty=true)
  (hd_Minus:PySem.W.hasDictIn K C_Minus=true)
  (po_Minus:PySem.W.plainOver K C_Minus=true)
  (sa_Minus:PySem.W.findIn K (.ref C_Minus) "__setattr__"=some (some (.builtin "object.__setattr__")))
  (mk_Minus:PySem.W.makesIn K C_Minus=true)
  (kc_Minus:PySem.W.keepIn K (.ref C_Minus)=true)
  (in_Minus:PySem.W.findIn K (.ref C_Minus) "__init__"=some (some (.ref f4)))
  (na_Minus_left:PySem.W.findIn K (.ref C_Minus) "left"=some none)
  (na_Minus_right:PySem.W.findIn K (.ref C_Minus) "right"=some none)
  (t1_Minus:PySem.W.findIn K (.ref C_Minus) "__class__"=some (some (.builtin "object.__class__")))
  (t2_Minus:PySem.W.specialIn K (.builtin "object.__class__") "__get__"=some (some (.builtin "getset_descriptor.__get__")))
  (t3_Minus:PySem.W.takesIn K (.builtin "object.__class__")=some true)
  (t4_Minus:PySem.W.mroIn K C_Minus (.type "object")=some true)
  (mr_Minus_Guard:PySem.W.mroIn K C_Minus (.ref C_Guard)=some false)
  (ne_Minus_Guard:(Value.ref C_Minus == Value.ref C_Guard)=false)
  (mr_Minus_Pair:PySem.W.mroIn K C_Minus (.ref C_Pair)=some true)
  (mr_Minus_Read:PySem.W.mroIn K C_Minus (.ref C_Read)=some false)
  (ne_Minus_Read:(Value.ref C_Minus == Value.ref C_Read)=false)
  (mr_Minus_Sum:PySem.W.mroIn K C_Minus (.ref C_Sum)=some false)
  (ne_Minus_Sum:(Value.ref C_Minus == Value.ref C_Sum)=false)
  (mr_Minus_Place:PySem.W.mroIn K C_Minus (.ref C_Place)=some false)
  (ne_Minus_Place:(Value.ref C_Minus == Value.ref C_Place)=false)
  (pg_Number:PySem.W.plainGet K C_Number Str.empty=true)
  (hd_Number:PySem.W.hasDictIn K C_Number=true)
  (po_Number:PySem.W.plainOver K C_Number=true)
  (sa_Number:PySem.W.findIn K (.ref C_Number) "__setattr__"=some (some (.builtin "object.__setattr__")))
  (mk_Number:PySem.W.makesIn K C_Number=true)
  (kc_Number:PySem.W.keepIn K (.ref C_Number)=true)
  (in_Number:PySem.W.findIn K (.ref C_Number) "__init__"=some (some (.ref f1)))
  (na_Number_number:PySem.W.findIn K (.ref C_Number) "number"=some none)
  (t1_Number:PySem.W.findIn K (.ref C_Number) "__class__"=some (some (.builtin "object.__class__")))
  (t2_Number:PySem.W.specialIn K (.builtin "object.__class__") "__get__"=some (some (.builtin "getset_descriptor.__get__")))
  (t3_Number:PySem.W.takesIn K (.builtin "object.__class__")=some true)
  (t4_Number:PySem.W.mroIn K C_Number (.type "object")=some true)
  (mr_Number_Guard:PySem.W.mroIn K C_Number (.ref C_Guard)=some false)
  (ne_Number_Guard:(Value.ref C_Number == Value.ref C_Guard)=false)
  (mr_Number_Pair:PySem.W.mroIn K C_Number (.ref C_Pair)=some false)
  (ne_Number_Pair:(Value.ref C_Number == Value.ref C_Pair)=false)
  (mr_Number_Read:PySem.W.mroIn K C_Number (.ref C_Read)=some false)
  (ne_Number_Read:(Value.ref C_Number == Value.ref C_Read)=false)
  (mr_Number_Sum:PySem.W.mroIn K C_Number (.ref C_Sum)=some false)
  (ne_Number_Sum:(Value.ref C_Number == Value.ref C_Sum)=false)
  (mr_Number_Place:PySem.W.mroIn K C_Number (.ref C_Place)=some false)
  (ne_Number_Place:(Value.ref C_Number == Value.ref C_Place)=false)
  (pg_Part:PySem.W.plainGet K C_Part Str.empty=true)
  (hd_Part:PySem.W.hasDictIn K C_Part=true)
  (po_Part:PySem.W.plainOver K C_Part=true)
  (sa_Part:PySem.W.findIn K (.ref C_Part) "__setattr__"=some (some (.builtin "object.__setattr__")))
  (mk_Part:PySem.W.makesIn K C_Part=true)
  (kc_Part:PySem.W.keepIn K (.ref C_Part)=true)
  (in_Part:PySem.W.findIn K (.ref C_Part) "__init__"=some (some (.ref f7)))
  (na_Part_term:PySem.W.findIn K (.ref C_Part) "term"=some none)
  (na_Part_sums:PySem.W.findIn K (.ref C_Part) "sums"=some none)
  (na_Part_guards:PySem.W.findIn K (.ref C_Part) "guards"=some none)
  (t1_Part:PySem.W.findIn K (.ref C_Part) "__class__"=some (some (.builtin "object.__class__")))
  (t2_Part:PySem.W.specialIn K (.builtin "object.__class__") "__get__"=some (some (.builtin "getset_descriptor.__get__")))
  (t3_Part:PySem.W.takesIn K (.builtin "object.__class__")=some true)
  (t4_Part:PySem.W.mroIn K C_Part (.type "object")=some true)
  (mr_Part_Guard:PySem.W.mroIn K C_Part (.ref C_Guard)=some false)
  (ne_Part_Guard:(Value.ref C_Part == Value.ref C_Guard)=false)
  (mr_Part_Pair:PySem.W.mroIn K C_Part (.ref C_Pair)=some false)
  (ne_Part_Pair:(Value.ref C_Part == Value.ref C_Pair)=false)
  (mr_Part_Read:PySem.W.mroIn K C_Part (.ref C_Read)=some false)
  (ne_Part_Read:(Value.ref C_Part == Value.ref C_Read)=false)
  (mr_Part_Sum:PySem.W.mroIn K C_Part (.ref C_Sum)=some false)
  (ne_Part_Sum:(Value.ref C_Part == Value.ref C_Sum)=false)
  (mr_Part_Place:PySem.W.mroIn K C_Part (.ref C_Place)=some false)
  (ne_Part_Place:(Value.ref C_Part == Value.ref C_Place)=false)
  (pg_Place:PySem.W.plainGet K C_Place Str.empty=true)
  (hd_Place:PySem.W.hasDictIn K C_Place=true)
  (po_Place:PySem.W.plainOver K C_Place=true)
  (sa_Place:PySem.W.findIn K (.ref C_Place) "__setattr__"=some (some (.builtin "object.__setattr__")))
  (mk_Place:PySem.W.makesIn K C_Place=true)
  (kc_Place:PySem.W.keepIn K (.ref C_Place)=true)
  (in_Place:PySem.W.findIn K (.ref C_Place) "__init__"=some (some (.ref f2)))
  (na_Place_axis:PySem.W.findIn K (.ref C_Place) "axis"=some none)
  (t1_Place:PySem.W.findIn K (.ref C_Place) "__class__"=some (some (.builtin "object.__class__")))
  (t2_Place:PySem.W.specialIn K (.builtin "object.__class__") "__get__"=some (some (.builtin "getset_descriptor.__get__")))
  (t3_Place:PySem.W.takesIn K (.builtin "object.__class__")=some true)
  (t4_Place:PySem.W.mroIn K C_Place (.type "object")=some true)
  (mr_Place_Guard:PySem.W.mroIn K C_Place (.ref C_Guard)=some false)
  (ne_Place_Guard:(Value.ref C_Place == Value.ref C_Guard)=false)
  (mr_Place_Pair:PySem.W.mroIn K C_Place (.ref C_Pair)=some false)
  (ne_Place_Pair:(Value.ref C_Place == Value.ref C_Pair)=false)
  (mr_Place_Read:PySem.W.mroIn K C_Place (.ref C_Read)=some false)
  (ne_Place_Read:(Value.ref C_Place == Value.ref C_Read)=false)
  (mr_Place_Sum:PySem.W.mroIn K C_Place (.ref C_Sum)=some false)
  (ne_Place_Sum:(Value.ref C_Place == Value.ref C_Sum)=false)
  (mr_Place_Place:PySem.W.mroIn K C_Place (.ref C_Place)=some true)
  (pg_Plus:PySem.W.plainGet K C_Plus Str.empty=true)
  (hd_Plus:PySem.W.hasDictIn K C_Plus=true)
  (po_Plus:PySem.W.plainOver K C_Plus=true)
  (sa_Plus:PySem.W.findIn K (.ref C_Plus) "__setattr__"=some (some (.builtin "object.__setattr__")))
  (mk_Plus:PySem.W.makesIn K C_Plus=true)
  (kc_Plus:PySem.W.keepIn K (.ref C_Plus)=true)
  (in_Plus:PySem.W.findIn K (.ref C_Plus) "__init__"=some (some (.ref f4)))
  (na_Plus_left:PySem.W.findIn K (.ref C_Plus) "left"=some none)
  (na_Plus_right:PySem.W.findIn K (.ref C_Plus) "right"=some none)
  (t1_Plus:PySem.W.findIn K (.ref C_Plus) "__class__"=some (some (.builtin "object.__class__")))
  (t2_Plus:PySem.W.specialIn K (.builtin "object.__class__") "__get__"=some (some (.builtin "getset_descriptor.__get__")))
  (t3_Plus:PySem.W.takesIn K (.builtin "object.__class__")=some true)
  (t4_Plus:PySem.W.mroIn K C_Plus (.type "object")=some true)
  (mr_Plus_Guard:PySem.W.mroIn K C_Plus (.ref C_Guard)=some false)
  (ne_Plus_Guard:(Value.ref C_Plus == Value.ref C_Guard)=false)
  (mr_Plus_Pair:PySem.W.mroIn K C_Plus (.ref C_Pair)=some true)
  (mr_Plus_Read:PySem.W.mroIn K C_Plus (.ref C_Read)=some false)
  (ne_Plus_Read:(Value.ref C_Plus == Value.ref C_Read)=false)
  (mr_Plus_Sum:PySem.W.mroIn K C_Plus (.ref C_Sum)=some false)
  (ne_Plus_Sum:(Value.ref C_Plus == Value.ref C_Sum)=false)
  (mr_Plus_Place:PySem.W.mroIn K C_Plus (.ref C_Place)=some false)
  (ne_Plus_Place:(Value.ref C_Plus == Value.ref C_Place)=false)
  (pg_Program:PySem.W.plainGet K C_Program Str.empty=true)
  (hd_Program:PySem.W.hasDictIn K C_Program=true)
  (po_Program:PySem.W.plainOver K C_Program=true)
  (sa_Program:PySem.W.findIn K (.ref C_Program) "__setattr__"=some (some (.builtin "object.__setattr__")))
  (mk_Program:PySem.W.makesIn K C_Program=true)
  (kc_Program:PySem.W.keepIn K (.ref C_Program)=true)
  (in_Program:PySem.W.findIn K (.ref C_Program) "__init__"=some (some (.ref f13)))
  (na_Program_wheel:PySem.W.findIn K (.ref C_Program) "wheel"=some none)
  (na_Program_axes:PySem.W.findIn K (.ref C_Program) "axes"=some none)
  (na_Program_tables:PySem.W.findIn K (.ref C_Program) "tables"=some none)
  (na_Program_lets:PySem.W.findIn K (.ref C_Program) "lets"=some none)
  (na_Program_outs:PySem.W.findIn K (.ref C_Program) "outs"=some none)
  (t1_Program:PySem.W.findIn K (.ref C_Program) "__class__"=some (some (.builtin "object.__class__")))
  (t2_Program:PySem.W.specialIn K (.builtin "object.__class__") "__get__"=some (some (.builtin "getset_descriptor.__get__")))
  (t3_Program:PySem.W.takesIn K (.builtin "object.__class__")=some true)
  (t4_Program:PySem.W.mroIn K C_Program (.type "object")=some true)
  (mr_Program_Guard:PySem.W.mroIn K C_Program (.ref C_Guard)=some false)
  (ne_Program_Guard:(Value.ref C_Program == Value.ref C_Guard)=false)
  (mr_Program_Pair:PySem.W.mroIn K C_Program (.ref C_Pair)=some false)
  (ne_Program_Pair:(Value.ref C_Program == Value.ref C_Pair)=false)
  (mr_Program_Read:PySem.W.mroIn K C_Program (.ref C_Read)=some false)
  (ne_Program_Read:(Value.ref C_Program == Value.ref C_Read)=false)
  (mr_Program_Sum:PySem.W.mroIn K C_Program (.ref C_Sum)=some false)
  (ne_Program_Sum:(Value.ref C_Program == Value.ref C_Sum)=false)
  (mr_Program_Place:PySem.W.mroIn K C_Program (.ref C_Place)=some false)
  (ne_Program_Place:(Value.ref C_Program == Value.ref C_Place)=false)
  (pg_Read:PySem.W.plainGet K C_Read Str.empty=true)
  (hd_Read:PySem.W.hasDictIn K C_Read=true)
  (po_Read:PySem.W.plainOver K C_Read=true)
  (sa_Read:PySem.W.findIn K (.ref C_Read) "__setattr__"=some (some (.builtin "object.__setattr__")))
  (mk_Read:PySem.W.makesIn K C_Read=true)
  (kc_Read:PySem.W.keepIn K (.ref C_Read)=true)
  (in_Read:PySem.W.findIn K (.ref C_Read) "__init__"=some (some (.ref f3)))
  (na_Read_array:PySem.W.findIn K (.ref C_Read) "array"=some none)
  (na_Read_indexes:PySem.W.findIn K (.ref C_Read) "indexes"=some none)
  (t1_Read:PySem.W.findIn K (.ref C_Read) "__class__"=some (some (.builtin "object.__class__")))
  (t2_Read:PySem.W.specialIn K (.builtin "object.__class__") "__get__"=some (some (.builtin "getset_descriptor.__get__")))
  (t3_Read:PySem.W.takesIn K (.builtin "object.__class__")=some true)
  (t4_Read:PySem.W.mroIn K C_Read (.type "object")=some true)
  (mr_Read_Guard:PySem.W.mroIn K C_Read (.ref C_Guard)=some false)
  (ne_Read_Guard:(Value.ref C_Read == Value.ref C_Guard)=false)
  (mr_Read_Pair:PySem.W.mroIn K C_Read (.ref C_Pair)=some false)
  (ne_Read_Pair:(Value.ref C_Read == Value.ref C_Pair)=false)
  (mr_Read_Read:PySem.W.mroIn K C_Read (.ref C_Read)=some true)
  (mr_Read_Sum:PySem.W.mroIn K C_Read (.ref C_Sum)=some false)
  (ne_Read_Sum:(Value.ref C_Read == Value.ref C_Sum)=false)
  (mr_Read_Place:PySem.W.mroIn K C_Read (.ref C_Place)=some false)
  (ne_Read_Place:(Value.ref C_Read == Value.ref C_Place)=false)
  (pg_Sum:PySem.W.plainGet K C_Sum Str.empty=true)
  (hd_Sum:PySem.W.hasDictIn K C_Sum=true)
  (po_Sum:PySem.W.plainOver K C_Sum=true)
  (sa_Sum:PySem.W.findIn K (.ref C_Sum) "__setattr__"=some (some (.builtin "object.__setattr__")))
  (mk_Sum:PySem.W.makesIn K C_Sum=true)
  (kc_Sum:PySem.W.keepIn K (.ref C_Sum)=true)
  (in_Sum:PySem.W.findIn K (.ref C_Sum) "__init__"=some (some (.ref f5)))
  (na_Sum_axis:PySem.W.findIn K (.ref C_Sum) "axis"=some none)
  (na_Sum_body:PySem.W.findIn K (.ref C_Sum) "body"=some none)
  (t1_Sum:PySem.W.findIn K (.ref C_Sum) "__class__"=some (some (.builtin "object.__class__")))
  (t2_Sum:PySem.W.specialIn K (.builtin "object.__class__") "__get__"=some (some (.builtin "getset_descriptor.__get__")))
  (t3_Sum:PySem.W.takesIn K (.builtin "object.__class__")=some true)
  (t4_Sum:PySem.W.mroIn K C_Sum (.type "object")=some true)
  (mr_Sum_Guard:PySem.W.mroIn K C_Sum (.ref C_Guard)=some false)
  (ne_Sum_Guard:(Value.ref C_Sum == Value.ref C_Guard)=false)
  (mr_Sum_Pair:PySem.W.mroIn K C_Sum (.ref C_Pair)=some false)
  (ne_Sum_Pair:(Value.ref C_Sum == Value.ref C_Pair)=false)
  (mr_Sum_Read:PySem.W.mroIn K C_Sum (.ref C_Read)=some false)
  (ne_Sum_Read:(Value.ref C_Sum == Value.ref C_Read)=false)
  (mr_Sum_Sum:PySem.W.mroIn K C_Sum (.ref C_Sum)=some true)
  (mr_Sum_Place:PySem.W.mroIn K C_Sum (.ref C_Place)=some false)
  (ne_Sum_Place:(Value.ref C_Sum == Value.ref C_Place)=false)
  (pg_Times:PySem.W.plainGet K C_Times Str.empty=true)
  (hd_Times:PySem.W.hasDictIn K C_Times=true)
  (po_Times:PySem.W.plainOver K C_Times=true)
  (sa_Times:PySem.W.findIn K (.ref C_Times) "__setattr__"=some (some (.builtin "object.__setattr__")))
  (mk_Times:PySem.W.makesIn K C_Times=true)
  (kc_Times:PySem.W.keepIn K (.ref C_Times)=true)
  (in_Times:PySem.W.findIn K (.ref C_Times) "__init__"=some (some (.ref f4)))
  (na_Times_left:PySem.W.findIn K (.ref C_Times) "left"=some none)
  (na_Times_right:PySem.W.findIn K (.ref C_Times) "right"=some none)
  (t1_Times:PySem.W.findIn K (.ref C_Times) "__class__"=some (some (.builtin "object.__class__")))
  (t2_Times:PySem.W.specialIn K (.builtin "object.__class__") "__get__"=some (some (.builtin "getset_descriptor.__get__")))
  (t3_Times:PySem.W.takesIn K (.builtin "object.__class__")=some true)
  (t4_Times:PySem.W.mroIn K C_Times (.type "object")=some true)
  (mr_Times_Guard:PySem.W.mroIn K C_Times (.ref C_Guard)=some false)
  (ne_Times_Guard:(Value.ref C_Times == Value.ref C_Guard)=false)
  (mr_Times_Pair:PySem.W.mroIn K C_Times (.ref C_Pair)=some true)
  (mr_Times_Read:PySem.W.mroIn K C_Times (.ref C_Read)=some false)
  (ne_Times_Read:(Value.ref C_Times == Value.ref C_Read)=false)
  (mr_Times_Sum:PySem.W.mroIn K C_Times (.ref C_Sum)=some false)
  (ne_Times_Sum:(Value.ref C_Times == Value.ref C_Sum)=false)
  (mr_Times_Place:PySem.W.mroIn K C_Times (.ref C_Place)=some false)
  (ne_Times_Place:(Value.ref C_Times == Value.ref C_Place)=false)
  (z_isinstance:PySem.W.nsIn K mainGlobals "isinstance"=some none)
  (z_list:PySem.W.nsIn K mainGlobals "list"=some none)
  (z_tuple:PySem.W.nsIn K mainGlobals "tuple"=some none)
  (z_dict:PySem.W.nsIn K mainGlobals "dict"=some none)
  (z_enumerate:PySem.W.nsIn K mainGlobals "enumerate"=some none)
  (z_len:PySem.W.nsIn K mainGlobals "len"=some none)
  (z_all:PySem.W.nsIn K mainGlobals "all"=some none)
  (z_range:PySem.W.nsIn K mainGlobals "range"=some none)
  (z_min:PySem.W.nsIn K mainGlobals "min"=some none)
  (z_max:PySem.W.nsIn K mainGlobals "max"=some none)
  (z_ValueError:PySem.W.nsIn K mainGlobals "ValueError"=some none)
  (z_reversed:PySem.W.nsIn K mainGlobals "reversed"=some none)
  :∃fd:FuncData,(∀(s:Shared) (v:Value),BindsTo s fd ⟨[v],[]⟩ [("_law_script",v)])/\∀base:Heap,K.In base->base.Ns mainGlobals mg->A2f l.prog w K mg base CX0 19 fa fd ["_law_script"] (C2m K):=by
 have e:=hfa.symm.trans (Z0f X G a43);cases e;obtain ⟨d0,F0,b0,k0⟩:=A2i (ps:=["value"]) l0 λ_ _ _ _ _ _=>A1w λ_=>A5a rfl;obtain ⟨d1,F1,b1,k1⟩:=A2i (ps:=["self","number"]) l1 λ_ _ _ _ _ _=>A1w λ_=>A1w λ_=>A5a rfl;obtain ⟨d2,F2,b2,k2⟩:=A2i (ps:=["self","axis"]) l2 λ_ _ _ _ _ _=>A1w λ_=>A1w λ_=>A5a rfl;obtain ⟨d3,F3,b3,k3⟩:=A2i (ps:=["self","array","indexes"]) l3 λ_ _ _ _ _ _=>A1w λ_=>A1w λ_=>A1w λ_=>A5a rfl;obtain ⟨d4,F4,b4,k4⟩:=A2i (ps:=["self","left","right"]) l4 λ_ _ _ _ _ _=>A1w λ_=>A1w λ_=>A1w λ_=>A5a rfl;obtain ⟨d5,F5,b5,k5⟩:=A2i (ps:=["self","axis","body"]) l5 λ_ _ _ _ _ _=>A1w λ_=>A1w λ_=>A1w λ_=>A5a rfl;obtain ⟨d6,F6,b6,k6⟩:=A2i (ps:=["self","axis","low","high","inner","outer"]) l6 λ_ _ _ _ _ _=>A1w λ_=>A1w λ_=>A1w λ_=>A1w λ_=>A1w λ_=>A1w λ_=>A5a rfl;obtain ⟨d7,F7,b7,k7⟩:=A2i (ps:=["self","term","sums","guards"]) l7 λ_ _ _ _ _ _=>A1w λ_=>A1w λ_=>A1w λ_=>A1w λ_=>A5a rfl;obtain ⟨d8,F8,b8,k8⟩:=A2i (ps:=["term"]) l8 λ_ _ _ _ _ _=>A1w λ_=>A5a rfl;obtain ⟨d9,F9,b9,k9⟩:=A2i (ps:=["part"]) l9 λ_ _ _ _ _ _=>A1w λ_=>A5a rfl;obtain ⟨d10,F10,b10,k10⟩:=A2i (ps:=["part"]) l10 λ_ _ _ _ _ _=>A1w λ_=>A5a rfl;obtain ⟨d11,F11,b11,k11⟩:=A2i (ps:=["term"]) l11 λ_ _ _ _ _ _=>A1w λ_=>A5a rfl;obtain ⟨d12,F12,b12,k12⟩:=A2i (ps:=["self","name","axes","term"]) l12 λ_ _ _ _ _ _=>A1w λ_=>A1w λ_=>A1w λ_=>A1w λ_=>A5a rfl;obtain ⟨d13,F13,b13,k13⟩:=A2i (ps:=["self","wheel","axes","tables","lets","outs"]) l13 λ_ _ _ _ _ _=>A1w λ_=>A1w λ_=>A1w λ_=>A1w λ_=>A1w λ_=>A1w λ_=>A5a rfl;obtain ⟨d14,F14,b14,k14⟩:=A2i (ps:=["program"]) l14 λ_ _ _ _ _ _=>A1w λ_=>A5a rfl;obtain ⟨d15,F15,b15,k15⟩:=A2i (ps:=["program"]) l15 λ_ _ _ _ _ _=>A1w λ_=>A5a rfl;obtain ⟨d16,F16,b16,k16⟩:=A2i (ps:=["program"]) l16 λ_ _ _ _ _ _=>A1w λ_=>A5a rfl;obtain ⟨d17,F17,b17,k17⟩:=A2i (ps:=["program"]) l17 λ_ _ _ _ _ _=>A1w λ_=>A5a rfl;obtain ⟨d18,F18,b18,k18⟩:=A2i (ps:=["program"]) l18 λ_ _ _ _ _ _=>A1w λ_=>A5a rfl;obtain ⟨d19,F19,b19,k19⟩:=A2i (ps:=["names"]) l19 λ_ _ _ _ _ _=>A1w λ_=>A5a rfl;obtain ⟨d20,F20,b20,k20⟩:=A2i (ps:=["text"]) l20 λ_ _ _ _ _ _=>A1w λ_=>A5a rfl;obtain ⟨d21,F21,b21,k21⟩:=A2i (ps:=["text"]) l21 λ_ _ _ _ _ _=>A1w λ_=>A5a rfl;obtain ⟨d22,F22,b22,k22⟩:=A2i (ps:=["outs","names"]) l22 λ_ _ _ _ _ _=>A1w λ_=>A1w λ_=>A5a rfl;obtain ⟨d23,F23,b23,k23⟩:=A2i (ps:=["axes","known"]) l23 λ_ _ _ _ _ _=>A1w λ_=>A1w λ_=>A5a rfl;obtain ⟨d24,F24,b24,k24⟩:=A2i (ps:=["program"]) l24 λ_ _ _ _ _ _=>A1w λ_=>A5a rfl;obtain ⟨d25,F25,b25,k25⟩:=A2i (ps:=["part","let","arrays","known"]) l25 λ_ _ _ _ _ _=>A1w λ_=>A1w λ_=>A1w λ_=>A1w λ_=>A5a rfl;obtain ⟨d26,F26,b26,k26⟩:=A2i (ps:=["axis","bound"]) l26 λ_ _ _ _ _ _=>A1w λ_=>A1w λ_=>A5a rfl;obtain ⟨d27,F27,b27,k27⟩:=A2i (ps:=["axis","bound","known"]) l27 λ_ _ _ _ _ _=>A1w λ_=>A1w λ_=>A1w λ_=>A5a rfl;obtain ⟨d28,F28,b28,k28⟩:=A2i (ps:=["read","bound","arrays"]) l28 λ_ _ _ _ _ _=>A1w λ_=>A1w λ_=>A1w λ_=>A5a rfl;obtain ⟨d29,F29,b29,k29⟩:=A2i (ps:=["part","let"]) l29 λ_ _ _ _ _ _=>A1w λ_=>A1w λ_=>A5a rfl;obtain ⟨d30,F30,b30,k30⟩:=A2i (ps:=["program"]) l30 λ_ _ _ _ _ _=>A1w λ_=>A5a rfl;obtain ⟨d31,F31,b31,k31⟩:=A2i (ps:=["_law_rest"]) l31 λ_ _ _ _ _ _=>A1w λ_=>A5a rfl;obtain ⟨d32,F32,b32,k32⟩:=A2i (ps:=["_law_k","_law_seed"]) l32 λ_ _ _ _ _ _=>A1w λ_=>A1w λ_=>A5a rfl;obtain ⟨d33,F33,b33,k33⟩:=A2i (ps:=["_law_cell_here","_law_names"]) l33 λ_ _ _ _ _ _=>A1w λ_=>A1w λ_=>A5a rfl;obtain ⟨d34,F34,b34,k34⟩:=A2i (ps:=["_law_rest","_law_about","_law_bound","_law_top","_law_wild"]) l34 λ_ _ _ _ _ _=>A1w λ_=>A1w λ_=>A1w λ_=>A1w λ_=>A1w λ_=>A5a rfl;obtain ⟨d35,F35,b35,k35⟩:=A2i (ps:=["_law_rest","_law_about","_law_bound","_law_top","_law_still","_law_deep"]) l35 λ_ _ _ _ _ _=>A1w λ_=>A1w λ_=>A1w λ_=>A1w λ_=>A1w λ_=>A1w λ_=>A5a rfl;obtain ⟨d36,F36,b36,k36⟩:=A2i (ps:=["_law_tree","_law_about","_law_bound","_law_top"]) l36 λ_ _ _ _ _ _=>A1w λ_=>A1w λ_=>A1w λ_=>A1w λ_=>A5a rfl;obtain ⟨d37,F37,b37,k37⟩:=A2i (ps:=["_law_tree","_law_about","_law_bound","_law_top","_law_still"]) l37 λ_ _ _ _ _ _=>A1w λ_=>A1w λ_=>A1w λ_=>A1w λ_=>A1w λ_=>A5a rfl;obtain ⟨d38,F38,b38,k38⟩:=A2i (ps:=["_law_tree","_law_kept"]) l38 λ_ _ _ _ _ _=>A1w λ_=>A1w λ_=>A5a rfl;obtain ⟨d39,F39,b39,k39⟩:=A2i (ps:=["_law_program","_law_whole"]) l39 λ_ _ _ _ _ _=>A1w λ_=>A1w λ_=>A5a rfl;obtain ⟨d40,F40,b40,k40⟩:=A2i (ps:=["_law_program","_law_whole"]) l40 λ_ _ _ _ _ _=>A1w λ_=>A1w λ_=>A5a rfl;obtain ⟨d41,F41,b41,k41⟩:=A2i (ps:=["_law_program"]) l41 λ_ _ _ _ _ _=>A1w λ_=>A5a rfl;obtain ⟨d42,F42,b42,k42⟩:=A2i (ps:=["_law_script","_law_about","_law_names","_law_told"]) l42 λ_ _ _ _ _ _=>A1w λ_=>A1w λ_=>A1w λ_=>A1w λ_=>A5a rfl;obtain ⟨_,_,_,_,_,_,_,_,_,l43,c,k43⟩:=l43;have F43:=C4h (st:=C2i) l43 c k43;have b43:=F43.binds (ps:=["_law_script"]) λ_ _ _ _ _ _=>A1w λ_=>A5a rfl;exact ⟨_,λs v=> .of_eq rfl,λbase _ _=>D0a (t:=⟨C_LoomError,C_NoName,C_NoShape,C_TooMuch,C_BeyondRim,C_NotYet,C_Term,C_Number,C_Place,C_Read,C_Pair,C_Plus,C_Minus,C_Times,C_Sum,C_Guard,C_Part,C_Let,C_Program,p_WORDS_OF_TERMS,f0,_,f1,_,f2,_,f3,_,f4,_,f5,_,f6,_,f7,_,f8,_,f9,_,f10,_,f11,_,f12,_,f13,_,f14,_,f15,_,f16,_,f17,_,f18,_,f19,_,f20,_,f21,_,f22,_,f23,_,f24,_,f25,_,f26,_,f27,_,f28,_,f29,_,f30,_,f31,_,f32,_,f33,_,f34,_,f35,_,f36,_,f37,_,f38,_,f39,_,f40,_,f41,_,f42,_,fa,_⟩) ⟨F0,Z0f X G a0,b0,F1,b1,F2,b2,F3,b3,F4,b4,F5,b5,F6,b6,F7,b7,F8,Z0f X G a8,b8,F9,Z0f X G a9,b9,F10,Z0f X G a10,b10,F11,Z0f X G a11,b11,F12,b12,F13,b13,F14,Z0f X G a14,b14,F15,Z0f X G a15,b15,F16,Z0f X G a16,b16,F17,Z0f X G a17,b17,F18,Z0f X G a18,b18,F19,Z0f X G a19,b19,F20,Z0f X G a20,b20,F21,Z0f X G a21,b21,F22,Z0f X G a22,b22,F23,Z0f X G a23,b23,F24,Z0f X G a24,b24,F25,Z0f X G a25,b25,F26,Z0f X G a26,b26,F27,Z0f X G a27,b27,F28,Z0f X G a28,b28,F29,Z0f X G a29,b29,F30,Z0f X G a30,b30,F31,Z0f X G a31,b31,F32,Z0f X G a32,b32,F33,Z0f X G a33,b33,F34,Z0f X G a34,b34,F35,Z0f X G a35,b35,F36,Z0f X G a36,b36,F37,Z0f X G a37,b37,F38,Z0f X G a38,b38,F39,Z0f X G a39,b39,F40,Z0f X G a40,b40,F41,Z0f X G a41,b41,F42,Z0f X G a42,b42,F43,Z0f X G a43,b43,⟨_,Z0f X G aP_MOST_LETTERS,⟨_,rfl⟩⟩,⟨_,Z0f X G aP_MOST_AXES,⟨_,rfl⟩⟩,⟨_,Z0f X G aP_WORDS_OF_TERMS,rfl⟩,⟨_,_,_,lP_WORDS_OF_TERMS,rfl,rfl,(by show 2<=sizeLine;decide),.cons ⟨_,rfl⟩ (.cons ⟨_,rfl⟩ (.nil))⟩,Z0f X G aC_LoomError,Z0f X G aC_NoName,Z0f X G aC_NoShape,Z0f X G aC_TooMuch,xm_NoName_ValueError,xm_NoShape_ValueError,xe_NoName,xe_NoShape,⟨x1_NoName,x2_NoName,x3_NoName,x4_NoName,x5_NoName,x6_NoName,x7_NoName⟩,A0o ne_NoName_NoShape cs_NoShape ct_NoShape mr_NoName_NoShape,A0o ne_NoName_TooMuch cs_TooMuch ct_TooMuch mr_NoName_TooMuch,⟨x1_NoShape,x2_NoShape,x3_NoShape,x4_NoShape,x5_NoShape,x6_NoShape,x7_NoShape⟩,A0o ne_NoShape_NoName cs_NoName ct_NoName mr_NoShape_NoName,A0o ne_NoShape_TooMuch cs_TooMuch ct_TooMuch mr_NoShape_TooMuch,B3q eb_NoName cs_NoName ct_NoName mr_NoName_NoName,B3q eb_LoomError cs_LoomError ct_LoomError mr_NoName_LoomError,B3q eb_NoName cs_NoName ct_NoName mr_NoShape_NoName,B3q eb_NoShape cs_NoShape ct_NoShape mr_NoShape_NoShape,B3q eb_LoomError cs_LoomError ct_LoomError mr_NoShape_LoomError,Z0f X G aC_Number,Z0f X G aC_Place,Z0f X G aC_Read,Z0f X G aC_Pair,Z0f X G aC_Plus,Z0f X G aC_Minus,Z0f X G aC_Times,Z0f X G aC_Sum,Z0f X G aC_Guard,Z0f X G aC_Part,Z0f X G aC_Let,Z0f X G aC_Program,⟨pg_Guard,hd_Guard,po_Guard,sa_Guard⟩,⟨mk_Guard,in_Guard,i6,kc_Guard⟩,na_Guard_axis,na_Guard_low,na_Guard_high,na_Guard_inner,na_Guard_outer,⟨t1_Guard,t2_Guard,t3_Guard,t4_Guard⟩,A5v cs_Guard ct_Guard mr_Guard_Guard,A0o ne_Guard_Pair cs_Pair ct_Pair mr_Guard_Pair,A0o ne_Guard_Read cs_Read ct_Read mr_Guard_Read,A0o ne_Guard_Sum cs_Sum ct_Sum mr_Guard_Sum,A0o ne_Guard_Place cs_Place ct_Place mr_Guard_Place,⟨pg_Let,hd_Let,po_Let,sa_Let⟩,⟨mk_Let,in_Let,i12,kc_Let⟩,na_Let_name,na_Let_axes,na_Let_term,⟨t1_Let,t2_Let,t3_Let,t4_Let⟩,mb_Let_list,mb_Let_tuple,mb_Let_dict,A0o ne_Let_Guard cs_Guard ct_Guard mr_Let_Guard,A0o ne_Let_Pair cs_Pair ct_Pair mr_Let_Pair,A0o ne_Let_Read cs_Read ct_Read mr_Let_Read,A0o ne_Let_Sum cs_Sum ct_Sum mr_Let_Sum,A0o ne_Let_Place cs_Place ct_Place mr_Let_Place,⟨pg_Minus,hd_Minus,po_Minus,sa_Minus⟩,⟨mk_Minus,in_Minus,i4,kc_Minus⟩,na_Minus_left,na_Minus_right,⟨t1_Minus,t2_Minus,t3_Minus,t4_Minus⟩,A0o ne_Minus_Guard cs_Guard ct_Guard mr_Minus_Guard,A5v cs_Pair ct_Pair mr_Minus_Pair,A0o ne_Minus_Read cs_Read ct_Read mr_Minus_Read,A0o ne_Minus_Sum cs_Sum ct_Sum mr_Minus_Sum,A0o ne_Minus_Place cs_Place ct_Place mr_Minus_Place,⟨pg_Number,hd_Number,po_Number,sa_Number⟩,⟨mk_Number,in_Number,i1,kc_Number⟩,na_Number_number,⟨t1_Number,t2_Number,t3_Number,t4_Number⟩,A0o ne_Number_Guard cs_Guard ct_Guard mr_Number_Guard,A0o ne_Number_Pair cs_Pair ct_Pair mr_Number_Pair,A0o ne_Number_Read cs_Read ct_Read mr_Number_Read,A0o ne_Number_Sum cs_Sum ct_Sum mr_Number_Sum,A0o ne_Number_Place cs_Place ct_Place mr_Number_Place,⟨pg_Part,hd_Part,po_Part,sa_Part⟩,⟨mk_Part,in_Part,i7,kc_Part⟩,na_Part_term,na_Part_sums,na_Part_guards,⟨t1_Part,t2_Part,t3_Part,t4_Part⟩,A0o ne_Part_Guard cs_Guard ct_Guard mr_Part_Guard,A0o ne_Part_Pair cs_Pair ct_Pair mr_Part_Pair,A0o ne_Part_Read cs_Read ct_Read mr_Part_Read,A0o ne_Part_Sum cs_Sum ct_Sum mr_Part_Sum,A0o ne_Part_Place cs_Place ct_Place mr_Part_Place,⟨pg_Place,hd_Place,po_Place,sa_Place⟩,⟨mk_Place,in_Place,i2,kc_Place⟩,na_Place_axis,⟨t1_Place,t2_Place,t3_Place,t4_Place⟩,A0o ne_Place_Guard cs_Guard ct_Guard mr_Place_Guard,A0o ne_Place_Pair cs_Pair ct_Pair mr_Place_Pair,A0o ne_Place_Read cs_Read ct_Read mr_Place_Read,A0o ne_Place_Sum cs_Sum ct_Sum mr_Place_Sum,A5v cs_Place ct_Place mr_Place_Place,⟨pg_Plus,hd_Plus,po_Plus,sa_Plus⟩,⟨mk_Plus,in_Plus,i4,kc_Plus⟩,na_Plus_left,na_Plus_right,⟨t1_Plus,t2_Plus,t3_Plus,t4_Plus⟩,A0o ne_Plus_Guard cs_Guard ct_Guard mr_Plus_Guard,A5v cs_Pair ct_Pair mr_Plus_Pair,A0o ne_Plus_Read cs_Read ct_Read mr_Plus_Read,A0o ne_Plus_Sum cs_Sum ct_Sum mr_Plus_Sum,A0o ne_Plus_Place cs_Place ct_Place mr_Plus_Place,⟨pg_Program,hd_Program,po_Program,sa_Program⟩,⟨mk_Program,in_Program,i13,kc_Program⟩,na_Program_wheel,na_Program_axes,na_Program_tables,na_Program_lets,na_Program_outs,⟨t1_Program,t2_Program,t3_Program,t4_Program⟩,A0o ne_Program_Guard cs_Guard ct_Guard mr_Program_Guard,A0o ne_Program_Pair cs_Pair ct_Pair mr_Program_Pair,A0o ne_Program_Read cs_Read ct_Read mr_Program_Read,A0o ne_Program_Sum cs_Sum ct_Sum mr_Program_Sum,A0o ne_Program_Place cs_Place ct_Place mr_Program_Place,⟨pg_Read,hd_Read,po_Read,sa_Read⟩,⟨mk_Read,in_Read,i3,kc_Read⟩,na_Read_array,na_Read_indexes,⟨t1_Read,t2_Read,t3_Read,t4_Read⟩,A0o ne_Read_Guard cs_Guard ct_Guard mr_Read_Guard,A0o ne_Read_Pair cs_Pair ct_Pair mr_Read_Pair,A5v cs_Read ct_Read mr_Read_Read,A0o ne_Read_Sum cs_Sum ct_Sum mr_Read_Sum,A0o ne_Read_Place cs_Place ct_Place mr_Read_Place,⟨pg_Sum,hd_Sum,po_Sum,sa_Sum⟩,⟨mk_Sum,in_Sum,i5,kc_Sum⟩,na_Sum_axis,na_Sum_body,⟨t1_Sum,t2_Sum,t3_Sum,t4_Sum⟩,A0o ne_Sum_Guard cs_Guard ct_Guard mr_Sum_Guard,A0o ne_Sum_Pair cs_Pair ct_Pair mr_Sum_Pair,A0o ne_Sum_Read cs_Read ct_Read mr_Sum_Read,A5v cs_Sum ct_Sum mr_Sum_Sum,A0o ne_Sum_Place cs_Place ct_Place mr_Sum_Place,⟨pg_Times,hd_Times,po_Times,sa_Times⟩,⟨mk_Times,in_Times,i4,kc_Times⟩,na_Times_left,na_Times_right,⟨t1_Times,t2_Times,t3_Times,t4_Times⟩,A0o ne_Times_Guard cs_Guard ct_Guard mr_Times_Guard,A5v cs_Pair ct_Pair mr_Times_Pair,A0o ne_Times_Read cs_Read ct_Read mr_Times_Read,A0o ne_Times_Sum cs_Sum ct_Sum mr_Times_Sum,A0o ne_Times_Place cs_Place ct_Place mr_Times_Place,Z1c X G z_isinstance,Z1c X G z_list,Z1c X G z_tuple,Z1c X G z_dict,Z1c X G z_enumerate,Z1c X G z_len,Z1c X G z_all,Z1c X G z_range,Z1c X G z_min,Z1c X G z_max,Z1c X G z_ValueError,Z1c X G z_reversed⟩⟩
theorem walk {l:PySem.W.OpenLaw} {q:Program} {loose:List Str} {XP:(Str->Option Value)->Heap->Prop} {YP:World->Heap->Prop} {d:DefRec} {K:Params->PySem.W.Frag} (hn:l.most=some 63) (hdf:d.params.defaults=[])
  (hY:∀(w:World) (h:Heap),YP w h->(K w.params).In h)
  (F:∀(w:World) (mg:Str->Option Value) (fa:Addr) (h:Heap),(K w.params).In h->h.Ns mainGlobals mg->mg d.name=some (.ref fa)->
   ∃fd:FuncData,(∀(s:Shared) (u:Value),BindsTo s fd ⟨[u],[]⟩ [("_law_script",u)])/\∀base:Heap,(K w.params).In base->base.Ns mainGlobals mg->A2f l.prog w (K w.params) mg base CX0 19 fa fd ["_law_script"] (C2m (K w.params))) :
  PySem.W.WalkO q loose XP YP l.row.toRowW d [] (λf vs=>PySem.call f vs) :=
 L2.C6w (n:=63) (k:=19) (x:="_law_script") (CX:=λ_=>CX0) (sp:=λw=>C2m (K w.params)) hn (by decide) hdf ⟨rfl,by decide,by decide,rfl⟩ hY F (λ_ _ a ns hl hO hS=>⟨a,ns,rfl,ScF.mk hO hS,hl,λ_=>rfl⟩) λ_ _ _ _ _ z=>z
end My
local macro_rules | `(tactic| walk_at "kf") => `(tactic| (refine' My.C9w ?l ?c ?k; (case l => k_is); (case c => k_is); (case k => k_is)))
open PySem PySem.W PyProof.Rows
set_option maxRecDepth 100000 in
set_option maxHeartbeats 0 in
theorem PySem.Challenge.cw_arrayloom_k13_shapes_looked_holds : PySem.Challenge.rw_arrayloom_k13_shapes_looked.Holds := by
 w_on;o_law;k_head;(case hw=>w_witness2)
 k_fill
 refine My.walk (l:=PySem.Challenge.rw_arrayloom_k13_shapes_looked) rfl rfl (λw h Y=>PySem.W.kIn_of Y) ?F
 case F =>
  intro w mg fa h KX G hmg;refine' My.C9p KX G hmg ?aC_LoomError ?aC_NoName ?aC_NoShape ?aC_TooMuch ?aC_BeyondRim ?aC_NotYet ?aC_Term ?aC_Number ?aC_Place ?aC_Read ?aC_Pair ?aC_Plus ?aC_Minus ?aC_Times ?aC_Sum ?aC_Guard ?aC_Part ?aC_Let ?aC_Program ?a0 ?l0 ?a1 ?l1 ?i1 ?a2 ?l2 ?i2 ?a3 ?l3 ?i3 ?a4 ?l4 ?i4 ?a5 ?l5 ?i5 ?a6 ?l6 ?i6 ?a7 ?l7 ?i7 ?a8 ?l8 ?a9 ?l9 ?a10 ?l10 ?a11 ?l11 ?a12 ?l12 ?i12 ?a13 ?l13 ?i13 ?a14 ?l14 ?a15 ?l15 ?a16 ?l16 ?a17 ?l17 ?a18 ?l18 ?a19 ?l19 ?a20 ?l20 ?a21 ?l21 ?a22 ?l22 ?a23 ?l23 ?a24 ?l24 ?a25 ?l25 ?a26 ?l26 ?a27 ?l27 ?a28 ?l28 ?a29 ?l29 ?a30 ?l30 ?a31 ?l31 ?a32 ?l32 ?a33 ?l33 ?a34 ?l34 ?a35 ?l35 ?a36 ?l36 ?a37 ?l37 ?a38 ?l38 ?a39 ?l39 ?a40 ?l40 ?a41 ?l41 ?a42 ?l42 ?a43 ?l43 ?aP_MOST_LETTERS ?aP_MOST_AXES ?aP_WORDS_OF_TERMS ?lP_WORDS_OF_TERMS ?xm_NoName_ValueError ?xm_NoShape_ValueError ?xe_NoName ?xe_NoShape ?x1_NoName ?x2_NoName ?x3_NoName ?x4_NoName ?x5_NoName ?x6_NoName ?x7_NoName ?cs_NoShape ?ct_NoShape ?mr_NoName_NoShape ?ne_NoName_NoShape ?cs_TooMuch ?ct_TooMuch ?mr_NoName_TooMuch ?ne_NoName_TooMuch ?x1_NoShape ?x2_NoShape ?x3_NoShape ?x4_NoShape ?x5_NoShape ?x6_NoShape ?x7_NoShape ?cs_NoName ?ct_NoName ?mr_NoShape_NoName ?ne_NoShape_NoName ?mr_NoShape_TooMuch ?ne_NoShape_TooMuch ?mr_NoName_NoName ?eb_NoName ?cs_LoomError ?ct_LoomError ?mr_NoName_LoomError ?eb_LoomError ?mr_NoShape_NoShape ?eb_NoShape ?mr_NoShape_LoomError ?pg_Guard ?hd_Guard ?po_Guard ?sa_Guard ?mk_Guard ?kc_Guard ?in_Guard ?na_Guard_axis ?na_Guard_low ?na_Guard_high ?na_Guard_inner ?na_Guard_outer ?t1_Guard ?t2_Guard ?t3_Guard ?t4_Guard ?cs_Guard ?ct_Guard ?mr_Guard_Guard ?cs_Pair ?ct_Pair ?mr_Guard_Pair ?ne_Guard_Pair ?cs_Read ?ct_Read ?mr_Guard_Read ?ne_Guard_Read ?cs_Sum ?ct_Sum ?mr_Guard_Sum ?ne_Guard_Sum ?cs_Place ?ct_Place ?mr_Guard_Place ?ne_Guard_Place ?pg_Let ?hd_Let ?po_Let ?sa_Let ?mk_Let ?kc_Let ?in_Let ?na_Let_name ?na_Let_axes ?na_Let_term ?t1_Let ?t2_Let ?t3_Let ?t4_Let ?mb_Let_list ?mb_Let_tuple ?mb_Let_dict ?mr_Let_Guard ?ne_Let_Guard ?mr_Let_Pair ?ne_Let_Pair ?mr_Let_Read ?ne_Let_Read ?mr_Let_Sum ?ne_Let_Sum ?mr_Let_Place ?ne_Let_Place ?pg_Minus ?hd_Minus ?po_Minus ?sa_Minus ?mk_Minus ?kc_Minus ?in_Minus ?na_Minus_left ?na_Minus_right ?t1_Minus ?t2_Minus ?t3_Minus ?t4_Minus ?mr_Minus_Guard ?ne_Minus_Guard ?mr_Minus_Pair ?mr_Minus_Read ?ne_Minus_Read ?mr_Minus_Sum ?ne_Minus_Sum ?mr_Minus_Place ?ne_Minus_Place ?pg_Number ?hd_Number ?po_Number ?sa_Number ?mk_Number ?kc_Number ?in_Number ?na_Number_number ?t1_Number ?t2_Number ?t3_Number ?t4_Number ?mr_Number_Guard ?ne_Number_Guard ?mr_Number_Pair ?ne_Number_Pair ?mr_Number_Read ?ne_Number_Read ?mr_Number_Sum ?ne_Number_Sum ?mr_Number_Place ?ne_Number_Place ?pg_Part ?hd_Part ?po_Part ?sa_Part ?mk_Part ?kc_Part ?in_Part ?na_Part_term ?na_Part_sums ?na_Part_guards ?t1_Part ?t2_Part ?t3_Part ?t4_Part ?mr_Part_Guard ?ne_Part_Guard ?mr_Part_Pair ?ne_Part_Pair ?mr_Part_Read ?ne_Part_Read ?mr_Part_Sum ?ne_Part_Sum ?mr_Part_Place ?ne_Part_Place ?pg_Place ?hd_Place ?po_Place ?sa_Place ?mk_Place ?kc_Place ?in_Place ?na_Place_axis ?t1_Place ?t2_Place ?t3_Place ?t4_Place ?mr_Place_Guard ?ne_Place_Guard ?mr_Place_Pair ?ne_Place_Pair ?mr_Place_Read ?ne_Place_Read ?mr_Place_Sum ?ne_Place_Sum ?mr_Place_Place ?pg_Plus ?hd_Plus ?po_Plus ?sa_Plus ?mk_Plus ?kc_Plus ?in_Plus ?na_Plus_left ?na_Plus_right ?t1_Plus ?t2_Plus ?t3_Plus ?t4_Plus ?mr_Plus_Guard ?ne_Plus_Guard ?mr_Plus_Pair ?mr_Plus_Read ?ne_Plus_Read ?mr_Plus_Sum ?ne_Plus_Sum ?mr_Plus_Place ?ne_Plus_Place ?pg_Program ?hd_Program ?po_Program ?sa_Program ?mk_Program ?kc_Program ?in_Program ?na_Program_wheel ?na_Program_axes ?na_Program_tables ?na_Program_lets ?na_Program_outs ?t1_Program ?t2_Program ?t3_Program ?t4_Program ?mr_Program_Guard ?ne_Program_Guard ?mr_Program_Pair ?ne_Program_Pair ?mr_Program_Read ?ne_Program_Read ?mr_Program_Sum ?ne_Program_Sum ?mr_Program_Place ?ne_Program_Place ?pg_Read ?hd_Read ?po_Read ?sa_Read ?mk_Read ?kc_Read ?in_Read ?na_Read_array ?na_Read_indexes ?t1_Read ?t2_Read ?t3_Read ?t4_Read ?mr_Read_Guard ?ne_Read_Guard ?mr_Read_Pair ?ne_Read_Pair ?mr_Read_Read ?mr_Read_Sum ?ne_Read_Sum ?mr_Read_Place ?ne_Read_Place ?pg_Sum ?hd_Sum ?po_Sum ?sa_Sum ?mk_Sum ?kc_Sum ?in_Sum ?na_Sum_axis ?na_Sum_body ?t1_Sum ?t2_Sum ?t3_Sum ?t4_Sum ?mr_Sum_Guard ?ne_Sum_Guard ?mr_Sum_Pair ?ne_Sum_Pair ?mr_Sum_Read ?ne_Sum_Read ?mr_Sum_Sum ?mr_Sum_Place ?ne_Sum_Place ?pg_Times ?hd_Times ?po_Times ?sa_Times ?mk_Times ?kc_Times ?in_Times ?na_Times_left ?na_Times_right ?t1_Times ?t2_Times ?t3_Times ?t4_Times ?mr_Times_Guard ?ne_Times_Guard ?mr_Times_Pair ?mr_Times_Read ?ne_Times_Read ?mr_Times_Sum ?ne_Times_Sum ?mr_Times_Place ?ne_Times_Place ?z_isinstance ?z_list ?z_tuple ?z_dict ?z_enumerate ?z_len ?z_all ?z_range ?z_min ?z_max ?z_ValueError ?z_reversed
  (case aC_LoomError | aC_NoName | aC_NoShape | aC_TooMuch | aC_BeyondRim | aC_NotYet | aC_Term | aC_Number | aC_Place | aC_Read | aC_Pair=>k_is)
  (case aC_Plus | aC_Minus | aC_Times | aC_Sum | aC_Guard | aC_Part | aC_Let | aC_Program=>k_is)
  (case a0=>k_is);(case l0=>walk_at "kf")
  (case a1=>k_is);(case l1=>walk_at "kf")
  (case i1=>k_is)
  (case a2=>k_is);(case l2=>walk_at "kf")
  (case i2=>k_is)
  (case a3=>k_is);(case l3=>walk_at "kf")
  (case i3=>k_is)
  (case a4=>k_is);(case l4=>walk_at "kf")
  (case i4=>k_is)
  (case a5=>k_is);(case l5=>walk_at "kf")
  (case i5=>k_is)
  (case a6=>k_is);(case l6=>walk_at "kf")
  (case i6=>k_is)
  (case a7=>k_is);(case l7=>walk_at "kf")
  (case i7=>k_is)
  (case a8=>k_is);(case l8=>walk_at "kf")
  (case a9=>k_is);(case l9=>walk_at "kf")
  (case a10=>k_is);(case l10=>walk_at "kf")
  (case a11=>k_is);(case l11=>walk_at "kf")
  (case a12=>k_is);(case l12=>walk_at "kf")
  (case i12=>k_is)
  (case a13=>k_is);(case l13=>walk_at "kf")
  (case i13=>k_is)
  (case a14=>k_is);(case l14=>walk_at "kf")
  (case a15=>k_is);(case l15=>walk_at "kf")
  (case a16=>k_is);(case l16=>walk_at "kf")
  (case a17=>k_is);(case l17=>walk_at "kf")
  (case a18=>k_is);(case l18=>walk_at "kf")
  (case a19=>k_is);(case l19=>walk_at "kf")
  (case a20=>k_is);(case l20=>walk_at "kf")
  (case a21=>k_is);(case l21=>walk_at "kf")
  (case a22=>k_is);(case l22=>walk_at "kf")
  (case a23=>k_is);(case l23=>walk_at "kf")
  (case a24=>k_is);(case l24=>walk_at "kf")
  (case a25=>k_is);(case l25=>walk_at "kf")
  (case a26=>k_is);(case l26=>walk_at "kf")
  (case a27=>k_is);(case l27=>walk_at "kf")
  (case a28=>k_is);(case l28=>walk_at "kf")
  (case a29=>k_is);(case l29=>walk_at "kf")
  (case a30=>k_is);(case l30=>walk_at "kf")
  (case a31=>k_is);(case l31=>walk_at "kf")
  (case a32=>k_is);(case l32=>walk_at "kf")
  (case a33=>k_is);(case l33=>walk_at "kf")
  (case a34=>k_is);(case l34=>walk_at "kf")
  (case a35=>k_is);(case l35=>walk_at "kf")
  (case a36=>k_is);(case l36=>walk_at "kf")
  (case a37=>k_is);(case l37=>walk_at "kf")
  (case a38=>k_is);(case l38=>walk_at "kf")
  (case a39=>k_is);(case l39=>walk_at "kf")
  (case a40=>k_is);(case l40=>walk_at "kf")
  (case a41=>k_is);(case l41=>walk_at "kf")
  (case a42=>k_is);(case l42=>walk_at "kf")
  (case a43=>k_is);(case l43=>walk_at "kf")
  (case aP_MOST_LETTERS | aP_MOST_AXES | aP_WORDS_OF_TERMS | lP_WORDS_OF_TERMS | xm_NoName_ValueError | xm_NoShape_ValueError=>k_is)
  (case xe_NoName | xe_NoShape=>k_exc)
  (case x1_NoName | x2_NoName | x3_NoName | x4_NoName | x5_NoName | x6_NoName | x7_NoName | cs_NoShape | ct_NoShape | mr_NoName_NoShape=>k_is)
  (case ne_NoName_NoShape=>first | rfl | decide)
  (case cs_TooMuch | ct_TooMuch | mr_NoName_TooMuch=>k_is)
  (case ne_NoName_TooMuch=>first | rfl | decide)
  (case x1_NoShape | x2_NoShape | x3_NoShape | x4_NoShape | x5_NoShape | x6_NoShape | x7_NoShape | cs_NoName | ct_NoName | mr_NoShape_NoName=>k_is)
  (case ne_NoShape_NoName=>first | rfl | decide)
  (case mr_NoShape_TooMuch=>k_is)
  (case ne_NoShape_TooMuch=>first | rfl | decide)
  (case mr_NoName_NoName | eb_NoName | cs_LoomError | ct_LoomError | mr_NoName_LoomError | eb_LoomError | mr_NoShape_NoShape | eb_NoShape | mr_NoShape_LoomError | pg_Guard | hd_Guard=>k_is)
  (case po_Guard | sa_Guard | mk_Guard | kc_Guard | in_Guard | na_Guard_axis | na_Guard_low | na_Guard_high | na_Guard_inner | na_Guard_outer | t1_Guard=>k_is)
  (case t2_Guard | t3_Guard | t4_Guard | cs_Guard | ct_Guard | mr_Guard_Guard | cs_Pair | ct_Pair | mr_Guard_Pair=>k_is)
  (case ne_Guard_Pair=>first | rfl | decide)
  (case cs_Read | ct_Read | mr_Guard_Read=>k_is)
  (case ne_Guard_Read=>first | rfl | decide)
  (case cs_Sum | ct_Sum | mr_Guard_Sum=>k_is)
  (case ne_Guard_Sum=>first | rfl | decide)
  (case cs_Place | ct_Place | mr_Guard_Place=>k_is)
  (case ne_Guard_Place=>first | rfl | decide)
  (case pg_Let | hd_Let | po_Let | sa_Let | mk_Let | kc_Let | in_Let | na_Let_name | na_Let_axes | na_Let_term | t1_Let=>k_is)
  (case t2_Let | t3_Let | t4_Let | mb_Let_list | mb_Let_tuple | mb_Let_dict | mr_Let_Guard=>k_is)
  (case ne_Let_Guard=>first | rfl | decide)
  (case mr_Let_Pair=>k_is)
  (case ne_Let_Pair=>first | rfl | decide)
  (case mr_Let_Read=>k_is)
  (case ne_Let_Read=>first | rfl | decide)
  (case mr_Let_Sum=>k_is)
  (case ne_Let_Sum=>first | rfl | decide)
  (case mr_Let_Place=>k_is)
  (case ne_Let_Place=>first | rfl | decide)
  (case pg_Minus | hd_Minus | po_Minus | sa_Minus | mk_Minus | kc_Minus | in_Minus | na_Minus_left | na_Minus_right | t1_Minus | t2_Minus=>k_is)
  (case t3_Minus | t4_Minus | mr_Minus_Guard=>k_is)
  (case ne_Minus_Guard=>first | rfl | decide)
  (case mr_Minus_Pair | mr_Minus_Read=>k_is)
  (case ne_Minus_Read=>first | rfl | decide)
  (case mr_Minus_Sum=>k_is)
  (case ne_Minus_Sum=>first | rfl | decide)
  (case mr_Minus_Place=>k_is)
  (case ne_Minus_Place=>first | rfl | decide)
  (case pg_Number | hd_Number | po_Number | sa_Number | mk_Number | kc_Number | in_Number | na_Number_number | t1_Number | t2_Number | t3_Number=>k_is)
  (case t4_Number | mr_Number_Guard=>k_is)
  (case ne_Number_Guard=>first | rfl | decide)
  (case mr_Number_Pair=>k_is)
  (case ne_Number_Pair=>first | rfl | decide)
  (case mr_Number_Read=>k_is)
  (case ne_Number_Read=>first | rfl | decide)
  (case mr_Number_Sum=>k_is)
  (case ne_Number_Sum=>first | rfl | decide)
  (case mr_Number_Place=>k_is)
  (case ne_Number_Place=>first | rfl | decide)
  (case pg_Part | hd_Part | po_Part | sa_Part | mk_Part | kc_Part | in_Part | na_Part_term | na_Part_sums | na_Part_guards | t1_Part=>k_is)
  (case t2_Part | t3_Part | t4_Part | mr_Part_Guard=>k_is)
  (case ne_Part_Guard=>first | rfl | decide)
  (case mr_Part_Pair=>k_is)
  (case ne_Part_Pair=>first | rfl | decide)
  (case mr_Part_Read=>k_is)
  (case ne_Part_Read=>first | rfl | decide)
  (case mr_Part_Sum=>k_is)
  (case ne_Part_Sum=>first | rfl | decide)
  (case mr_Part_Place=>k_is)
  (case ne_Part_Place=>first | rfl | decide)
  (case pg_Place | hd_Place | po_Place | sa_Place | mk_Place | kc_Place | in_Place | na_Place_axis | t1_Place | t2_Place | t3_Place=>k_is)
  (case t4_Place | mr_Place_Guard=>k_is)
  (case ne_Place_Guard=>first | rfl | decide)
  (case mr_Place_Pair=>k_is)
  (case ne_Place_Pair=>first | rfl | decide)
  (case mr_Place_Read=>k_is)
  (case ne_Place_Read=>first | rfl | decide)
  (case mr_Place_Sum=>k_is)
  (case ne_Place_Sum=>first | rfl | decide)
  (case mr_Place_Place | pg_Plus | hd_Plus | po_Plus | sa_Plus | mk_Plus | kc_Plus | in_Plus | na_Plus_left | na_Plus_right | t1_Plus=>k_is)
  (case t2_Plus | t3_Plus | t4_Plus | mr_Plus_Guard=>k_is)
  (case ne_Plus_Guard=>first | rfl | decide)
  (case mr_Plus_Pair | mr_Plus_Read=>k_is)
  (case ne_Plus_Read=>first | rfl | decide)
  (case mr_Plus_Sum=>k_is)
  (case ne_Plus_Sum=>first | rfl | decide)
  (case mr_Plus_Place=>k_is)
  (case ne_Plus_Place=>first | rfl | decide)
  (case pg_Program | hd_Program | po_Program | sa_Program | mk_Program | kc_Program | in_Program | na_Program_wheel | na_Program_axes | na_Program_tables | na_Program_lets=>k_is)
  (case na_Program_outs | t1_Program | t2_Program | t3_Program | t4_Program | mr_Program_Guard=>k_is)
  (case ne_Program_Guard=>first | rfl | decide)
  (case mr_Program_Pair=>k_is)
  (case ne_Program_Pair=>first | rfl | decide)
  (case mr_Program_Read=>k_is)
  (case ne_Program_Read=>first | rfl | decide)
  (case mr_Program_Sum=>k_is)
  (case ne_Program_Sum=>first | rfl | decide)
  (case mr_Program_Place=>k_is)
  (case ne_Program_Place=>first | rfl | decide)
  (case pg_Read | hd_Read | po_Read | sa_Read | mk_Read | kc_Read | in_Read | na_Read_array | na_Read_indexes | t1_Read | t2_Read=>k_is)
  (case t3_Read | t4_Read | mr_Read_Guard=>k_is)
  (case ne_Read_Guard=>first | rfl | decide)
  (case mr_Read_Pair=>k_is)
  (case ne_Read_Pair=>first | rfl | decide)
  (case mr_Read_Read | mr_Read_Sum=>k_is)
  (case ne_Read_Sum=>first | rfl | decide)
  (case mr_Read_Place=>k_is)
  (case ne_Read_Place=>first | rfl | decide)
  (case pg_Sum | hd_Sum | po_Sum | sa_Sum | mk_Sum | kc_Sum | in_Sum | na_Sum_axis | na_Sum_body | t1_Sum | t2_Sum=>k_is)
  (case t3_Sum | t4_Sum | mr_Sum_Guard=>k_is)
  (case ne_Sum_Guard=>first | rfl | decide)
  (case mr_Sum_Pair=>k_is)
  (case ne_Sum_Pair=>first | rfl | decide)
  (case mr_Sum_Read=>k_is)
  (case ne_Sum_Read=>first | rfl | decide)
  (case mr_Sum_Sum | mr_Sum_Place=>k_is)
  (case ne_Sum_Place=>first | rfl | decide)
  (case pg_Times | hd_Times | po_Times | sa_Times | mk_Times | kc_Times | in_Times | na_Times_left | na_Times_right | t1_Times | t2_Times=>k_is)
  (case t3_Times | t4_Times | mr_Times_Guard=>k_is)
  (case ne_Times_Guard=>first | rfl | decide)
  (case mr_Times_Pair | mr_Times_Read=>k_is)
  (case ne_Times_Read=>first | rfl | decide)
  (case mr_Times_Sum=>k_is)
  (case ne_Times_Sum=>first | rfl | decide)
  (case mr_Times_Place=>k_is)
  (case ne_Times_Place=>first | rfl | decide)
  (case z_isinstance | z_list | z_tuple | z_dict | z_enumerate | z_len | z_all | z_range | z_min | z_max | z_ValueError=>k_is)
  (case z_reversed=>k_is)
