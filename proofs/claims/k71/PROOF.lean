import PyProof.Rows.All
import Wide.All
import OpenK.AllK
import Wide.FinOn
import Lean
import PyProof.EqAt
import PyProof.EqKinds
import PyProof.TupleCall
import KE.KDictLaws
import KE.KDictList
import KE.KDictOf
import KE.KEqDict
import KE.KIntText
import KE.KTabLook
import KE.KTryMore
import KE.KUnpack
import PyProof.AttrMissHeap
import PyProof.AutoListH
import PyProof.CompUse
import PyProof.ConsumeWalk
import PyProof.Conv_int_bool
import PyProof.DictItems
import PyProof.DictValues
import PyProof.DictWalks
import PyProof.Draws
import PyProof.EnumFor
import PyProof.EnumMake
import PyProof.EnumStmt
import PyProof.ExcClass3
import PyProof.ExcInit
import PyProof.FString4
import PyProof.FString5
import PyProof.FactsAll.list_3
import PyProof.FactsAll.set
import PyProof.FactsAll.subtypes_5
import PyProof.FactsAll.zip
import PyProof.NeKinds
import PyProof.P3Eq
import PyProof.RangeIter
import PyProof.ReprHeads
import PyProof.ReprLen
import PyProof.Rows.SeqMore2
import PyProof.Rows.SetFrom
import PyProof.Rows.StrNews
import PyProof.Rows.TupIter
import PyProof.SetRoads
import PyProof.StrLawsRepr
import PyProof.StrWalks
import PyProof.SumAny
import PyProof.TupleKey
import PyProof.WalkInts
import PyProof.Walks
import PySem.Challenge.RW_arrayloom_k71_sums_on_the_tape
set_option compiler.extract_closed false
section
open PySem PySem.Spec PyProof.Rows PySem.Calls
abbrev Z00:=@wpAny_bind
abbrev Z01:=@Heap.get?_push_of_some
abbrev Z02:=@List.mem_append_right
abbrev Z03:=@List.getElem?_eq_some_iff
abbrev Z04:=@wpAny_pure
abbrev Z05:=@List.mem_append_left
abbrev Z06:=@List.length_append
abbrev Z07:=@List.mem_append
abbrev Z08:=@List.length_map
abbrev Z09:=@Nat.le_refl
abbrev Z0a:=@Heap.lt_size
abbrev Z0b:=@List.getElem?_eq_getElem
abbrev Z0c:=@Heap.get?_push_size
abbrev Z0d:=@PyProof.Rows.boot_isinstance
abbrev Z0e:=@List.mem_cons
abbrev Z0f:=@PySem.W.mg_of
abbrev Z0g:=@List.size_toArray
abbrev Z0h:=@Nat.ne_of_lt
abbrev Z0i:=@Option.map_eq_some_iff
abbrev Z0k:=@PySem.F.plainAttrs_list
abbrev Z0m:=@PyProof.Rows.boot_tuple
abbrev Z0n:=@PySem.F.slot_list_append
abbrev Z0o:=@PySem.F.type_list_append
abbrev Z0p:=@List.map_cons
abbrev Z0q:=@Nat.lt_of_lt_of_le
abbrev Z0r:=@PySem.boot_len
abbrev Z0s:=@List.map_append
abbrev Z0t:=@if_neg
abbrev Z0u:=@List.append_nil
abbrev Z0v:=@Bool.false_ne_true
abbrev Z0w:=@List.mem_singleton
abbrev Z0x:=@List.length_take
abbrev Z0y:=@List.length_cons
abbrev Z0z:=@List.append_assoc
abbrev Z10:=@wpAny_mono
abbrev Z11:=@wpAny_field
abbrev Z12:=@if_pos
abbrev Z13:=@List.mem_of_getElem?
abbrev Z14:=@List.take_add_one
abbrev Z15:=@List.nodup_cons
abbrev Z16:=@wpAny_newObj_type
abbrev Z1a:=@Option.some.inj
abbrev Z1c:=@PySem.W.mg_none_of
abbrev Z1d:=@Heap.get?_update_other
abbrev Z1e:=@Nat.zero_le
abbrev Z1f:=@List.mem_cons_of_mem
abbrev Z1j:=@decide_eq_false
abbrev Z1l:=@List.getElem?_append_right
abbrev Z1m:=@Array.getElem?_eq_some_iff
abbrev Z1n:=@Nat.le_trans
abbrev Z1o:=@PyProof.Rows.boot_list
abbrev Z1p:=@Int.emod_lt_of_pos
abbrev Z1q:=@Nat.ne_of_gt
abbrev Z1r:=@Heap.get?_update_self
abbrev Z1s:=@Heap.size_push
abbrev Z1t:=@wpAny_setField
abbrev Z1v:=@Int.emod_nonneg
abbrev Z1w:=@wpAny_holding
abbrev Z1y:=@wpAny_standAt
abbrev Z1z:=@List.getElem?_map
abbrev Z20:=@decide_eq_true
abbrev Z22:=@beq_eq_false_iff_ne
abbrev Z23:=@List.getElem?_set_self
abbrev Z25:=@Array.getElem?_setIfInBounds_ne
abbrev Z26:=@List.getElem?_append_left
abbrev Z27:=@List.mem_cons_self
abbrev Z28:=@List.lookup_cons
abbrev Z2a:=@List.getElem?_set_ne
abbrev Z2b:=@wpAny_execs_nil
abbrev Z2c:=@List.mem_map
abbrev Z2d:=@Nat.lt_of_le_of_lt
abbrev Z2h:=@List.find?_cons
end
noncomputable section
open PySem.W (Frag findIn nsIn mroIn kitOne keepIn typeIn hideAll isFn plainGet isClsIn hasDictIn exmOne plainOver makesIn clsIn fnOf emptyDict instObj excIn kitAny takesIn specialIn subIn codeIn)
set_option Elab.async false
set_option bootstrap.genMatcherCode false
set_option linter.all false
set_option maxRecDepth 100000
set_option maxHeartbeats 4000000
namespace L2
open PySem PySem.Spec PyProof.Rows
abbrev Key:=Sum Int Str
def B1m:Key->Value->Bool
 | .inl k,v=>Value.isInt k v
 | .inr x,v=>Value.isStrOf x v
def keyH (w:World):Key->Int
 | .inl k=>hashInt k
 | .inr x=>hashStr w x
theorem A1d:∀{k:Key} {v:Value},B1m k v=true->(∃i t,k=Sum.inl i/\v=Value.int i t)\/(∃x t,k=Sum.inr x/\v=Value.str x t)
 | .inl i,v,h=>by
  obtain ⟨t,e⟩:=Value.isInt_shape (k:=i) (v:=v) h;exact .inl ⟨i,t,rfl,e⟩
 | .inr x,v,h=>by
  obtain ⟨t,e⟩:=Value.isStrOf_shape (x:=x) (v:=v) h;exact .inr ⟨x,t,rfl,e⟩
theorem B4e (i:Int) (t:Tok):B1m (.inl i) (.int i t)=true:=by simp [B1m,Value.isInt]
theorem B4p (x:Str) (t:Tok):B1m (.inr x) (.str x t)=true:=by simp [B1m,Value.isStrOf]
theorem C1s (a b:Int):decide ((Sum.inl a:Key)=Sum.inl b)=(a == b):=by
 by_cases e:a=b
 ·subst e;simp
 ·have h:¬(Sum.inl a:Key)=Sum.inl b:=λq=>e (Sum.inl.inj q);rw [Z1j h];exact (Z22.mpr e).symm
theorem C3e (a b:Str):decide ((Sum.inr a:Key)=Sum.inr b)=decide (a=b):=by
 by_cases e:a=b
 ·subst e;simp
 ·have h:¬(Sum.inr a:Key)=Sum.inr b:=λq=>e (Sum.inr.inj q);rw [Z1j h,Z1j e]
theorem C3f (a:Int) (b:Str):decide ((Sum.inl a:Key)=Sum.inr b)=false:=Z1j (λq=>nomatch q)
theorem C2l (a:Str) (b:Int):decide ((Sum.inr a:Key)=Sum.inl b)=false:=Z1j (λq=>nomatch q)
def A0j (prog:Program) (w:World):PySem.KeyKind prog w Key where
 is:=B1m
 hash:=keyH w
 inj:=λv a b ha hb=>by
  rcases A1d ha with ⟨i,t,rfl,rfl⟩ | ⟨x,t,rfl,rfl⟩
  ·rcases A1d hb with ⟨j,u,rfl,e⟩ | ⟨y,u,rfl,e⟩
   ·injection e with e1 _;rw [e1]
   ·exact nomatch e
  ·rcases A1d hb with ⟨j,u,rfl,e⟩ | ⟨y,u,rfl,e⟩
   ·exact nomatch e
   ·injection e with e1 _;rw [e1]
 byValue:=λk v h=>by
  rcases A1d h with ⟨i,t,rfl,rfl⟩ | ⟨x,t,rfl,rfl⟩ <;> rfl
 pyHash:=λhv h=>by
  rcases A1d hv with ⟨i,t,rfl,rfl⟩ | ⟨x,t,rfl,rfl⟩
  ·exact wpAny_pyHash_int h
  ·exact wpAny_pyHash_str h
 eqBool:=λhu hv h=>by
  rcases A1d hu with ⟨i,t,rfl,rfl⟩ | ⟨x,t,rfl,rfl⟩
  ·rcases A1d hv with ⟨j,u,rfl,rfl⟩ | ⟨y,u,rfl,rfl⟩
   ·rw [C1s] at h;exact wpAny_eqBool_int h
   ·rw [C3f] at h;exact SeqAt.EqAt.int_str i t y u _ _ _ _ h
  ·rcases A1d hv with ⟨j,u,rfl,rfl⟩ | ⟨y,u,rfl,rfl⟩
   ·rw [C2l] at h;exact SeqAt.EqAt.str_int x t j u _ _ _ _ h
   ·rw [C3e] at h;exact wpAny_eqBool_str h
 «strs»:=λk x t v h=>by
  rcases A1d h with ⟨i,u,rfl,e⟩ | ⟨y,u,rfl,e⟩
  ·exact nomatch e
  ·injection e with e1 _;subst e1;cases v <;> rfl
theorem B0u (prog:Program) (w:World) (i:Int) (t:Tok):(A0j prog w).is (.inl i) (.int i t)=true:=B4e i t
theorem B1c (prog:Program) (w:World) (x:Str) (t:Tok):(A0j prog w).is (.inr x) (.str x t)=true:=B4p x t
inductive V where
 | non | bl (b:Bool) | int (i:Int) | str (x:Str) | byt (b:Array UInt8) | flt (b:UInt64) | ref (a:Addr) | ty (n:String)
 deriving DecidableEq
def A1e:V->Value->Prop
 | .non,u=>u=Value.none
 | .bl b,u=>u=Value.bool b
 | .int i,u=>∃t,u=Value.int i t
 | .str x,u=>∃t,u=Value.str x t
 | .byt b,u=>∃t,u=Value.bytes b t
 | .flt b,u=>∃t,u=Value.float b t
 | .ref a,u=>u=Value.ref a
 | .ty n,u=>u=Value.type n
abbrev A1n:List V->List Value->Prop:=Paired A1e
theorem A1n.length {xs:List V} {us:List Value} (r:A1n xs us):xs.length=us.length:=Paired.length r
theorem A1n.get:∀{xs:List V} {us:List Value} {i:Nat} {x:V},A1n xs us->xs[i]? =some x->∃u,us[i]? =some u/\A1e x u
 | _,_,_,_,.nil,e=>by simp at e
 | _,_,0,_,.cons r _,e=>by simp at e;subst e;exact ⟨_,rfl,r⟩
 | _,_,i+1,x,.cons _ t,e=>by
  obtain ⟨u,h1,h2⟩:=A1n.get (i:=i) (x:=x) t (by simpa using e);exact ⟨u,by simpa using h1,h2⟩
theorem A1n.set {x:V} {u:Value} (r:A1e x u):∀{xs:List V} {us:List Value} (i:Nat),A1n xs us->A1n (xs.set i x) (us.set i u)
 | _,_,_,.nil=> .nil
 | _,_,0,.cons _ t=> .cons r t
 | _,_,i+1,.cons q t=> .cons q (A1n.set r i t)
theorem A1n.append:∀{xs ys:List V} {us ws:List Value},A1n xs us->A1n ys ws->A1n (xs++ys) (us++ws)
 | _,_,_,_,.nil,s=>s
 | _,_,_,_,.cons r t,s=> .cons r (A1n.append t s)
theorem A1n.take:∀{xs:List V} {us:List Value} (n:Nat),A1n xs us->A1n (xs.take n) (us.take n)
 | _,_,0,_=> .nil
 | _,_,_+1,.nil=> .nil
 | _,_,n+1,.cons r t=> .cons r (A1n.take n t)
theorem A1n.drop:∀{xs:List V} {us:List Value} (n:Nat),A1n xs us->A1n (xs.drop n) (us.drop n)
 | _,_,0,r=>r
 | _,_,_+1,.nil=> .nil
 | _,_,n+1,.cons _ t=>A1n.drop n t
def A9g:Option V->Option Value->Prop
 | some v,some u=>A1e v u
 | none,none=>True
 | _,_=>False
def KV {κ:Type}:List (κ×V)->List (κ×Value)->Prop:=Paired λ(p:κ×V) (q:κ×Value)=>p.1=q.1/\A1e p.2 q.2
def kV:Key->V
 | .inl i=> .int i
 | .inr x=> .str x
inductive HO where
 | lst (xs:List V)
 | tup (xs:List V)
 | dK (kvs:List (Key×V)) | dT (kvs:List (List Key×V))
 | set (S:Int->Bool) (n:Nat)
 | ins (C dx:Addr) (fs:List (Str×V))
 | own (x:Addr)
 | xd (fs:List (Str×V))
 | met (f x:Addr)
 | rng (lo hi:Int)
 | frz (o:Obj) (u:HO)
 | tbl (ps:Array Value)
 | ext (φ:Heap->Prop)
abbrev Hp:=Addr->Option HO
def upd (H:Hp) (a:Addr) (o:HO):Hp:=λb=>if b=a then some o else H b
theorem A0d {H:Hp} {a:Addr} {o:HO}:upd H a o a=some o:=by unfold upd;rw [Z12 rfl]
theorem A0e {H:Hp} {a b:Addr} {o:HO} (h:b≠a):upd H a o b=H b:=by unfold upd;rw [Z0t h]
theorem B0r {H:Hp} {a:Addr} {o u:HO}:upd (upd H a o) a u=upd H a u:=by
 funext b;unfold upd;split <;> rfl
theorem A1g {H:Hp} {a b:Addr} {o u:HO} (h:H a=some o) (h':H b=some u) (d:o≠u):a≠b:=by
 intro e;subst e;rw [h] at h';exact d (Z1a h')
theorem A0g {H:Hp} {a b:Addr} {o:HO} (h:H a=some o) (h':H b=none):a≠b:=by
 intro e;subst e;rw [h] at h';cases h'
section
variable (P:Program) (w:World)
def A1k (H:Hp) (h:Heap) (a:Addr):HO->Prop
 | .lst xs=>xs.length<=sizeLine/\∃(its:List Value) (n:Nat),A1n xs its/\h.get? a=some { cls:= .type "list",data:= .seq its.toArray n }
 | .tup xs=>xs.length<=sizeLine/\∃its:List Value,A1n xs its/\IsTup h a its.toArray
 | .dK kvs=>kvs.length<=sizeLine/\(a == sysModules)=false/\∃vs,KV kvs vs/\h.DictOf (A0j P w) a vs
 | .dT kvs=>kvs.length<=sizeLine/\(a == sysModules)=false/\∃xs:List (List Key×Addr×Value),
   Paired (λ(p:List Key×V) (q:List Key×Addr×Value)=>p.1=q.1/\H q.2.1=some (.tup (p.1.map kV))/\A1e p.2 q.2.2) kvs xs/\
   ∃o es ep,h.get? a=some o/\o.ExactDict/\o.data= .dict es ep/\es.toList=xs.map (entryOfKey (tupleKind (A0j P w)))/\(xs.map (·.1)).Nodup
 | .set S n=>h.SetOf (intKind P w) a S n
 | .ins C dx fs=>H dx=some (.own a)/\fs.length<=1000/\dx≠a/\h.get? a=some (instObj C dx)/\
   ∃mA,h.Ns1 dx mA/\(∀f,A9g (fs.lookup f) (mA f))/\PySem.Within mA (fs.map (·.1))
 | .own _=>∃o,h.get? a=some o
 | .xd fs=>∃mA,h.Ns1 a mA/\∀f,A9g (fs.lookup f) (mA f)
 | .rng lo hi=>∃t u v,h.get? a=some { cls:= .type "range",data:= .fields #[.int lo t,.int hi u,.int 1 v] }
 | .frz o u=>h.get? a=some o/\A1k H h a u
 | .tbl ps=>h.get? a=some { cls:= .none,data:= .fields ps }
 | .met f x=>h.get? a=some (PySem.W.methodObj (.ref f) (.ref x))
 | .ext φ=>φ h/\(∃o,h.get? a=some o)/\∀h1 h2:Heap,φ h1->(∀o,h1.get? a=some o->h2.get? a=some o)->φ h2
def HOk (H:Hp) (h:Heap):Prop:=∀a o,H a=some o->A1k P w H h a o
end
section
variable {P:Program} {w:World} {H H':Hp} {h h':Heap} {a:Addr} {o:HO}
theorem A1k.lt (x:A1k P w H h a o):a<h.objs.size:=by
 cases o with
 | lst xs=>obtain ⟨_,_,_,_,e⟩:=x;exact Z0a e
 | tup xs=>obtain ⟨_,_,_,p⟩:=x;exact p.lt
 | dK kvs=>obtain ⟨_,_,_,_,o,_,_,e,_⟩:=x;exact Z0a e
 | dT kvs=>obtain ⟨_,_,_,_,o,_,_,e,_⟩:=x;exact Z0a e
 | set S n=>obtain ⟨o,_,_,_,e,_⟩:=x;exact Z0a e
 | ins C dx fs=>obtain ⟨_,_,_,e,_⟩:=x;exact Z0a e
 | own y=>obtain ⟨_,e⟩:=x;exact Z0a e
 | xd fs=>obtain ⟨_,⟨_,_,_,e,_⟩,_⟩:=x;exact Z0a e
 | rng lo hi=>obtain ⟨_,_,_,e⟩:=x;exact Z0a e
 | frz ob u=>obtain ⟨e,_⟩:=x;exact Z0a e
 | tbl ps=>exact Z0a (show h.get? a=some _ from x)
 | met f y=>exact Z0a (show h.get? a=some _ from x)
 | ext φ=>obtain ⟨_,⟨_,e⟩,_⟩:=x;exact Z0a e
theorem Paired.mapP {α β:Type} {F G:α->β->Prop}:∀{l₁:List α} {l₂:List β},Paired F l₁ l₂->(∀a b,F a b->G a b)->Paired G l₁ l₂
 | _,_,.nil,_=> .nil
 | _,_,.cons r t,f=> .cons (f _ _ r) (Paired.mapP t f)
theorem A1k.stay (x:A1k P w H h a o) (k:∀b u,(b=a\/H b=some (.own a))->h.get? b=some u->h'.get? b=some u)
  (ho:∀b,H b=some (.own a)->H' b=some (.own a)) (ht:∀b xs,H b=some (.tup xs)->H' b=some (.tup xs)):A1k P w H' h' a o:=by
 induction o with
 | lst xs=>obtain ⟨z,its,n,r,e⟩:=x;exact ⟨z,its,n,r,k _ _ (.inl rfl) e⟩
 | tup xs=>obtain ⟨z,its,r,ob,e,c⟩:=x;exact ⟨z,its,r,ob,k _ _ (.inl rfl) e,c⟩
 | dK kvs=>obtain ⟨z,y,vs,r,ob,es,ep,e,c⟩:=x;exact ⟨z,y,vs,r,ob,es,ep,k _ _ (.inl rfl) e,c⟩
 | dT kvs =>
  obtain ⟨z,y,xs,r,ob,es,ep,e,c⟩:=x;exact ⟨z,y,xs,Paired.mapP r λp q z=>⟨z.1,ht _ _ z.2.1,z.2.2⟩,ob,es,ep,k _ _ (.inl rfl) e,c⟩
 | set S n=>obtain ⟨ob,es,ep,t,e,c⟩:=x;exact ⟨ob,es,ep,t,k _ _ (.inl rfl) e,c⟩
 | ins C dx fs =>
  obtain ⟨d,z,ne,e,mA,⟨od,es,ep,e2,c⟩,r⟩:=x;exact ⟨ho _ d,z,ne,k _ _ (.inl rfl) e,mA,⟨od,es,ep,k _ _ (.inr d) e2,c⟩,r⟩
 | own y=>obtain ⟨ob,e⟩:=x;exact ⟨ob,k _ _ (.inl rfl) e⟩
 | xd fs=>obtain ⟨mA,⟨od,es,ep,e,c⟩,r⟩:=x;exact ⟨mA,⟨od,es,ep,k _ _ (.inl rfl) e,c⟩,r⟩
 | rng lo hi=>obtain ⟨t,u,v,e⟩:=x;exact ⟨t,u,v,k _ _ (.inl rfl) e⟩
 | frz ob u ih=>obtain ⟨e,q⟩:=x;exact ⟨k _ _ (.inl rfl) e,ih q⟩
 | tbl ps =>
  have e:h.get? a=some { cls:= .none,data:= .fields ps }:=x;show h'.get? a=some { cls:= .none,data:= .fields ps };exact k a _ (.inl rfl) e
 | met f y =>
  have e:h.get? a=some (PySem.W.methodObj (.ref f) (.ref y)):=x;show h'.get? a=some (PySem.W.methodObj (.ref f) (.ref y));exact k a _ (.inl rfl) e
 | ext φ=>obtain ⟨p,⟨o,e⟩,st⟩:=x;exact ⟨st _ _ p λo q=>k _ _ (.inl rfl) q,⟨o,k _ _ (.inl rfl) e⟩,st⟩
theorem HOk.lt (x:HOk P w H h) (e:H a=some o):a<h.objs.size:=(x a o e).lt
theorem HOk.fresh (x:HOk P w H h) (e:h.objs.size<=a):H a=none:=by
 cases q:H a with
 | none=>rfl
 | some u=>exact absurd (Z0q (x.lt q) e) (Nat.lt_irrefl _)
theorem HOk.kept (x:HOk P w H h) (k:∀b u,h.get? b=some u->h'.get? b=some u):HOk P w H h':=λa o e =>
 (x a o e).stay (λb u _ q=>k b u q) (λ_ q=>q) λ_ _ q=>q
theorem HOk.laid (x:HOk P w H h) (k:∀b u,h.get? b=some u->h'.get? b=some u) (hp:h.objs.size<=a) (new:A1k P w (upd H a o) h' a o):HOk P w (upd H a o) h':=λb u e=>by
 have hn:=x.fresh hp;by_cases hb:b=a
 ·subst hb;rw [A0d] at e;cases e;exact new
 ·rw [A0e hb] at e;exact (x b u e).stay (λc v _ q=>k c v q) (λc q=>by rw [A0e (A0g q hn)];exact q) λc xs q=>by rw [A0e (A0g q hn)];exact q
end
def Rd (H:Hp) (a:Addr) (u:HO):Prop:=H a=some u\/∃o,H a=some (.frz o u)
theorem Rd.ok {P:Program} {w:World} {H:Hp} {h:Heap} {a:Addr} {u:HO} (r:Rd H a u) (x:HOk P w H h):A1k P w H h a u:=by
 rcases r with r | ⟨o,r⟩
 ·exact x a u r
 ·obtain ⟨_,q⟩:=x a _ r;exact q
def Mut:Option HO->Prop
 | some (.lst _)=>True
 | some (.dK _)=>True
 | some (.dT _)=>True
 | some (.set _ _)=>True
 | some (.ins _ _ _)=>True
 | some (.ext _)=>True
 | _=>False
section
variable {P:Program} {w:World} {H:Hp} {h h':Heap} {x e:Addr} {o':HO}
theorem HOk.write (ok:HOk P w H h) (mu:Mut (H x)) (he:e=x\/H e=some (.own x)) (k:∀b u,b≠e->h.get? b=some u->h'.get? b=some u) (heo:∃u,h'.get? e=some u)
  (new:A1k P w (upd H x o') h' x o'):HOk P w (upd H x o') h':=λb u q=>by
 have nown:∀c y,H c=some (.own y)->c≠x:=λc y r z=>by subst z;rw [r] at mu;exact mu
 have ntup:∀c xs,H c=some (.tup xs)->c≠x:=λc xs r z=>by subst z;rw [r] at mu;exact mu
 by_cases hb:b=x
 ·subst hb;rw [A0d] at q;cases q;exact new
 ·rw [A0e hb] at q;by_cases hbe:b=e
  ·have q':H b=some (.own x):=by
    rcases he with z | z
    ·exact absurd (hbe.trans z) hb
    ·rw [hbe];exact z
   rw [q] at q';cases q';obtain ⟨v,hv⟩:=heo;exact ⟨v,by rw [hbe];exact hv⟩
  ·refine (ok b u q).stay (λc v hc r=>k c v ?_ r) (λc r=>by rw [A0e (nown c b r)];exact r) λc xs r=>by rw [A0e (ntup c xs r)];exact r
   rcases hc with rfl | hc
   ·exact hbe
   ·rintro rfl;rcases he with z | z
    ·exact nown c b hc z
    ·rw [hc] at z;cases z;exact hb rfl
end
structure Un (fs ex:List Addr) (H H':Hp) (h h':Heap):Prop where
 keep:∀b o,h.get? b=some o->H b=none->b∉fs->b∉ex->h'.get? b=some o
 slot:∀b o,h.get? b=some o->H b=none->b∈fs->b∉ex->∃sl,h'.get? b=some { o with slots:=sl }
 free:∀b o,h.get? b=some o->H b=none->b∉ex->H' b=none
 there:∀b o,h.get? b=some o->b∉ex->∃o',h'.get? b=some o'
 tups:∀b xs,H b=some (.tup xs)->H' b=some (.tup xs)
 frzs:∀b o u,H b=some (.frz o u)->H' b=some (.frz o u)
 tbls:∀b ps,H b=some (.tbl ps)->∃more,H' b=some (.tbl (ps++more))
section
variable {fs fs' ex ex':List Addr} {H H1 H2:Hp} {h h1 h2 h':Heap} {a x e:Addr} {o:HO}
theorem Un.any (u:Un fs ex H H1 h h1) {b:Addr} {ob:Obj} (q:h.get? b=some ob) (n:H b=none) (hx:b∉ex):∃sl,h1.get? b=some { ob with slots:=sl }:=by
 by_cases hb:b∈fs
 ·exact u.slot b ob q n hb hx
 ·exact ⟨ob.slots,u.keep b ob q n hb hx⟩
theorem Un.kept (k:∀b u,h.get? b=some u->h'.get? b=some u):Un fs ex H H h h' :=
 ⟨λb ob q _ _ _=>k b ob q,λb ob q _ _ _=>⟨ob.slots,k b ob q⟩,λ_ _ _ n _=>n,λb ob q _=>⟨ob,k b ob q⟩,λ_ _ q=>q,λ_ _ _ q=>q,λ_ ps q=>⟨#[],by rw [q];simp⟩⟩
theorem Un.refl:Un fs ex H H h h:=Un.kept λ_ _ q=>q
theorem Un.laid (k:∀b u,h.get? b=some u->h'.get? b=some u) (hp:h.objs.size<=a) (hn:H a=none):Un fs ex H (upd H a o) h h' where
 keep:=λb u q _ _ _=>k b u q
 slot:=λb u q _ _ _=>⟨u.slots,k b u q⟩
 free:=λb u q n _=>by rw [A0e (Z0h (Z0q (Z0a q) hp))];exact n
 there:=λb u q _=>⟨u,k b u q⟩
 tups:=λb xs q=>by rw [A0e (A0g q hn)];exact q
 frzs:=λb u xs q=>by rw [A0e (A0g q hn)];exact q
 tbls:=λb ps q=>⟨#[],by rw [A0e (A0g q hn),q];simp⟩
theorem Un.write (mu:Mut (H x)) (he:e=x\/H e=some (.own x)) (k:∀b u,b≠e->h.get? b=some u->h'.get? b=some u) (heo:∃u,h'.get? e=some u):Un fs ex H (upd H x o) h h':=by
 have hx:∀b,H b=none->b≠x:=λb n z=>by subst z;rw [n] at mu;exact mu
 have hb:∀b,H b=none->b≠e:=λb n z=>by
  subst z;rcases he with r | r
  ·exact hx b n r
  ·rw [n] at r;cases r
 have hm:∀b u,H b=some u->¬Mut (some u)->b≠x:=λb u q nm z=>by subst z;rw [q] at mu;exact nm mu
 refine ⟨λb u q n _ _=>k b u (hb b n) q,λb u q n _ _=>⟨u.slots,k b u (hb b n) q⟩,λb u q n _=>by rw [A0e (hx b n)];exact n,λb u q _=> ?_,
  λb xs q=>by rw [A0e (hm b _ q λz=>z)];exact q,λb u xs q=>by rw [A0e (hm b _ q λz=>z)];exact q,λb ps q=>⟨#[],by rw [A0e (hm b _ q λz=>z),q];simp⟩⟩
 by_cases hbe:b=e
 ·subst hbe;exact heo
 ·exact ⟨u,k b u hbe q⟩
end
def trk (h:Heap) (H:Hp):List Addr:=(List.range h.objs.size).filter λa=>(H a).isSome
def B7v (h:Heap) (H:Hp):Heap:=hideAll h (trk h H)
theorem B5e (h:Heap) (H:Hp):(B7v h H).objs.size=h.objs.size:=PySem.W.hideAll_size _ _
theorem B8e {h:Heap} {H:Hp} {b:Addr} {o:Obj} (e:h.get? b=some o) (n:H b=none):(B7v h H).get? b=some o :=
 PySem.W.hideAll_get _ e λhm=>by
  have q:(H b).isSome=true:=(List.mem_filter.mp hm).2;rw [n] at q;simp at q
theorem C0r {h:Heap} {H:Hp} {b:Addr} {o:Obj} (e:(B7v h H).get? b=some o):h.get? b=some o/\H b=none:=by
 have e':h.get? b=some o:=PySem.W.of_hideAll (trk h H) e;refine ⟨e',?_⟩
 cases q:H b with
 | none=>rfl
 | some x =>
  have hm:b∈trk h H:=List.mem_filter.mpr ⟨List.mem_range.mpr (Z0a e'),by simp [q]⟩;have z:(B7v h H).get? b=none:=PySem.W.hideAll_none (trk h H) hm;rw [z] at e;cases e
structure Mod (K:Frag) (mg:Str->Option Value) (base:Heap):Prop where
 kin:K.In base
 glob:base.Ns mainGlobals mg
 blt:∃mb,base.Ns builtinsNs mb/\∀x:Str,x≠"__name__"->mb x=bootBuiltins x
 nolimit:base.NoLimit
structure Cx where
 prog:Program
 w:World
 K:Frag
 mg:Str->Option Value
 base:Heap
 A:Around
 N:List Str
 s₀:Shared
 H₀:Hp
 env:Env
 outer:List Env
 stack:List Env
 ex:List Addr
 fn:Str->Bool
 calm:Bool
 pn:List (Addr×Obj)
 xe:Value->Shared->Prop
def frs (l:List Env):List Addr:=l.filterMap (·.frame)
abbrev Cx.fs (X:Cx):List Addr:=frs X.outer
def Vis (sc:Scope) (x:Str):Prop:=sc.names.lookup x=some .local\/sc.names.lookup x=some .cell\/sc.names.lookup x=some .free
def Loc (sc:Scope) (x:Str):Prop:=sc.names.lookup x=some .local\/sc.names.lookup x=some .cell
def Look (env:Env) (h:Heap) (m:Str->Option Value) (x:Str) (u:Value):Prop :=
 (env.kindOf x=some .local/\m x=some u)\/((env.kindOf x=some .cell\/env.kindOf x=some .free)/\∃c,env.cells.lookup x=some c/\h.IsCell c (some u))
structure Cx.Ok (X:Cx):Prop where
 mod:Mod X.K X.mg X.base
 kind:X.env.scope.kind= .function
 glob:X.env.globals=mainGlobals
 blt:X.env.builtins=builtinsNs
 above:X.s₀.heap.objs.size<=X.env.locals
 inj:∀x y c,X.env.cells.lookup x=some c->X.env.cells.lookup y=some c->x=y
 has:∀x,(X.env.kindOf x=some .cell\/X.env.kindOf x=some .free)->∃c,X.env.cells.lookup x=some c
 cab:∀x c,X.fn x=true->X.env.cells.lookup x=some c->X.s₀.heap.objs.size<=c
 hd:X.calm=true->X.A.handled=none
 frames:X.A.frames=some X.stack
 stk:X.stack=X.outer\/(X.stack=X.env::X.outer/\X.env.frame=some X.env.locals)
 exf:∀b∈X.ex,b≠X.env.locals/\∀x c,X.env.cells.lookup x=some c->c≠b
 bs:∀b o,X.base.get? b=some o->X.s₀.heap.get? b=some o/\X.H₀ b=none
 bsz:X.base.objs.size<=X.s₀.heap.objs.size
 noex:∀b o,X.base.get? b=some o->b∉X.ex
 exfs:∀b∈X.ex,b∉X.fs
 funs:X.s₀.heap.FunFrames X.base X.outer
 frf:∀b∈X.fs,X.H₀ b=none
structure Inv (X:Cx) (pins:List (Addr×Obj)) (σ:List (Option V)) (H:Hp) (s:Shared):Prop where
 ok:X.Ok
 os:s.os=X.s₀.os
 bare:AllBare s.gens
 base:Un X.fs X.ex X.H₀ H X.s₀.heap s.heap
 loc:∃m,s.heap.Ns X.env.locals m/\∀(i:Nat) (x:Str) (v:V),X.N[i]? =some x->σ[i]? =some (some v)->Vis X.env.scope x->∃u,A1e v u/\Look X.env s.heap m x u
 cell:∀x c,X.env.cells.lookup x=some c->∃v,s.heap.IsCell c v
 free:H X.env.locals=none
 freeC:∀x c,X.env.cells.lookup x=some c->H c=none
 pin:∀p∈X.pn++pins,s.heap.get? p.1=some p.2/\H p.1=none/\p.1≠X.env.locals/\p.1∉X.fs/\∀v,p.2.data≠.cell v
 hok:HOk X.prog X.w H s.heap
 len:σ.length=X.N.length
section
variable {X:Cx} {pins:List (Addr×Obj)} {σ:List (Option V)} {H H':Hp} {s:Shared} {h':Heap}
theorem Cx.Ok.nofr (ok:X.Ok) {b:Addr} {o:Obj} (e:X.base.get? b=some o):b∉X.fs:=λhb=>by
 have:=(ok.funs.mem hb).1;rw [e] at this;cases this
theorem Inv.bs (I:Inv X pins σ H s):∀b o,X.base.get? b=some o->s.heap.get? b=some o/\H b=none:=λb o e =>
 ⟨I.base.keep b o (I.ok.bs b o e).1 (I.ok.bs b o e).2 (I.ok.nofr e) (I.ok.noex b o e),I.base.free b o (I.ok.bs b o e).1 (I.ok.bs b o e).2 (I.ok.noex b o e)⟩
theorem Inv.bk (I:Inv X pins σ H s):∀b o,X.base.get? b=some o->s.heap.get? b=some o:=λb o e=>(I.bs b o e).1
theorem Inv.mod (I:Inv X pins σ H s):Mod X.K X.mg X.base:=I.ok.mod
theorem Inv.kIn (I:Inv X pins σ H s):X.K.In s.heap:=I.ok.mod.kin.keeps I.bk
theorem Inv.lt (I:Inv X pins σ H s):X.env.locals<s.heap.objs.size:=let ⟨_,hn,_⟩:=I.loc;hn.lt
theorem Inv.sz (I:Inv X pins σ H s):X.s₀.heap.objs.size<=s.heap.objs.size:=Z1n I.ok.above (Nat.le_of_lt I.lt)
theorem Inv.nofs (I:Inv X pins σ H s) {a:Addr} (h:s.heap.objs.size<=a):a∉X.fs:=λhb=>by
 obtain ⟨_,o,ho,_⟩:=I.ok.funs.mem hb;exact absurd (Z0q (Z0a ho) (Z1n I.sz h)) (Nat.lt_irrefl _)
theorem Inv.cne (I:Inv X pins σ H s):∀x c,X.env.cells.lookup x=some c->c≠X.env.locals:=λx c e z=>by
 obtain ⟨v,o,ho,hd⟩:=I.cell x c e;obtain ⟨m,⟨o',es,ep,ho',hd',_⟩,_⟩:=I.loc;rw [z,ho'] at ho;cases ho;rw [hd'] at hd;cases hd
theorem Inv.funs (I:Inv X pins σ H s):s.heap.FunFrames X.base X.outer:=by
 have all:∀(l:List Env),(∀b∈frs l,b∈X.fs)->X.s₀.heap.FunFrames X.base l->s.heap.FunFrames X.base l:=by
  intro l
  induction l with
  | nil=>intro _ _;trivial
  | cons env r ih =>
   intro hs hl;obtain ⟨hk,⟨L,o,hf,hn,ho,hd⟩,hr⟩:=hl;have hL:L∈X.fs:=hs L (by unfold frs;rw [List.filterMap_cons,hf];exact Z27);obtain ⟨sl,e⟩:=I.base.slot L o ho (I.ok.frf L hL) hL λz=>I.ok.exfs L z hL;exact ⟨hk,⟨L,_,hf,hn,e,hd⟩,ih (λb hb=>hs b (by unfold frs;rw [List.filterMap_cons,hf];exact Z1f _ hb)) hr⟩
 exact all X.outer (λ_ hb=>hb) I.ok.funs
theorem Inv.stack (I:Inv X pins σ H s):s.heap.FunFrames X.base X.stack:=by
 rcases I.ok.stk with e | ⟨e,hf⟩
 ·rw [e];exact I.funs
 ·rw [e];obtain ⟨m,hn,_⟩:=I.loc;refine .cons (by rw [I.ok.kind];decide) hf hn ?_ I.funs;exact Heap.get?_none_of_le (Z1n I.ok.bsz I.ok.above)
theorem Inv.stkSub (I:Inv X pins σ H s):∀b∈frs X.stack,b∈X.env.locals::X.fs:=λb hb=>by
 rcases I.ok.stk with e | ⟨e,hf⟩
 ·rw [e] at hb;exact Z1f _ hb
 ·rw [e] at hb;unfold frs at hb;rw [List.filterMap_cons,hf] at hb;exact hb
theorem Inv.stkFree (I:Inv X pins σ H s):∀b∈frs X.stack,H b=none:=λb hb=>by
 rcases Z0e.mp (I.stkSub b hb) with e | hb
 ·rw [e];exact I.free
 ·obtain ⟨_,o,ho,_⟩:=I.ok.funs.mem hb;exact I.base.free b o ho (I.ok.frf b hb) λz=>I.ok.exfs b z hb
theorem Inv.step {g':Array GenState} {t':Nat} {d':Drawn} {ch:List Addr} (I:Inv X pins σ H s)
  (hch:∀b∈ch,(b∈X.ex\/X.s₀.heap.objs.size<=b)/\b≠X.env.locals/\(∀x c,X.env.cells.lookup x=some c->c≠b)/\∀p∈X.pn++pins,p.1≠b)
  (keep:∀b o,b≠X.env.locals->b∉X.fs->b∉ch->s.heap.get? b=some o->H b=none->h'.get? b=some o)
  (slot:∀b o,b≠X.env.locals->b∈X.fs->b∉ch->s.heap.get? b=some o->H b=none->∃sl,h'.get? b=some { o with slots:=sl }) (free:∀b o,b∉ch->s.heap.get? b=some o->H b=none->H' b=none)
  (there:∀b o,b∉ch->s.heap.get? b=some o->∃o',h'.get? b=some o')
  (tups:∀b xs,H b=some (.tup xs)->H' b=some (.tup xs)) (frzs:∀b o u,H b=some (.frz o u)->H' b=some (.frz o u)) (tbls:∀b ps,H b=some (.tbl ps)->∃more,H' b=some (.tbl (ps++more)))
  (ns:∀m,s.heap.Ns X.env.locals m->h'.Ns X.env.locals m) (hok:HOk X.prog X.w H' h') (hg:AllBare g') :
  Inv X pins σ H' { s with heap:=h',gens:=g',drawn:=d',toks:=t' }:=by
 have neL:∀b o,X.s₀.heap.get? b=some o->b≠X.env.locals:=λb o e=>Z0h (Z0q (Z0a e) I.ok.above)
 have neC:∀b o,X.s₀.heap.get? b=some o->b∉X.ex->b∉ch:=λb o e hx hb=>by
  rcases (hch b hb).1 with z | z
  ·exact hx z
  ·exact absurd (Z0q (Z0a e) z) (Nat.lt_irrefl _)
 have cellK:∀x c,X.env.cells.lookup x=some c->∀v,s.heap.IsCell c v->h'.IsCell c v:=λx c e v ⟨o,ho,hd⟩=>by
  have nch:c∉ch:=λz=>(hch c z).2.2.1 x c e rfl;by_cases hc:c∈X.fs
  ·obtain ⟨sl,q⟩:=slot c o (I.cne x c e) hc nch ho (I.freeC x c e);exact ⟨_,q,hd⟩
  ·exact ⟨o,keep c o (I.cne x c e) hc nch ho (I.freeC x c e),hd⟩
 refine ⟨I.ok,I.os,hg,⟨λb o e n hb hx=> ?_,λb o e n hb hx=> ?_,λb o e n hx=> ?_,λb o e hx=> ?_,λb xs e=>tups b xs (I.base.tups b xs e),λb o xs e=>frzs b o xs (I.base.frzs b o xs e),λb ps e=> ?_⟩,?_,λx c e=> ?_,?_,λx c e=> ?_,λp hp=> ?_,hok,I.len⟩
 ·exact keep b o (neL b o e) hb (neC b o e hx) (I.base.keep b o e n hb hx) (I.base.free b o e n hx)
 ·obtain ⟨sl,e1⟩:=I.base.slot b o e n hb hx;obtain ⟨sl',e2⟩:=slot b _ (neL b o e) hb (neC b o e hx) e1 (I.base.free b o e n hx);exact ⟨sl',e2⟩
 ·obtain ⟨o',e1⟩:=I.base.there b o e hx;exact free b o' (neC b o e hx) e1 (I.base.free b o e n hx)
 ·obtain ⟨o',e1⟩:=I.base.there b o e hx;exact there b o' (neC b o e hx) e1
 ·obtain ⟨m1,e1⟩:=I.base.tbls b ps e;obtain ⟨m2,e2⟩:=tbls b _ e1;exact ⟨m1++m2,by rw [e2,Array.append_assoc]⟩
 ·obtain ⟨m,hn,hl⟩:=I.loc;refine ⟨m,ns m hn,λi x v e1 e2 e3=> ?_⟩;obtain ⟨u,r,l⟩:=hl i x v e1 e2 e3;refine ⟨u,r,?_⟩;rcases l with l | ⟨k,c,e,z⟩
  ·exact .inl l
  ·exact .inr ⟨k,c,e,cellK x c e _ z⟩
 ·obtain ⟨v,z⟩:=I.cell x c e;exact ⟨v,cellK x c e v z⟩
 ·obtain ⟨m,⟨o,_,_,ho,_⟩,_⟩:=I.loc;exact free _ o (λz=>(hch _ z).2.1 rfl) ho I.free
 ·obtain ⟨v,o,ho,hd⟩:=I.cell x c e;exact free c o (λz=>(hch c z).2.2.1 x c e rfl) ho (I.freeC x c e)
 ·obtain ⟨e,n,ne,nf,d⟩:=I.pin p hp;have nch:p.1∉ch:=λz=>(hch p.1 z).2.2.2 p hp rfl;exact ⟨keep p.1 p.2 ne nf nch e n,free p.1 p.2 nch e n,ne,nf,d⟩
theorem Inv.un {t':Nat} (I:Inv X pins σ H s) (u:Un X.fs [] H H' s.heap h') (hok:HOk X.prog X.w H' h'):Inv X pins σ H' { s with heap:=h',toks:=t' }:=by
 obtain ⟨m,⟨o,es,ep,ho,r⟩,_⟩:=id I.loc;obtain ⟨sl,hL⟩:=u.any ho I.free (by simp)
 exact I.step (g':=s.gens) (d':=s.drawn) (ch:=[]) (λ_ z=>nomatch z) (λb o _ hb _ e n=>u.keep b o e n hb (by simp)) (λb o _ hb _ e n=>u.slot b o e n hb (by simp)) (λb o _ e n=>u.free b o e n (by simp)) (λb o _ e=>u.there b o e (by simp)) u.tups u.frzs u.tbls (λm' hm=>by
  obtain ⟨o',es',ep',ho',r'⟩:=hm;rw [ho] at ho';cases ho'
  exact ⟨_,es',ep',hL,r'⟩) hok I.bare
theorem Inv.call {g':Array GenState} {t':Nat} {d':Drawn} {ch:List Addr} (I:Inv X pins σ H s) (u:Un (frs X.stack) ch H H' s.heap h') (hok:HOk X.prog X.w H' h') (hg:AllBare g')
  (hch:∀b∈ch,(b∈X.ex\/X.s₀.heap.objs.size<=b)/\b≠X.env.locals/\(∀x c,X.env.cells.lookup x=some c->c≠b)/\∀p∈X.pn++pins,p.1≠b) :
  Inv X pins σ H' { s with heap:=h',gens:=g',drawn:=d',toks:=t' }:=by
 obtain ⟨m,⟨o,es,ep,ho,r⟩,_⟩:=id I.loc;obtain ⟨sl,hL⟩:=u.any ho I.free λz=>(hch _ z).2.1 rfl
 exact I.step (ch:=ch) hch (λb o hL hb hc e n=>u.keep b o e n (λz=>(Z0e.mp (I.stkSub b z)).elim hL hb) hc) (λb o _ _ hc e n=>u.any e n hc) (λb o hc e n=>u.free b o e n hc) (λb o hc e=>u.there b o e hc) u.tups u.frzs u.tbls (λm' hm=>by
  obtain ⟨o',es',ep',ho',r'⟩:=hm;rw [ho] at ho';cases ho'
  exact ⟨_,es',ep',hL,r'⟩) hok hg
theorem Inv.turned {t':Nat} {it:Addr} (I:Inv X pins σ H s) (k:∀b o,b≠it->s.heap.get? b=some o->h'.get? b=some o) (hn:H it=none) (hL:it≠X.env.locals)
  (h1:it∈X.ex\/X.s₀.heap.objs.size<=it) (h2:∀x c,X.env.cells.lookup x=some c->c≠it) (h3:∀p∈X.pn++pins,p.1≠it):Inv X pins σ H { s with heap:=h',toks:=t' }:=by
 have nit:∀b u,H b=some u->b≠it:=λb u e z=>by rw [z,hn] at e;cases e
 refine I.step (g':=s.gens) (d':=s.drawn) (ch:=[it]) (λb hb=> ?_) (λb o _ _ hc e _=>k b o (λz=>hc (by simp [z])) e) (λb o _ _ hc e _=>⟨o.slots,k b o (λz=>hc (by simp [z])) e⟩) (λ_ _ _ _ n=>n)
  (λb o hc e=>⟨o,k b o (λz=>hc (by simp [z])) e⟩) (λ_ _ e=>e) (λ_ _ _ e=>e) (λb ps e=>⟨#[],by rw [e];simp⟩) (λm hm=> ?_) (λb u e=> ?_) I.bare
 ·have e:b=it:=by simpa using hb
  subst e;exact ⟨h1,hL,h2,h3⟩
 ·obtain ⟨o,es,ep,ho,r⟩:=hm;exact ⟨o,es,ep,k _ o (Ne.symm hL) ho,r⟩
 ·refine (I.hok b u e).stay (λc v hc q=>k c v ?_ q) (λ_ q=>q) λ_ _ q=>q;rcases hc with z | z
  ·rw [z];exact nit b u e
  ·exact nit c _ z
theorem Inv.tok (I:Inv X pins σ H s) (t:Nat):Inv X pins σ H { s with toks:=t }:=I.un (h':=s.heap) (t':=t) Un.refl I.hok
theorem Inv.kept {t':Nat} (I:Inv X pins σ H s) (k:∀b u,s.heap.get? b=some u->h'.get? b=some u):Inv X pins σ H { s with heap:=h',toks:=t' }:=I.un (Un.kept k) (I.hok.kept k)
theorem Inv.laid {a:Addr} {o:HO} {t':Nat} (I:Inv X pins σ H s) (k:∀b u,s.heap.get? b=some u->h'.get? b=some u) (hp:s.heap.objs.size<=a) (new:A1k X.prog X.w (upd H a o) h' a o) :
  Inv X pins σ (upd H a o) { s with heap:=h',toks:=t' }:=I.un (Un.laid k hp (I.hok.fresh hp)) (I.hok.laid k hp new)
theorem Inv.write {x e:Addr} {o:HO} {t':Nat} (I:Inv X pins σ H s) (mu:Mut (H x)) (he:e=x\/H e=some (.own x)) (k:∀b u,b≠e->s.heap.get? b=some u->h'.get? b=some u) (heo:∃u,h'.get? e=some u)
  (new:A1k X.prog X.w (upd H x o) h' x o):Inv X pins σ (upd H x o) { s with heap:=h',toks:=t' }:=I.un (Un.write mu he k heo) (I.hok.write mu he k heo new)
theorem Inv.weak {σ':List (Option V)} (I:Inv X pins σ H s) (hl:σ'.length=σ.length) (w:∀(i:Nat) v,σ'[i]? =some (some v)->σ[i]? =some (some v)):Inv X pins σ' H s :=
 ⟨I.ok,I.os,I.bare,I.base,let ⟨m,hn,hl'⟩:=I.loc;⟨m,hn,λi x v e1 e2 e3=>hl' i x v e1 (w i v e2) e3⟩,I.cell,I.free,I.freeC,I.pin,I.hok,hl.trans I.len⟩
theorem Inv.pins_of {pins':List (Addr×Obj)} (I:Inv X pins σ H s) (h:∀p∈pins',s.heap.get? p.1=some p.2/\H p.1=none/\p.1≠X.env.locals/\p.1∉X.fs/\∀v,p.2.data≠.cell v):Inv X pins' σ H s :=
 ⟨I.ok,I.os,I.bare,I.base,I.loc,I.cell,I.free,I.freeC,λp hp=>(Z07.mp hp).elim (λz=>I.pin p (Z05 _ z)) (h p),I.hok,I.len⟩
theorem B1z {N:List Str} (hN:N.Nodup) {i j:Nat} {x:Str} (a:N[i]? =some x) (b:N[j]? =some x):i=j:=by
 obtain ⟨h1,e1⟩:=Z03.mp a;obtain ⟨h2,e2⟩:=Z03.mp b;exact (List.getElem_inj hN).mp (e1.trans e2.symm)
theorem A9r {M:Model} {A:Around} {E:Value->Shared->Prop} {i:Nat} {x:Str} {v:V} {u:Value} {Q:Unit->Shared->Prop} (I:Inv X pins σ H s) (hN:X.N.Nodup) (hi:X.N[i]? =some x) (hx:Loc X.env.scope x) (r:A1e v u)
  (h:∀s',Inv X pins (σ.set i (some v)) H s'->(∃a,Heap.SameBut a s.heap s'.heap/\(a=X.env.locals\/X.env.cells.lookup x=some a))->Q () s') (hf:X.fn x=true\/X.env.scope.names.lookup x=some .local:=by first | exact .inl rfl | exact .inr rfl | assumption):wpAny M A (storeName X.env x u) Q E s:=by
 obtain ⟨m,hn,hl⟩:=id I.loc;have hcls:(X.env.scope.kind == .class||(X.env.scope.kind == .module&&X.env.locals != X.env.globals))=false:=by rw [I.ok.kind];rfl
 have hiσ:i<σ.length:=by rw [I.len];exact (Z03.mp hi).1
 have cne:=I.cne
 have tracked:∀{a:Addr} {h':Heap},(∃o,s.heap.get? a=some o/\H a=none)->Heap.SameBut a s.heap h'->HOk X.prog X.w H h':=λ{a h'} ha hs b ob e=>by
  obtain ⟨_,_,hfree⟩:=ha;refine (I.hok b ob e).stay (λc w' hc q=>(hs.2 c ?_).trans q) (λ_ q=>q) λ_ _ q=>q;rintro rfl;rcases hc with rfl | hc
  ·rw [hfree] at e;cases e
  ·rw [hfree] at hc;cases hc
 rcases hx with hk | hk
 ·refine wpAny_storeName_local hk hn (λh' hn' hs=> ?_) hcls;obtain ⟨oL,_,_,hoL,_⟩:=id hn;refine h _ ⟨I.ok,I.os,I.bare,⟨λb o e n hb hx=> ?_,λb o e n hb hx=> ?_,I.base.free,λb o e hx=> ?_,I.base.tups,I.base.frzs,I.base.tbls⟩,⟨_,hn',λj y v' e1 e2 e3=> ?_⟩,λy c e=> ?_,I.free,I.freeC,λp hp=> ?_,tracked ⟨oL,hoL,I.free⟩ hs,by simpa using I.len⟩ ⟨_,hs,.inl rfl⟩
  ·exact (hs.2 b (Z0h (Z0q (Z0a e) I.ok.above))).trans (I.base.keep b o e n hb hx)
  ·obtain ⟨sl,e1⟩:=I.base.slot b o e n hb hx;exact ⟨sl,(hs.2 b (Z0h (Z0q (Z0a e) I.ok.above))).trans e1⟩
  ·obtain ⟨o',e1⟩:=I.base.there b o e hx;exact ⟨o',(hs.2 b (Z0h (Z0q (Z0a e) I.ok.above))).trans e1⟩
  ·by_cases hj:j=i
   ·subst hj;rw [hi] at e1;cases e1;rw [Z23 hiσ] at e2;cases e2;exact ⟨u,r,.inl ⟨hk,by simp⟩⟩
   ·rw [Z2a (Ne.symm hj)] at e2;obtain ⟨u',r',q⟩:=hl j y v' e1 e2 e3;refine ⟨u',r',?_⟩;rcases q with ⟨k,e⟩ | ⟨k,c,e,z⟩
    ·refine .inl ⟨k,?_⟩;have:y≠x:=λe=>hj (B1z hN e1 (e▸hi));simp [this,e]
    ·exact .inr ⟨k,c,e,z.sameBut hs (cne y c e)⟩
  ·obtain ⟨w',z⟩:=I.cell y c e;exact ⟨w',z.sameBut hs (cne y c e)⟩
  ·obtain ⟨e,n,ne,nf,d⟩:=I.pin p hp;exact ⟨(hs.2 p.1 ne).trans e,n,ne,nf,d⟩
 ·have hfn:X.fn x=true:=by
   rcases hf with z | z
   ·exact z
   ·rw [z] at hk;cases hk
  obtain ⟨c,hc⟩:=I.ok.has x (.inl hk);obtain ⟨w',z⟩:=I.cell x c hc;refine wpAny_storeName_cell I.ok.kind hk hc z (λh' hc' hs=> ?_);obtain ⟨oc,hoc,hocd⟩:=id z;refine h { s with heap:=h' } ⟨I.ok,I.os,I.bare,⟨λb o e n hb hx=> ?_,λb o e n hb hx=> ?_,I.base.free,λb o e hx=> ?_,I.base.tups,I.base.frzs,I.base.tbls⟩,⟨m,hn.sameBut hs (Ne.symm (cne x c hc)),λj y v' e1 e2 e3=> ?_⟩,λy c' e=> ?_,I.free,I.freeC,λp hp=> ?_,tracked ⟨oc,hoc,I.freeC x c hc⟩ hs,by simpa using I.len⟩ ⟨c,hs,.inr hc⟩
  ·exact (hs.2 b (Z0h (Z0q (Z0a e) (I.ok.cab x c hfn hc)))).trans (I.base.keep b o e n hb hx)
  ·obtain ⟨sl,e1⟩:=I.base.slot b o e n hb hx;exact ⟨sl,(hs.2 b (Z0h (Z0q (Z0a e) (I.ok.cab x c hfn hc)))).trans e1⟩
  ·obtain ⟨o',e1⟩:=I.base.there b o e hx;exact ⟨o',(hs.2 b (Z0h (Z0q (Z0a e) (I.ok.cab x c hfn hc)))).trans e1⟩
  ·by_cases hj:j=i
   ·subst hj;rw [hi] at e1;cases e1;rw [Z23 hiσ] at e2;cases e2;exact ⟨u,r,.inr ⟨.inl hk,c,hc,hc'⟩⟩
   ·rw [Z2a (Ne.symm hj)] at e2;obtain ⟨u',r',q⟩:=hl j y v' e1 e2 e3;refine ⟨u',r',?_⟩;rcases q with q | ⟨k,c',e,z'⟩
    ·exact .inl q
    ·refine .inr ⟨k,c',e,z'.sameBut hs ?_⟩;rintro rfl;exact hj (B1z hN e1 (I.ok.inj _ _ _ e hc▸hi))
  ·by_cases hcc:c'=c
   ·subst hcc;exact ⟨_,hc'⟩
   ·obtain ⟨w2,z2⟩:=I.cell y c' e;exact ⟨w2,z2.sameBut hs hcc⟩
  ·obtain ⟨e,n,ne,nf,d⟩:=I.pin p hp;refine ⟨(hs.2 p.1 ?_).trans e,n,ne,nf,d⟩;intro q;rw [q,hoc] at e;have q':oc=p.2:=Z1a e;exact d w' (by rw [<-q'];exact hocd)
theorem B2k {M:Model} {A:Around} {E:Value->Shared->Prop} {i:Nat} {x:Str} {v:V} {u:Value} {Q:Unit->Shared->Prop} (I:Inv X pins σ H s) (hN:X.N.Nodup) (hi:X.N[i]? =some x) (hx:Loc X.env.scope x) (r:A1e v u)
  (h:∀s',Inv X pins (σ.set i (some v)) H s'->Q () s') (hf:X.fn x=true\/X.env.scope.names.lookup x=some .local:=by first | exact .inl rfl | exact .inr rfl | assumption):wpAny M A (storeName X.env x u) Q E s :=
 A9r I hN hi hx r (λs' I' _=>h s' I') hf
theorem Inv.call' {s':Shared} {ch:List Addr} (I:Inv X pins σ H s) (ho:s'.os=s.os) (u:Un (frs X.stack) ch H H' s.heap s'.heap) (hok:HOk X.prog X.w H' s'.heap) (hg:AllBare s'.gens)
  (hch:∀b∈ch,(b∈X.ex\/X.s₀.heap.objs.size<=b)/\b≠X.env.locals/\(∀x c,X.env.cells.lookup x=some c->c≠b)/\∀p∈X.pn++pins,p.1≠b):Inv X pins σ H' s':=by
 obtain ⟨h',g',d',t',o'⟩:=s';have e:o'=s.os:=ho;subst e;exact I.call (g':=g') (t':=t') (d':=d') u hok hg hch
end
abbrev XK:=Value->Option Addr->Hp->Prop
abbrev St:=List (Option V)
abbrev VK:=V->Hp->Prop
abbrev TE:=St->Hp->VK->Prop
abbrev TT:=St->Hp->(Bool->Hp->Prop)->Prop
abbrev TA:=St->Hp->(List V->Hp->Prop)->Prop
structure B7k where
 nx:St->Hp->Prop
 rt:VK
 bk:St->Hp->Prop:=λ_ _=>False
 ct:St->Hp->Prop:=λ_ _=>False
abbrev TS:=B7k->St->Hp->Prop
def EP (X:Cx) (pins:List (Addr×Obj)) (σ:St) (Q:VK) (u:Value) (s':Shared):Prop:=∃v H',Inv X pins σ H' s'/\A1e v u/\Q v H'
def TP (X:Cx) (pins:List (Addr×Obj)) (σ:St) (Q:Bool->Hp->Prop) (b:Bool) (s':Shared):Prop:=∃H',Inv X pins σ H' s'/\Q b H'
def AP (X:Cx) (pins:List (Addr×Obj)) (σ:St) (Q:List V->Hp->Prop) (us:List Value) (s':Shared):Prop:=∃vs H',Inv X pins σ H' s'/\A1n vs us/\Q vs H'
def SP (X:Cx) (pins:List (Addr×Obj)) (D:B7k) (f:Flow) (s':Shared):Prop :=
 match f with
 | .next=>∃σ' H',Inv X pins σ' H' s'/\D.nx σ' H'
 | .brk=>∃σ' H',Inv X pins σ' H' s'/\D.bk σ' H'
 | .cont=>∃σ' H',Inv X pins σ' H' s'/\D.ct σ' H'
 | .ret u=>∃v σ' H',Inv X pins σ' H' s'/\A1e v u/\D.rt v H'
def PE (X:Cx) (e:Expr) (t:TE):Prop :=
 ∀(pins:List (Addr×Obj)) (s:Shared) (σ:St) (H:Hp) (Q:VK),Inv X pins σ H s->t σ H Q->wpAny (model X.prog X.w) X.A (eval e X.env) (EP X pins σ Q) X.xe s
def PT (X:Cx) (e:Expr) (t:TT):Prop :=
 ∀(pins:List (Addr×Obj)) (s:Shared) (σ:St) (H:Hp) (Q:Bool->Hp->Prop),Inv X pins σ H s->t σ H Q->wpAny (model X.prog X.w) X.A (isTrue e X.env (eval e X.env)) (TP X pins σ Q) X.xe s
def PW (X:Cx) (e:Expr) (t:TT):Prop :=
 ∀(whole:Sem Value) (pins:List (Addr×Obj)) (s:Shared) (σ:St) (H:Hp) (Q:Bool->Hp->Prop),Inv X pins σ H s->t σ H Q->wpAny (model X.prog X.w) X.A (isTrue e X.env whole) (TP X pins σ Q) X.xe s
theorem PW.pt {X:Cx} {e:Expr} {t:TT} (h:PW X e t):PT X e t:=h _
def PA (X:Cx) (es:List Expr) (t:TA):Prop :=
 ∀(pos:Pos) (pins:List (Addr×Obj)) (s:Shared) (σ:St) (H:Hp) (Q:List V->Hp->Prop),Inv X pins σ H s->t σ H Q->wpAny (model X.prog X.w) X.A (spliced (backTo pos (starEach es X.env))) (AP X pins σ Q) X.xe s
def PS (X:Cx) (st:Stmt) (t:TS):Prop :=
 ∀(pins:List (Addr×Obj)) (s:Shared) (σ:St) (H:Hp) (D:B7k),Inv X pins σ H s->t D σ H->wpAny (model X.prog X.w) X.A (exec st X.env) (SP X pins D) X.xe s
def PSs (X:Cx) (st:List Stmt) (t:TS):Prop :=
 ∀(pins:List (Addr×Obj)) (s:Shared) (σ:St) (H:Hp) (D:B7k),Inv X pins σ H s->t D σ H->wpAny (model X.prog X.w) X.A (execs st X.env) (SP X pins D) X.xe s
theorem thn {α:Type} {t:Sem α} {Q Q':α->Shared->Prop} {M:Model} {A:Around} {E:Value->Shared->Prop} {s:Shared} (h:wpAny M A t Q E s) (hQ:∀a s,Q a s->Q' a s):wpAny M A t Q' E s:=Z10 h hQ λ_ _ x=>x
section
variable {X:Cx}
def C4n (i:Nat):TE:=λσ H Q=>∃v,σ[i]? =some (some v)/\Q v H
def tC (v:V):TE:=λ_ H Q=>Q v H
theorem C2t {i:Nat} {x:Str} {pos:Pos} (hN:X.N[i]? =some x) (hv:Vis X.env.scope x) (hd:(x == ("__debug__":Str))=false:=by decide) (hcd:(x == ("__classdict__":Str))=false:=by decide):PE X (.Name x pos) (C4n i):=by
 intro pins s σ H Q I h;obtain ⟨v,e,h⟩:=h;obtain ⟨m,hn,hl⟩:=I.loc;obtain ⟨u,r,l⟩:=hl i x v hN e hv;have fin:EP X pins σ Q u s:=⟨v,H,I,r,h⟩;rcases l with ⟨hk,hm⟩ | ⟨hk,c,hc,hcell⟩
 ·exact wpAny_Name (wpAny_loadName_local I.ok.kind hk hn hm fin) hd
 ·rcases hk with hk | hk
  ·exact wpAny_Name (wpAny_loadName_cell I.ok.kind hk hc hcell fin) hd
  ·exact wpAny_Name (wpAny_loadName_free I.ok.kind hk hc hcell fin hcd) hd
theorem A0f {i j pos}:PE X (.Constant (.int i) j pos) (tC (.int i)):=λ_ _ _ H _ I h=>wpAny_Constant_int ⟨.int i,H,I.tok _,⟨_,rfl⟩,h⟩
theorem A6b {b j pos}:PE X (.Constant (.bool b) j pos) (tC (.bl b)):=λ_ _ _ H _ I h=>Constant_bool ⟨.bl b,H,I,rfl,h⟩
theorem A3t {j pos}:PE X (.Constant .none j pos) (tC .non):=λ_ _ _ H _ I h=>Constant_none ⟨.non,H,I,rfl,h⟩
theorem A1a {x j pos}:PE X (.Constant (.str x) j pos) (tC (.str x)):=λ_ _ _ H _ I h=>Calls.Constant_str ⟨.str x,H,I.tok _,⟨_,rfl⟩,h⟩
def Gl (X:Cx) (x:Str):Prop:=X.env.kindOf x=some .globalImplicit
theorem A8f {E:Value->Shared->Prop} {pins:List (Addr×Obj)} {s:Shared} {σ:St} {H:Hp} {x:Str} {u:Value} {pos:Pos} {Q:Value->Shared->Prop} (I:Inv X pins σ H s) (hg:Gl X x) (hm:X.mg x=some u) (h:Q u s)
  (hd:(x == ("__debug__":Str))=false:=by decide):wpAny (model X.prog X.w) X.A (eval (.Name x pos) X.env) Q E s :=
 Calls.Name_function_global I.ok.kind hg (Calls.loadGlobal_global (by rw [I.ok.glob];exact I.mod.glob.keeps I.bk) hm h) hd
theorem B2o {E:Value->Shared->Prop} {pins:List (Addr×Obj)} {s:Shared} {σ:St} {H:Hp} {x:Str} {u:Value} {pos:Pos} {Q:Value->Shared->Prop} (I:Inv X pins σ H s) (hg:Gl X x) (hm:X.mg x=none) (hv:bootBuiltins x=some u) (h:Q u s)
  (hn:x≠"__name__":=by decide) (hd:(x == ("__debug__":Str))=false:=by decide):wpAny (model X.prog X.w) X.A (eval (.Name x pos) X.env) Q E s:=by
 obtain ⟨mb,h1,h2⟩:=I.mod.blt;exact Calls.Name_function_global I.ok.kind hg (Calls.loadGlobal_builtin (by rw [I.ok.glob];exact I.mod.glob.keeps I.bk) hm (by rw [I.ok.blt];exact h1.keeps I.bk) ((h2 x hn).trans hv) h) hd
theorem A4k {x:Str} {v:V} {u:Value} {pos:Pos} (hg:Gl X x) (hm:X.mg x=none) (hv:bootBuiltins x=some u) (r:A1e v u) (hn:x≠"__name__":=by decide) (hd:(x == ("__debug__":Str))=false:=by decide):PE X (.Name x pos) (tC v) :=
 λ_ _ _ H _ I h=>B2o I hg hm hv ⟨v,H,I,r,h⟩ hn hd
variable {a b:Expr} {ta tb:TE} {pos:Pos}
def tB (t:TE):TT:=λσ H Q=>t σ H λx H1=>∃c,x= .bl c/\Q c H1
theorem A4f {e:Expr} {t:TE} (h:PE X e t) (he:∀whole,isTrue e X.env whole=(do let v<-whole;standAt e.pos;holding [v] (truthy v)):=by intro _;rfl):PT X e (tB t):=by
 intro pins s σ H Q I hw;refine isTrue_plain (thn (h pins s σ H _ I hw) ?_) (he _);rintro v s1 ⟨x,H1,I1,r1,q1⟩;obtain ⟨d,rfl,q⟩:=q1;cases r1;exact wpAny_truthy_bool ⟨H1,I1,q⟩
variable {tA tB':TT} {rest:List Expr}
def tAnd (t u:TT):TT:=λσ H Q=>t σ H λc H1=>if c=true then u σ H1 Q else Q false H1
def tOr (t u:TT):TT:=λσ H Q=>t σ H λc H1=>if c=true then Q true H1 else u σ H1 Q
def tNot (t:TT):TT:=λσ H Q=>t σ H λc H1=>Q (!c) H1
theorem A5r (ha:PT X a tA):PW X (.BoolOp .And [a] pos) tA:=by
 intro wh pins s σ H Q I h;refine isTrue_and (thn (ha pins s σ H Q I h) λc s1 e=> ?_)
 cases c with
 | true=>exact isTrue_and_nil e
 | false=>exact e
theorem A7n (ha:PT X a tA):PW X (.BoolOp .Or [a] pos) tA:=by
 intro wh pins s σ H Q I h;refine isTrue_or (thn (ha pins s σ H Q I h) λc s1 e=> ?_)
 cases c with
 | false=>exact isTrue_or_nil e
 | true=>exact e
theorem A5w (ha:PT X a tA) (hb:PW X (.BoolOp .And (b::rest) pos) tB'):PW X (.BoolOp .And (a::b::rest) pos) (tAnd tA tB'):=by
 intro wh pins s σ H Q I h;refine isTrue_and (thn (ha pins s σ H _ I h) ?_);rintro c s1 ⟨H1,I1,q1⟩
 cases c with
 | true=>exact hb wh pins s1 σ H1 Q I1 q1
 | false=>exact ⟨H1,I1,q1⟩
theorem B0w (ha:PT X a tA) (hb:PW X (.BoolOp .Or (b::rest) pos) tB'):PW X (.BoolOp .Or (a::b::rest) pos) (tOr tA tB'):=by
 intro wh pins s σ H Q I h;refine isTrue_or (thn (ha pins s σ H _ I h) ?_);rintro c s1 ⟨H1,I1,q1⟩
 cases c with
 | true=>exact ⟨H1,I1,q1⟩
 | false=>exact hb wh pins s1 σ H1 Q I1 q1
theorem A5d (ha:PT X a tA):PT X (.UnaryOp .Not a pos) (tNot tA):=by
 intro pins s σ H Q I h;exact isTrue_not (ha pins s σ H (λc H1=>Q (!c) H1) I h)
def C5f (ta tb:TE):TE:=λσ H Q=>ta σ H λx H1=>∃c,x= .bl c/\if c=true then tb σ H1 Q else Q (.bl false) H1
def C4c (ta:TE):TE:=λσ H Q=>ta σ H λx H1=>∃c,x= .bl c/\Q (.bl (!c)) H1
theorem B8l {op} {t:TE} (h:PE X a t):PE X (.BoolOp op [a] pos) t:=λpins s σ H Q I hw=>BoolOp_one (h pins s σ H Q I hw)
theorem B8w (ha:PE X a ta) (hb:PE X (.BoolOp .And (b::rest) pos) tb):PE X (.BoolOp .And (a::b::rest) pos) (C5f ta tb):=by
 intro pins s σ H Q I h;refine BoolOp_and (thn (ha pins s σ H _ I h) ?_);rintro v s1 ⟨x,H1,I1,r1,q1⟩;obtain ⟨c,rfl,q1⟩:=q1;cases r1;refine wpAny_truthy_bool ?_
 cases c with
 | true=>exact hb pins s1 σ H1 Q I1 q1
 | false=>exact ⟨.bl false,H1,I1,rfl,q1⟩
theorem C3h (ha:PE X a ta):PE X (.UnaryOp .Not a pos) (C4c ta):=by
 intro pins s σ H Q I h;refine UnaryOp_ (thn (ha pins s σ H _ I h) ?_);rintro v s1 ⟨x,H1,I1,r1,q1⟩;obtain ⟨c,rfl,q1⟩:=q1;cases r1;exact not_of (wpAny_truthy_bool ⟨.bl (!c),H1,I1,rfl,q1⟩)
def tIf (t:TT) (ta tb:TE):TE:=λσ H Q=>t σ H λc H1=>if c=true then ta σ H1 Q else tb σ H1 Q
theorem B7w {c:Expr} (hc:PT X c tA) (ha:PE X a ta) (hb:PE X b tb):PE X (.IfExp c a b pos) (tIf tA ta tb):=by
 intro pins s σ H Q I h;refine wpAny_IfExp (thn (hc pins s σ H _ I h) ?_);rintro d s1 ⟨H1,I1,q1⟩
 cases d with
 | true=>exact ha pins s1 σ H1 Q I1 q1
 | false=>exact hb pins s1 σ H1 Q I1 q1
end
def SqL (K:Frag) (H:Hp) (a:Addr) (xs:List V):Prop :=
 Rd H a (.lst xs)\/
  ∃(o:Obj) (its:Array Value) (n:Nat),K.lookup a=some o/\o.cls= .type "list"/\o.dict=none/\o.data= .seq its n/\its.size<=sizeLine/\A1n xs its.toList
def SqT (K:Frag) (H:Hp) (a:Addr) (xs:List V):Prop :=
 Rd H a (.tup xs)\/
  ∃(o:Obj) (its:Array Value) (n:Nat),K.lookup a=some o/\o.cls= .type "tuple"/\o.data= .seq its n/\its.size<=sizeLine/\A1n xs its.toList
noncomputable def absV:Value->Option V
 | .none=>some .non
 | .bool b=>some (.bl b)
 | .int i _=>some (.int i)
 | .str x _=>some (.str x)
 | .bytes b _=>some (.byt b)
 | .float b _=>some (.flt b)
 | .ref a=>some (.ref a)
 | .type n=>some (.ty n)
 | _=>none
theorem A1e.abs {x:V} {u:Value} (r:A1e x u):absV u=some x:=by
 cases x with
 | non=>cases r;rfl
 | bl _=>cases r;rfl
 | int _=>obtain ⟨t,rfl⟩:=r;rfl
 | str _=>obtain ⟨t,rfl⟩:=r;rfl
 | byt _=>obtain ⟨t,rfl⟩:=r;rfl
 | flt _=>obtain ⟨t,rfl⟩:=r;rfl
 | ref _=>cases r;rfl
 | ty _=>cases r;rfl
theorem A1e.inj {x y:V} {u:Value} (r:A1e x u) (q:A1e y u):x=y:=Z1a (r.abs.symm.trans q.abs)
theorem A1n.inj:∀{xs ys:List V} {us:List Value},A1n xs us->A1n ys us->xs=ys
 | _,_,_,.nil,.nil=>rfl
 | _,_,_,.cons r t,.cons r' t'=>by rw [r.inj r',A1n.inj t t']
section
variable {X:Cx} {pins:List (Addr×Obj)} {σ:St} {H:Hp} {s:Shared} {a:Addr} {xs ys:List V}
theorem SqL.of {K:Frag} (h:H a=some (.lst xs)):SqL K H a xs:= .inl (.inl h)
theorem SqT.of {K:Frag} (h:H a=some (.tup xs)):SqT K H a xs:= .inl (.inl h)
theorem Inv.list (I:Inv X pins σ H s) (h:SqL X.K H a xs):∃its:List Value,A1n xs its/\PlainL s.heap a its.toArray/\xs.length<=sizeLine:=by
 rcases h with h | ⟨o,its,n,hk,hc,hd,hs,hz,r⟩
 ·obtain ⟨z,its,n,r,e⟩:=h.ok I.hok;exact ⟨its,r,⟨_,n,e,rfl,rfl,rfl⟩,z⟩
 ·refine ⟨its.toList,r,⟨o,n,I.kIn a o hk,hc,hd,by simpa using hs⟩,?_⟩;have e:=r.length;simp only [Array.length_toList] at e;omega
theorem Inv.tuple (I:Inv X pins σ H s) (h:SqT X.K H a xs):∃its:List Value,A1n xs its/\IsTup s.heap a its.toArray/\xs.length<=sizeLine:=by
 rcases h with h | ⟨o,its,n,hk,hc,hs,hz,r⟩
 ·obtain ⟨z,its,r,p⟩:=h.ok I.hok;exact ⟨its,r,p,z⟩
 ·refine ⟨its.toList,r,⟨o,I.kIn a o hk,hc,n,by simpa using hs⟩,?_⟩;have e:=r.length;simp only [Array.length_toList] at e;omega
theorem Inv.list_inj (I:Inv X pins σ H s) (h:SqL X.K H a xs) (h':SqL X.K H a ys):xs=ys:=by
 obtain ⟨its,r,⟨o,n,e,_,_,d⟩,_⟩:=I.list h;obtain ⟨its',r',⟨o',n',e',_,_,d'⟩,_⟩:=I.list h';rw [e] at e';cases e';rw [d] at d';injection d' with d1 _;have:its=its':=by simpa using congrArg Array.toList d1
 subst this;exact r.inj r'
theorem Inv.tuple_inj (I:Inv X pins σ H s) (h:SqT X.K H a xs) (h':SqT X.K H a ys):xs=ys:=by
 obtain ⟨its,r,⟨o,e,_,n,d⟩,_⟩:=I.tuple h;obtain ⟨its',r',⟨o',e',_,n',d'⟩,_⟩:=I.tuple h';rw [e] at e';cases e';rw [d] at d';injection d' with d1 _;have:its=its':=by simpa using congrArg Array.toList d1
 subst this;exact r.inj r'
end
abbrev Cx.wish (X:Cx) (E:Value->Shared->Prop):Cx:={ X with xe:=E }
abbrev Cx.nox (X:Cx):Cx:=X.wish λ_ _=>False
theorem Cx.Ok.wish {X:Cx} (ok:X.Ok) (E:Value->Shared->Prop):(X.wish E).Ok :=
 ⟨ok.mod,ok.kind,ok.glob,ok.blt,ok.above,ok.inj,ok.has,ok.cab,ok.hd,ok.frames,ok.stk,ok.exf,ok.bs,ok.bsz,ok.noex,ok.exfs,ok.funs,ok.frf⟩
theorem Cx.Ok.unwish {X:Cx} {E:Value->Shared->Prop} (ok:(X.wish E).Ok):X.Ok :=
 ⟨ok.mod,ok.kind,ok.glob,ok.blt,ok.above,ok.inj,ok.has,ok.cab,ok.hd,ok.frames,ok.stk,ok.exf,ok.bs,ok.bsz,ok.noex,ok.exfs,ok.funs,ok.frf⟩
section
variable {X:Cx} {pins:List (Addr×Obj)} {σ:St} {H:Hp} {s:Shared} {E:Value->Shared->Prop}
theorem Inv.wish (I:Inv X pins σ H s) (E:Value->Shared->Prop):Inv (X.wish E) pins σ H s:=⟨I.ok.wish E,I.os,I.bare,I.base,I.loc,I.cell,I.free,I.freeC,I.pin,I.hok,I.len⟩
theorem Inv.unwish (I:Inv (X.wish E) pins σ H s):Inv X pins σ H s:=⟨I.ok.unwish,I.os,I.bare,I.base,I.loc,I.cell,I.free,I.freeC,I.pin,I.hok,I.len⟩
theorem SP.unwish {D:B7k} {f:Flow} {s':Shared} (h:SP (X.wish E) pins D f s'):SP X pins D f s':=by
 cases f with
 | next=>obtain ⟨σ',H',I,q⟩:=h;exact ⟨σ',H',I.unwish,q⟩
 | brk=>obtain ⟨σ',H',I,q⟩:=h;exact ⟨σ',H',I.unwish,q⟩
 | cont=>obtain ⟨σ',H',I,q⟩:=h;exact ⟨σ',H',I.unwish,q⟩
 | ret u=>obtain ⟨v,σ',H',I,r,q⟩:=h;exact ⟨v,σ',H',I.unwish,r,q⟩
theorem PSs.nox {st:List Stmt} {t:TS} (h:PSs X.nox st t):PSs X st t:=λpins s σ H D I hw =>
 Z10 (h pins s σ H D (I.wish _) hw) (λ_ _ q=>q.unwish) λ_ _ z=>False.elim z
end
section
variable {X:Cx} {st:Stmt} {rest:List Stmt} {t u:TS} {e:Expr} {te:TE} {pos:Pos}
def C4p:TS:=λD σ H=>D.nx σ H
def tSeq (t u:TS):TS:=λD σ H=>t { D with nx:=u D } σ H
theorem A0x:PSs X [] C4p:=λ_ _ σ H _ I h=>Z2b ⟨σ,H,I,h⟩
theorem A0c (h1:PS X st t) (h2:PSs X rest u):PSs X (st::rest) (tSeq t u):=by
 intro pins s σ H D I h;refine wpAny_execs_cons (thn (h1 pins s σ H { D with nx:=u D } I h) λf s1 q=> ?_)
 cases f with
 | next =>
  obtain ⟨σ',H',I',q⟩:=q;exact h2 pins s1 σ' H' D I' q
 | ret v=>exact q
 | brk=>exact q
 | cont=>exact q
theorem A0h (h1:PS X st t):PSs X [st] t:=by
 intro pins s σ H D I h;refine wpAny_execs_cons (thn (h1 pins s σ H D I h) λf s1 q=> ?_)
 cases f with
 | next=>exact Z2b q
 | ret v=>exact q
 | brk=>exact q
 | cont=>exact q
theorem Inv.quiet {pins:List (Addr×Obj)} {σ:St} {H:Hp} {s:Shared} (I:Inv X pins σ H s):interactive X.env=false:=by simp [interactive,I.ok.kind]
def C5e (te:TE):TS:=λD σ H=>te σ H λ_ H1=>D.nx σ H1
theorem A0z (he:PE X e te) (hs:swapsWith e none pos.line X.env=pure false:=by rfl):PS X (.Expr e pos) (C5e te):=by
 intro pins s σ H D I h;exact wpAny_Expr_any (thn (he pins s σ H _ I h) (by rintro v s1 ⟨x,H1,I1,r1,q1⟩;exact ⟨σ,H1,I1,q1⟩)) I.quiet hs
def tRet (te:TE):TS:=λD σ H=>te σ H D.rt
theorem A0s (he:PE X e te):PS X (.Return (some e) pos) (tRet te):=by
 intro pins s σ H D I h;exact wpAny_Return_some (thn (he pins s σ H _ I h) (by rintro v s1 ⟨x,H1,I1,r1,q1⟩;exact ⟨x,σ,H1,I1,r1,q1⟩))
def tIfS (c:TT) (t u:TS):TS:=λD σ H=>c σ H λb H1=>if b=true then t D σ H1 else u D σ H1
theorem A1z {c:Expr} {a b:List Stmt} {tc:TT} (hc:PT X c tc) (ha:PSs X a t) (hb:PSs X b u):PS X (.If c a b pos) (tIfS tc t u):=by
 intro pins s σ H D I h;refine wpAny_If (thn (hc pins s σ H _ I h) ?_);rintro d s1 ⟨H1,I1,q1⟩
 cases d with
 | true=>exact ha pins s1 σ H1 D I1 q1
 | false=>exact hb pins s1 σ H1 D I1 q1
def C2z:TS:=λ_ _ _=>False
theorem B7n:PS X st C2z:=λ_ _ _ _ _ _ h=>h.elim
end
abbrev TG:=V->St->Hp->(St->Hp->Prop)->Prop
abbrev TGs:=List V->St->Hp->(St->Hp->Prop)->Prop
def PG (X:Cx) (target:Expr) (t:TG):Prop :=
 ∀(pins:List (Addr×Obj)) (s:Shared) (σ:St) (H:Hp) (v:V) (u:Value) (Q:St->Hp->Prop),Inv X pins σ H s->A1e v u->t v σ H Q->
  wpAny (model X.prog X.w) X.A (assign target X.env u) (λ_ s'=>∃σ' H',Inv X pins σ' H' s'/\Q σ' H') X.xe s
def PGs (X:Cx) (ts:List Expr) (t:TGs):Prop :=
 ∀(pins:List (Addr×Obj)) (s:Shared) (σ:St) (H:Hp) (vs:List V) (us:List Value) (Q:St->Hp->Prop),Inv X pins σ H s->A1n vs us->t vs σ H Q->
  wpAny (model X.prog X.w) X.A (assignInOrder ((assignEach ts X.env).map (·.2)) us) (λ_ s'=>∃σ' H',Inv X pins σ' H' s'/\Q σ' H') X.xe s
abbrev C5a:=V->V->V->Hp->(Hp->Prop)->Prop
def C5p (X:Cx) (t:C5a):Prop :=
 ∀(pins:List (Addr×Obj)) (s:Shared) (σ:St) (H:Hp) (o i v:V) (ov iv u:Value) (Q:Hp->Prop),Inv X pins σ H s->A1e o ov->A1e i iv->A1e v u->t o i v H Q->
  wpAny (model X.prog X.w) X.A (setItem ov iv u) (λ_ s'=>∃H',Inv X pins σ H' s'/\Q H') X.xe s
section
variable {X:Cx} {pos:Pos}
def B4y (i:Nat):TG:=λv σ H Q=>Q (σ.set i (some v)) H
theorem A0l {i:Nat} {x:Str} (hN:X.N.Nodup) (hi:X.N[i]? =some x) (hx:Loc X.env.scope x) (hf:X.fn x=true\/X.env.scope.names.lookup x=some .local:=by first | exact .inl rfl | exact .inr rfl | assumption):PG X (.Name x pos) (B4y i):=by
 intro pins s σ H v u Q I r h;exact wpAny_assign_Name (B2k I hN hi hx r (λs' I'=>⟨_,H,I',h⟩) hf)
def C5s:TGs:=λvs σ H Q=>vs=[]/\Q σ H
def C0x (t:TG) (u:TGs):TGs:=λvs σ H Q=>∃v r,vs=v::r/\t v σ H λσ' H'=>u r σ' H' Q
theorem A2l:PGs X [] C5s:=by
 intro pins s σ H vs us Q I r h;obtain ⟨e,h⟩:=h;subst e;cases r;exact assignInOrder_nil ⟨σ,H,I,h⟩
theorem A0k {e:Expr} {es:List Expr} {t:TG} {u:TGs} (h1:PG X e t) (h2:PGs X es u)
  (hs:(assignEach (e::es) X.env).map (·.2)=assign e X.env::(assignEach es X.env).map (·.2):=by rfl):PGs X (e::es) (C0x t u):=by
 intro pins s σ H vs us Q I r h;obtain ⟨v,vr,e1,h⟩:=h;subst e1
 cases r with
 | cons r rr =>
  rw [hs];refine assignInOrder_cons (thn (h1 pins s σ H _ _ _ I r h) ?_);rintro _ s1 ⟨σ1,H1,I1,q1⟩;exact h2 pins s1 σ1 H1 _ _ Q I1 rr q1
def C5x (K:Frag) (n:Nat) (t:TGs):TG:=λv σ H Q=>∃a xs,v= .ref a/\SqT K H a xs/\xs.length=n/\t xs σ H Q
theorem A3p {es:List Expr} {k:Nat} {t:TGs} {n:Nat} (hc:X.calm=true) (h:PGs X es t)
  (hn:(assignEach es X.env).length=n:=by rfl) (hst:(assignEach es X.env).findIdx? (·.1)=none:=by rfl):PG X (.Tuple es k pos) (C5x X.K n t):=by
 intro pins s σ H v u Q I r hw;obtain ⟨a,xs,e1,hq,hl,hw⟩:=hw;subst e1;cases r;obtain ⟨its,rv,ht,hz⟩:=I.tuple hq;refine assign_Tuple_tuple (I.ok.hd hc) ht (by simp [hn,<-hl,rv.length]) hst λh' hx=> ?_;have I1:Inv X pins σ H { s with heap:=h' }:=I.kept (t':=s.toks) λb o e=>hx b o (Z0h (Z0a e)) e
 exact h pins _ σ H xs _ Q I1 (by simpa using rv) hw
def gSub (to ti:TE) (t:C5a):TG:=λv σ H Q=>to σ H λo H1=>ti σ H1 λi H2=>t o i v H2 λH3=>Q σ H3
theorem B4d {o i:Expr} {to ti:TE} {t:C5a} (ho:PE X o to) (hi:PE X i ti) (hs:C5p X t)
  (ha:∀v,assign (.Subscript o i pos) X.env v=(do
   let ov<-holding [v] (eval o X.env)
   let iv<-holding [v,ov] (eval i X.env)
   standAt pos
   holding [v,ov,iv] (setItem ov iv v)
   release [v,ov,iv] []):=by intro _;rfl):PG X (.Subscript o i pos) (gSub to ti t):=by
 intro pins s σ H v u Q I r h;rw [ha];refine Z00 (Z1w (thn (ho pins s σ H _ I h) ?_));rintro ov s1 ⟨x,H1,I1,r1,q1⟩;refine Z00 (Z1w (thn (hi pins s1 σ H1 _ I1 q1) ?_));rintro iv s2 ⟨y,H2,I2,r2,q2⟩;refine Z00 (Z1y (Z00 (Z1w (thn (hs pins s2 σ H2 x y v ov iv u _ I2 r1 r2 r q2) ?_))));rintro _ s3 ⟨H3,I3,q3⟩;exact wpAny_release ⟨σ,H3,I3,q3⟩
def C5m (te:TE) (g:TG):TS:=λD σ H=>te σ H λx H1=>g x σ H1 D.nx
theorem A3h {tg e:Expr} {te:TE} {g:TG} (he:PE X e te) (hg:PG X tg g) (hs:swapsWithSole [tg] e pos.line X.env=pure false:=by rfl) (hw:swappedStores [tg] e X.env=pure none:=by rfl)
  (h1:(assignEach [tg] X.env).map (·.2)=[assign tg X.env]:=by rfl):PS X (.Assign [tg] e pos) (C5m te g):=by
 intro pins s σ H D I h;refine wpAny_Assign_stores (thn (he pins s σ H _ I h) ?_) hs hw;rintro v s1 ⟨x,H1,I1,r1,q1⟩;rw [h1];exact thn (hg pins s1 σ H1 x v _ I1 r1 q1) λ_ s2 q=>q
theorem A0t {i:Nat} {x:Str} {e:Expr} {te:TE} {pos':Pos} (hN:X.N.Nodup) (hi:X.N[i]? =some x) (hx:Loc X.env.scope x) (he:PE X e te) (hs:swapsWith e (some (.Name x pos')) pos.line X.env=pure false:=by rfl) (hf:X.fn x=true\/X.env.scope.names.lookup x=some .local:=by first | exact .inl rfl | exact .inr rfl | assumption) :
  PS X (.Assign [.Name x pos'] e pos) (C5m te (B4y i)):=by
 intro pins s σ H D I h;refine wpAny_Assign_Name (thn (he pins s σ H _ I h) ?_) hs;rintro v s1 ⟨y,H1,I1,r1,q1⟩;exact B2k I1 hN hi hx r1 (λs2 I2=>⟨_,H1,I2,q1⟩) hf
def C2v (c:TT) (tb:TS):TS:=λD σ H=>∃W:Nat->St->Hp->Prop,(∃m,W m σ H)/\∀m σ H,W m σ H->
 c σ H λb H1=>if b=true then∃N:St->Hp->Prop,(∀σ' H',N σ' H'->∃m',m'<m/\W m' σ' H')/\tb { D with nx:=N,ct:=N,bk:=D.nx } σ H1 else D.nx σ H1
theorem B8a {c:Expr} {body:List Stmt} {tc:TT} {tb:TS} (hp:PassesOwn (model X.prog X.w) X.A X.env X.xe) (hc:PT X c tc) (hb:PSs X body tb):PS X (.While c body [] pos) (C2v tc tb):=by
 intro pins s σ H D I h;obtain ⟨W,⟨m0,w0⟩,turn⟩:=h;refine wpAny_While (codeAny_whileLoop (λn s'=>∃σ' H',Inv X pins σ' H' s'/\W n σ' H') ?_ m0 ⟨σ,H,I,w0⟩);rintro n s1 ⟨σ1,H1,I1,w1⟩;refine wpAny_passesOwn hp (thn (hc pins s1 σ1 H1 _ I1 (turn n σ1 H1 w1)) ?_);rintro b s2 ⟨H2,I2,q2⟩
 cases b with
 | true =>
  obtain ⟨N,hN,q2⟩:=q2;rw [Z12 rfl];refine wpAny_passesOwn hp (thn (hb pins s2 σ1 H2 _ I2 q2) λf s3 q3=> ?_)
  cases f with
  | next =>
   obtain ⟨σ3,H3,I3,n3⟩:=q3;obtain ⟨m',hm,w3⟩:=hN σ3 H3 n3;exact ⟨m',hm,σ3,H3,I3,w3⟩
  | cont =>
   obtain ⟨σ3,H3,I3,n3⟩:=q3;obtain ⟨m',hm,w3⟩:=hN σ3 H3 n3;exact ⟨m',hm,σ3,H3,I3,w3⟩
  | brk=>exact q3
  | ret v=>exact q3
 | false =>
  rw [Z0t Z0v];exact Z2b ⟨σ1,H2,I2,q2⟩
end
structure It where
 go:Nat->Hp->Prop
 yld:Nat->Hp->V->Hp->Prop
 stop:Nat->Hp->Prop
def B2i (X:Cx) (pins:List (Addr×Obj)) (H:Hp) (b:Addr):Prop :=
 H b=none/\b≠X.env.locals/\b∉X.fs/\(b∈X.ex\/X.s₀.heap.objs.size<=b)/\(∀x c,X.env.cells.lookup x=some c->c≠b)/\∀p∈X.pn++pins,p.1≠b
theorem Inv.fpOk {X:Cx} {pins:List (Addr×Obj)} {σ:St} {H H':Hp} {s:Shared} {b:Addr} (I:Inv X pins σ H s) (hb:s.heap.objs.size<=b) (hn:H' b=none):B2i X pins H' b:=by
 refine ⟨hn,Z1q (Z0q I.lt hb),I.nofs hb,.inr (Z1n I.sz hb),λx c e z=> ?_,λp hp z=> ?_⟩
 ·obtain ⟨v,q⟩:=I.cell x c e;exact absurd (Z0q q.lt (by rw [z];exact hb)) (Nat.lt_irrefl _)
 ·exact absurd (Z0q (Z0a (I.pin p hp).1) (by rw [z];exact hb)) (Nat.lt_irrefl _)
structure C2a (P:Program) (w:World) (K:Frag) (tg:Expr) (J:It) (fp:List Addr) (it:Addr) (tn:Nat->Heap->Prop):Prop where
 mem:it∈fp
 obj:∀i h,tn i h->∀b∈fp,∃o,h.get? b=some o/\∀v,o.data≠.cell v
 keep:∀i h h',tn i h->(∀b∈fp,∀o,h.get? b=some o->h'.get? b=some o)->tn i h'
 item:∀(X:Cx),X.prog=P->X.w=w->X.K=K->X.calm=true->∀(i:Nat) (pins:List (Addr×Obj)) (s:Shared) (σ:St) (H:Hp) (E:Value->Shared->Prop),Inv X pins σ H s->(∀b∈fp,B2i X pins H b)->tn i s.heap->J.go i H->
  wpAny (model P w) X.A (pyNext (.ref it)) (λr s1=>∃u,r=some u/\
   wpAny (model P w) X.A (letOwnedTupleGo tg (.ref it) u) (λ_ s2=>∃x H',Inv X pins σ H' s2/\A1e x u/\J.yld i H x H'/\tn (i+1) s2.heap/\∀b∈fp,H' b=none) E s1) E s
 done:∀(X:Cx),X.prog=P->X.w=w->X.K=K->X.calm=true->∀(i:Nat) (pins:List (Addr×Obj)) (s:Shared) (σ:St) (H:Hp) (E:Value->Shared->Prop),Inv X pins σ H s->(∀b∈fp,B2i X pins H b)->tn i s.heap->J.stop i H->
  wpAny (model P w) X.A (pyNext (.ref it)) (λr s1=>r=none/\Inv X pins σ H s1) E s
 self:∀(A:Around) (i:Nat) (s:Shared) (Q:Value->Shared->Prop) (E:Value->Shared->Prop),tn i s.heap->Q (.ref it) s->wpAny (model P w) A (pyIter (.ref it)) Q E s
abbrev TI:=St->Hp->(It->Hp->Prop)->Prop
def PIE (X:Cx) (pins:List (Addr×Obj)) (σ:St) (tg:Expr) (R:It->Hp->Prop) (itv:Value) (s2:Shared):Prop :=
 ∃(it:Addr) (fp:List Addr) (tn:Nat->Heap->Prop) (J:It) (H':Hp),itv= .ref it/\Inv X pins σ H' s2/\C2a X.prog X.w X.K tg J fp it tn/\tn 0 s2.heap/\(∀b∈fp,B2i X pins H' b)/\R J H'
def PI (X:Cx) (tg iter:Expr) (wi:TI):Prop :=
 ∀(pins:List (Addr×Obj)) (s:Shared) (σ:St) (H:Hp) (R:It->Hp->Prop),Inv X pins σ H s->wi σ H R->
  wpAny (model X.prog X.w) X.A (eval iter X.env) (λv s1=>wpAny (model X.prog X.w) X.A (pyIter v) (PIE X pins σ tg R) X.xe s1) X.xe s
theorem B7m {M:Model} {A:Around} {E:Value->Shared->Prop} {s:Shared} {tg:Expr} {it:Addr} {u:Value} {o:Obj} {n:String} {vs:Array Value} {Q:Unit->Shared->Prop} (ho:s.heap.get? it=some o) (hc:o.cls= .type n) (hd:o.data= .fields vs)
  (hn:["enumerate","zip","dict_itemiterator","dict_reverseitemiterator","odict_iterator","itertools.zip_longest","itertools.pairwise"].contains n=false) (hQ:Q () s):wpAny M A (letOwnedTupleGo tg (.ref it) u) Q E s:=by
 unfold letOwnedTupleGo
 cases tg <;> first
  | exact Z04 hQ
  | (cases u <;> first
    | exact Z04 hQ
    | (refine Z00 (wpAny_load ho ?_);rw [hc,hd];show wpAny M A (if (["enumerate","zip","dict_itemiterator","dict_reverseitemiterator","odict_iterator","itertools.zip_longest","itertools.pairwise"].contains n&&vs[0]? == some (rawInt _))=true then _ else _) Q E s;rw [Z0t (by intro h;rw [hn,Bool.false_and] at h;cases h)];exact Z04 hQ))
def Itl (K:Frag) (a:Addr):It :=
 ⟨λi H=>∃xs x,SqL K H a xs/\xs[i]? =some x,λi H x H'=>H'=H/\∀xs,SqL K H a xs->xs[i]? =some x,λi H=>∃xs,SqL K H a xs/\xs.length<=i⟩
def Itt (K:Frag) (a:Addr):It :=
 ⟨λi H=>∃xs x,SqT K H a xs/\xs[i]? =some x,λi H x H'=>H'=H/\∀xs,SqT K H a xs->xs[i]? =some x,λi H=>∃xs,SqT K H a xs/\xs.length<=i⟩
def Itr (lo:Int) (n:Nat):It:=⟨λi _=>i<n,λi H x H'=>H'=H/\x= .int (lo+i),λi _=>n<=i⟩
theorem B5a {P:Program} {w:World} {K:Frag} {tg:Expr} (a it:Addr):C2a P w K tg (Itl K a) [it] it (λi h=>h.IsListIter it a i) where
 mem:=by simp
 obj:=λi h st b hb=>by
  have e:b=it:=by simpa using hb
  subst e;obtain ⟨o,e,c,d⟩:=st;exact ⟨o,e,λv z=>by rw [d] at z;cases z⟩
 keep:=λi h h' st k=>st.at λo e=>k it (by simp) o e
 item:=by
  intro X hP hw hK hc i pins s σ H E I hf st hg;subst hP hw hK;obtain ⟨xs,x,hq,hx⟩:=hg;obtain ⟨its,rv,p,hz⟩:=I.list hq;obtain ⟨u,hu,ru⟩:=rv.get hx;obtain ⟨f0,f1,f2,f3,f4,f5⟩:=hf it (by simp);refine wpAny_pyNext_list_item st p.isList (x:=u) (by simpa using hu) λh' st' sb=> ?_;have I1:Inv X pins σ H { s with heap:=h' }:=I.turned (t':=s.toks) (λb o hb e=>(sb.2 b hb).trans e) f0 f1 f3 f4 f5
  obtain ⟨o,e,c,d⟩:=id st';exact ⟨u,rfl,B7m (s:={ s with heap:=h' }) e c d (by decide) ⟨x,H,I1,ru,⟨rfl,λys hy=>by rw [I.list_inj hy hq];exact hx⟩,st',λb hb=>(hf b hb).1⟩⟩
 done:=by
  intro X hP hw hK hc i pins s σ H E I hf st hg;subst hP hw hK;obtain ⟨xs,hq,hx⟩:=hg;obtain ⟨its,rv,p,hz⟩:=I.list hq;obtain ⟨f0,f1,f2,f3,f4,f5⟩:=hf it (by simp);have hl:=rv.length;exact wpAny_pyNext_list_end (I.ok.hd hc) st p.isList (by simp;omega) λh' eb=>⟨rfl,I.turned (t':=s.toks) (λb o hb e=>eb b o hb e) f0 f1 f3 f4 f5⟩
 self:=λ_ _ _ _ _ st h=>wpAny_pyIter_listiter st h
theorem B3t {P:Program} {w:World} {K:Frag} {tg:Expr} (a it:Addr):C2a P w K tg (Itt K a) [it] it (λi h=>h.IsTupleIter it a i) where
 mem:=by simp
 obj:=λi h st b hb=>by
  have e:b=it:=by simpa using hb
  subst e;obtain ⟨o,e,c,d⟩:=st;exact ⟨o,e,λv z=>by rw [d] at z;cases z⟩
 keep:=λi h h' st k=>st.at λo e=>k it (by simp) o e
 item:=by
  intro X hP hw hK hc i pins s σ H E I hf st hg;subst hP hw hK;obtain ⟨xs,x,hq,hx⟩:=hg;obtain ⟨its,rv,p,hz⟩:=I.tuple hq;obtain ⟨u,hu,ru⟩:=rv.get hx;obtain ⟨f0,f1,f2,f3,f4,f5⟩:=hf it (by simp);refine wpAny_pyNext_tuple_item st (show s.heap.IsTuple a its.toArray from p) (x:=u) (by simpa using hu) λh' st' sb=> ?_;have I1:Inv X pins σ H { s with heap:=h' }:=I.turned (t':=s.toks) (λb o hb e=>(sb.2 b hb).trans e) f0 f1 f3 f4 f5
  obtain ⟨o,e,c,d⟩:=id st';exact ⟨u,rfl,B7m (s:={ s with heap:=h' }) e c d (by decide) ⟨x,H,I1,ru,⟨rfl,λys hy=>by rw [I.tuple_inj hy hq];exact hx⟩,st',λb hb=>(hf b hb).1⟩⟩
 done:=by
  intro X hP hw hK hc i pins s σ H E I hf st hg;subst hP hw hK;obtain ⟨xs,hq,hx⟩:=hg;obtain ⟨its,rv,p,hz⟩:=I.tuple hq;obtain ⟨f0,f1,f2,f3,f4,f5⟩:=hf it (by simp);have hl:=rv.length;exact wpAny_pyNext_tuple_end (I.ok.hd hc) st (show s.heap.IsTuple a its.toArray from p) (by simp;omega) λh' eb=>⟨rfl,I.turned (t':=s.toks) (λb o hb e=>eb b o hb e) f0 f1 f3 f4 f5⟩
 self:=λ_ _ _ _ _ st h=>wpAny_pyIter_tupleiter st h
theorem B3e {P:Program} {w:World} {K:Frag} {tg:Expr} (it:Addr) (lo:Int) (n:Nat):C2a P w K tg (Itr lo n) [it] it (λi h=>IsRangeIter h it (lo+(i:Nat)*1) ((n:Int)-(i:Nat)) 1) where
 mem:=by simp
 obj:=λi h st b hb=>by
  have e:b=it:=by simpa using hb
  subst e
  exact ⟨_,st,λv z=>by
   have z':Data.fields _=Data.cell v:=z
   cases z'⟩
 keep:=λi h h' st k=>k it (by simp) _ st
 item:=by
  intro X hP hw hK hc i pins s σ H E I hf st hg;subst hP hw hK;obtain ⟨f0,f1,f2,f3,f4,f5⟩:=hf it (by simp);have W:=Walks.range (prog:=X.prog) (w:=X.w) (I.ok.hd hc) it lo 1 n;refine W.item i s _ _ hg st λv h' tk hv st' kk=> ?_;obtain ⟨t,rfl⟩:=hv;have I1:Inv X pins σ H { s with heap:=h',toks:=tk }:=I.turned (λb o hb e=>kk b o (by simpa using hb) e) f0 f1 f3 f4 f5
  refine ⟨_,rfl,B7m (s:={ s with heap:=h',toks:=tk }) (n:="range_iterator") st' rfl rfl (by decide) ⟨.int (lo+i),H,I1,⟨t,?_⟩,⟨rfl,rfl⟩,st',λb hb=>(hf b hb).1⟩⟩
  rw [Int.mul_one]
 done:=by
  intro X hP hw hK hc i pins s σ H E I hf st hg;subst hP hw hK;obtain ⟨f0,f1,f2,f3,f4,f5⟩:=hf it (by simp);exact wpAny_pyNext_range_end (I.ok.hd hc) st (by have:n<=i:=hg;omega) λh' eb=>⟨rfl,I.turned (t':=s.toks) (λb o hb e=>eb b o hb e) f0 f1 f3 f4 f5⟩
 self:=λ_ _ _ _ _ st h=>wpAny_pyIter_rangeiter st h
section
variable {X:Cx} {tg:Expr}
def C3v (K:Frag) (tl:TE):TI:=λσ H R=>tl σ H λx H1=>∃a,x= .ref a/\(∃xs,SqL K H1 a xs)/\R (Itl K a) H1
def iTup (K:Frag) (tl:TE):TI:=λσ H R=>tl σ H λx H1=>∃a,x= .ref a/\(∃xs,SqT K H1 a xs)/\R (Itt K a) H1
theorem B4a {l:Expr} {tl:TE} (hl:PE X l tl):PI X tg l (C3v X.K tl):=by
 intro pins s σ H R I h;refine thn (hl pins s σ H _ I h) ?_;rintro v s1 ⟨x,H1,I1,r1,q1⟩;obtain ⟨a,e,⟨xs,hq⟩,q⟩:=q1;subst e;cases r1;obtain ⟨its,rv,p,hz⟩:=I1.list hq;refine wpAny_pyIter_list p.isList ?_;refine ⟨s1.heap.objs.size,[s1.heap.objs.size],_,_,H1,rfl,I1.kept (t':=s1.toks) λb o e=>Z01 _ e,B5a a _,⟨_,Z0c _ rfl,rfl,rfl⟩,λb hb=> ?_,q⟩;have e:b=s1.heap.objs.size:=by simpa using hb
 subst e;exact I1.fpOk (Z09 _) (I1.hok.fresh (Z09 _))
theorem B8k {l:Expr} {tl:TE} (hl:PE X l tl):PI X tg l (iTup X.K tl):=by
 intro pins s σ H R I h;refine thn (hl pins s σ H _ I h) ?_;rintro v s1 ⟨x,H1,I1,r1,q1⟩;obtain ⟨a,e,⟨xs,hq⟩,q⟩:=q1;subst e;cases r1;obtain ⟨its,rv,p,hz⟩:=I1.tuple hq;refine wpAny_pyIter_tuple (show s1.heap.IsTuple a its.toArray from p) ?_;refine ⟨s1.heap.objs.size,[s1.heap.objs.size],_,_,H1,rfl,I1.kept (t':=s1.toks) λb o e=>Z01 _ e,B3t a _,⟨_,Z0c _ rfl,rfl,rfl⟩,λb hb=> ?_,q⟩;have e:b=s1.heap.objs.size:=by simpa using hb
 subst e;exact I1.fpOk (Z09 _) (I1.hok.fresh (Z09 _))
theorem B7c {pins:List (Addr×Obj)} {σ:St} {H:Hp} {s:Shared} {R:It->Hp->Prop} {E:Value->Shared->Prop} {lo hi:Int} {t u v:Tok} {tk:Nat} (I:Inv X pins σ H s) (h1: -(2^62)<=lo) (h2:lo<2^62) (h3: -(2^62)<=hi) (h4:hi<2^62)
  (q:R (Itr lo (hi-lo).toNat) H):wpAny (model X.prog X.w) X.A (pyIter (.ref s.heap.objs.size)) (PIE X pins σ tg R) E { s with heap:=s.heap.push { cls:= .type "range",data:= .fields #[.int lo t,.int hi u,.int 1 v] },toks:=tk }:=by
 refine wpAny_pyIter_range (IsRange.new ..) (small_one h1 h2 h3 h4) ?_;have I1:Inv X pins σ H { s with heap:=s.heap.push { cls:= .type "range",data:= .fields #[.int lo t,.int hi u,.int 1 v] },toks:=tk }:=I.kept λb o e=>Z01 _ e
 refine ⟨(s.heap.push { cls:= .type "range",data:= .fields #[.int lo t,.int hi u,.int 1 v] }).objs.size,[(s.heap.push { cls:= .type "range",data:= .fields #[.int lo t,.int hi u,.int 1 v] }).objs.size],_,_,H,rfl,
  I1.kept (t':=tk) λb o e=>Z01 _ e,B3e _ lo (hi-lo).toNat,?_,λb hb=> ?_,q⟩
 ·have e1:lo+((0:Nat):Int)*1=lo:=by simp
  have e2:(((hi-lo).toNat:Nat):Int)-((0:Nat):Int)=Builtin.Range.rangeSize lo hi 1:=by rw [rangeSize_one];split <;> omega
  show IsRangeIter _ _ (lo+((0:Nat):Int)*1) ((((hi-lo).toNat:Nat):Int)-((0:Nat):Int)) 1;rw [e1,e2];exact Z0c _ rfl
 ·have e:b=(s.heap.push { cls:= .type "range",data:= .fields #[.int lo t,.int hi u,.int 1 v] }).objs.size:=by simpa using hb
  subst e;exact I1.fpOk (Z09 _) (I1.hok.fresh (Z09 _))
def C5l (ta:TA):TI:=λσ H R=>ta σ H λvs H1=>∃j:Int,vs=[.int j]/\-(2^62)<=j/\j<2^62/\R (Itr 0 j.toNat) H1
theorem A3v {a:Expr} {ta:TA} {p pos:Pos} (hg:Gl X "range") (hm:X.mg "range"=none) (ha:PA X [a] ta) (hs:starEach [a] X.env=[(false,eval a X.env)]:=by rfl):PI X tg (.Call (.Name "range" p) [a] [] pos) (C5l ta):=by
 intro pins s σ H R I h;refine Call_ (B2o I hg hm boot_range (PyProof.Rows.callWith_type1 (thn (ha pos pins s σ H _ I h) ?_) hs rfl));rintro us s1 ⟨vs,H1,I1,r1,q1⟩;obtain ⟨j,e,q1,q2,q⟩:=q1;subst e
 cases r1 with
 | cons r rr =>
  cases rr
  obtain ⟨t,rfl⟩:=r;exact call_range_1 (B7c I1 (by omega) (by omega) q1 q2 (by simpa using q))
def tFor (wi:TI) (g:TG) (tb:TS):TS:=λD σ H=>wi σ H λJ H1=>∃W:Nat->Nat->St->Hp->Prop,(∃m,W 0 m σ H1)/\∀i m σ H,W i m σ H->
 (J.stop i H/\D.nx σ H)\/(J.go i H/\∃N:St->Hp->Prop,(∀σ' H',N σ' H'->∃m',m'<m/\W (i+1) m' σ' H')/\∀x H',J.yld i H x H'->g x σ H' λσ2 H2=>tb { D with nx:=N,ct:=N,bk:=D.nx } σ2 H2)
def A7s (fp:List Addr) (h:Heap):List (Addr×Obj):=fp.filterMap λb=>(h.get? b).map λo=>(b,o)
theorem A2q {fp:List Addr} {h:Heap} {b:Addr} {o:Obj} (hb:b∈fp) (e:h.get? b=some o):(b,o)∈A7s fp h:=List.mem_filterMap.mpr ⟨b,hb,by rw [e];rfl⟩
theorem B6k {fp:List Addr} {h:Heap} {p:Addr×Obj} (hp:p∈A7s fp h):p.1∈fp/\h.get? p.1=some p.2:=by
 obtain ⟨b,hb,e⟩:=List.mem_filterMap.mp hp
 cases q:h.get? b with
 | none=>rw [q] at e;cases e
 | some o =>
  rw [q] at e;have e':(b,o)=p:=Z1a e;subst e';exact ⟨hb,q⟩
theorem Inv.pinned {pins:List (Addr×Obj)} {σ:St} {H:Hp} {s:Shared} {fp:List Addr} (I:Inv X pins σ H s) (hf:∀b∈fp,B2i X pins H b) (ho:∀b∈fp,∃o,s.heap.get? b=some o/\∀v,o.data≠.cell v):Inv X (pins++A7s fp s.heap) σ H s :=
 I.pins_of λp hp=>(Z07.mp hp).elim (λz=>I.pin p (Z02 _ z)) λz=>by
  obtain ⟨hb,e⟩:=B6k z;obtain ⟨f0,f1,f2,_⟩:=hf p.1 hb;obtain ⟨o,e',d⟩:=ho p.1 hb;rw [e] at e';cases e';exact ⟨e,f0,f1,f2,d⟩
theorem Inv.unpinned {pins pl:List (Addr×Obj)} {σ:St} {H:Hp} {s:Shared} (I:Inv X (pins++pl) σ H s):Inv X pins σ H s:=I.pins_of λp hp=>I.pin p (Z02 _ (Z05 _ hp))
theorem A7a {iter:Expr} {body:List Stmt} {wi:TI} {g:TG} {tb:TS} {pos:Pos} (hp:PassesOwn (model X.prog X.w) X.A X.env X.xe) (hc:X.calm=true) (hi:PI X tg iter wi) (hg:PG X tg g) (hb:PSs X body tb)
  (hs:∀x,foldedSetIterable iter X.env x=pure x:=by intro _;rfl):PS X (.For tg iter body [] pos) (tFor wi g tb):=by
 intro pins s σ H D I h;refine wpAny_For (thn (hi pins s σ H _ I h) λv s1 h1=>thn h1 λitv s2 h2=> ?_) hs;obtain ⟨it,fp,tn,J,H2,e,I2,T,st2,f2,W,⟨m0,w0⟩,turn⟩:=h2;subst e;have stat:∀{H':Hp},(∀b∈fp,H' b=none)->∀b∈fp,B2i X pins H' b:=λhn b hb=>⟨hn b hb,(f2 b hb).2⟩;refine codeAny_forLoop_any (λn s'=>∃i σ' H',Inv X pins σ' H' s'/\tn i s'.heap/\(∀b∈fp,H' b=none)/\W i n σ' H') ?_ m0 ⟨0,σ,H2,I2,st2,λb hb=>(f2 b hb).1,w0⟩;rintro n s3 ⟨i,σ3,H3,I3,st3,fr3,w3⟩;rcases turn i n σ3 H3 w3 with ⟨stop,qn⟩ | ⟨go,N,hN,step⟩
 ·refine wpAny_passesOwn hp (thn (T.done X rfl rfl rfl hc i pins s3 σ3 H3 X.xe I3 (stat fr3) st3 stop) ?_);rintro r s4 ⟨hr,I4⟩;subst hr;exact Z2b ⟨σ3,H3,I4,qn⟩
 ·refine wpAny_passesOwn hp (thn (T.item X rfl rfl rfl hc i pins s3 σ3 H3 X.xe I3 (stat fr3) st3 go) ?_);rintro r s4 ⟨u,hr,h4⟩;subst hr;refine wpAny_passesOwn hp (thn h4 ?_);rintro _ s5 ⟨x,H5,I5,r5,y5,st5,fr5⟩;have I5':=I5.pinned (stat fr5) (T.obj _ _ st5);refine wpAny_passesOwn hp (thn (hg _ s5 σ3 H5 x u _ I5' r5 (step x H5 y5)) ?_);rintro _ s6 ⟨σ6,H6,I6,q6⟩;refine wpAny_passesOwn hp (thn (hb _ s6 σ6 H6 _ I6 q6) λf s7 q7=> ?_)
  have again:∀{σ7:St} {H7:Hp},Inv X (pins++A7s fp s5.heap) σ7 H7 s7->N σ7 H7->∃m,m<n/\∃i σ' H',Inv X pins σ' H' s7/\tn i s7.heap/\(∀b∈fp,H' b=none)/\W i m σ' H':=λ{σ7 H7} I7 n7=>by
   obtain ⟨m',hm,w7⟩:=hN σ7 H7 n7;refine ⟨m',hm,i+1,σ7,H7,I7.unpinned,T.keep _ _ _ st5 λb hb o e=>(I7.pin (b,o) (Z02 _ (Z02 _ (A2q hb e)))).1,λb hb=> ?_,w7⟩;obtain ⟨o,e,d⟩:=T.obj _ _ st5 b hb;exact (I7.pin (b,o) (Z02 _ (Z02 _ (A2q hb e)))).2.1
  cases f with
  | next=>obtain ⟨σ7,H7,I7,n7⟩:=q7;exact again I7 n7
  | cont=>obtain ⟨σ7,H7,I7,n7⟩:=q7;exact again I7 n7
  | brk=>obtain ⟨σ7,H7,I7,q7⟩:=q7;exact ⟨σ7,H7,I7.unpinned,q7⟩
  | ret v=>obtain ⟨x7,σ7,H7,I7,r7,q7⟩:=q7;exact ⟨x7,σ7,H7,I7.unpinned,r7,q7⟩
end
theorem B1p {K:Frag} {a:Addr} {xs:List V} {g:TG} {tb:TS} {D:B7k} {σ:St} {H:Hp} (Pv:Nat->St->Hp->Prop) (h0:Pv 0 σ H) (hl:∀i σ H,i<=xs.length->Pv i σ H->SqL K H a xs)
  (hs:∀i x σ H,xs[i]? =some x->Pv i σ H->g x σ H λσ2 H2=>tb { D with nx:=Pv (i+1),ct:=Pv (i+1),bk:=D.nx } σ2 H2) (hd:∀σ H,Pv xs.length σ H->D.nx σ H) :
  ∃W:Nat->Nat->St->Hp->Prop,(∃m,W 0 m σ H)/\∀i m σ H,W i m σ H->
   ((Itl K a).stop i H/\D.nx σ H)\/((Itl K a).go i H/\∃N:St->Hp->Prop,(∀σ' H',N σ' H'->∃m',m'<m/\W (i+1) m' σ' H')/\∀x H',(Itl K a).yld i H x H'->g x σ H' λσ2 H2=>tb { D with nx:=N,ct:=N,bk:=D.nx } σ2 H2):=by
 refine ⟨λi m σ H=>m=xs.length-i/\i<=xs.length/\Pv i σ H,⟨xs.length,by simp,Z1e _,h0⟩,?_⟩;rintro i m σ H ⟨rfl,hi,p⟩;have q:=hl i σ H hi p;by_cases hlt:i<xs.length
 ·refine .inr ⟨⟨xs,xs[i],q,by simp [hlt]⟩,Pv (i+1),λσ' H' p'=>⟨xs.length-(i+1),by omega,rfl,hlt,p'⟩,λx H' y=> ?_⟩;obtain ⟨e,y⟩:=y;subst e;exact hs i x σ _ (y xs q) p
 ·have e:i=xs.length:=by omega
  subst e;exact .inl ⟨⟨xs,q,Z09 _⟩,hd σ H p⟩
theorem A5e {lo:Int} {n:Nat} {g:TG} {tb:TS} {D:B7k} {σ:St} {H:Hp} (Pv:Nat->St->Hp->Prop) (h0:Pv 0 σ H)
  (hs:∀i σ H,i<n->Pv i σ H->g (.int (lo+i)) σ H λσ2 H2=>tb { D with nx:=Pv (i+1),ct:=Pv (i+1),bk:=D.nx } σ2 H2) (hd:∀σ H,Pv n σ H->D.nx σ H) :
  ∃W:Nat->Nat->St->Hp->Prop,(∃m,W 0 m σ H)/\∀i m σ H,W i m σ H->
   ((Itr lo n).stop i H/\D.nx σ H)\/((Itr lo n).go i H/\∃N:St->Hp->Prop,(∀σ' H',N σ' H'->∃m',m'<m/\W (i+1) m' σ' H')/\∀x H',(Itr lo n).yld i H x H'->g x σ H' λσ2 H2=>tb { D with nx:=N,ct:=N,bk:=D.nx } σ2 H2):=by
 refine ⟨λi m σ H=>m=n-i/\i<=n/\Pv i σ H,⟨n,by simp,Z1e _,h0⟩,?_⟩;rintro i m σ H ⟨rfl,hi,p⟩;by_cases hlt:i<n
 ·refine .inr ⟨hlt,Pv (i+1),λσ' H' p'=>⟨n-(i+1),by omega,rfl,hlt,p'⟩,λx H' y=> ?_⟩;obtain ⟨e,y⟩:=y;subst e y;exact hs i σ _ hlt p
 ·have e:i=n:=by omega
  subst e;exact .inl ⟨Z09 _,hd σ H p⟩
abbrev R2:=V->V->Hp->VK->Prop
def OpR (X:Cx) (f:Value->Value->Sem Value) (r:R2):Prop :=
 ∀(pins:List (Addr×Obj)) (s:Shared) (σ:St) (H:Hp) (x y:V) (v u:Value) (Q:VK),Inv X pins σ H s->A1e x v->A1e y u->r x y H Q->
  wpAny (model X.prog X.w) X.A (f v u) (EP X pins σ Q) X.xe s
def UnR (X:Cx) (f:Value->Sem Value) (r:V->Hp->VK->Prop):Prop :=
 ∀(pins:List (Addr×Obj)) (s:Shared) (σ:St) (H:Hp) (x:V) (v:Value) (Q:VK),Inv X pins σ H s->A1e x v->r x H Q->
  wpAny (model X.prog X.w) X.A (f v) (EP X pins σ Q) X.xe s
def B1o (X:Cx) (f:Value) (r:List V->Hp->VK->Prop):Prop :=
 ∀(pins:List (Addr×Obj)) (s:Shared) (σ:St) (H:Hp) (xs:List V) (us:List Value) (Q:VK),Inv X pins σ H s->A1n xs us->r xs H Q->
  wpAny (model X.prog X.w) X.A (call f us) (EP X pins σ Q) X.xe s
def tOp (r:R2) (ta tb:TE):TE:=λσ H Q=>ta σ H λx H1=>tb σ H1 λy H2=>r x y H2 Q
def tUn (r:V->Hp->VK->Prop) (ta:TE):TE:=λσ H Q=>ta σ H λx H1=>r x H1 Q
def rI (C:Int->Int->Prop) (g:Int->Int->V):R2:=λx y H Q=>∃i j,x= .int i/\y= .int j/\C i j/\Q (g i j) H
def rI0 (g:Int->Int->V):R2:=λx y H Q=>∃i j,x= .int i/\y= .int j/\Q (g i j) H
def rU (g:Int->V):V->Hp->VK->Prop:=λx H Q=>∃i,x= .int i/\Q (g i) H
section
variable {X:Cx} {a b c:Expr} {ta tb tc:TE} {pos:Pos}
theorem C4i (ha:PE X a ta) (hb:PE X b tb) {pins:List (Addr×Obj)} {s:Shared} {σ:St} {H:Hp} {R:V->V->Hp->Prop} (I:Inv X pins σ H s)
  (h:ta σ H λx H1=>tb σ H1 λy H2=>R x y H2) {Q:Value->Shared->Prop} {f:Value->Value->Sem Value}
  (hf:∀v u s2 x y H2,Inv X pins σ H2 s2->A1e x v->A1e y u->R x y H2->wpAny (model X.prog X.w) X.A (f v u) Q X.xe s2) :
  wpAny (model X.prog X.w) X.A (eval a X.env) (λv s₁=>wpAny (model X.prog X.w) X.A (eval b X.env) (λu s₂=>wpAny (model X.prog X.w) X.A (f v u) Q X.xe s₂) X.xe s₁) X.xe s:=by
 refine thn (ha pins s σ H _ I h) ?_;rintro v s1 ⟨x,H1,I1,r1,q1⟩;refine thn (hb pins s1 σ H1 _ I1 q1) ?_;rintro u s2 ⟨y,H2,I2,r2,q2⟩;exact hf v u s2 x y H2 I2 r1 r2 q2
theorem A0p {op:Operator} {r:R2} (ho:OpR X (binaryOp op) r) (ha:PE X a ta) (hb:PE X b tb):PE X (.BinOp a op b pos) (tOp r ta tb):=by
 intro pins s σ H Q I h;exact wpAny_BinOp (C4i ha hb I h λv u s2 x y H2 I2 rx ry q=>ho pins s2 σ H2 x y v u Q I2 rx ry q)
theorem C0m {op:UnaryOp} {r:V->Hp->VK->Prop} (ho:UnR X (unaryOp op) r) (ha:PE X a ta):PE X (.UnaryOp op a pos) (tUn r ta):=by
 intro pins s σ H Q I h;exact UnaryOp_ (thn (ha pins s σ H _ I h) (by rintro v s1 ⟨x,H1,I1,r1,q1⟩;exact ho pins s1 σ H1 x v Q I1 r1 q1))
theorem opI {f:Value->Value->Sem Value} {C:Int->Int->Prop} {g:Int->Int->Int}
  (rule:∀(i j:Int) (t u:Tok) (s:Shared) (Q:Value->Shared->Prop) (E:Value->Shared->Prop),C i j->Q (.int (g i j) s.toks) { s with toks:=s.toks+1 }->wpAny (model X.prog X.w) X.A (f (.int i t) (.int j u)) Q E s) :
  OpR X f (rI C λi j=> .int (g i j)):=by
 intro pins s σ H x y v u Q I rx ry h;obtain ⟨i,j,rfl,rfl,hc,q⟩:=h;obtain ⟨t,rfl⟩:=rx;obtain ⟨t',rfl⟩:=ry;exact rule i j t t' s _ _ hc ⟨.int (g i j),H,I.tok _,⟨_,rfl⟩,q⟩
theorem C5o {f:Value->Value->Sem Value} {g:Int->Int->Int}
  (rule:∀(i j:Int) (t u:Tok) (s:Shared) (Q:Value->Shared->Prop) (E:Value->Shared->Prop),Q (.int (g i j) s.toks) { s with toks:=s.toks+1 }->wpAny (model X.prog X.w) X.A (f (.int i t) (.int j u)) Q E s) :
  OpR X f (rI0 λi j=> .int (g i j)):=by
 intro pins s σ H x y v u Q I rx ry h;obtain ⟨i,j,rfl,rfl,q⟩:=h;obtain ⟨t,rfl⟩:=rx;obtain ⟨t',rfl⟩:=ry;exact rule i j t t' s _ _ ⟨.int (g i j),H,I.tok _,⟨_,rfl⟩,q⟩
theorem C3n {f:Value->Value->Sem Value} {g:Int->Int->Bool}
  (rule:∀(i j:Int) (t u:Tok) (s:Shared) (Q:Value->Shared->Prop) (E:Value->Shared->Prop),Q (.bool (g i j)) s->wpAny (model X.prog X.w) X.A (f (.int i t) (.int j u)) Q E s) :
  OpR X f (rI0 λi j=> .bl (g i j)):=by
 intro pins s σ H x y v u Q I rx ry h;obtain ⟨i,j,rfl,rfl,q⟩:=h;obtain ⟨t,rfl⟩:=rx;obtain ⟨t',rfl⟩:=ry;exact rule i j t t' s _ _ ⟨.bl (g i j),H,I,rfl,q⟩
def CDiv (i j:Int):Prop:=0<j/\j<1073741824
def CPow (i j:Int):Prop:=0<=j/\j<=1000000/\i.natAbs<2^64
def C4y (i j:Int):Prop:=(-(2^64)<i/\i<2^64)\/(-(2^64)<j/\j<2^64)
theorem C4y.ok {i j:Int} (h:C4y i j):IntMulOk i j:=by
 rcases h with ⟨h1,h2⟩ | ⟨h1,h2⟩
 ·exact .of_left (intBits_le_64 h1 h2)
 ·exact .of_right (intBits_le_64 h1 h2)
theorem A2g:OpR X (binaryOp .Add) (rI0 λi j=> .int (i+j)):=C5o λ_ _ _ _ _ _ _ q=>add_int q
theorem A4g:OpR X (binaryOp .Sub) (rI0 λi j=> .int (i-j)):=C5o λ_ _ _ _ _ _ _ q=>sub_int q
theorem A7u:OpR X (binaryOp .Mult) (rI C4y λi j=> .int (i*j)):=opI λ_ _ _ _ _ _ _ hc q=>mul_int q hc.ok
theorem A5u:OpR X (binaryOp .FloorDiv) (rI CDiv λi j=> .int (i/j)):=opI λi j _ _ _ _ _ hc q=>by
 have h1:(0:Int)<j:=hc.1;have h2:j<1073741824:=hc.2;exact floordiv_int (by omega) (by rw [Int.fdiv_eq_ediv_of_nonneg i (by omega)];exact q) (.inl (PyProof.noPylong_small (by omega)))
theorem A1t:OpR X (binaryOp .Mod) (rI (λ_ j=>0<j) λi j=> .int (i%j)):=opI λi j _ _ _ _ _ hc q=>by
 have h1:(0:Int)<j:=hc;exact mod_int' (by omega) (by rw [Int.fmod_eq_emod_of_nonneg i (by omega)];exact q)
theorem A7m:OpR X (binaryOp .Pow) (rI CPow λi j=> .int (i^j.toNat)):=opI λ_ _ _ _ _ _ _ hc q=>pow_int_small hc.1 hc.2.1 hc.2.2 q
theorem unI {f:Value->Sem Value} {g:Int->Int}
  (rule:∀(i:Int) (t:Tok) (s:Shared) (Q:Value->Shared->Prop) (E:Value->Shared->Prop),Q (.int (g i) s.toks) { s with toks:=s.toks+1 }->wpAny (model X.prog X.w) X.A (f (.int i t)) Q E s) :
  UnR X f (rU λi=> .int (g i)):=by
 intro pins s σ H x v Q I rx h;obtain ⟨i,rfl,q⟩:=h;obtain ⟨t,rfl⟩:=rx;exact rule i t s _ _ ⟨.int (g i),H,I.tok _,⟨_,rfl⟩,q⟩
theorem B4r:UnR X (unaryOp .USub) (rU λi=> .int (-i)):=unI λ_ _ _ _ _ q=>neg_int q
end
def C5y:V->V->Bool
 | .non,.non=>true | .non,.int _=>true | .int _,.non=>true | .non,.bl _=>true | .bl _,.non=>true | .non,.str _=>true | .str _,.non=>true
 | .int _,.int _=>true | .bl _,.bl _=>true | .str _,.str _=>true | .byt _,.byt _=>true
 | .int _,.str _=>true | .str _,.int _=>true | .bl _,.str _=>true | .str _,.bl _=>true
 | _,_=>false
def rEq:R2:=λx y H Q=>C5y x y=true/\Q (.bl (decide (x=y))) H
def rNe:R2:=λx y H Q=>C5y x y=true/\Q (.bl (!decide (x=y))) H
theorem B3z {i j:Int}:decide (V.int i=V.int j)=(i == j):=by
 rw [Bool.eq_iff_iff];simp
theorem B8v {i j:Bool}:decide (V.bl i=V.bl j)=(i == j):=by
 rw [Bool.eq_iff_iff];simp
theorem B5f {i j:Str}:decide (V.str i=V.str j)=(i == j):=by
 rw [Bool.eq_iff_iff];simp
theorem B4x {i j:Array UInt8}:decide (V.byt i=V.byt j)=(i.toList == j.toList):=by
 rw [Bool.eq_iff_iff];cases i;cases j;simp
section
variable {X:Cx} {a b c:Expr} {ta tb tc:TE} {pos:Pos}
theorem A1b {pins:List (Addr×Obj)} {σ:St} {H:Hp} {s:Shared} {Q:VK} {k k':Bool} (I:Inv X pins σ H s) (q:Q (.bl k) H) (e:k=k'):EP X pins σ Q (.bool k') s:=by
 subst e;exact ⟨.bl k,H,I,rfl,q⟩
theorem A4m:OpR X (compareOp .Eq) rEq:=by
 intro pins s σ H x y v u Q I rx ry h;obtain ⟨hs,q⟩:=h
 cases x with
 | non =>
  cases rx
  cases y with
  | non=>cases ry;exact PySem.EqNone.eq_none_none (A1b I q (by simp))
  | bl j=>cases ry;exact PySem.EqNone.eq_none_bool (A1b I q (by simp))
  | int j=>obtain ⟨t',rfl⟩:=ry;exact PySem.EqNone.eq_none_int (A1b I q (by simp))
  | str j=>obtain ⟨t',rfl⟩:=ry;exact PySem.EqNone.eq_none_str (A1b I q (by simp))
  | _=>exact absurd (show false=true from hs) Z0v
 | bl i =>
  cases rx
  cases y with
  | non=>cases ry;exact PySem.EqNone.eq_bool_none (A1b I q (by simp))
  | bl j=>cases ry;exact eq_bool (A1b I q B8v)
  | str j=>obtain ⟨t',rfl⟩:=ry;exact PySem.EqMixed.eq_bool_str (A1b I q (by simp))
  | _=>exact absurd (show false=true from hs) Z0v
 | int i =>
  obtain ⟨t,rfl⟩:=rx
  cases y with
  | non=>cases ry;exact PySem.EqNone.eq_int_none (A1b I q (by simp))
  | int j=>obtain ⟨t',rfl⟩:=ry;exact eq_int (A1b I q B3z)
  | str j=>obtain ⟨t',rfl⟩:=ry;exact PySem.EqMixed.eq_int_str (A1b I q (by simp))
  | _=>exact absurd (show false=true from hs) Z0v
 | str i =>
  obtain ⟨t,rfl⟩:=rx
  cases y with
  | non=>cases ry;exact PySem.EqNone.eq_str_none (A1b I q (by simp))
  | bl j=>cases ry;exact PySem.EqMixed.eq_str_bool (A1b I q (by simp))
  | int j=>obtain ⟨t',rfl⟩:=ry;exact PySem.EqMixed.eq_str_int (A1b I q (by simp))
  | str j=>obtain ⟨t',rfl⟩:=ry;exact eq_str (A1b I q B5f)
  | _=>exact absurd (show false=true from hs) Z0v
 | byt i =>
  obtain ⟨t,rfl⟩:=rx
  cases y with
  | byt j=>obtain ⟨t',rfl⟩:=ry;exact PySem.W.eq_bytes (A1b I q B4x)
  | _=>exact absurd (show false=true from hs) Z0v
 | _=>cases y <;> exact absurd (show false=true from hs) Z0v
theorem B2y:OpR X (compareOp .NotEq) rNe:=by
 intro pins s σ H x y v u Q I rx ry h;obtain ⟨hs,q⟩:=h
 cases x with
 | non =>
  cases rx
  cases y with
  | non=>cases ry;exact PySem.EqNone.ne_none_none (A1b I q (by simp))
  | bl j=>cases ry;exact PySem.EqNone.ne_none_bool (A1b I q (by simp))
  | int j=>obtain ⟨t',rfl⟩:=ry;exact PySem.EqNone.ne_none_int (A1b I q (by simp))
  | str j=>obtain ⟨t',rfl⟩:=ry;exact PySem.EqNone.ne_none_str (A1b I q (by simp))
  | _=>exact absurd (show false=true from hs) Z0v
 | bl i =>
  cases rx
  cases y with
  | non=>cases ry;exact PySem.EqNone.ne_bool_none (A1b I q (by simp))
  | bl j=>cases ry;exact ne_bool (A1b I q (congrArg not B8v))
  | str j=>obtain ⟨t',rfl⟩:=ry;exact PySem.EqMixed.ne_bool_str (A1b I q (by simp))
  | _=>exact absurd (show false=true from hs) Z0v
 | int i =>
  obtain ⟨t,rfl⟩:=rx
  cases y with
  | non=>cases ry;exact PySem.EqNone.ne_int_none (A1b I q (by simp))
  | int j=>obtain ⟨t',rfl⟩:=ry;exact ne_int (A1b I q (congrArg not B3z))
  | str j=>obtain ⟨t',rfl⟩:=ry;exact PySem.EqMixed.ne_int_str (A1b I q (by simp))
  | _=>exact absurd (show false=true from hs) Z0v
 | str i =>
  obtain ⟨t,rfl⟩:=rx
  cases y with
  | non=>cases ry;exact PySem.EqNone.ne_str_none (A1b I q (by simp))
  | bl j=>cases ry;exact PySem.EqMixed.ne_str_bool (A1b I q (by simp))
  | int j=>obtain ⟨t',rfl⟩:=ry;exact PySem.EqMixed.ne_str_int (A1b I q (by simp))
  | str j=>obtain ⟨t',rfl⟩:=ry;exact ne_str (A1b I q (congrArg not B5f))
  | _=>exact absurd (show false=true from hs) Z0v
 | byt i =>
  obtain ⟨t,rfl⟩:=rx
  cases y with
  | byt j=>obtain ⟨t',rfl⟩:=ry;exact PySem.W.ne_bytes (A1b I q (congrArg not B4x))
  | _=>exact absurd (show false=true from hs) Z0v
 | _=>cases y <;> exact absurd (show false=true from hs) Z0v
theorem C1d:OpR X (compareOp .Lt) (rI0 λi j=> .bl (decide (i<j))):=C3n λ_ _ _ _ _ _ _ q=>lt_int q
theorem C3s:OpR X (compareOp .LtE) (rI0 λi j=> .bl (decide (i<=j))):=C3n λ_ _ _ _ _ _ _ q=>le_int q
theorem C2w:OpR X (compareOp .Gt) (rI0 λi j=> .bl (decide (j<i))):=C3n λ_ _ _ _ _ _ _ q=>gt_int q
theorem C3z:OpR X (compareOp .GtE) (rI0 λi j=> .bl (decide (j<=i))):=C3n λ_ _ _ _ _ _ _ q=>ge_int q
theorem A9v:OpR X (compareOp .Is) (λx y H Q=>y= .non/\Q (.bl (decide (x= .non))) H):=by
 intro pins s σ H x y v u Q I rx ry h;obtain ⟨rfl,q⟩:=h;cases ry;refine is_none_gen (A1b I q ?_)
 cases x <;> first
  | (cases rx;rfl)
  | (obtain ⟨t,rfl⟩:=rx;rfl)
theorem B1d:OpR X (compareOp .IsNot) (λx y H Q=>y= .non/\Q (.bl (!decide (x= .non))) H):=by
 intro pins s σ H x y v u Q I rx ry h;obtain ⟨rfl,q⟩:=h;cases ry;refine isnot_none_gen (A1b I q ?_)
 cases x <;> first
  | (cases rx;rfl)
  | (obtain ⟨t,rfl⟩:=rx;rfl)
theorem A0u (b:Expr) {op:CmpOp} (h:op≠.In:=by decide) (h2:op≠.NotIn:=by decide):behindInMarks op b=false:=by
 have e1:(op == CmpOp.In)=false:=by cases op <;> first | rfl | exact absurd rfl h
 have e2:(op == CmpOp.NotIn)=false:=by cases op <;> first | rfl | exact absurd rfl h2
 cases b <;> simp [behindInMarks,e1,e2]
theorem C0w {op:CmpOp} {r:R2} (ho:OpR X (compareOp op) r) (ha:PE X a ta) (hb:PE X b tb) (hm:behindInMarks op b=false):PE X (.Compare a [op] [b] pos) (tOp r ta tb):=by
 intro pins s σ H Q I h;exact wpAny_Compare1 (C4i ha hb I h λv u s2 x y H2 I2 rx ry q=>ho pins s2 σ H2 x y v u Q I2 rx ry q) hm
def C1p (t:TE):TT:=λσ H Q=>t σ H λx H'=>∃k,x= .bl k/\Q k H'
theorem A0m {op:CmpOp} {r:R2} (ho:OpR X (compareOp op) r) (ha:PE X a ta) (hb:PE X b tb) (hm:behindInMarks op b=false):PT X (.Compare a [op] [b] pos) (C1p (tOp r ta tb)):=by
 intro pins s σ H Q I h
 refine wpAny_isTrue_Compare1 (thn (ha pins s σ H _ I h) λv s1 ⟨x,H1,I1,r1,q1⟩=>thn (hb pins s1 σ H1 _ I1 q1) λu s2 ⟨y,H2,I2,r2,q2⟩ =>
  thn (ho pins s2 σ H2 x y v u _ I2 r1 r2 q2) λc s3 ⟨z,H3,I3,r3,k,e,q3⟩=> ?_) hm
 subst e;cases r3;exact wpAny_truthy_bool ⟨H3,I3,q3⟩
def C2x (r r':R2) (ta tb tc:TE):TE:=λσ H Q=>ta σ H λx H1=>tb σ H1 λy H2=>r x y H2 λz H3=>∃k,z= .bl k/\
 (if k=true then tc σ H3 λw' H4=>r' y w' H4 Q else Q (.bl false) H3)
theorem B6v {op op':CmpOp} {r r':R2} (ho:OpR X (compareOp op) r) (ho':OpR X (compareOp op') r') (ha:PE X a ta) (hb:PE X b tb) (hc:PE X c tc)
  (hm:lastMarks [op,op'] [b,c]=false:=by with_unfolding_all rfl):PT X (.Compare a [op,op'] [b,c] pos) (C1p (C2x r r' ta tb tc)):=by
 intro pins s σ H Q I h
 refine isTrue_chain (thn (ha pins s σ H _ I h) λv s1 ⟨x,H1,I1,r1,q1⟩=>test_link (thn (hb pins s1 σ H1 _ I1 q1) λu s2 ⟨y,H2,I2,r2,q2⟩ =>
  thn (ho pins s2 σ H2 x y v u _ I2 r1 r2 q2) λd s3 ⟨z,H3,I3,r3,k,e,q3⟩=> ?_)) hm
 subst e;cases r3;refine wpAny_truthy_bool ?_
 cases k with
 | false =>
  obtain ⟨k',e',q'⟩:=q3;cases e';exact ite_ff ⟨H3,I3,q'⟩
 | true =>
  refine ite_tt (test_last (thn (hc pins s3 σ H3 _ I3 q3) ?_));rintro w' s4 ⟨z',H4,I4,r4,q4⟩;refine thn (ho' pins s4 σ H4 y z' u w' _ I4 r2 r4 q4) ?_;rintro d' s5 ⟨z2,H5,I5,r5,k2,e2,q5⟩;subst e2;cases r5;exact wpAny_truthy_bool ⟨H5,I5,q5⟩
theorem B2j:(sizeLine:Nat)<2^63:=by rw [sizeLine_eq];decide
theorem B6t {x:V} {us:List Value} (r:A1n [x] us):∃u,us=[u]/\A1e x u:=by
 cases r with
 | cons r1 r2=>cases r2;exact ⟨_,rfl,r1⟩
theorem C4x {x y:V} {us:List Value} (r:A1n [x,y] us):∃u w',us=[u,w']/\A1e x u/\A1e y w':=by
 cases r with
 | cons r1 r2 =>
  cases r2 with
  | cons r3 r4=>cases r4;exact ⟨_,_,rfl,r1,r3⟩
end
structure C0d (h:Heap) (x dx C:Addr) (mA:Str->Option Value):Prop where
 obj:h.get? x=some (instObj C dx)
 ns:h.Ns1 dx mA
 ne:dx≠x
theorem B4h {h:Heap} {dx:Addr} {mA:Str->Option Value} (n:h.Ns1 dx mA):∃od,h.get? dx=some od/\∀name,PySem.W.lookIn name od=some (mA name):=by
 obtain ⟨o,es,ep,ho,hd,hk,_,hm⟩:=n;refine ⟨o,ho,λname=> ?_⟩;have e:=hm name;unfold nsFind findBy at e;rw [<-Array.find?_toList] at e;unfold PySem.W.lookIn;rw [hd];dsimp only;split
 ·rename_i y q;rw [q] at e;exact congrArg some e
 ·rename_i q;rw [q] at e
  have a:es.toList.any (·.refKey)=false:=by
   rw [List.any_eq_false];intro y hy;obtain ⟨z,t,hkey⟩:=hk y (Array.mem_toList_iff.mp hy);simp [DictEntry.refKey,hkey]
  have a':¬es.toList.any (·.refKey)=true:=by rw [a];exact Z0v
  rw [Z0t a'];exact congrArg some e
theorem C0d.look {h:Heap} {x dx C:Addr} {mA:Str->Option Value} (I:C0d h x dx C mA):∃od,PySem.W.InstAt h x (instObj C dx) C (some od)/\∀name,PySem.W.lookIn name od=some (mA name) :=
 let ⟨od,ho,hl⟩:=B4h I.ns
 ⟨od,⟨I.obj,rfl,rfl,ho⟩,hl⟩
section
variable {prog:Program} {w:World} {A:Around} {E:Value->Shared->Prop} {s:Shared} {K:Frag} {x dx C f:Addr} {mA:Str->Option Value} {name:Str} {v:Value}
theorem C0z {expr:Bool} {Q:Value->Shared->Prop} (X:K.In s.heap) (I:C0d s.heap x dx C mA) (hg:plainGet K C name=true) (hh:hasDictIn K C=true)
  (ha:findIn K (.ref C) name=some none) (hv:mA name=some v) (hv':PySem.W.handedIn v=true) (h:Q v { s with toks:=s.toks+1 }) :
  wpAny (model prog w) A (getAttr (.ref x) name expr) Q E s:=by
 obtain ⟨od,J,hl⟩:=I.look;exact PySem.W.get_value X J (PySem.W.plainGet_of hg).1 (PySem.W.findObj_own hh ha rfl (by rw [hl,hv])) hv' h
theorem B7y {pl:Sem Bool} {Q:Value×List Value->Shared->Prop} (X:K.In s.heap) (I:C0d s.heap x dx C mA) (hg:plainGet K C name=true)
  (hf:findIn K (.ref C) name=some (some (.ref f))) (ht:isFn K (.ref f)=true) (hv:mA name=none) (h:Q (.ref f,[.ref x]) s) :
  wpAny (model prog w) A (getMethod (.ref x) name pl) Q E s:=by
 obtain ⟨od,J,hl⟩:=I.look;exact PySem.W.method_fn X J (PySem.W.plainGet_of hg).1 (PySem.W.plainGet_of hg).2 hf (beq_iff_eq.mp ht) (by show (PySem.W.lookIn name od).map (·.isSome)=some false;rw [hl,hv];rfl) h
theorem C0i {ns:List Str} {Q:Unit->Shared->Prop} (X:K.In s.heap) (I:C0d s.heap x dx C mA)
  (hs:findIn K (.ref C) "__setattr__"=some (some (.builtin "object.__setattr__"))) (hp:plainOver K C=true) (ht:PySem.W.takerIn K C name=some none) (hh:hasDictIn K C=true)
  (hw:PySem.Within mA ns) (hsz:ns.length<=sizeLine)
  (h:∀h',C0d h' x dx C (λy=>if y=name then some v else mA y)->Heap.SameBut dx s.heap h'->Q () { s with heap:=h',toks:=s.toks+2 }) :
  wpAny (model prog w) A (setAttr (.ref x) name v) Q E s:=by
 obtain ⟨od,J,hl⟩:=I.look;refine PySem.W.set_plain X J hs (PySem.W.osa_open (s:={ s with toks:=s.toks+1 }) (r:=none) X J hp ht λb=> ?_)
 obtain ⟨cd,hc,hd'⟩:=PySem.W.any_some hh;have hx:s.heap.get? x=some ⟨.ref C,some dx,.plain,#[]⟩:=I.obj;refine Z00 (Z04 (Z00 (Z00 (wpAny_loadPart hx (Z00 (PySem.W.Looks.here (s:={ s with toks:=s.toks+1 }) (PySem.W.looks_clsIn X hc) ?_))))));rw [hd'];refine Z04 (a:=some dx) (Z00 (Z04 (Z00 ?_)));refine wpAny_nsSet1 (s:={ s with toks:=s.toks+1 }) I.ns λh' hn2 hs2=> ?_
 obtain ⟨oD,esD,epD,hoD,hdD,hcD⟩:=hn2.count (PySem.Within.cons name v hw);refine Z00 (wpAny_lookBehind hoD (by rw [hdD];exact pastItsLine_dict (Z1n hcD (by rw [Z0y];omega))) ?_);exact Z04 (h _ ⟨(hs2.2 _ (Ne.symm I.ne)).trans I.obj,hn2,I.ne⟩ hs2)
theorem B8f {R:Result->Shared->Prop} {vs:List Value} {kw:List (Str×Value)} (X:K.In s.heap) (hm:makesIn K C=true)
  (hi:findIn K (.ref C) "__init__"=some (some (.ref f))) (hf:typeIn K (.ref f)=some (.type "function"))
  (h:codeAny (model prog w) (A.under (.builtin "type.__call__" ⟨.ref C::vs,kw⟩)) (.call (.ref f) ⟨.ref (s.heap.objs.size+1)::vs,kw⟩) (PySem.W.InitBack (s.heap.objs.size+1) R)
   { s with heap:=(s.heap.push emptyDict).push (instObj C s.heap.objs.size) }) :
  codeAny (model prog w) A (.call (.ref C) ⟨vs,kw⟩) R s:=by
 obtain ⟨hh,g,d,t,os⟩:=s;exact PySem.W.make_core (PySem.W.makes_of X hm) (PySem.W.looks_findIn X hi) (λself=>PySem.W.bind_fn X self hf) (.inl rfl) h
end
def A6a (f:Str) (v:V):List (Str×V)->List (Str×V)
 | []=>[(f,v)]
 | (g,x)::r=>if g=f then (g,v)::r else (g,x)::A6a f v r
theorem A6y (f g:Str) (v:V):∀fs:List (Str×V),(A6a f v fs).lookup g=if g=f then some v else fs.lookup g
 | []=>by
  show List.lookup g [(f,v)]=_;by_cases h:g=f
  ·have hb:(g == f)=true:=beq_iff_eq.mpr h;simp only [List.lookup,hb,Z12 h]
  ·have hb:(g == f)=false:=Z22.mpr h;simp only [List.lookup,hb,Z0t h]
 | (k,x)::r=>by
  have ih:=A6y f g v r;rw [show A6a f v ((k,x)::r)=(if k=f then (k,v)::r else (k,x)::A6a f v r) from rfl];by_cases hk:k=f
  ·rw [Z12 hk];by_cases h:g=k
   ·have hb:(g == k)=true:=beq_iff_eq.mpr h;simp only [List.lookup,hb,Z12 (h.trans hk)]
   ·have hb:(g == k)=false:=Z22.mpr h;simp only [List.lookup,hb,Z0t (λe:g=f=>h (e.trans hk.symm))]
  ·rw [Z0t hk];by_cases h:g=k
   ·have hb:(g == k)=true:=beq_iff_eq.mpr h;simp only [List.lookup,hb,Z0t (λe:g=f=>hk (h.symm.trans e))]
   ·have hb:(g == k)=false:=Z22.mpr h;simp only [List.lookup,hb];exact ih
theorem A7f (f:Str) (v:V):∀fs:List (Str×V),f∈(A6a f v fs).map (·.1)/\∀g,g∈fs.map (·.1)->g∈(A6a f v fs).map (·.1)
 | []=>⟨by simp [A6a],λg h=>by simp at h⟩
 | (k,x)::r=>by
  obtain ⟨i1,i2⟩:=A7f f v r;rw [show A6a f v ((k,x)::r)=(if k=f then (k,v)::r else (k,x)::A6a f v r) from rfl];by_cases hk:k=f
  ·rw [Z12 hk];subst hk;exact ⟨by simp,λg h=>by simpa using h⟩
  ·rw [Z0t hk];refine ⟨?_,λg h=> ?_⟩
   ·rw [Z0p];exact Z1f _ i1
   ·rw [Z0p] at h⊢;rcases Z0e.mp h with e | e
    ·exact Z0e.mpr (.inl e)
    ·exact Z1f _ (i2 g e)
theorem A6t (f:Str) (v:V):∀fs:List (Str×V),(A6a f v fs).length<=fs.length+1
 | []=>by simp [A6a]
 | (k,x)::r=>by
  have ih:=A6t f v r;rw [show A6a f v ((k,x)::r)=(if k=f then (k,v)::r else (k,x)::A6a f v r) from rfl];by_cases hk:k=f
  ·rw [Z12 hk,Z0y,Z0y];omega
  ·rw [Z0t hk,Z0y,Z0y];omega
theorem A9g.some_of {v:V} {o:Option Value} (r:A9g (some v) o):∃u,o=some u/\A1e v u:=by
 cases o with
 | none=>exact (show False from r).elim
 | some u=>exact ⟨u,rfl,r⟩
theorem A9g.none_of {o:Option Value} (r:A9g none o):o=none:=by
 cases o with
 | none=>rfl
 | some u=>exact (show False from r).elim
theorem B6m {v:V} {u:Value} (r:A1e v u):PySem.W.handedIn u=true:=by
 cases v with
 | non=>cases (show u=Value.none from r);rfl
 | bl b=>cases (show u=Value.bool b from r);rfl
 | int i=>obtain ⟨t,e⟩:=(show∃t,u=Value.int i t from r);cases e;rfl
 | str x=>obtain ⟨t,e⟩:=(show∃t,u=Value.str x t from r);cases e;rfl
 | byt b=>obtain ⟨t,e⟩:=(show∃t,u=Value.bytes b t from r);cases e;rfl
 | flt b=>obtain ⟨t,e⟩:=(show∃t,u=Value.float b t from r);cases e;rfl
 | ref a=>cases (show u=Value.ref a from r);rfl
 | ty n=>cases (show u=Value.type n from r);rfl
section
variable {P:Program} {w:World} {H H':Hp} {h h':Heap} {a C dx:Addr} {fs fs':List (Str×V)}
theorem A8u (hok:HOk P w H h) (e:H a=some (.ins C dx fs)):∃mA,C0d h a dx C mA/\(∀f,A9g (fs.lookup f) (mA f))/\PySem.Within mA (fs.map (·.1))/\fs.length<=1000/\H dx=some (.own a):=by
 obtain ⟨d,z,ne,ob,mA,n,r,q⟩:=(show A1k P w H h a (.ins C dx fs) from hok a _ e);exact ⟨mA,⟨ob,n,ne⟩,r,q,z,d⟩
end
structure Cls (K:Frag) (C:Addr):Prop where
 pg:plainGet K C Str.empty=true
 hd:hasDictIn K C=true
 po:plainOver K C=true
 sa:findIn K (.ref C) "__setattr__"=some (some (.builtin "object.__setattr__"))
theorem Cls.get {K:Frag} {C:Addr} (c:Cls K C) (f:Str):plainGet K C f=true:=c.pg
def A3o (K:Frag) (C:Addr) (f:Str):Prop:=findIn K (.ref C) f=some none
theorem A3o.taker {K:Frag} {C:Addr} {f:Str} (n:A3o K C f):PySem.W.takerIn K C f=some none:=by
 unfold PySem.W.takerIn;rw [show findIn K (.ref C) f=some none from n];rfl
structure B6p (K:Frag) (C:Addr) (m:Str) (f:Addr):Prop where
 at_:findIn K (.ref C) m=some (some (.ref f))
 fn:isFn K (.ref f)=true
 kp:keepIn K (.ref f)=true
section
variable {X:Cx} {pins:List (Addr×Obj)} {σ:St} {H:Hp} {s:Shared} {a C dx:Addr} {fs:List (Str×V)} {f:Str} {v:V} {A:Around} {E:Value->Shared->Prop}
theorem B3o {b:Bool} {Q:Value->Shared->Prop} (I:Inv X pins σ H s) (e:H a=some (.ins C dx fs)) (c:Cls X.K C) (n:A3o X.K C f) (l:fs.lookup f=some v)
  (h:∀u s',Inv X pins σ H s'->A1e v u->Q u s'):wpAny (model X.prog X.w) A (getAttr (.ref a) f b) Q E s:=by
 obtain ⟨mA,O,r,_,_,_⟩:=A8u I.hok e;obtain ⟨u,hu,ru⟩:=A9g.some_of (v:=v) (o:=mA f) (by rw [<-l];exact r f);exact C0z I.kIn O (c.get f) c.hd n hu (B6m ru) (h u _ (I.tok _) ru)
theorem A7p {m:Str} {g:Addr} {pl:Sem Bool} {Q:Value×List Value->Shared->Prop} (I:Inv X pins σ H s) (e:H a=some (.ins C dx fs)) (c:Cls X.K C) (k:B6p X.K C m g) (l:fs.lookup m=none)
  (h:Q (.ref g,[.ref a]) s):wpAny (model X.prog X.w) A (getMethod (.ref a) m pl) Q E s:=by
 obtain ⟨mA,O,r,_,_,_⟩:=A8u I.hok e;have hn:mA m=none:=A9g.none_of (by rw [<-l];exact r m);exact B7y I.kIn O (c.get m) k.at_ k.fn hn h
theorem B3i {y:V} {u:Value} {Q:Unit->Shared->Prop} (I:Inv X pins σ H s) (e:H a=some (.ins C dx fs)) (c:Cls X.K C) (n:A3o X.K C f) (hl:fs.length<1000) (ry:A1e y u)
  (h:∀s',Inv X pins σ (upd H a (.ins C dx (A6a f y fs))) s'->Q () s'):wpAny (model X.prog X.w) A (setAttr (.ref a) f u) Q E s:=by
 obtain ⟨mA,O,r,wi,_,ho⟩:=A8u I.hok e;have hz:(fs.map (·.1)).length<=sizeLine:=by rw [Z08,sizeLine_eq];omega
 refine C0i I.kIn O c.sa c.po n.taker c.hd wi hz λh' O' sb=>h _ ?_;have hd:∃o,h'.get? dx=some o:=let ⟨o,_,_,e',_⟩:=O'.ns;⟨o,e'⟩;refine I.write (x:=a) (e:=dx) (by rw [e];exact True.intro) (.inr ho) (λb q hb z=>(sb.2 b hb).trans z) hd ?_;refine ⟨by rw [A0e O.ne];exact ho,?_,O.ne,O'.obj,_,O'.ns,λg=> ?_,λg hg=> ?_⟩
 ·have:=A6t f y fs;omega
 ·show A9g ((A6a f y fs).lookup g) (if g=f then some u else mA g);rw [A6y];by_cases q:g=f
  ·rw [Z12 q,Z12 q];exact ry
  ·rw [Z0t q,Z0t q];exact r g
 ·by_cases q:g=f
  ·rw [q];exact (A7f f y fs).1
  ·refine (A7f f y fs).2 g (wi g λz=>hg ?_);show (if g=f then some u else mA g)=none;rw [Z0t q];exact z
theorem Inv.made (I:Inv X pins σ H s):Inv X pins σ (upd (upd H s.heap.objs.size (.own (s.heap.objs.size+1))) (s.heap.objs.size+1) (.ins C s.heap.objs.size []))
  { s with heap:=(s.heap.push emptyDict).push (instObj C s.heap.objs.size) }:=by
 have e1:(s.heap.push emptyDict).get? s.heap.objs.size=some emptyDict:=Z0c s.heap rfl
 have e2:((s.heap.push emptyDict).push (instObj C s.heap.objs.size)).get? (s.heap.objs.size+1)=some (instObj C s.heap.objs.size):=by
  have:=Z0c (s.heap.push emptyDict) (o:=instObj C s.heap.objs.size) rfl
  rwa [Z1s] at this
 have e3:(s.heap.push emptyDict).Ns s.heap.objs.size (λ_=>none):=⟨emptyDict,#[],_,e1,rfl,(λe he=>absurd he (by simp)),λ_=>rfl⟩;have I1:=I.laid (a:=s.heap.objs.size) (o:= .own (s.heap.objs.size+1)) (h':=s.heap.push emptyDict) (t':=s.toks) (λb u q=>Z01 _ q) (Z09 _) ⟨_,e1⟩;refine I1.laid (a:=s.heap.objs.size+1) (o:= .ins C s.heap.objs.size []) (t':=s.toks) (λb u q=>Z01 _ q) (Nat.le_of_eq (Z1s _ _)) ?_;have ne:s.heap.objs.size≠s.heap.objs.size+1:=Z0h (Nat.lt_succ_self _);refine ⟨by rw [A0e ne,A0d],Z1e _,ne,e2,λ_=>none,(Heap.Ns1.of_empty e3).at λo q=>Z01 _ q,λ_=>True.intro,λy hy=>absurd rfl hy⟩
theorem B9k {prog:Program} {w:World} {env:Env} {e:Expr} {f:Str} {pos:Pos} {s:Shared} {Q:Value->Shared->Prop} (hb:attributeBase e f env (eval e env)=eval e env)
  (h:wpAny (model prog w) A (eval e env) (λo s₁=>wpAny (model prog w) A (getAttr o f true) Q E s₁) E s):wpAny (model prog w) A (eval (.Attribute e f pos) env) Q E s :=
 Attribute_any_ h (by rw [arm_eval_Attribute,hb])
end
def tFld (K:Frag) (ta:TE) (f:Str):TE:=λσ H Q=>ta σ H λx H1=>∃a C dx fs v,x= .ref a/\H1 a=some (.ins C dx fs)/\Cls K C/\A3o K C f/\fs.lookup f=some v/\Q v H1
def sFld (K:Frag) (ta tv:TE) (f:Str):TS:=λD σ H=>tv σ H λy H1=>ta σ H1 λx H2=>∃a C dx fs,x= .ref a/\H2 a=some (.ins C dx fs)/\Cls K C/\A3o K C f/\fs.length<1000/\
 D.nx σ (upd H2 a (.ins C dx (A6a f y fs)))
section
variable {X:Cx} {o e value:Expr} {f:Str} {pos pos' tpos:Pos} {ta tv:TE}
theorem A2r (he:PE X e ta) (hb:attributeBase e f X.env (eval e X.env)=eval e X.env):PE X (.Attribute e f pos) (tFld X.K ta f):=by
 intro pins s σ H Q I h;refine B9k hb (thn (he pins s σ H _ I h) ?_);rintro u s1 ⟨x,H1,I1,rx,a,C,dx,fs,v,ex,ea,c,n,l,q⟩;subst ex;obtain rfl:u=Value.ref a:=rx;exact B3o I1 ea c n l λu' s2 I2 ru=>⟨v,H1,I2,ru,q⟩
theorem A7y (ha:PE X o ta) (hv:PE X value tv) (hs:swapsWith value (some (.Attribute o f pos')) pos.line X.env=pure false):PS X (.Assign [.Attribute o f pos'] value pos) (sFld X.K ta tv f):=by
 intro pins s σ H D I h;refine plainObj_wpAny_Assign_Attribute (thn (hv pins s σ H _ I h) ?_) hs;rintro u s1 ⟨y,H1,I1,ry,q⟩;refine thn (ha pins s1 σ H1 _ I1 q) ?_;rintro ov s2 ⟨x,H2,I2,rx,a,C,dx,fs,ex,ea,c,n,l,q2⟩;subst ex;obtain rfl:ov=Value.ref a:=rx;exact B3i I2 ea c n l ry λs3 I3=>⟨σ,_,I3,q2⟩
end
section
variable {X:Cx} {pins:List (Addr×Obj)} {σ:St} {H:Hp} {s:Shared} {A:Around} {E:Value->Shared->Prop} {Q:Value->Shared->Prop} {c:Value} {b:Bool}
inductive A7x (K:Frag) (H:Hp):V->Value->Prop where
 | non:A7x K H .non (.type "NoneType")
 | bl (x:Bool):A7x K H (.bl x) (.type "bool")
 | int (i:Int):A7x K H (.int i) (.type "int")
 | str (x:Str):A7x K H (.str x) (.type "str")
 | flt (x:UInt64):A7x K H (.flt x) (.type "float")
 | lst {a:Addr} {xs:List V} (e:H a=some (.lst xs)):A7x K H (.ref a) (.type "list")
 | frz {a:Addr} {o:Obj} {xs:List V} (e:H a=some (.frz o (.lst xs))):A7x K H (.ref a) (.type "list")
 | tup {a:Addr} {xs:List V} (e:H a=some (.tup xs)):A7x K H (.ref a) (.type "tuple")
 | dK {a:Addr} {kvs:List (Key×V)} (e:H a=some (.dK kvs)):A7x K H (.ref a) (.type "dict")
 | dT {a:Addr} {kvs:List (List Key×V)} (e:H a=some (.dT kvs)):A7x K H (.ref a) (.type "dict")
 | ins {a C dx:Addr} {fs:List (Str×V)} (e:H a=some (.ins C dx fs)) (cl:Cls K C) (ha:findIn K (.ref C) "__class__"=some (some (.builtin "object.__class__")))
   (hn:specialIn K (.builtin "object.__class__") "__get__"=some (some (.builtin "getset_descriptor.__get__"))) (htk:takesIn K (.builtin "object.__class__")=some true)
   (hm:mroIn K C (.type "object")=some true):A7x K H (.ref a) (.ref C)
theorem B5g {x:V} {u t:Value} (I:Inv X pins σ H s) (rx:A1e x u) (ty:A7x X.K H x t) (e:kitOne X.K t c=some b) (h:∀tk,Q (.bool b) { s with toks:=tk }) :
  wpAny (model X.prog X.w) A (call (.builtin "isinstance") [u,c]) Q E s:=by
 cases ty with
 | non=>cases (show u=Value.none from rx);exact PySem.W.kia_one PySem.W.kitx_none I.kIn True.intro e (λz=>nomatch z) h
 | bl y=>cases (show u=Value.bool y from rx);exact PySem.W.kia_one PySem.W.kitx_bool I.kIn True.intro e (λz=>nomatch z) h
 | int i=>obtain ⟨t,q⟩:=(show∃t,u=Value.int i t from rx);cases q;exact PySem.W.kia_one PySem.W.kitx_int I.kIn True.intro e (λz=>nomatch z) h
 | str y=>obtain ⟨t,q⟩:=(show∃t,u=Value.str y t from rx);cases q;exact PySem.W.kia_one PySem.W.kitx_str I.kIn True.intro e (λz=>nomatch z) h
 | flt y=>obtain ⟨t,q⟩:=(show∃t,u=Value.float y t from rx);cases q;exact PySem.W.kia_one PySem.W.kitx_float I.kIn True.intro e (λz=>nomatch z) h
 | @lst a xs ea =>
  cases (show u=Value.ref a from rx)
  obtain ⟨_,_,n,_,h1⟩:=(show A1k X.prog X.w H s.heap a (.lst xs) from I.hok a _ ea);exact PySem.W.kia_one PySem.W.kitx_list I.kIn ⟨_,h1,rfl⟩ e (λz=>nomatch z) h
 | @frz a ob xs ea =>
  cases (show u=Value.ref a from rx)
  obtain ⟨_,_,_,n,_,h1⟩:=(show A1k X.prog X.w H s.heap a (.frz ob (.lst xs)) from I.hok a _ ea);exact PySem.W.kia_one PySem.W.kitx_list I.kIn ⟨_,h1,rfl⟩ e (λz=>nomatch z) h
 | @tup a xs ea =>
  cases (show u=Value.ref a from rx)
  obtain ⟨_,_,_,p⟩:=(show A1k X.prog X.w H s.heap a (.tup xs) from I.hok a _ ea);obtain ⟨o,h1,h2,_⟩:=p;exact PySem.W.kia_one PySem.W.kitx_tuple I.kIn ⟨o,h1,h2⟩ e (λz=>nomatch z) h
 | @dK a kvs ea =>
  cases (show u=Value.ref a from rx)
  obtain ⟨_,_,vs,_,p⟩:=(show A1k X.prog X.w H s.heap a (.dK kvs) from I.hok a _ ea);obtain ⟨o,es,ep,h1,h2,_⟩:=p;exact PySem.W.kia_one PySem.W.kitx_dict I.kIn ⟨o,h1,h2.1⟩ e (λz=>nomatch z) h
 | @dT a kvs ea =>
  cases (show u=Value.ref a from rx)
  obtain ⟨_,_,xs,_,o,es,ep,h1,h2,_⟩:=(show A1k X.prog X.w H s.heap a (.dT kvs) from I.hok a _ ea);exact PySem.W.kia_one PySem.W.kitx_dict I.kIn ⟨o,h1,h2.1⟩ e (λz=>nomatch z) h
 | @ins a C dx fs ea cl ha hn htk hm =>
  cases (show u=Value.ref a from rx)
  obtain ⟨mA,O,_⟩:=A8u I.hok ea;obtain ⟨od,J,_⟩:=O.look;exact PySem.W.kia_one (PySem.W.kitx_own (cl.get _) cl.hd ha hn htk hm) I.kIn J e (λz=>nomatch z) h
end
structure A4i (k:Nat) (A:Around):Prop where
 hd:A.handled=none
 dp:A.depth+3*k+5<recursionLimit
 un:A.units+16*k+200<cLine
 gd:A.guards=some []
theorem A4i.mono {j k:Nat} {A:Around} (r:A4i k A) (h:j<=k):A4i j A:=⟨r.hd,by have:=r.dp;omega,by have:=r.un;omega,r.gd⟩
theorem A4i.deeper {k:Nat} {A:Around} (r:A4i (k+1) A) (env:Env):A4i k (A.deeper env) :=
 ⟨r.hd,by have:=r.dp;show A.depth+1+3*k+5<_;omega,by have:=r.un;show A.units+3+16*k+200<_;omega,r.gd⟩
theorem B3j {A:Around} {C:Addr} {us:List Value} {kw:List (Str×Value)}:(A.under (.builtin "type.__call__" ⟨.ref C::us,kw⟩)).depth=A.depth+1:=by
 first | rfl | simp [Around.under,Code.weight,Code.isCreation,Code.isGuard,Code.isCaller,Code.frames,Code.isFrame,guardIds]
theorem B3g {A:Around} {C:Addr} {us:List Value} {kw:List (Str×Value)}:(A.under (.builtin "type.__call__" ⟨.ref C::us,kw⟩)).units=A.units+1:=by
 first | rfl | simp [Around.under,Code.cUnits,Code.frames,Code.isFrame]
theorem B0s {A:Around} {C:Addr} {us:List Value} {kw:List (Str×Value)}:(A.under (.builtin "type.__call__" ⟨.ref C::us,kw⟩)).guards=A.guards:=by
 show pushGuards (Code.guards (.builtin "type.__call__" ⟨.ref C::us,kw⟩)) A.guards=A.guards;have h:Code.isGuard (.builtin "type.__call__" ⟨.ref C::us,kw⟩)=false:=by first | rfl | (simp [Code.isGuard,guardIds]) | decide
 unfold Code.guards;rw [h];cases A.guards <;> rfl
theorem A4i.make {k:Nat} {A:Around} (r:A4i (k+1) A) (C:Addr) (us:List Value) (kw:List (Str×Value)):A4i k (A.under (.builtin "type.__call__" ⟨.ref C::us,kw⟩)) :=
 ⟨r.hd,by have:=r.dp;rw [B3j];omega,by have:=r.un;rw [B3g];omega,by rw [B0s];exact r.gd⟩
theorem A4i.depth {k:Nat} {A:Around} (r:A4i k A):A.depth<recursionLimit:=by have:=r.dp;omega
theorem A4i.units {k:Nat} {A:Around} (r:A4i k A):A.units+64<cLine:=by have:=r.un;omega
def C3o:TA:=λ_ H Q=>Q [] H
def C0o (ta:TE) (tr:TA):TA:=λσ H Q=>ta σ H λx H1=>tr σ H1 λxs H2=>Q (x::xs) H2
section
variable {X:Cx} {e:Expr} {es:List Expr} {te:TE} {t:TA} {pos:Pos}
theorem A0b:PA X [] C3o:=λ_ _ _ _ H Q I h=>Calls.spliced_nil ⟨[],H,I,.nil,h⟩
theorem A0a (ha:PE X e te) (hr:PA X es t) (hs:starEach (e::es) X.env=(false,eval e X.env)::starEach es X.env:=by rfl):PA X (e::es) (C0o te t):=by
 intro pos pins s σ H Q I h;rw [hs];show wpAny _ _ (spliced ((false,eval e X.env)::backTo pos (starEach es X.env))) _ _ s;refine Calls.spliced_cons (thn (ha pins s σ H _ I h) ?_);rintro u s1 ⟨x,H1,I1,r1,q1⟩;exact thn (hr pos pins s1 σ H1 _ I1 q1) (by rintro us s2 ⟨xs,H2,I2,r2,q2⟩;exact ⟨x::xs,H2,I2,.cons r1 r2,q2⟩)
def C5n (t:TA):TE:=λσ H Q=>t σ H λxs H1=>xs.length<=sizeLine/\∀p,H1 p=none->Q (.ref p) (upd H1 p (.tup xs))
def tLst (t:TA):TE:=λσ H Q=>t σ H λxs H1=>xs.length<=sizeLine/\∀p,H1 p=none->Q (.ref p) (upd H1 p (.lst xs))
theorem A0y {x1} (h:PA X es t):PE X (.Tuple es x1 pos) (C5n t):=by
 intro pins s σ H Q I hq;refine wpAny_Tuple_spliced (thn (h pos pins s σ H _ I hq) λus s1 ⟨xs,H1,I1,r,z,q⟩=>⟨by rw [<-r.length];exact z,?_⟩);have hf:H1 s1.heap.objs.size=none:=I1.hok.fresh (Z09 _);refine ⟨.ref s1.heap.objs.size,upd H1 s1.heap.objs.size (.tup xs),I1.laid (t':=s1.toks) (λb u e=>Z01 _ e) (Z09 _) ?_,rfl,q _ hf⟩;exact ⟨z,us,r,⟨_,Z0c _ rfl,rfl,_,rfl⟩⟩
theorem A3n (h:PA X es t):PE X (.List es pos) (tLst t):=by
 intro pins s σ H Q I hq;refine wpAny_List_spliced (thn (h pos pins s σ H _ I hq) λus s1 ⟨xs,H1,I1,r,z,q⟩=>⟨by rw [<-r.length];exact z,?_⟩);have hf:H1 s1.heap.objs.size=none:=I1.hok.fresh (Z09 _);refine ⟨.ref s1.heap.objs.size,upd H1 s1.heap.objs.size (.lst xs),I1.laid (t':=s1.toks) (λb u e=>Z01 _ e) (Z09 _) ?_,rfl,q _ hf⟩;exact ⟨z,us,0,r,Z0c _ rfl⟩
end
abbrev Sp:=List V->Hp->VK->XK->Prop
abbrev CXT:=List Env->Hp->Shared->XK->Value->Shared->Prop
structure C1b (P:Program) (w:World) (K:Frag) (mg:Str->Option Value) (base:Heap) (A:Around) (outer:List Env) (s:Shared) (H:Hp):Prop where
 frames:A.frames=some outer
 mod:Mod K mg base
 bs:∀b o,base.get? b=some o->s.heap.get? b=some o/\H b=none
 bsz:base.objs.size<=s.heap.objs.size
 funs:s.heap.FunFrames base outer
 frf:∀b∈frs outer,H b=none
 hok:HOk P w H s.heap
 bare:AllBare s.gens
def CE (outer:List Env) (P:Program) (w:World) (H:Hp) (s:Shared) (Q:VK) (u:Value) (s':Shared):Prop :=
 ∃v H',s'.os=s.os/\AllBare s'.gens/\Un (frs outer) [] H H' s.heap s'.heap/\HOk P w H' s'.heap/\A1e v u/\Q v H'
def CR (CX:CXT) (outer:List Env) (P:Program) (w:World) (H:Hp) (s:Shared) (Q:VK) (E:XK) (r:Result) (s':Shared):Prop :=
 match r with
 | .ok (.ret u)=>CE outer P w H s Q u s'
 | .ok _=>False
 | .error e=>CX outer H s E e s'
structure A5j (P:Program) (w:World) (K:Frag) (mg:Str->Option Value) (base:Heap) (CX:CXT) (k:Nat) (f:Addr) (fd:FuncData) (ps:List Str) (sp:Sp):Prop where
 len:∀vs H Q E,sp vs H Q E->vs.length=ps.length
 run:∀(A:Around) (outer:List Env) (s:Shared) (H:Hp) (args:Args) (us:List Value) (vs:List V) (Q:VK) (E:XK),A4i k A->C1b P w K mg base A outer s H->BindsTo s fd args (ps.zip us)->A1n vs us->sp vs H Q E->
  codeAny (model P w) A (.call (.ref f) args) (CR CX outer P w H s Q E) s
theorem C1b.make {P:Program} {w:World} {K:Frag} {mg:Str->Option Value} {base:Heap} {A:Around} {outer:List Env} {s:Shared} {H:Hp} (e:C1b P w K mg base A outer s H) (C:Addr) (us:List Value) (kw:List (Str×Value)) :
  C1b P w K mg base (A.under (.builtin "type.__call__" ⟨.ref C::us,kw⟩)) outer s H:=⟨by first | exact e.frames | (simpa [Around.under,Code.envs,Code.isFrame,pushEnvs] using e.frames),e.mod,e.bs,e.bsz,e.funs,e.frf,e.hok,e.bare⟩
section
variable {X:Cx} {pins:List (Addr×Obj)} {σ:St} {H:Hp} {s s':Shared}
theorem Inv.env0 (I:Inv X pins σ H s):C1b X.prog X.w X.K X.mg X.base X.A X.stack s H :=
 ⟨I.ok.frames,I.ok.mod,I.bs,Z1n I.ok.bsz I.sz,I.stack,I.stkFree,I.hok,I.bare⟩
theorem Inv.after {Q:VK} {u:Value} (I:Inv X pins σ H s) (h:CE X.stack X.prog X.w H s Q u s'):EP X pins σ Q u s':=by
 obtain ⟨v,H',os,bare,un,hok,r,q⟩:=h;obtain ⟨hh,g,d,t,os'⟩:=s';obtain rfl:os'=s.os:=os;exact ⟨v,H',I.call (h':=hh) (g':=g) (d':=d) (t':=t) (ch:=[]) un hok bare (λb z=>absurd z (by simp)),r,q⟩
end
def C0t (sp:Sp) (dvs:List V) (E:XK) (t:TA):TE:=λσ H Q=>t σ H λvs H1=>sp (vs++dvs) H1 Q E
def C2i (C:Addr) (m:Str) (sp:Sp) (dvs:List V) (E:XK) (ta:TE) (t:TA):TE:=λσ H Q=>ta σ H λx H1=>∃a dx fs,x= .ref a/\H1 a=some (.ins C dx fs)/\fs.lookup m=none/\
 t σ H1 λvs H2=>sp (x::(vs++dvs)) H2 Q E
def C1r (C:Addr) (sp:Sp) (dvs:List V) (E:XK) (t:TA):TE:=λσ H Q=>t σ H λvs H1=>∀x dx,H1 x=none->H1 dx=none->dx≠x->
 sp (.ref x::(vs++dvs)) (upd (upd H1 dx (.own x)) x (.ins C dx [])) (λv H2=>v= .non/\Q (.ref x) H2) E
def A4q (K:Frag) (fd:FuncData) (ps:List Str) (ds:List Value):Prop :=
 ∀(s:Shared) (us:List Value),K.In s.heap->(us++ds).length=ps.length->BindsTo s fd ⟨us,[]⟩ (ps.zip (us++ds))
theorem A4q.all {K:Frag} {fd:FuncData} {ps:List Str} (h:∀us:List Value,us.length=ps.length->bindArgs fd ⟨us,[]⟩=pure (ps.zip us)):A4q K fd ps []:=λs us _ hl=>by
 rw [Z0u] at hl⊢;exact .of_eq (h us hl)
def A4h (CX:CXT) (X:Cx) (E:XK):Prop:=∀(pins:List (Addr×Obj)) (σ:St) (H:Hp) (s:Shared) (e:Value) (s':Shared),Inv X pins σ H s->CX X.stack H s E e s'->X.xe e s'
section
variable {X:Cx} {CX:CXT} {k:Nat} {f C:Addr} {fd:FuncData} {ps:List Str} {sp:Sp} {dvs:List V} {ds:List Value} {E:XK} {x m:Str} {p pos apos:Pos} {e o:Expr} {es:List Expr} {ta:TE} {t:TA}
theorem B1w {pins:List (Addr×Obj)} {σ:St} {H:Hp} {s:Shared} {Q:VK} {us:List Value} {vs:List V} (F:A5j X.prog X.w X.K X.mg X.base CX k f fd ps sp) (hr:A4i k X.A) (hb:A4q X.K fd ps ds) (hd:A1n dvs ds) (hx:A4h CX X E)
  (I:Inv X pins σ H s) (r:A1n vs us) (h:sp (vs++dvs) H Q E):wpAny (model X.prog X.w) X.A (call (.ref f) us) (EP X pins σ Q) X.xe s:=by
 have r2:A1n (vs++dvs) (us++ds):=r.append hd;have hl:(us++ds).length=ps.length:=by rw [<-r2.length];exact F.len _ _ _ _ h
 refine wpAny_call (codeAny_mono (F.run X.A X.stack s H ⟨us,[]⟩ (us++ds) (vs++dvs) Q E hr I.env0 (hb s us I.kIn hl) r2 h) λr s' hq=> ?_)
 cases r with
 | error e=>exact hx pins σ H s e s' I hq
 | ok fl =>
  cases fl with
  | ret u=>exact I.after hq
  | next=>exact False.elim hq
  | brk=>exact False.elim hq
  | cont=>exact False.elim hq
theorem B5x (F:A5j X.prog X.w X.K X.mg X.base CX k f fd ps sp) (hr:A4i k X.A) (hg:Gl X x) (hm:X.mg x=some (.ref f)) (hk:keepIn X.K (.ref f)=true) (hb:A4q X.K fd ps ds) (hd:A1n dvs ds) (hx:A4h CX X E)
  (ha:PA X (e::es) t) (hdb:(x == ("__debug__":Str))=false:=by decide) (he:starEach (e::es) X.env=(false,eval e X.env)::starEach es X.env:=by rfl) (hpl:(backTo pos (starEach es X.env)).any (·.1)=false:=by rfl) :
  PE X (.Call (.Name x p) (e::es) [] pos) (C0t sp dvs E t):=by
 intro pins s σ H Q I h;refine wpAny_Call_Name_kw (A8f I hg hm ?_ hdb);refine PySem.W.callWith_K (h₀:=X.base) I.ok.mod.kin hk (thn (ha pos pins s σ H _ I h) λus s1 ⟨vs,H1,I1,r,q⟩=>⟨I1.kIn,?_⟩) he hpl;exact B1w F hr hb hd hx I1 r q
theorem A2b {pl:Sem Bool} (he:PE X o ta) (c:Cls X.K C) (hm:B6p X.K C m f) (F:A5j X.prog X.w X.K X.mg X.base CX k f fd ps sp) (hr:A4i k X.A) (hb:A4q X.K fd ps ds) (hd:A1n dvs ds) (hx:A4h CX X E) (ha:PA X (e::es) t)
  (hst:starEach (e::es) X.env=(false,eval e X.env)::starEach es X.env:=by rfl) (hpl:(backTo pos (starEach es X.env)).any (·.1)=false:=by rfl)
  (ht:eval (.Call (.Attribute o m apos) (e::es) [] pos) X.env=(do
   let ov<-eval o X.env
   standAt apos.atName
   let (f,first)<-holding [ov] (getMethod ov m pl)
   callWith pos f first (backTo pos (starEach (e::es) X.env)) (backToKw pos (keywordEach [] X.env))):=by rfl) :
  PE X (.Call (.Attribute o m apos) (e::es) [] pos) (C2i C m sp dvs E ta t):=by
 intro pins s σ H Q I h;refine PySem.W.methodCall_KW (pl:=pl) (thn (he pins s σ H _ I h) ?_) ht;rintro u s1 ⟨x,H1,I1,rx,a,dx,fs,ex,ea,l,q⟩;subst ex;obtain rfl:u=Value.ref a:=rx;refine A7p I1 ea c hm l ?_;refine PySem.W.callWith_K (first:=[.ref a]) (h₀:=X.base) I.ok.mod.kin hm.kp (thn (ha pos pins s1 σ H1 _ I1 q) λus s2 ⟨vs,H2,I2,r,q2⟩=>⟨I2.kIn,?_⟩) hst hpl;exact B1w (us:= .ref a::us) (vs:= .ref a::vs) F hr hb hd hx I2 (.cons rfl r) q2
theorem A8r {pl:Sem Bool} (he:PE X o ta) (c:Cls X.K C) (hm:B6p X.K C m f) (F:A5j X.prog X.w X.K X.mg X.base CX k f fd ps sp) (hr:A4i k X.A) (hb:A4q X.K fd ps ds) (hd:A1n dvs ds) (hx:A4h CX X E)
  (ht:eval (.Call (.Attribute o m apos) [] [] pos) X.env=(do
   let ov<-eval o X.env
   standAt apos.atName
   let (f,first)<-holding [ov] (getMethod ov m pl)
   callWith pos f first (backTo pos (starEach [] X.env)) (backToKw pos (keywordEach [] X.env))):=by rfl) :
  PE X (.Call (.Attribute o m apos) [] [] pos) (C2i C m sp dvs E ta C3o):=by
 intro pins s σ H Q I h;refine PySem.W.methodCall_KW (pl:=pl) (thn (he pins s σ H _ I h) ?_) ht;rintro u s1 ⟨x,H1,I1,rx,a,dx,fs,ex,ea,l,q⟩;subst ex;obtain rfl:u=Value.ref a:=rx;refine A7p I1 ea c hm l ?_;exact PySem.W.callWith_K0 (first:=[.ref a]) I1.kIn hm.kp (B1w (us:=[.ref a]) (vs:=[.ref a]) F hr hb hd hx I1 (.cons rfl .nil) q)
structure Mk (K:Frag) (C f:Addr):Prop where
 makes:makesIn K C=true
 init:findIn K (.ref C) "__init__"=some (some (.ref f))
 fn:isFn K (.ref f)=true
 kp:keepIn K (.ref C)=true
theorem B7b {pins:List (Addr×Obj)} {σ:St} {H:Hp} {s:Shared} {Q:VK} {us:List Value} {vs:List V} (M:Mk X.K C f) (F:A5j X.prog X.w X.K X.mg X.base CX k f fd ps sp) (hr:A4i (k+1) X.A) (hb:A4q X.K fd ps ds) (hd:A1n dvs ds)
  (hx:A4h CX X E) (I:Inv X pins σ H s) (r:A1n vs us)
  (h:∀x dx,H x=none->H dx=none->dx≠x->sp (.ref x::(vs++dvs)) (upd (upd H dx (.own x)) x (.ins C dx [])) (λv H2=>v= .non/\Q (.ref x) H2) E) :
  wpAny (model X.prog X.w) X.A (call (.ref C) us) (EP X pins σ Q) X.xe s:=by
 have hq:=h (s.heap.objs.size+1) s.heap.objs.size (I.hok.fresh (Nat.le_succ _)) (I.hok.fresh (Z09 _)) (Z0h (Nat.lt_succ_self _));have I2:=Inv.made (C:=C) I;have r2:A1n (V.ref (s.heap.objs.size+1)::(vs++dvs)) (Value.ref (s.heap.objs.size+1)::(us++ds)):= .cons rfl (r.append hd)
 have hl:(Value.ref (s.heap.objs.size+1)::us++ds).length=ps.length:=by
  have e:=r2.length;rw [F.len _ _ _ _ hq] at e;exact e.symm
 refine wpAny_call (B8f (f:=f) I.kIn M.makes M.init (beq_iff_eq.mp M.fn) (codeAny_mono (F.run _ X.stack _ _ ⟨Value.ref (s.heap.objs.size+1)::us,[]⟩ (Value.ref (s.heap.objs.size+1)::(us++ds)) _ _ E (hr.make C us [])
  (I2.env0.make C us []) (hb _ (Value.ref (s.heap.objs.size+1)::us) I2.kIn hl) r2 hq) λr s' hq'=> ?_))
 cases r with
 | error e=>exact hx pins σ _ _ e s' I2 hq'
 | ok fl =>
  cases fl with
  | ret u =>
   obtain ⟨v,H',I3,rv,ev,q3⟩:=I2.after hq';subst ev;exact ⟨rv,⟨V.ref (s.heap.objs.size+1),H',I3,rfl,q3⟩⟩
  | next=>exact False.elim hq'
  | brk=>exact False.elim hq'
  | cont=>exact False.elim hq'
theorem B9w (M:Mk X.K C f) (F:A5j X.prog X.w X.K X.mg X.base CX k f fd ps sp) (hr:A4i (k+1) X.A) (hg:Gl X x) (hm:X.mg x=some (.ref C)) (hb:A4q X.K fd ps ds) (hd:A1n dvs ds) (hx:A4h CX X E)
  (ha:PA X (e::es) t) (hdb:(x == ("__debug__":Str))=false:=by decide) (he:starEach (e::es) X.env=(false,eval e X.env)::starEach es X.env:=by rfl) (hpl:(backTo pos (starEach es X.env)).any (·.1)=false:=by rfl) :
  PE X (.Call (.Name x p) (e::es) [] pos) (C1r C sp dvs E t):=by
 intro pins s σ H Q I h;refine wpAny_Call_Name_kw (A8f I hg hm ?_ hdb);refine PySem.W.callWith_K (h₀:=X.base) I.ok.mod.kin M.kp (thn (ha pos pins s σ H _ I h) λus s1 ⟨vs,H1,I1,r,q⟩=>⟨I1.kIn,?_⟩) he hpl;exact B7b M F hr hb hd hx I1 r q
end
section
variable {X:Cx} {CX:CXT} {k:Nat} {f C:Addr} {fd:FuncData} {ps ks:List Str} {sp:Sp} {E:XK} {x m:Str} {p pos apos kpos:Pos} {e o:Expr} {es:List Expr} {kws:List Keyword} {te ta:TE} {t tk:TA} {nm:Option Str}
variable {g:List Value->List Value->List Value} {gV:List V->List V->List V}
end
structure A0n (N P:List Str) (sc:Scope):Prop where
 kind:sc.kind= .function
 co:sc.isCoroutine=false
 gen:sc.isGenerator=false
 nd:N.Nodup
 pre:N.take P.length=P
 par:∀x∈P,sc.names.lookup x=some .local\/sc.names.lookup x=some .cell
 nofree:∀y∈sc.names,y.2≠.free
theorem B0d {kindOf:Str->Option NameKind} {x:Str}:∀{binds:List (Str×Value)} {m:Str->Option Value},(∀v,(x,v)∉binds)->bindL kindOf binds m x=m x
 | [],_,_=>rfl
 | (n,v)::r,m,h=>by
  unfold bindL;rw [B0d λw hw=>h w (Z1f _ hw)];split
  ·have:x≠n:=by rintro rfl;exact h v Z27
   simp [this]
  ·rfl
theorem A9l {kindOf:Str->Option NameKind} {x:Str}:∀{binds:List (Str×Value)} {m:Str->Option Value},(∀v,(x,v)∉binds)->bindC kindOf binds m x=m x
 | [],_,_=>rfl
 | (n,v)::r,m,h=>by
  unfold bindC;rw [A9l λw hw=>h w (Z1f _ hw)];split
  ·rfl
  ·have:x≠n:=by rintro rfl;exact h v Z27
   simp [this]
theorem B0h {kindOf:Str->Option NameKind} {x:Str} {v:Value}:∀{P:List Str} {vs:List Value} {i:Nat} {m:Str->Option Value},P.Nodup->P[i]? =some x->vs[i]? =some v->kindOf x=some .local->
  bindL kindOf (P.zip vs) m x=some v
 | [],_,_,_,_,h,_,_=>by simp at h
 | _::_,[],_,_,_,_,h,_=>by simp at h
 | p::P,w::vs,0,m,nd,h1,h2,hk=>by
  simp at h1 h2;subst h1;subst h2;show bindL kindOf ((p,w)::P.zip vs) m p=_;unfold bindL;rw [B0d λv hv=>(Z15.mp nd).1 (List.of_mem_zip hv).1,Z12 hk];simp
 | p::P,w::vs,i+1,m,nd,h1,h2,hk=>by
  show bindL kindOf ((p,w)::P.zip vs) m x=_;unfold bindL;exact B0h (i:=i) (Z15.mp nd).2 (by simpa using h1) (by simpa using h2) hk
theorem A9p {kindOf:Str->Option NameKind} {x:Str} {v:Value}:∀{P:List Str} {vs:List Value} {i:Nat} {m:Str->Option Value},P.Nodup->P[i]? =some x->vs[i]? =some v->kindOf x≠some .local->
  bindC kindOf (P.zip vs) m x=some v
 | [],_,_,_,_,h,_,_=>by simp at h
 | _::_,[],_,_,_,_,h,_=>by simp at h
 | p::P,w::vs,0,m,nd,h1,h2,hk=>by
  simp at h1 h2;subst h1;subst h2;show bindC kindOf ((p,w)::P.zip vs) m p=_;unfold bindC;rw [A9l λv hv=>(Z15.mp nd).1 (List.of_mem_zip hv).1,Z0t hk];simp
 | p::P,w::vs,i+1,m,nd,h1,h2,hk=>by
  show bindC kindOf ((p,w)::P.zip vs) m x=_;unfold bindC;exact A9p (i:=i) (Z15.mp nd).2 (by simpa using h1) (by simpa using h2) hk
def A8x (N:List Str) (vs:List V):St:=vs.map some++List.replicate (N.length-vs.length) none
def B6u (CX:CXT) (P:Program) (w:World) (K:Frag) (mg:Str->Option Value) (base:Heap) (N:List Str) (qual:Str) (scope:Scope) (f:Addr) (cd:Value) (A:Around) (outer:List Env) (s:Shared) (H:Hp) (E:XK):Cx where
 prog:=P
 w:=w
 K:=K
 mg:=mg
 base:=base
 A:=A.deeper (envOfC qual scope s.heap.objs.size f cd)
 N:=N
 s₀:=s
 H₀:=H
 env:=envOfC qual scope s.heap.objs.size f cd
 outer:=outer
 stack:=envOfC qual scope s.heap.objs.size f cd::outer
 ex:=[]
 calm:=true
 fn:=λ_=>true
 pn:=[]
 xe:=λe s'=>wpAny (model P w) (A.deeper (envOfC qual scope s.heap.objs.size f cd)) (leaving (envOfC qual scope s.heap.objs.size f cd) e) (λ_ s''=>CX outer H s E e s'') (λe' s''=>CX outer H s E e' s'') s'
theorem B1x {sc:Scope} {n:Nat} {x:Str} (h:sc.names.lookup x=some .cell):∃c,(cellsFrom n sc.names []).lookup x=some c:=by
 have q:=PySem.W.cellsFrom_some sc.names n [] (.inl h);exact Option.isSome_iff_exists.mp q
theorem B4c {CX:CXT} {P:Program} {w:World} {K:Frag} {mg:Str->Option Value} {base:Heap} {N ps:List Str} {qual:Str} {scope:Scope} {f:Addr} {cd:Value} {A:Around} {outer:List Env} {s s1:Shared} {H:Hp} {E:XK} {us:List Value} {vs:List V}
  (S:A0n N ps scope) (hd:A.handled=none) (e0:C1b P w K mg base A outer s H) (hl:vs.length=ps.length) (r:A1n vs us)
  (x:InCallC s s.heap.objs.size (bindL (envOfC qual scope s.heap.objs.size f cd).kindOf (ps.zip us) λ_=>none) (cellsFrom (s.heap.objs.size+1) scope.names []) (bindC (envOfC qual scope s.heap.objs.size f cd).kindOf (ps.zip us) λ_=>none) s1) :
  Inv (B6u CX P w K mg base N qual scope f cd A outer s H E) [] (A8x N vs) H s1:=by
 have hpl:ps.length<=N.length:=by have:=congrArg List.length S.pre;rw [Z0x] at this;omega
 obtain ⟨h1,tk,rfl,hk⟩:=x.done;have noA:∀b:Addr,b∉(B6u CX P w K mg base N qual scope f cd A outer s H E).ex:=λb z=>absurd (show b∈([]:List Addr) from z) (by simp)
 refine ⟨⟨e0.mod,S.kind,rfl,rfl,Z09 _,λy z c h1 h2=> ?_,λy hy=> ?_,λy c _ h=> ?_,λ_=>hd,Around.frames_deeper e0.frames,.inr ⟨rfl,rfl⟩,λb z=>absurd z (noA b),e0.bs,e0.bsz,λb _ _=>noA b,λb z=>absurd z (noA b),e0.funs,e0.frf⟩,
  rfl,e0.bare,Un.kept hk,⟨_,x.toInCall.ns,λi y v h1 h2 h3=> ?_⟩,λy c h=>⟨_,x.cell y c h⟩,e0.hok.fresh (Z09 _),λy c h=> ?_,λp hp=>absurd (show p∈([]:List (Addr×Obj)) from hp) (by simp),e0.hok.kept hk,?_⟩
 ·exact name_of_addr x.apart (PySem.mem_of_lookup h1) (PySem.mem_of_lookup h2)
 ·have hy:scope.names.lookup y=some .cell\/scope.names.lookup y=some .free:=hy;rcases hy with hy | hy
  ·exact B1x hy
  ·exact absurd rfl (S.nofree _ (PySem.mem_of_lookup hy))
 ·exact Nat.le_of_lt (x.above y c (PySem.mem_of_lookup h))
 ·have hi:i<vs.length:=by
   unfold A8x at h2;by_cases hi:i<vs.length
   ·exact hi
   ·rw [Z1l (by simpa using hi)] at h2;rw [List.getElem?_replicate] at h2;split at h2 <;> cases h2
  have ha:vs[i]? =some v:=by
   unfold A8x at h2;rw [Z26 (by simpa using hi),Z1z] at h2
   cases e:vs[i]? with
   | none=>rw [e] at h2;cases h2
   | some a=>rw [e] at h2;cases h2;rfl
  obtain ⟨u,hu,rv⟩:=r.get ha
  have hp:ps[i]? =some y:=by
   rw [<-S.pre,List.getElem?_take_of_lt (by omega)];exact h1
  have ndP:ps.Nodup:=by rw [<-S.pre];exact S.nd.sublist (List.take_sublist _ _)
  refine ⟨u,rv,?_⟩;rcases S.par y (Z13 hp) with k | k
  ·exact .inl ⟨k,B0h ndP hp hu k⟩
  ·obtain ⟨c,e⟩:=B1x (n:=s.heap.objs.size+1) k;refine .inr ⟨.inl k,c,e,?_⟩;have q:=x.cell y c e;rw [A9p ndP hp hu (by show scope.names.lookup y≠_;rw [k];decide)] at q;exact q
 ·exact e0.hok.fresh (Nat.le_of_lt (x.above y c (PySem.mem_of_lookup h)))
 ·unfold A8x;show _=N.length;rw [Z06,Z08,List.length_replicate];omega
theorem C1y {CX:CXT} {P:Program} {w:World} {K:Frag} {mg:Str->Option Value} {base:Heap} {k:Nat} {f:Addr} {name qual:Str} {params:Arguments} {body:List Stmt} {scope:Scope} {dV kV doc pm cdv ct oc:Value} {an od:Option Addr}
  {osl:Array (Option Value)} {N ps:List Str} {sp:Sp} (lk:K.lookup f=some ⟨oc,od,.func (fnOf name qual params body scope dV kV doc pm an cdv ct),osl⟩) (hcd:codeIn K cdv qual=true) (S:A0n N ps scope)
  (len:∀vs H Q E,sp vs H Q E->vs.length=ps.length)
  (hbody:∀(A:Around) (outer:List Env) (s:Shared) (H:Hp) (vs:List V) (Q:VK) (E:XK),A4i k (A.deeper (envOfC qual scope s.heap.objs.size f cdv))->sp vs H Q E->
   ∃t,PSs (B6u CX P w K mg base N qual scope f cdv A outer s H E) body t/\t { nx:=λ_ H'=>Q .non H',rt:=Q } (A8x N vs) H) :
  A5j P w K mg base CX (k+1) f (fnOf name qual params body scope dV kV doc pm an cdv ct) ps sp:=by
 refine ⟨len,λA outer s H args us vs Q E hr e0 hb r hsp=> ?_⟩;have hl:=len _ _ _ _ hsp;have KX:K.In s.heap:=e0.mod.kin.keeps λb o e=>(e0.bs b o e).1;have lim:s.heap.NoLimit:=e0.mod.nolimit.keeps λb o e=>(e0.bs b o e).1
 have hkind:∀y∈ps.zip us,scope.names.lookup y.1=some .local\/(scope.names.lookup y.1=some .cell/\((cellsFrom (s.heap.objs.size+1) scope.names []).lookup y.1).isSome=true):=λ⟨n,v⟩ hy=>by
  rcases S.par n (List.of_mem_zip hy).1 with q | q
  ·exact .inl q
  ·exact .inr ⟨q,PySem.W.cellsFrom_some _ _ _ (.inl q)⟩
 refine codeAny_call_function hr.depth (KX _ _ lk) rfl S.co S.gen rfl (PySem.W.codeRec_of KX hcd) (hb _ _ _ _ ?_);refine wpAny_newFunctionEnv_cells S.kind hkind λenv he s1 x=> ?_;subst he;refine ⟨lim.keeps x.toInCall.keep,codeAny_func ?_⟩;obtain ⟨t,ht,hq⟩:=hbody A outer s H vs Q E (hr.deeper _) hsp;have I:Inv (B6u CX P w K mg base N qual scope f cdv A outer s H E) [] (A8x N vs) H s1:=B4c S hr.hd e0 hl r x;refine Z10 (ht [] s1 (A8x N vs) H _ I hq) (λfl s' hs=> ?_) λe s' hs=>hs
 have fin:∀{σ':St} {H':Hp} {v:V} {u:Value},Inv (B6u CX P w K mg base N qual scope f cdv A outer s H E) [] σ' H' s'->A1e v u->Q v H'->CE outer P w H s Q u s' :=
  λ{σ' H' v u} J rv q=>⟨v,H',J.os,J.bare,J.base,J.hok,rv,q⟩
 cases fl with
 | ret u =>
  obtain ⟨v,σ',H',J,rv,q⟩:=hs;exact fin J rv q
 | next =>
  obtain ⟨σ',H',J,q⟩:=hs;exact fin (v:=V.non) (u:=Value.none) J rfl q
 | brk =>
  obtain ⟨_,_,_,q⟩:=hs;exact False.elim q
 | cont =>
  obtain ⟨_,_,_,q⟩:=hs;exact False.elim q
section
variable {X:Cx} {x:Str} {p pos:Pos} {e:Expr} {es:List Expr} {t:TA} {id T:String} {r:List V->Hp->VK->Prop}
def tCB (r:List V->Hp->VK->Prop) (t:TA):TE:=λσ H Q=>t σ H λvs H1=>r vs H1 Q
theorem A0v (hc:B1o X (.builtin id) r) (hg:Gl X x) (hm:X.mg x=none) (hv:bootBuiltins x=some (.builtin id)) (ha:PA X (e::es) t) (hn:x≠"__name__":=by decide) (hdb:(x == ("__debug__":Str))=false:=by decide)
  (he:starEach (e::es) X.env=(false,eval e X.env)::starEach es X.env:=by rfl) (hpl:(backTo pos (starEach es X.env)).any (·.1)=false:=by rfl):PE X (.Call (.Name x p) (e::es) [] pos) (tCB r t):=by
 intro pins s σ H Q I h;refine wpAny_Call_Name_kw (B2o I hg hm hv ?_ hn hdb);exact PyProof.Rows.callWith_builtin1 (thn (ha pos pins s σ H _ I h) (by rintro us s1 ⟨vs,H1,I1,r1,q1⟩;exact hc pins s1 σ H1 vs us Q I1 r1 q1)) he hpl
theorem A2s (hc:B1o X (.type T) r) (hg:Gl X x) (hm:X.mg x=none) (hv:bootBuiltins x=some (.type T)) (ha:PA X (e::es) t) (hn:x≠"__name__":=by decide) (hdb:(x == ("__debug__":Str))=false:=by decide)
  (he:starEach (e::es) X.env=(false,eval e X.env)::starEach es X.env:=by rfl) (hpl:(backTo pos (starEach es X.env)).any (·.1)=false:=by rfl):PE X (.Call (.Name x p) (e::es) [] pos) (tCB r t):=by
 intro pins s σ H Q I h;refine wpAny_Call_Name_kw (B2o I hg hm hv ?_ hn hdb);exact PyProof.Rows.callWith_type1 (thn (ha pos pins s σ H _ I h) (by rintro us s1 ⟨vs,H1,I1,r1,q1⟩;exact hc pins s1 σ H1 vs us Q I1 r1 q1)) he hpl
end
end L2
namespace HT
open PySem PyProof.Rows
section
open PySem.SeqAt
open PySem.AutoSeq1 (wpAny_loadPart')
open PySem.MeetsSeq PySem.MeetsSeq2 PySem.MeetsSeq3
end
section
variable {prog:Program} {w:World} {A:Around} {E:Value->Shared->Prop} {s:Shared}
theorem cat_tup {t b:Addr} {vs ws:List Value} {Q:Value->Shared->Prop} (ht:IsTup s.heap t vs.toArray) (hb:IsTup s.heap b ws.toArray) (hv:vs≠[])
  (h1:ws=[]->Q (.ref t) s) (h2:ws≠[]->Q (.ref s.heap.objs.size) { s with heap:=s.heap.push { cls:= .type "tuple",data:= .seq (vs++ws).toArray } })
  (hsz:vs.length+ws.length<=sizeLine):wpAny (model prog w) A (binaryOp .Add (.ref t) (.ref b)) Q E s:=by
 obtain ⟨⟨cls,dd,data,sl⟩,ho,hc,n,hd⟩:=id ht;obtain ⟨⟨cls2,dd2,data2,sl2⟩,ho2,hc2,n2,hd2⟩:=id hb;simp only at hc hd hc2 hd2;subst hc hd hc2 hd2;have e:vs.toArray++ws.toArray=(vs++ws).toArray:=by simp
 by_cases hw:ws=[]
 ·exact concat_meets ⟨_,ho,rfl⟩ ⟨_,ho2,rfl⟩ noFill_tuple_add seq_tuple_add PySem.F.slot_tuple_add PySem.F.entry_tuple_add (PySem.F.args_tuple_add_2 _ _)
   (tuple_addW1 t b vs.toArray ws.toArray n n2 dd dd2 sl sl2 (by simpa using hv) (by simp [hw])) ⟨ho,ho2,h1 hw⟩
 ·refine concat_meets ⟨_,ho,rfl⟩ ⟨_,ho2,rfl⟩ noFill_tuple_add seq_tuple_add PySem.F.slot_tuple_add PySem.F.entry_tuple_add (PySem.F.args_tuple_add_2 _ _)
   (tuple_addW2 t b vs.toArray ws.toArray n n2 dd dd2 sl sl2 (by simpa using hv) (by simpa using hw) (by rw [Z0g,Z0g];exact hsz)) ⟨ho,ho2,?_⟩
  rw [e];exact h2 hw
def sIx (n d:Nat):Option Int->Nat
 | none=>d
 | some v=>if v<0 then (v+(n:Int)).toNat else min v.toNat n
end
end HT
namespace L2
open PySem PySem.Spec PyProof.Rows
abbrev TO:=St->Hp->(Option Int->Hp->Prop)->Prop
def PO (X:Cx) (e:Option Expr) (t:TO):Prop :=
 ∀(pins:List (Addr×Obj)) (s:Shared) (σ:St) (H:Hp) (Q:Option Int->Hp->Prop),Inv X pins σ H s->t σ H Q->
  wpAny (model X.prog X.w) X.A (evalPart e X.env) (λu s'=>∃o H',Inv X pins σ H' s'/\IsPart u o/\Q o H') X.xe s
def C5j (t:TE):TO:=λσ H Q=>t σ H λx H1=>∃i,x= .int i/\Q (some i) H1
section
variable {X:Cx} {e:Expr} {te:TE} {lo hi:Option Expr} {tl th:TO} {pos p2:Pos}
theorem B6j (h:PE X e te):PO X (some e) (C5j te):=by
 intro pins s σ H Q I hw;rw [evalPart_some];refine thn (h pins s σ H _ I hw) ?_;rintro u s1 ⟨x,H1,I1,r1,q1⟩;obtain ⟨i,rfl,q⟩:=q1;obtain ⟨t,rfl⟩:=r1;exact ⟨some i,H1,I1,.int i t,q⟩
def SlR (X:Cx) (r:V->Option Int->Option Int->Hp->VK->Prop):Prop :=
 ∀(pins:List (Addr×Obj)) (s:Shared) (σ:St) (H:Hp) (x:V) (v vl vu:Value) (lo hi:Option Int) (sl:Addr) (Q:VK),Inv X pins σ H s->A1e x v->s.heap.IsSliceOf sl vl vu .none->IsPart vl lo->IsPart vu hi->r x lo hi H Q->
  ∃T id,typeLookup (.type T) "__getitem__"=pure (some (.builtin id))/\s.TypeIs v T/\wpAny (model X.prog X.w) X.A (getItem v (.ref sl)) (EP X pins σ Q) X.xe s
def tSl (r:V->Option Int->Option Int->Hp->VK->Prop) (te:TE) (tl th:TO):TE:=λσ H Q=>te σ H λx H1=>tl σ H1 λl H2=>th σ H2 λu H3=>r x l u H3 Q
theorem B7l {r:V->Option Int->Option Int->Hp->VK->Prop} (hr:SlR X r) (he:PE X e te) (hl:PO X lo tl) (hu:PO X hi th):PE X (.Subscript e (.Slice lo hi none p2) pos) (tSl r te tl th):=by
 intro pins s σ H Q I h;refine Subscript_ (thn (he pins s σ H _ I h) ?_);rintro v s1 ⟨x,H1,I1,r1,q1⟩;refine wpAny_Slice (thn (hl pins s1 σ H1 _ I1 q1) ?_);rintro vl s2 ⟨l,H2,I2,pl,q2⟩;refine thn (hu pins s2 σ H2 _ I2 q2) ?_;rintro vu s3 ⟨u,H3,I3,pu,q3⟩;rw [evalPart_none];refine Z04 ?_;have I4:Inv X pins σ H3 { s3 with heap:=s3.heap.push { cls:= .type "slice",data:= .fields #[vl,vu,.none] } }:=I3.kept (t':=s3.toks) λb ob q=>Z01 _ q
 obtain ⟨T,id,hT,ht,hg⟩:=hr pins { s3 with heap:=s3.heap.push { cls:= .type "slice",data:= .fields #[vl,vu,.none] } } σ H3 x v vl vu l u s3.heap.objs.size Q I4 r1 (Heap.IsSliceOf.new ..) pl pu q3;show wpAny (model X.prog X.w) X.A (subscriptTail e (.Slice lo hi none p2) v (.ref s3.heap.objs.size)) (EP X pins σ Q) X.xe { s3 with heap:=s3.heap.push { cls:= .type "slice",data:= .fields #[vl,vu,.none] } };exact tail_any (ops:=[.ref s3.heap.objs.size,v]) ht hT hg (by with_unfolding_all rfl)
def C1j (xs:List V) (lo hi:Option Int):List V:=(xs.drop (HT.sIx xs.length 0 lo)).take (HT.sIx xs.length xs.length hi-HT.sIx xs.length 0 lo)
theorem B1j (xs:List V) (lo hi:Option Int):(C1j xs lo hi).length<=xs.length:=by
 unfold C1j;rw [Z0x,List.length_drop];omega
def C5d (K:Frag):R2:=λx y H Q=>∃a b xs ys,x= .ref a/\y= .ref b/\SqT K H a xs/\SqT K H b ys/\xs≠[]/\xs.length+ys.length<=sizeLine/\
 (ys=[]->Q (.ref a) H)/\(ys≠[]->∀p,H p=none->Q (.ref p) (upd H p (.tup (xs++ys))))
theorem A1n.nil_iff {xs:List V} {us:List Value} (r:A1n xs us):us=[]↔xs=[]:=by
 cases r with
 | nil=>simp
 | cons _ _=>simp
theorem C0q:OpR X (binaryOp .Add) (C5d X.K):=by
 intro pins s σ H x y v u Q I rx ry h;obtain ⟨a,b,xs,ys,rfl,rfl,ha,hb,hx,hz,q1,q2⟩:=h;cases rx;cases ry;obtain ⟨its,r1,p1,_⟩:=I.tuple ha;obtain ⟨its2,r2,p2,_⟩:=I.tuple hb;refine HT.cat_tup p1 p2 (λz=>hx (r1.nil_iff.mp z)) (λz=>⟨.ref a,H,I,rfl,q1 (r2.nil_iff.mp z)⟩) (λz=> ?_) (by rw [<-r1.length,<-r2.length];exact hz);refine ⟨.ref s.heap.objs.size,_,I.laid (t':=s.toks) (o:= .tup (xs++ys)) (λb ob q=>Z01 _ q) (Z09 _) ?_,rfl,q2 (λw=>z (r2.nil_iff.mpr w)) _ (I.hok.fresh (Z09 _))⟩;exact ⟨by rw [Z06];exact hz,_,r1.append r2,IsTup.new _ _⟩
end
def ixN (n:Nat) (i:Int):Option Nat:=if 0<=i then (if i<n then some i.toNat else none) else if -(n:Int)<=i then some (i+n).toNat else none
def atI {α:Type} (xs:List α) (i:Int):Option α:=(ixN xs.length i).bind λj=>xs[j]?
theorem B4v {n:Nat} {i:Int} {j:Nat} (h:ixN n i=some j):seqIndex? i n=some j/\j<n/\-(n:Int)<=i/\i<n:=by
 unfold ixN at h;by_cases h0:0<=i
 ·rw [Z12 h0] at h;by_cases h1:i<n
  ·rw [Z12 h1] at h;have e:i.toNat=j:=Z1a h;exact ⟨by rw [seqIndex_of h0 h1,e],by omega,by omega,h1⟩
  ·rw [Z0t h1] at h;cases h
 ·rw [Z0t h0] at h;by_cases h1: -(n:Int)<=i
  ·rw [Z12 h1] at h;have e:(i+n).toNat=j:=Z1a h;exact ⟨by rw [seqIndex_neg (by omega) h1,e],by omega,h1,by omega⟩
  ·rw [Z0t h1] at h;cases h
theorem B6b {α:Type} {xs:List α} {i:Int} {v:α} (h:atI xs i=some v):∃j,seqIndex? i xs.length=some j/\xs[j]? =some v/\j<xs.length/\-(xs.length:Int)<=i/\i<xs.length:=by
 unfold atI at h
 cases e:ixN xs.length i with
 | none=>rw [e] at h;cases h
 | some j =>
  rw [e] at h;obtain ⟨h1,h2,h3,h4⟩:=B4v e;exact ⟨j,h1,h,h2,h3,h4⟩
theorem A1f {α:Type} {xs:List α} {j:Nat} {v:α} (h:xs[j]? =some v):atI xs (j:Int)=some v:=by
 have hj:j<xs.length:=(Z03.mp h).1
 have e:ixN xs.length (j:Int)=some j:=by
  unfold ixN;rw [Z12 (by omega),Z12 (by omega)];simp
 unfold atI;rw [e];exact h
def C0y (b:Expr):Prop:=∀o i,subscripted b false o i=operate [o,i] (getItem o i)
def IxR (X:Cx) (r:R2):Prop :=
 ∀(value slice:Expr) (pins:List (Addr×Obj)) (s:Shared) (σ:St) (H:Hp) (x y:V) (v u:Value) (Q:VK),Inv X pins σ H s->A1e x v->A1e y u->r x y H Q->
  subscripted slice false v u=operate [v,u] (getItem v u)->wpAny (model X.prog X.w) X.A (subscriptTail value slice v u) (EP X pins σ Q) X.xe s
def MtR (X:Cx) (id:String) (r:V->List V->Hp->VK->Prop):Prop :=
 ∀(pins:List (Addr×Obj)) (s:Shared) (σ:St) (H:Hp) (x:V) (xs:List V) (v:Value) (us:List Value) (Q:VK),Inv X pins σ H s->A1e x v->A1n xs us->r x xs H Q->
  wpAny (model X.prog X.w) X.A (call (.builtin id) (v::us)) (EP X pins σ Q) X.xe s
section
variable {X:Cx} {a b:Expr} {ta tb:TE} {pos:Pos}
theorem A1h {r:R2} (hr:IxR X r) (ha:PE X a ta) (hb:PE X b tb) (hs:C0y b):PE X (.Subscript a b pos) (tOp r ta tb):=by
 intro pins s σ H Q I h;exact Subscript_ (C4i ha hb I h λv u s2 x y H2 I2 rx ry q=>hr a b pins s2 σ H2 x y v u Q I2 rx ry q (hs _ _))
def rIxL (K:Frag):R2:=λx y H Q=>∃p xs i v,x= .ref p/\y= .int i/\SqL K H p xs/\atI xs i=some v/\Q v H
def rIxT (K:Frag):R2:=λx y H Q=>∃p xs i v,x= .ref p/\y= .int i/\SqT K H p xs/\atI xs i=some v/\Q v H
theorem A1i:IxR X (rIxL X.K):=by
 intro value slice pins s σ H x y v u Q I rx ry h hs;obtain ⟨p,xs,i,z,rfl,rfl,hq,he,q⟩:=h;cases rx;obtain ⟨t,rfl⟩:=ry;obtain ⟨its,r,pl,hz⟩:=I.list hq;obtain ⟨j,h1,h2,h3,h4,h5⟩:=B6b he;obtain ⟨w,ew,rw'⟩:=r.get h2;have hl:=r.length;have hn:=B2j;have fin:EP X pins σ Q w s:=⟨z,H,I,rw',q⟩;by_cases h0:0<=i
 ·have hj:i.toNat=j:=by
   rw [seqIndex_of h0 h5] at h1;exact Z1a h1
  exact item_listR pl.isList h0 (by omega) (by rw [hj];simpa using ew) fin hs
 ·have hj:(i+(its.toArray.size:Int)).toNat=j:=by
   rw [seqIndex_neg (by omega) h4] at h1;rw [Z0g,<-hl];exact Z1a h1
  exact subscriptTail_builtinR (x:=w) pl.isList.typeIs slot_list_getitem.lookup
   (wpAny_getItem_list_neg (Q:=λr s'=>r=w/\EP X pins σ Q r s') pl.isList (by omega) (by rw [Z0g] <;> omega) (by omega) (by rw [hj];simpa using ew) ⟨rfl,fin⟩) hs
theorem A1o:IxR X (rIxT X.K):=by
 intro value slice pins s σ H x y v u Q I rx ry h hs;obtain ⟨p,xs,i,z,rfl,rfl,hq,he,q⟩:=h;cases rx;obtain ⟨t,rfl⟩:=ry;obtain ⟨its,r,pl,hz⟩:=I.tuple hq;obtain ⟨j,h1,h2,h3,h4,h5⟩:=B6b he;obtain ⟨w,ew,rw'⟩:=r.get h2;have hl:=r.length;have hn:=B2j;have fin:EP X pins σ Q w s:=⟨z,H,I,rw',q⟩
 exact subscriptTail_builtinR (x:=w) pl.typeIs slot_tuple_getitem.lookup
  (getItem_tuple (j:=j) (Q:=λr s'=>r=w/\EP X pins σ Q r s') pl (by omega) (by omega) (by rw [Z0g,<-hl];exact h1) (by simpa using ew) ⟨rfl,fin⟩) hs
theorem B3k (its:List Value) (n j:Nat) (u:Value):Obj.mapSeq (·.setIfInBounds j u) { cls:= .type "list",data:= .seq its.toArray n }={ cls:= .type "list",data:= .seq (its.set j u).toArray n }:=by
 simp [Obj.mapSeq]
theorem Inv.lst {pins:List (Addr×Obj)} {σ:St} {H:Hp} {s:Shared} {p:Addr} {xs:List V} (I:Inv X pins σ H s) (h:H p=some (.lst xs)) :
  ∃(its:List Value) (n:Nat),A1n xs its/\s.heap.get? p=some { cls:= .type "list",data:= .seq its.toArray n }/\xs.length<=sizeLine:=by
 obtain ⟨z,its,n,r,e⟩:=I.hok p _ h;exact ⟨its,n,r,e,z⟩
theorem Inv.lstUpd {pins:List (Addr×Obj)} {σ:St} {H:Hp} {s:Shared} {p:Addr} {xs ys:List V} {its its':List Value} {n n':Nat} {f:Obj->Obj} (I:Inv X pins σ H s) (h:H p=some (.lst xs))
  (ho:s.heap.get? p=some { cls:= .type "list",data:= .seq its.toArray n }) (hf:f { cls:= .type "list",data:= .seq its.toArray n }={ cls:= .type "list",data:= .seq its'.toArray n' }) (r:A1n ys its') (hz:ys.length<=sizeLine) (t:Nat) :
  Inv X pins σ (upd H p (.lst ys)) { s with heap:=s.heap.update p f,toks:=t }:=by
 have e:(s.heap.update p f).get? p=some { cls:= .type "list",data:= .seq its'.toArray n' }:=by
  rw [Z1r f ho (by rw [hf] <;> rfl),hf]
 refine I.write (x:=p) (e:=p) (by rw [h];trivial) (.inl rfl) (λb u hb q=>(Z1d _ _ (Ne.symm hb)).trans q) ⟨_,e⟩ ?_;exact ⟨hz,its',n',r,e⟩
def C4k:V->V->V->Hp->(Hp->Prop)->Prop:=λo i v H Q=>∃p xs k j,o= .ref p/\i= .int k/\H p=some (.lst xs)/\ixN xs.length k=some j/\Q (upd H p (.lst (xs.set j v)))
theorem A8q:C5p X C4k:=by
 intro pins s σ H o i v ov iv u Q I ro ri rv h;obtain ⟨p,xs,k,j,rfl,rfl,hp,hj,q⟩:=h;cases ro;obtain ⟨t,rfl⟩:=ri;obtain ⟨its,n,r,ho,hz⟩:=I.lst hp;obtain ⟨h1,h2,h3,h4⟩:=B4v hj;have hl:=r.length;have hn:=B2j
 have I':Inv X pins σ (upd H p (.lst (xs.set j v))) { s with heap:=s.heap.update p (Obj.mapSeq (·.setIfInBounds j u)) } :=
  I.lstUpd hp ho (B3k its n j u) (r.set rv j) (by rw [List.length_set];exact hz) s.toks
 by_cases h0:0<=k
 ·have hk:k.toNat=j:=by
   rw [seqIndex_of h0 h4] at h1;exact Z1a h1
  exact PySem.W.ki_setAt ho h0 (by omega) (by rw [Z0g,<-hl];exact h4) (by rw [hk];exact ⟨_,I',q⟩)
 ·have hk:(k+(its.toArray.size:Int)).toNat=j:=by
   rw [seqIndex_neg (by omega) h3] at h1;rw [Z0g,<-hl];exact Z1a h1
  exact PySem.W.ki_setBack ho (by omega) (by rw [Z0g,<-hl];exact h3) (by omega) (by rw [hk];exact ⟨_,I',q⟩)
theorem A9k (lo hi:Option Int) (n:Nat):(sliceBounds lo hi none n).1=((HT.sIx n 0 lo:Nat):Int)/\(sliceBounds lo hi none n).2.1=((HT.sIx n n hi:Nat):Int)/\(sliceBounds lo hi none n).2.2=1:=by
 refine ⟨?_,?_,rfl⟩
 ·cases lo with
  | none=>simp [sliceBounds,HT.sIx]
  | some i =>
   simp only [sliceBounds,HT.sIx,Option.getD_none,show (1:Int)>0 by decide,if_true];by_cases h:i<0
   ·simp only [h,if_true] <;> omega
   ·simp only [h,if_false] <;> omega
 ·cases hi with
  | none=>simp [sliceBounds,HT.sIx]
  | some i =>
   simp only [sliceBounds,HT.sIx,Option.getD_none,show (1:Int)>0 by decide,if_true];by_cases h:i<0
   ·simp only [h,if_true] <;> omega
   ·simp only [h,if_false] <;> omega
theorem A9b (its:List Value) (lo hi:Option Int):slicePick its.toArray lo hi none=((its.drop (HT.sIx its.length 0 lo)).take (HT.sIx its.length its.length hi-HT.sIx its.length 0 lo)).toArray:=by
 obtain ⟨h1,h2,h3⟩:=A9k lo hi its.toArray.size;unfold slicePick;rw [h1,h2,h3];simp only [sliceRange_one,pick_run,Z0g] <;> rfl
def rSlL (K:Frag):V->Option Int->Option Int->Hp->VK->Prop:=λx lo hi H Q=>∃a xs,x= .ref a/\SqL K H a xs/\∀p,H p=none->Q (.ref p) (upd H p (.lst (C1j xs lo hi)))
theorem B9i:SlR X (rSlL X.K):=by
 intro pins s σ H x v vl vu lo hi sl Q I rx hs pl pu h;obtain ⟨a,xs,rfl,hx,q⟩:=h;cases rx;obtain ⟨its,r,ht,hz⟩:=I.list hx;have hlen:=r.length;refine ⟨"list",_,slot_list_getitem.lookup,ht.isList.typeIs,?_⟩;refine wpAny_getItem_list_slice ht.isList hs pl pu .none (by simp) ?_ (by rw [Z0g] <;> omega);rw [A9b,<-hlen];refine ⟨.ref s.heap.objs.size,_,I.laid (t':=s.toks) (o:= .lst (C1j xs lo hi)) (λb ob q=>Z01 _ q) (Z09 _) ?_,rfl,q _ (I.hok.fresh (Z09 _))⟩;exact ⟨Z1n (B1j xs lo hi) hz,_,0,(r.drop (HT.sIx xs.length 0 lo)).take (HT.sIx xs.length xs.length hi-HT.sIx xs.length 0 lo),Z0c _ rfl⟩
theorem A0r:B1o X (.builtin "len") (λxs H Q=>∃p ys,xs=[.ref p]/\(SqL X.K H p ys\/SqT X.K H p ys)/\Q (.int ys.length) H):=by
 intro pins s σ H xs us Q I r h;obtain ⟨p,ys,rfl,hq,q⟩:=h;obtain ⟨u,rfl,rx⟩:=B6t r;cases rx;have hn:=B2j;rcases hq with hq | hq
 ·obtain ⟨its,r',pl,hz⟩:=I.list hq;have hlen:=r'.length;exact Calls.call_len_list pl.isList (by simp only [Z0g] <;> omega) ⟨.int ys.length,H,I.tok _,⟨s.toks+1,by rw [Z0g,hlen]⟩,q⟩
 ·obtain ⟨its,r',pl,hz⟩:=I.tuple hq;have hlen:=r'.length;exact len_tuple pl (by simp only [Z0g] <;> omega) ⟨.int ys.length,H,I.tok _,⟨s.toks+1,by rw [Z0g,hlen]⟩,q⟩
theorem A2w:B1o X (.type "list") (λxs H Q=>∃p ys,xs=[.ref p]/\(SqL X.K H p ys\/SqT X.K H p ys)/\∀l,H l=none->Q (.ref l) (upd H l (.lst ys))):=by
 intro pins s σ H xs us Q I r h;obtain ⟨p,ys,rfl,hq,q⟩:=h;obtain ⟨u,rfl,rx⟩:=B6t r;cases rx
 have fin:∀(its:List Value),A1n ys its->ys.length<=sizeLine->∀(h':Heap) (c':Nat),(∀b o',s.heap.get? b=some o'->h'.get? b=some o')->
   h'.get? s.heap.objs.size=some { cls:= .type "list",dict:=none,data:= .seq its.toArray c',slots:= #[] }->EP X pins σ Q (.ref s.heap.objs.size) { s with heap:=h' }:=λits r' hz h' c' kp e =>
  ⟨.ref s.heap.objs.size,_,I.laid (t':=s.toks) kp (Z09 _) (show A1k X.prog X.w _ h' _ (.lst ys) from ⟨hz,its,c',r',e⟩),rfl,q _ (I.hok.fresh (Z09 _))⟩
 rcases hq with hq | hq
 ·obtain ⟨its,r',pl,hz⟩:=I.list hq;have hlen:=r'.length;obtain ⟨o,ho,hc,n,hd⟩:=pl.isList;exact call_list_seq p (.inl rfl) ho hc hd (λh' c' kp e=>fin its r' hz h' c' kp e) (by simp only [Z0g] <;> omega)
 ·obtain ⟨its,r',pl,hz⟩:=I.tuple hq;have hlen:=r'.length;obtain ⟨o,ho,hc,n,hd⟩:=pl;exact call_list_seq p (.inr rfl) ho hc hd (λh' c' kp e=>fin its r' hz h' c' kp e) (by simp only [Z0g] <;> omega)
theorem A5h:B1o X (.type "tuple") (λxs H Q=>∃p ys,xs=[.ref p]/\((SqL X.K H p ys/\∀l,H l=none->Q (.ref l) (upd H l (.tup ys)))\/(SqT X.K H p ys/\Q (.ref p) H))):=by
 intro pins s σ H xs us Q I r h;obtain ⟨p,ys,rfl,h⟩:=h;obtain ⟨u,rfl,rx⟩:=B6t r;cases rx;rcases h with ⟨hq,q⟩ | ⟨hq,q⟩
 ·obtain ⟨its,r',pl,hz⟩:=I.list hq;have hlen:=r'.length;refine call_tuple_list pl.isList (λh' kp=> ?_) (by simp only [Z0g] <;> omega);have I1:Inv X pins σ H { s with heap:=h' }:=I.kept (t':=s.toks) kp
  have I2:Inv X pins σ (upd H h'.objs.size (.tup ys)) { s with heap:=h'.push { cls:= .type "tuple",data:= .seq its.toArray } } :=
   I1.laid (t':=s.toks) (λb o e=>Z01 _ e) (Z09 _) (show A1k X.prog X.w _ _ _ (.tup ys) from ⟨hz,its,r',IsTup.new _ _⟩)
  exact ⟨.ref h'.objs.size,_,I2,rfl,q _ (I1.hok.fresh (Z09 _))⟩
 ·obtain ⟨its,r',pl,hz⟩:=I.tuple hq;exact call_tuple_same pl ⟨.ref p,H,I,rfl,q⟩
def tyV (K:Frag) (T:String) (x:V) (H:Hp):Prop:=match x with
 | .str _=>T="str"
 | .int _=>T="int"
 | .ref p=>(T="list"/\∃xs,SqL K H p xs)\/(T="tuple"/\∃o,K.lookup p=some o/\o.cls= .type "tuple"/\o.dict=none)\/
   (T="dict"/\((∃kvs,H p=some (.dK kvs))\/∃kvs,H p=some (.dT kvs)))\/(T="set"/\∃S n,H p=some (.set S n))
 | _=>False
theorem B9b {pins:List (Addr×Obj)} {σ:St} {H:Hp} {s:Shared} {T:String} {x:V} {v:Value} (I:Inv X pins σ H s) (r:A1e x v) (ty:tyV X.K T x H) :
  s.TypeIs v T/\∀a,v= .ref a->∃ob,s.heap.get? a=some ob/\ob.dict=none:=by
 cases x with
 | str z =>
  obtain ⟨t,rfl⟩:=r;cases (show T="str" from ty);exact ⟨typeIs_str s z t,λ_ e=>nomatch e⟩
 | int i =>
  obtain ⟨t,rfl⟩:=r;cases (show T="int" from ty);exact ⟨typeIs_int s i t,λ_ e=>nomatch e⟩
 | ref p =>
  cases r
  rcases ty with ⟨rfl,xs,hq⟩ | ⟨rfl,o,hk,hc,hd⟩ | ⟨rfl,hk⟩ | ⟨rfl,S,n,hk⟩
  ·obtain ⟨its,_,pl,_⟩:=I.list hq;refine ⟨pl.isList.typeIs,λa e=> ?_⟩;cases e;obtain ⟨o,n,e,c,hd,_⟩:=pl;exact ⟨o,e,hd⟩
  ·refine ⟨⟨o,I.kIn p o hk,hc⟩,λa e=> ?_⟩;cases e;exact ⟨o,I.kIn _ o hk,hd⟩
  ·have z:∃o,s.heap.get? p=some o/\o.ExactDict:=by
    rcases hk with ⟨kvs,hk⟩ | ⟨kvs,hk⟩
    ·obtain ⟨_,_,_,_,o,_,_,e,ex,_⟩:=I.hok p _ hk;exact ⟨o,e,ex⟩
    ·obtain ⟨_,_,_,_,o,_,_,e,ex,_⟩:=I.hok p _ hk;exact ⟨o,e,ex⟩
   obtain ⟨o,e,ex⟩:=z;refine ⟨⟨o,e,ex.1⟩,λa e2=> ?_⟩;cases e2;exact ⟨o,e,ex.2.1⟩
  ·obtain ⟨o,_,_,_,e,ex,_⟩:=I.hok p _ hk;refine ⟨⟨o,e,ex.1⟩,λa e2=> ?_⟩;cases e2;exact ⟨o,e,ex.2.1⟩
 | _=>exact False.elim ty
def tBM0 (K:Frag) (T:String) (r:V->List V->Hp->VK->Prop) (to:TE):TE:=λσ H Q=>to σ H λx H1=>tyV K T x H1/\r x [] H1 Q
def tBM (K:Frag) (T:String) (r:V->List V->Hp->VK->Prop) (to:TE) (t:TA):TE:=λσ H Q=>to σ H λx H1=>tyV K T x H1/\t σ H1 λxs H2=>r x xs H2 Q
variable {o e:Expr} {es:List Expr} {to:TE} {t:TA} {name:Str} {apos cpos:Pos} {T id:String} {r:V->List V->Hp->VK->Prop}
theorem A5f (pa:PlainAttrs T) (slot:Slot T name id) (hty:typeOf (.builtin id)=pure (.type "method_descriptor")) (hm:MtR X id r) (ho:PE X o to)
  (hbase:attributeBase o name X.env (eval o X.env)=eval o X.env:=by rfl) (hline:(apos.endLine == cpos.line)=true:=by rfl):PE X (.Call (.Attribute o name apos) [] [] cpos) (tBM0 X.K T r to):=by
 intro pins s σ H Q I h;refine wpAny_Call_method0_late hbase hline (thn (ho pins s σ H _ I h) ?_);rintro v s1 ⟨x,H1,I1,r1,ty,q1⟩;obtain ⟨h1,h2⟩:=B9b I1 r1 ty;exact ⟨T,id,pa,slot,hty,h1,h2,Calls.callWith_builtin rfl (PySem.evalArgs_none (hm pins s1 σ H1 x [] v [] Q I1 r1 .nil q1))⟩
theorem A4p (pa:PlainAttrs T) (slot:Slot T name id) (hty:typeOf (.builtin id)=pure (.type "method_descriptor")) (hm:MtR X id r) (ho:PE X o to) (ha:PA X (e::es) t)
  (hbase:attributeBase o name X.env (eval o X.env)=eval o X.env:=by rfl)
  (hfew:((backTo cpos (starEach (e::es) X.env)).all (λx=> !x.1)&&(backToKw cpos (keywordEach [] X.env)).all (λx=>x.1.isSome)
   && decide ((e::es).length+([]:List Keyword).length+(if ([]:List Keyword).isEmpty then 0 else 1)<30))=true:=by rfl)
  (hline:(apos.endLine == cpos.line)=true:=by rfl) (hs:starEach (e::es) X.env=(false,eval e X.env)::starEach es X.env:=by rfl) (hplain:(backTo cpos (starEach es X.env)).any (·.1)=false:=by rfl) :
  PE X (.Call (.Attribute o name apos) (e::es) [] cpos) (tBM X.K T r to t):=by
 intro pins s σ H Q I h;refine wpAny_Call_method_late hbase hfew hline rfl (thn (ho pins s σ H _ I h) ?_);rintro v s1 ⟨x,H1,I1,r1,ty,q1⟩;obtain ⟨h1,h2⟩:=B9b I1 r1 ty;refine ⟨T,id,pa,slot,hty,h1,h2,?_⟩;have hA:=ha cpos pins s1 σ H1 _ I1 q1;rw [hs] at hA⊢;refine Calls.callWith_builtin (by show (false||(backTo cpos (starEach es X.env)).any (·.1))=false;rw [hplain] <;> rfl) (Calls.evalArgs_plain ?_);exact thn hA (by rintro us s2 ⟨vs,H2,I2,r2,q2⟩;exact hm pins s2 σ H2 x vs v us Q I2 r1 r2 q2)
end
def MtM (X:Cx) (id:String) (r:V->List V->Hp->VK->Prop):Prop :=
 ∀(pins:List (Addr×Obj)) (s:Shared) (σ:St) (H:Hp) (x:V) (xs:List V) (v:Value) (us:List Value) (Q:VK),Inv X pins σ H s->A1e x v->A1n xs us->r x xs H Q->
  wpAny (model X.prog X.w) X.A (call (.builtin id) (v::us)) (EP X pins σ Q) X.xe s
theorem A1n.one:∀{x:V} {us:List Value},A1n [x] us->∃u,us=[u]/\A1e x u
 | _,_,.cons r .nil=>⟨_,rfl,r⟩
theorem A1n.zero:∀{us:List Value},A1n [] us->us=[]
 | _,.nil=>rfl
theorem A1n.dropLast {xs:List V} {us:List Value} (h:A1n xs us):A1n xs.dropLast us.dropLast:=by
 induction h with
 | nil=>exact .nil
 | cons r t ih =>
  cases t with
  | nil=>exact .nil
  | cons q t'=>exact .cons r ih
theorem B3h {α:Type} (l:List α):l.eraseIdx (l.length-1)=l.dropLast:=by
 induction l with
 | nil=>rfl
 | cons a r ih =>
  cases r with
  | nil=>rfl
  | cons b r =>
   have e:(a::b::r).length-1=((b::r).length-1)+1:=by
    have h1:(a::b::r).length=r.length+2:=rfl;have h2:(b::r).length=r.length+1:=rfl;omega
   rw [e,List.eraseIdx_cons_succ,ih]
   all_goals rfl
section
variable {X:Cx} {pins:List (Addr×Obj)} {σ:St} {H:Hp} {s:Shared} {l b:Addr} {xs ys zs:List V}
theorem Inv.lset {its its':List Value} {n:Nat} {f:Array Value->Array Value} {t':Nat} (I:Inv X pins σ H s) (hH:H l=some (.lst xs))
  (e:s.heap.get? l=some { cls:= .type "list",data:= .seq its.toArray n }) (hf:f its.toArray=its'.toArray) (hv:A1n ys its') (hz:ys.length<=sizeLine) :
  Inv X pins σ (upd H l (.lst ys)) { s with heap:=s.heap.update l (Obj.mapSeq f),toks:=t' }:=by
 have q:=PySem.IsL.update e f;rw [hf] at q;refine I.write (x:=l) (e:=l) (by rw [hH];exact trivial) (.inl rfl) (λb' u hb hu=>(Z1d s.heap (Obj.mapSeq f) (Ne.symm hb)).trans hu) ⟨_,q⟩ ?_;exact ⟨hz,its',_,hv,q⟩
theorem Inv.lnew {its:List Value} {t':Nat} (I:Inv X pins σ H s) (hv:A1n ys its) (hz:ys.length<=sizeLine) :
  Inv X pins σ (upd H s.heap.objs.size (.lst ys)) { s with heap:=s.heap.push { cls:= .type "list",data:= .seq its.toArray },toks:=t' } :=
 I.laid (λ_ _ q=>Z01 _ q) (Z09 _) ⟨hz,its,0,hv,Z0c _ rfl⟩
theorem Inv.lstM (I:Inv X pins σ H s) (hH:H l=some (.lst xs)):xs.length<=sizeLine/\∃(its:List Value) (n:Nat),A1n xs its/\xs.length=its.length/\s.heap.get? l=some { cls:= .type "list",data:= .seq its.toArray n }:=by
 obtain ⟨z,its,n,r,e⟩:=I.hok l _ hH;exact ⟨z,its,n,r,r.length,e⟩
end
section
variable {X:Cx}
def C0n:V->List V->Hp->VK->Prop:=λx vs H Q=>∃l xs y,x= .ref l/\vs=[y]/\H l=some (.lst xs)/\xs.length<sizeLine/\Q .non (upd H l (.lst (xs++[y])))
theorem A0w:MtM X "list.append" C0n:=by
 intro pins s σ H x vs v us Q I rx rv h;obtain ⟨l,xs,y,rfl,rfl,hH,hz,q⟩:=h;cases rx;obtain ⟨u,rfl,ru⟩:=rv.one;obtain ⟨z,its,n,r,hl,e⟩:=I.lstM hH;refine call_meets F.slot_list_append ⟨_,e,rfl⟩ F.entry_list_append (F.args_list_append_2 _ _) (PySem.list_append l its.toArray n u (by rw [Z0g];omega)) ⟨e,?_⟩;refine ⟨.non,_,I.lset (its':=its++[u]) hH e (by simp) (r.append (.cons ru .nil)) ?_,rfl,q⟩;rw [Z06,List.length_singleton];omega
def rPop:V->List V->Hp->VK->Prop:=λx vs H Q=>∃l xs y,x= .ref l/\vs=[]/\H l=some (.lst xs)/\xs[xs.length-1]? =some y/\Q y (upd H l (.lst xs.dropLast))
theorem A5x:MtM X "list.pop" rPop:=by
 intro pins s σ H x vs v us Q I rx rv h;obtain ⟨l,xs,y,rfl,rfl,hH,hy,q⟩:=h;cases rx;have hus:=rv.zero;subst hus;obtain ⟨z,its,n,r,hl,e⟩:=I.lstM hH;obtain ⟨u,hu,ru⟩:=r.get hy
 have hy':its.toArray[its.toArray.size-1]? =some u:=by
  show its.toArray[its.length-1]? =some u;rw [<-Array.getElem?_toList,<-hl];exact hu
 refine call_meets F.slot_list_pop ⟨_,e,rfl⟩ F.entry_list_pop (F.args_list_pop_1 _) (MeetsSeq.list_pop_last l its.toArray n u hy' (by rw [Z0g];omega)) ⟨e,?_⟩;refine ⟨y,_,I.lset (its':=its.dropLast) hH e ?_ r.dropLast ?_,ru,q⟩
 ·show its.toArray.eraseIdxIfInBounds (its.toArray.size-1)=its.dropLast.toArray;rw [Z0g,List.eraseIdxIfInBounds_toArray,B3h]
 ·rw [List.length_dropLast];omega
def C2n:V->List V->Hp->VK->Prop:=λx vs H Q=>∃l xs,x= .ref l/\vs=[]/\H l=some (.lst xs)/\Q .non (upd H l (.lst []))
theorem B6x:MtM X "list.clear" C2n:=by
 intro pins s σ H x vs v us Q I rx rv h;obtain ⟨l,xs,rfl,rfl,hH,q⟩:=h;cases rx;have hus:=rv.zero;subst hus;obtain ⟨z,its,n,r,hl,e⟩:=I.lstM hH;refine call_meets F.slot_list_clear ⟨_,e,rfl⟩ F.entry_list_clear (F.args_list_clear_1 _) (AutoSeq1.list_clear_list_0 l its.toArray n (by rw [Z0g];omega)) ⟨e,?_⟩;exact ⟨.non,_,I.lset (its':=[]) (ys:=[]) hH e rfl .nil (Z1e _),rfl,q⟩
end
section
variable {prog:Program} {w:World} {A:Around} {E:Value->Shared->Prop} {s:Shared}
set_option maxRecDepth 100000 in
end
section
variable {X:Cx}
end
section
variable {κ:Type} [DecidableEq κ]
def A7k (kvs:List (κ×V)) (k:κ):Option V:=(kvs.find? λkv=>decide (kv.1=k)).map (·.2)
def A6s (kvs:List (κ×V)) (k:κ) (v:V):List (κ×V) :=
 if (kvs.any λkv=>decide (kv.1=k))=true then kvs.map (λkv=>if kv.1=k then (kv.1,v) else kv) else kvs++[(k,v)]
theorem A8w {p:κ×V} {r:List (κ×V)} {k:κ} (e:p.1=k):A7k (p::r) k=some p.2:=by simp [A7k,Z2h,e]
theorem A8j {p:κ×V} {r:List (κ×V)} {k:κ} (e:¬p.1=k):A7k (p::r) k=A7k r k:=by simp [A7k,Z2h,e]
theorem B2d (k:κ):∀kvs:List (κ×V),(kvs.any λkv=>decide (kv.1=k))=(A7k kvs k).isSome
 | []=>rfl
 | p::r=>by
  rw [List.any_cons];by_cases e:p.1=k
  ·simp only [A8w e,Z20 e,Bool.true_or,Option.isSome_some]
  ·rw [A8j e,Z1j e,Bool.false_or];exact B2d k r
theorem A4s (kvs:List (κ×V)) (k:κ) (v:V):(A6s kvs k v).length<=kvs.length+1:=by
 unfold A6s;split
 ·rw [Z08];omega
 ·rw [Z06,Z0y,List.length_nil];omega
theorem A9g.isSome_eq {o:Option V} {u:Option Value} (r:A9g o u):o.isSome=u.isSome:=by
 cases o with
 | none=>cases u with
  | none=>rfl
  | some _=>exact (show False from r).elim
 | some _=>cases u with
  | none=>exact (show False from r).elim
  | some _=>rfl
theorem A9g.getD {o:Option V} {u:Option Value} {d:V} {d':Value} (r:A9g o u) (rd:A1e d d'):A1e (o.getD d) (u.getD d'):=by
 cases o with
 | none=>cases u with
  | none=>exact rd
  | some _=>exact (show False from r).elim
 | some _=>cases u with
  | none=>exact (show False from r).elim
  | some _=>exact r
theorem KV.val {kvs:List (κ×V)} {vs:List (κ×Value)} (r:KV kvs vs) (k:κ):A9g (A7k kvs k) (valueAt vs k):=by
 unfold KV at r
 induction r with
 | nil=>exact True.intro
 | @cons p q ps qs h t ih =>
  obtain ⟨h1,h2⟩:=h;by_cases e:p.1=k
  ·have e':q.1=k:=h1.symm.trans e;have b:valueAt (q::qs) k=some q.2:=by simp [valueAt,Z2h,e']
   rw [A8w e,b];exact h2
  ·have e':¬q.1=k:=λz=>e (h1.trans z);have b:valueAt (q::qs) k=valueAt qs k:=by simp [valueAt,Z2h,e']
   rw [A8j e,b];exact ih
theorem KV.any {kvs:List (κ×V)} {vs:List (κ×Value)} (r:KV kvs vs) (k:κ):(kvs.any λkv=>decide (kv.1=k))=vs.any λkv=>decide (kv.1=k):=by
 unfold KV at r
 induction r with
 | nil=>rfl
 | cons h t ih=>rw [List.any_cons,List.any_cons,ih,h.1]
theorem KV.repl {kvs:List (κ×V)} {vs:List (κ×Value)} (r:KV kvs vs) (k:κ) {y:V} {u:Value} (ry:A1e y u) :
  KV (kvs.map λkv=>if kv.1=k then (kv.1,y) else kv) (vs.map λkv=>if kv.1=k then (kv.1,u) else kv):=by
 unfold KV at r⊢
 induction r with
 | nil=>exact .nil
 | @cons p q ps qs h t ih =>
  rw [Z0p,Z0p];refine .cons ?_ ih;obtain ⟨h1,h2⟩:=h;by_cases e:p.1=k
  ·rw [Z12 e,Z12 (h1.symm.trans e)];exact ⟨h1,ry⟩
  ·rw [Z0t e,Z0t (λz=>e (h1.trans z))];exact ⟨h1,h2⟩
theorem KV.put {kvs:List (κ×V)} {vs:List (κ×Value)} (r:KV kvs vs) (k:κ) {y:V} {u:Value} (ry:A1e y u):KV (A6s kvs k y) (stored vs k u):=by
 unfold A6s stored;rw [r.any k];by_cases e:(vs.any λkv=>decide (kv.1=k))=true
 ·rw [Z12 e,Z12 e];exact r.repl k ry
 ·rw [Z0t e,Z0t e];exact Paired.snoc r ⟨rfl,ry⟩
theorem KV.length {kvs:List (κ×V)} {vs:List (κ×Value)} (r:KV kvs vs):kvs.length=vs.length:=Paired.length r
end
theorem B4j {P:Program} {w:World} {k:Key} {u:Value} (r:A1e (kV k) u):(A0j P w).is k u=true:=by
 cases k with
 | inl i=>obtain ⟨t,e⟩:=(show∃t,u=Value.int i t from r);subst e;exact B0u P w i t
 | inr x=>obtain ⟨t,e⟩:=(show∃t,u=Value.str x t from r);subst e;exact B1c P w x t
theorem A9q {P:Program} {w:World}:∀{ks:List Key} {us:List Value},A1n (ks.map kV) us->ItemsAre (A0j P w) ks us
 | [],_,r=>by rw [List.map_nil] at r;cases r;exact .nil
 | k::ks,_,r=>by
  rw [Z0p] at r
  cases r with
  | cons h t=>exact .cons (B4j h) (A9q t)
abbrev KT (H:Hp):List (List Key×V)->List (List Key×Addr×Value)->Prop:=Paired λp q=>p.1=q.1/\H q.2.1=some (.tup (p.1.map kV))/\A1e p.2 q.2.2
theorem KT.val {H:Hp} {kvs:List (List Key×V)} {xs:List (List Key×Addr×Value)} (r:KT H kvs xs) (k:List Key):A9g (A7k kvs k) ((atKey xs k).map (·.2)):=by
 induction r with
 | nil=>exact True.intro
 | @cons p q ps qs h t ih =>
  obtain ⟨h1,_,h2⟩:=h;by_cases e:p.1=k
  ·have e':q.1=k:=h1.symm.trans e;have b:atKey (q::qs) k=some q.2:=by simp [atKey,Z2h,e']
   rw [A8w e,b];exact h2
  ·have e':¬q.1=k:=λz=>e (h1.trans z);have b:atKey (q::qs) k=atKey qs k:=by simp [atKey,Z2h,e']
   rw [A8j e,b];exact ih
theorem KT.repl {H:Hp} {kvs:List (List Key×V)} {xs:List (List Key×Addr×Value)} (r:KT H kvs xs) (k:List Key) {y:V} {u:Value} (ry:A1e y u) :
  KT H (kvs.map λkv=>if kv.1=k then (kv.1,y) else kv) (xs.map (putAt k u)):=by
 induction r with
 | nil=>exact .nil
 | @cons p q ps qs h t ih =>
  rw [Z0p,Z0p];refine .cons ?_ ih;obtain ⟨h1,h2,h3⟩:=h;unfold putAt;by_cases e:p.1=k
  ·rw [Z12 e,Z12 (h1.symm.trans e)];exact ⟨h1,h2,ry⟩
  ·rw [Z0t e,Z0t (λz=>e (h1.trans z))];exact ⟨h1,h2,h3⟩
theorem KT.put {H:Hp} {kvs:List (List Key×V)} {xs:List (List Key×Addr×Value)} (r:KT H kvs xs) (k:List Key) {b:Addr} {y:V} {u:Value} (hb:H b=some (.tup (k.map kV))) (ry:A1e y u) :
  KT H (A6s kvs k y) (storedH xs k b u):=by
 have e:(kvs.any λkv=>decide (kv.1=k))=(atKey xs k).isSome:=by
  rw [B2d,(r.val k).isSome_eq,Option.isSome_map]
 unfold A6s storedH;rw [e];by_cases q:(atKey xs k).isSome=true
 ·rw [Z12 q,Z12 q];exact r.repl k ry
 ·rw [Z0t q,Z0t q];exact Paired.snoc r ⟨rfl,hb,ry⟩
theorem KT.keeps {H H':Hp} {kvs:List (List Key×V)} {xs:List (List Key×Addr×Value)} (r:KT H kvs xs) (ht:∀b ys,H b=some (.tup ys)->H' b=some (.tup ys)):KT H' kvs xs :=
 Paired.mapP r λ_ _ z=>⟨z.1,ht _ _ z.2.1,z.2.2⟩
section
variable {P:Program} {w:World} {H:Hp} {h:Heap} {a:Addr}
theorem C1z {u:HO} (ok:HOk P w H h) (e:Rd H a u):A1k P w H h a u:=e.ok ok
theorem A8v {kvs:List (Key×V)} (ok:HOk P w H h) (e:Rd H a (.dK kvs)):kvs.length<=sizeLine/\(a == sysModules)=false/\∃vs,KV kvs vs/\h.DictOf (A0j P w) a vs :=
 show A1k P w H h a (.dK kvs) from C1z ok e
theorem C0j {kvs:List (Key×V)} (ok:HOk P w H h) (e:H a=some (.dK kvs)):kvs.length<=sizeLine/\(a == sysModules)=false/\∃vs,KV kvs vs/\h.DictOf (A0j P w) a vs:=A8v ok (.inl e)
theorem B2b {ks:List Key} (ok:HOk P w H h) (e:H a=some (.tup (ks.map kV))):(tupleKind (A0j P w)).is h ks a:=by
 obtain ⟨_,its,r,o,h1,h2,n,h3⟩:=(show A1k P w H h a (.tup (ks.map kV)) from ok a _ e);exact ⟨o,its.toArray,n,h1,h2,h3,by simpa using A9q r⟩
theorem A9x {kvs:List (List Key×V)} (ok:HOk P w H h) (e:Rd H a (.dT kvs)):kvs.length<=sizeLine/\(a == sysModules)=false/\
  ∃xs,KT H kvs xs/\h.DictOfH (tupleKind (A0j P w)) a xs:=by
 obtain ⟨z,y,xs,r,o,es,ep,h1,h2,h3,h4,h5⟩:=(show A1k P w H h a (.dT kvs) from C1z ok e);refine ⟨z,y,xs,r,o,es,ep,h1,h2,h3,h4,λx hx=> ?_,h5⟩
 have all:∀{l:List (List Key×V)} {m:List (List Key×Addr×Value)},KT H l m->∀x∈m,(tupleKind (A0j P w)).is h x.1 x.2.1:=by
  intro l m q
  induction q with
  | nil=>intro x hx;exact nomatch hx
  | @cons p q ps qs hq t ih =>
   intro x hx;rcases Z0e.mp hx with e | hx
   ·subst e;exact B2b ok (by rw [<-hq.1];exact hq.2.1)
   ·exact ih x hx
 exact all r x hx
theorem C4u {kvs:List (List Key×V)} (ok:HOk P w H h) (e:H a=some (.dT kvs)):kvs.length<=sizeLine/\(a == sysModules)=false/\
  ∃xs,KT H kvs xs/\h.DictOfH (tupleKind (A0j P w)) a xs:=A9x ok (.inl e)
end
def C1g (H:Hp) (a:Addr) (y:V) (r:Option V):Prop :=
 (∃kvs k,Rd H a (.dK kvs)/\y=kV k/\r=A7k kvs k)\/∃kvs k b,Rd H a (.dT kvs)/\y= .ref b/\H b=some (.tup (k.map kV))/\r=A7k kvs k
def B8h (H:Hp) (a:Addr) (y v:V) (H':Hp):Prop :=
 (∃kvs k,H a=some (.dK kvs)/\y=kV k/\kvs.length<sizeLine/\H'=upd H a (.dK (A6s kvs k v)))\/
 ∃kvs k b,H a=some (.dT kvs)/\y= .ref b/\H b=some (.tup (k.map kV))/\kvs.length<sizeLine/\H'=upd H a (.dT (A6s kvs k v))
theorem B8h.k {H:Hp} {a:Addr} {kvs:List (Key×V)} {k:Key} {v:V} (e:H a=some (.dK kvs)) (hl:kvs.length<sizeLine):B8h H a (kV k) v (upd H a (.dK (A6s kvs k v))):= .inl ⟨kvs,k,e,rfl,hl,rfl⟩
theorem B8h.t {H:Hp} {a b:Addr} {kvs:List (List Key×V)} {k:List Key} {v:V} (e:H a=some (.dT kvs)) (eb:H b=some (.tup (k.map kV))) (hl:kvs.length<sizeLine) :
  B8h H a (.ref b) v (upd H a (.dT (A6s kvs k v))):= .inr ⟨kvs,k,b,e,rfl,eb,hl,rfl⟩
section
variable {X:Cx} {pins:List (Addr×Obj)} {σ:St} {H:Hp} {s:Shared} {a:Addr} {y v:V} {u r:Value} {o:Option V} {A:Around} {E:Value->Shared->Prop}
theorem Inv.big (I:Inv X pins σ H s):sysModules<s.heap.objs.size:=by
 have h:mainGlobals<s.heap.objs.size:=(I.mod.glob.keeps I.bk).lt;exact Nat.lt_trans (by decide) h
theorem B5c {Q:Value->Shared->Prop} (hu:A.units+1<cLine) (I:Inv X pins σ H s) (g:C1g H a y (some v)) (ry:A1e y u) (h:∀w' s',Inv X pins σ H s'->A1e v w'->Q w' s') :
  wpAny (model X.prog X.w) A (getItem (.ref a) u) Q E s:=by
 rcases g with ⟨kvs,k,e,ey,l⟩ | ⟨kvs,k,b,e,ey,eb,l⟩
 ·subst ey;obtain ⟨z,hd,vs,rel,dd⟩:=A8v I.hok e;obtain ⟨w',hw,rw'⟩:=A9g.some_of (v:=v) (o:=valueAt vs k) (by rw [l];exact rel.val k);exact wpAny_getItem_of (B4j ry) dd.mapOf hw (h w' _ (I.tok _) rw')
 ·subst ey;cases (show u=Value.ref b from ry);obtain ⟨z,hd,xs,rel,dd⟩:=A9x I.hok e;obtain ⟨w',hw,rw'⟩:=A9g.some_of (v:=v) (o:=(atKey xs k).map (·.2)) (by rw [l];exact rel.val k);obtain ⟨p,hp,hp2⟩:=Z0i.mp hw;refine wpAny_getItem_heap (tupleKind_room_in1 hu) (B2b I.hok eb) dd hp ?_;rw [hp2];exact h w' _ (I.tok _) rw'
theorem B1e {h':Heap} {t':Nat} {ob:HO} (I:Inv X pins σ H s) (mu:Mut (H a)) (hs:Heap.SameBut a s.heap h') (he:∃q,h'.get? a=some q) (new:A1k X.prog X.w (upd H a ob) h' a ob) :
  Inv X pins σ (upd H a ob) { s with heap:=h',toks:=t' } :=
 I.write (x:=a) (e:=a) mu (.inl rfl) (λb q hb z=>(hs.2 b hb).trans z) he new
theorem B8n {P:Program} {w:World} {H':Hp} {h':Heap} {kvs:List (Key×V)} {vs:List (Key×Value)} (z:kvs.length<=sizeLine) (hd:(a == sysModules)=false) (rel:KV kvs vs) (dd:h'.DictOf (A0j P w) a vs) :
  A1k P w H' h' a (.dK kvs):=⟨z,hd,vs,rel,dd⟩
theorem B4k {H':Hp} {Q:Unit->Shared->Prop} (hu:A.units+1<cLine) (I:Inv X pins σ H s) (g:B8h H a y v H') (ry:A1e y u) (rv:A1e v r) (h:∀s',Inv X pins σ H' s'->Q () s') :
  wpAny (model X.prog X.w) A (setItem (.ref a) u r) Q E s:=by
 rcases g with ⟨kvs,k,e,ey,l,eH⟩ | ⟨kvs,k,b,e,ey,eb,l,eH⟩
 ·subst ey eH;obtain ⟨z,hd,vs,rel,dd⟩:=C0j I.hok e;have hz:vs.length<=sizeLine:=by rw [<-rel.length];exact z
  have hl:(A6s kvs k v).length<=sizeLine:=by have:=A4s kvs k v;omega
  refine wpAny_setItem_pairs (hsz:=hz) (B4j ry) dd λh' dd' hs=>h _ ?_;have he:∃q,h'.get? a=some q:=let ⟨q,_,_,hq,_⟩:=dd';⟨q,hq⟩;exact B1e I (by rw [e];exact True.intro) hs he (B8n hl hd (rel.put k rv) dd')
 ·subst ey eH;cases (show u=Value.ref b from ry);obtain ⟨z,hd,xs,rel,dd⟩:=C4u I.hok e;have hz:xs.length<=sizeLine:=by rw [<-Paired.length rel];exact z
  have hl:(A6s kvs k v).length<=sizeLine:=by have:=A4s kvs k v;omega
  refine wpAny_setItem_heap (hsz:=hz) (tupleKind_room_in1 hu) (B2b I.hok eb) dd λh' dd' hs=>h _ ?_;obtain ⟨q,es,ep,hq,h2,h3,h4,_,h5⟩:=dd';refine B1e I (by rw [e];exact True.intro) hs ⟨q,hq⟩ ⟨hl,hd,_,(rel.put k eb rv).keeps λc ys ec=> ?_,q,es,ep,hq,h2,h3,h4,h5⟩;rw [A0e (A1g ec e (λz=>nomatch z))];exact ec
end
section
variable {X:Cx} {pins:List (Addr×Obj)} {σ:St} {H:Hp} {s:Shared} {a:Addr} {kvs:List (Key×V)} {k:Key} {u:Value} {A:Around} {E:Value->Shared->Prop}
end
def C4w (i:Expr):Prop:=∀ov iv,subscripted i false ov iv=operate [ov,iv] (getItem ov iv)
theorem B6h {prog:Program} {w:World} {A:Around} {E:Value->Shared->Prop} {s:Shared} {env:Env} {value slice:Expr} {pos:Pos} {T id:String} {Q:Value->Shared->Prop}
  (hl:typeLookup (.type T) "__getitem__"=pure (some (.builtin id))) (hs:C4w slice)
  (h:wpAny (model prog w) A (eval value env) (λo s₁=>wpAny (model prog w) A (eval slice env) (λi s₂=>s₂.TypeIs o T/\wpAny (model prog w) A (getItem o i) Q E s₂) E s₁) E s) :
  wpAny (model prog w) A (eval (.Subscript value slice pos) env) Q E s:=by
 refine Subscript_ (Z10 h (λo s₁ h₁=>Z10 h₁ (λi s₂ h₂=> ?_) λ_ _ x=>x) λ_ _ x=>x);obtain ⟨hT,h₂⟩:=h₂;unfold subscriptTail;refine Z00 ?_;rw [getitemInPython_of_ne hT.not_modules];refine Z00 (wpAny_specialOf hT hl ?_)
 have fin:wpAny (model prog w) A (subscripted slice false o i) (λr s₃=>wpAny (model prog w) A (letTemporaryGo value o r >>= λ_=>pure r) Q E s₃) E s₂:=by
  rw [hs o i];exact wpAny_operating (Z10 h₂ (λr s₃ h₃=>Z00 (wpAny_letTemporaryGo (Z04 h₃))) λ_ _ x=>x)
 first
  | exact Z04 (Z00 fin)
  | exact Z00 (Z04 (Z00 fin))
  | exact Z00 fin
theorem B0y {X:Cx} {pins:List (Addr×Obj)} {σ:St} {H:Hp} {s:Shared} {a:Addr} {y:V} {o:Option V} (I:Inv X pins σ H s) (g:C1g H a y o):s.TypeIs (.ref a) "dict":=by
 rcases g with ⟨kvs,k,e,_,_⟩ | ⟨kvs,k,b,e,_,_,_⟩
 ·obtain ⟨_,_,vs,_,dd⟩:=A8v I.hok e;exact dd.typeIs
 ·obtain ⟨_,_,xs,_,dd⟩:=A9x I.hok e;exact dd.typeIs
def C5g (td ty:TE):TE:=λσ H Q=>td σ H λx H1=>ty σ H1 λy H2=>∃a v,x= .ref a/\C1g H2 a y (some v)/\Q v H2
def C4z (td ty tv:TE):TS:=λD σ H=>tv σ H λv H1=>td σ H1 λx H2=>ty σ H2 λy H3=>∃a H4,x= .ref a/\B8h H3 a y v H4/\D.nx σ H4
section
variable {X:Cx} {o i e value:Expr} {pos pos' tpos:Pos} {td ty tv:TE}
theorem B1a (hu:X.A.units+1<cLine) (ho:PE X o td) (hi:PE X i ty) (hs:C4w i):PE X (.Subscript o i pos) (C5g td ty):=by
 intro pins s σ H Q I h;refine B6h PySem.F.slot_dict_getitem.lookup hs (thn (ho pins s σ H _ I h) ?_);rintro u s1 ⟨x,H1,I1,rx,q1⟩;refine thn (hi pins s1 σ H1 _ I1 q1) ?_;rintro iv s2 ⟨y,H2,I2,ry,a,v,ex,g,q2⟩;subst ex;obtain rfl:u=Value.ref a:=rx;exact ⟨B0y I2 g,B5c hu I2 g ry λw' s3 I3 rw'=>⟨v,H2,I3,rw',q2⟩⟩
theorem B5y (hu:X.A.units+1<cLine) (ho:PE X o td) (hi:PE X i ty) (hv:PE X value tv) (hs:swapsWith value (some (.Subscript o i pos')) pos.line X.env=pure false) :
  PS X (.Assign [.Subscript o i pos'] value pos) (C4z td ty tv):=by
 intro pins s σ H D I h;refine wpAny_Assign_Subscript (thn (hv pins s σ H _ I h) ?_) hs;rintro r s1 ⟨v,H1,I1,rv,q1⟩;refine thn (ho pins s1 σ H1 _ I1 q1) ?_;rintro u s2 ⟨x,H2,I2,rx,q2⟩;refine thn (hi pins s2 σ H2 _ I2 q2) ?_;rintro iv s3 ⟨y,H3,I3,ry,a,H4,ex,g,q3⟩;subst ex;obtain rfl:u=Value.ref a:=rx;exact B4k hu I3 g ry rv λs4 I4=>⟨σ,H4,I4,q3⟩
end
theorem B2u {P:Program} {w:World} {H:Hp} (h:Heap) (hb:sysModules<h.objs.size):A1k P w H (h.push { cls:= .type "dict",data:= .dict #[] }) h.objs.size (.dK []) :=
 ⟨Z1e _,Z22.mpr (Ne.symm (Z0h hb)),[],.nil,Heap.DictOf.new h⟩
theorem B6y {P:Program} {w:World} {H:Hp} (h:Heap) (hb:sysModules<h.objs.size):A1k P w H (h.push { cls:= .type "dict",data:= .dict #[] }) h.objs.size (.dT []) :=
 ⟨Z1e _,Z22.mpr (Ne.symm (Z0h hb)),[],.nil,_,#[],0,Z0c _ rfl,⟨rfl,rfl,rfl⟩,rfl,rfl,List.nodup_nil⟩
def C3b:TE:=λ_ H Q=>∀p,H p=none->Q (.ref p) (upd H p (.dK []))
def C1m:TE:=λ_ H Q=>∀p,H p=none->Q (.ref p) (upd H p (.dT []))
section
variable {X:Cx} {pos:Pos}
theorem B2h:PE X (.Dict [] [] pos) C3b:=λpins s σ H Q I h =>
 wpAny_Dict_empty ⟨.ref s.heap.objs.size,_,I.laid (a:=s.heap.objs.size) (o:= .dK []) (t':=s.toks) (λ_ _ q=>Z01 _ q) (Z09 _) (B2u s.heap I.big),rfl,h _ (I.hok.fresh (Z09 _))⟩
theorem A9e:PE X (.Dict [] [] pos) C1m:=λpins s σ H Q I h =>
 wpAny_Dict_empty ⟨.ref s.heap.objs.size,_,I.laid (a:=s.heap.objs.size) (o:= .dT []) (t':=s.toks) (λ_ _ q=>Z01 _ q) (Z09 _) (B6y s.heap I.big),rfl,h _ (I.hok.fresh (Z09 _))⟩
end
def B6a:List (TE×TE)->St->Hp->(List (V×V)->Hp->Prop)->Prop
 | [],_,H,Q=>Q [] H
 | (tk,tv)::r,σ,H,Q=>tk σ H λx H1=>tv σ H1 λy H2=>B6a r σ H2 λps H3=>Q ((x,y)::ps) H3
abbrev VV:List (V×V)->List (Value×Value)->Prop:=Paired λp q=>A1e p.1 q.1/\A1e p.2 q.2
def PPs (X:Cx) (pos:Pos) (keys:List (Option Expr)) (values:List Expr) (trs:List (TE×TE)):Prop :=
 ∀(pins:List (Addr×Obj)) (s:Shared) (σ:St) (H:Hp) (Q:List (V×V)->Hp->Prop),Inv X pins σ H s->B6a trs σ H Q->
  wpAny (model X.prog X.w) X.A (evalPairs (pairTrees keys values X.env pos)) (λvs s'=>∃ps H',Inv X pins σ H' s'/\VV ps vs/\Q ps H') X.xe s
theorem B9q {X:Cx} {pos:Pos}:PPs X pos [] [] []:=λpins s σ H Q I h=>pairTrees_nil_walk ⟨[],H,I,.nil,h⟩
theorem A8i {X:Cx} {pos:Pos} {k v:Expr} {ks:List (Option Expr)} {vs:List Expr} {tk tv:TE} {trs:List (TE×TE)} (hk:PE X k tk) (hv:PE X v tv) (hr:PPs X pos ks vs trs) :
  PPs X pos (some k::ks) (v::vs) ((tk,tv)::trs):=λpins s σ H Q I h =>
 pairTrees_cons_walk (thn (hk pins s σ H _ I h) λu s1 ⟨x,H1,I1,rx,q1⟩=>thn (hv pins s1 σ H1 _ I1 q1) λw2 s2 ⟨y,H2,I2,ry,q2⟩ =>
  thn (hr pins s2 σ H2 _ I2 q2) (by rintro ws s3 ⟨ps,H3,I3,rel,q3⟩;exact ⟨(x,y)::ps,H3,I3,.cons ⟨rx,ry⟩ rel,q3⟩))
def A6z (kvs more:List (Key×V)):List (Key×V):=more.foldl (λacc kv=>A6s acc kv.1 kv.2) kvs
theorem KV.merge:∀{more:List (Key×V)} {rs:List (Key×Value)} {kvs:List (Key×V)} {vs:List (Key×Value)},KV more rs->KV kvs vs->KV (A6z kvs more) (merged vs rs):=by
 intro more rs kvs vs r;unfold KV at r
 induction r generalizing kvs vs with
 | nil=>intro q;exact q
 | @cons p q ps qs h t ih =>
  intro r0
  have e:KV (A6s kvs p.1 p.2) (stored vs q.1 q.2):=by
   have:=r0.put p.1 h.2;rw [<-h.1];exact this
  exact ih e
theorem A5b:∀(more kvs:List (Key×V)),(A6z kvs more).length<=kvs.length+more.length
 | [],kvs=>by show kvs.length<=kvs.length+0;omega
 | p::r,kvs=>by
  have h1:=A5b r (A6s kvs p.1 p.2);have h2:=A4s kvs p.1 p.2;show (A6z (A6s kvs p.1 p.2) r).length<=_;rw [Z0y];omega
theorem A7o {P:Program} {w:World}:∀{kvs:List (Key×V)} {ws:List (Value×Value)},VV (kvs.map λkv=>(kV kv.1,kv.2)) ws->∃rs,Carries (A0j P w) ws rs/\KV kvs rs
 | [],_,r=>by rw [List.map_nil] at r;cases r;exact ⟨[],True.intro,.nil⟩
 | p::kvs,_,r=>by
  rw [Z0p] at r
  cases r with
  | @cons a b as bs h t =>
   obtain ⟨rs,c,q⟩:=A7o (P:=P) (w:=w) t;obtain ⟨b1,b2⟩:=b;exact ⟨(p.1,b2)::rs,⟨B4j h.1,rfl,c⟩,.cons ⟨rfl,h.2⟩ q⟩
def C5c (trs:List (TE×TE)):TE:=λσ H Q=>∀p,H p=none->B6a trs σ (upd H p (.dK [])) λps H2=>H2 p=some (.dK [])/\∃kvs:List (Key×V),ps=kvs.map (λkv=>(kV kv.1,kv.2))/\kvs.length<=15/\Q (.ref p) (upd H2 p (.dK (A6z [] kvs)))
theorem C0c {X:Cx} {pos:Pos} {keys:List (Option Expr)} {values:List Expr} {trs:List (TE×TE)} (h:PPs X pos keys values trs) (hall:keys.all (·.isSome)=true) (hl:keys.length=values.length) (h0:keys≠[])
  (h15:keys.length<=15):PE X (.Dict keys values pos) (C5c trs):=by
 intro pins s σ H Q I q;have hn:=I.hok.fresh (Z09 s.heap.objs.size);have I1:=I.laid (a:=s.heap.objs.size) (o:= .dK []) (h':=s.heap.push { cls:= .type "dict",data:= .dict #[] }) (t':=s.toks) (λ_ _ q=>Z01 _ q) (Z09 _) (B2u s.heap I.big);refine wpAny_Dict_walk (knd:=A0j X.prog X.w) hall hl h0 h15 (thn (h pins _ σ _ _ I1 (q _ hn)) ?_);rintro ws s2 ⟨ps,H2,I2,rel,e,kvs,ep,lk,q2⟩;subst ep;obtain ⟨rs,c,rk⟩:=A7o (P:=X.prog) (w:=X.w) rel;obtain ⟨z,hd,vs0,r0,dd⟩:=C0j I2.hok e;cases r0;refine ⟨rs,c,dd,λh' dd' hs=>⟨.ref s.heap.objs.size,_,?_,rfl,q2⟩⟩
 have hz:(A6z [] kvs).length<=sizeLine:=by
  have h1:=A5b kvs [];rw [List.length_nil] at h1;rw [sizeLine_eq];omega
 have he:∃q,h'.get? s.heap.objs.size=some q:=let ⟨q,_,_,hq,_⟩:=dd';⟨q,hq⟩;exact B1e I2 (by rw [e];exact True.intro) hs he (B8n hz hd (rk.merge .nil) dd')
structure M1 (X:Cx) (o:Expr) (m:Str) (apos:Pos) (e:Expr) (cpos:Pos):Prop where
 base:attributeBase o m X.env (eval o X.env)=eval o X.env
 few:((backTo cpos (starEach [e] X.env)).all (λx=> !x.1)&&(backToKw cpos (keywordEach [] X.env)).all (λx=>x.1.isSome)
  && decide (([e]:List Expr).length+([]:List Keyword).length+(if ([]:List Keyword).isEmpty then 0 else 1)<30))=true
 line:(apos.endLine == cpos.line)=true
 trees:backTo cpos (starEach [e] X.env)=[(false,eval e X.env)]
def IsD (H:Hp) (a:Addr):Prop:=(∃kvs,Rd H a (.dK kvs))\/∃kvs,Rd H a (.dT kvs)
theorem C2c {X:Cx} {pins:List (Addr×Obj)} {σ:St} {H:Hp} {s:Shared} {a:Addr} (I:Inv X pins σ H s) (d:IsD H a) :
  s.TypeIs (.ref a) "dict"/\(∀b,Value.ref a= .ref b->∃ob,s.heap.get? b=some ob/\ob.dict=none)/\(a == sysModules)=false:=by
 rcases d with ⟨kvs,e⟩ | ⟨kvs,e⟩
 ·obtain ⟨_,hd,vs,_,dd⟩:=A8v I.hok e;refine ⟨dd.typeIs,λb q=> ?_,hd⟩;cases q;obtain ⟨ob,_,_,h1,h2,_⟩:=dd;exact ⟨ob,h1,h2.2.1⟩
 ·obtain ⟨_,hd,xs,_,dd⟩:=A9x I.hok e;refine ⟨dd.typeIs,λb q=> ?_,hd⟩;cases q;obtain ⟨ob,_,_,h1,h2,_⟩:=dd;exact ⟨ob,h1,h2.2.1⟩
section
variable {X:Cx} {pins:List (Addr×Obj)} {σ:St} {H:Hp} {s:Shared} {a:Addr} {y d:V} {u r:Value} {o:Option V} {A:Around} {E:Value->Shared->Prop}
theorem C1l {Q:Value->Shared->Prop} (hu:A.units+1<cLine) (I:Inv X pins σ H s) (g:C1g H a y o) (ry:A1e y u) (h:∀w' s',Inv X pins σ H s'->A1e (o.getD .non) w'->Q w' s') :
  wpAny (model X.prog X.w) A (call (.builtin "dict.get") [.ref a,u]) Q E s:=by
 rcases g with ⟨kvs,k,e,ey,l⟩ | ⟨kvs,k,b,e,ey,eb,l⟩
 ·subst ey;obtain ⟨z,hd,vs,rel,dd⟩:=A8v I.hok e;refine call_meetsIn PySem.F.slot_dict_get dd.typeIs PySem.F.entry_dict_get (PySem.F.args_dict_get_2 _ _) (meets_dict_get (A0j X.prog X.w) a (B4j ry) hd) ⟨_,dd.mapOf,h _ _ (I.tok _) ?_⟩;rw [l];exact (rel.val k).getD rfl
 ·subst ey;cases (show u=Value.ref b from ry);obtain ⟨z,hd,xs,rel,dd⟩:=A9x I.hok e;refine call_meetsIn PySem.F.slot_dict_get dd.typeIs PySem.F.entry_dict_get (PySem.F.args_dict_get_2 _ _) (meetsH_dict_get (tupleKind (A0j X.prog X.w)) a b hd) ⟨tupleKind_room_in1 hu,k,xs,B2b I.hok eb,dd,h _ _ (I.tok _) ?_⟩;rw [l];exact (rel.val k).getD rfl
end
def C1v (td ty:TE):TE:=λσ H Q=>td σ H λx H1=>∃a,x= .ref a/\IsD H1 a/\ty σ H1 λy H2=>∃o,C1g H2 a y o/\Q (o.getD .non) H2
section
variable {X:Cx} {o e f:Expr} {apos cpos:Pos} {td ty tx:TE}
theorem B7s (hu:X.A.units+1<cLine) (ho:PE X o td) (he:PE X e ty) (m:M1 X o "get" apos e cpos):PE X (.Call (.Attribute o "get" apos) [e] [] cpos) (C1v td ty):=by
 intro pins s σ H Q I h;refine wpAny_Call_method m.base m.few m.line PySem.F.plainAttrs_dict PySem.F.slot_dict_get PySem.F.type_dict_get (thn (ho pins s σ H _ I h) ?_);rintro u s1 ⟨x,H1,I1,rx,a,ex,d,q1⟩;subst ex;obtain rfl:u=Value.ref a:=rx;obtain ⟨t1,t2,_⟩:=C2c I1 d;refine ⟨t1,t2,?_⟩;rw [m.trees];refine Calls.callWith_builtin rfl (Calls.evalArgs_plain (Calls.spliced_cons (thn (he pins s1 σ H1 _ I1 q1) ?_)));rintro iv s2 ⟨y,H2,I2,ry,ov,g,q2⟩;refine Calls.spliced_nil ?_;exact C1l hu I2 g ry λw' s3 I3 rw'=>⟨_,H2,I3,rw',q2⟩
end
section
variable {X:Cx} {pins:List (Addr×Obj)} {σ:St} {H:Hp} {s:Shared} {a:Addr} {kvs:List (Key×V)} {A:Around} {E:Value->Shared->Prop}
end
section
variable {X:Cx} {pins:List (Addr×Obj)} {σ:St} {H:Hp} {s:Shared} {a:Addr} {y:V} {u:Value} {A:Around} {E:Value->Shared->Prop}
end
end L2
namespace Att
open PySem PySem.W PySem.Calls PyProof.Rows
theorem A7d {P:Params} {h:Heap}:∀(ns:List Int) (vs:List Value),WellAll P h vs (ns.map WData.int)->IntsAre vs ns:=by
 intro ns
 induction ns with
 | nil =>
  intro vs w;rw [List.map_nil] at w;cases w;exact .nil
 | cons n ns ih =>
  intro vs w;rw [Z0p] at w
  cases w with
  | cons a b =>
   cases a
   exact .cons _ _ (ih _ b)
theorem B6o {l:OpenLaw} {n:Nat} (hn:l.most=some n) {P:Params} {h:Heap} {args:List WData} {vals:List Value}
  (hpre:l.row.toRowW.claim.pre args=true) (hwl:WellAll P h vals args) :
  ∃a vs ns,vals=[Value.ref a]/\args=[WData.list (ns.map WData.int)]/\h.get? a=some { cls:= .type "list",data:= .seq vs.toArray }/\IntsAre vs ns/\ns.length<=n:=by
 have hsh:WShape.hasAll [] args [.list .int]=true:=(pre_splitW hpre).1;have hc:l.pre.holds [] { args:=args }=true:=(pre_splitW hpre).2;obtain ⟨d,r,rfl,h1,h2⟩:=hasAllW_cons hsh;obtain rfl:=hasAllW_nil h2;obtain ⟨xs,rfl,h3⟩:=hasW_list h1;obtain ⟨ns,rfl⟩:=items_int h3
 have hlen:ns.length<=n:=by
  unfold OpenLaw.pre at hc
  have h4:(WTm.not (.lt (.lit (.int (n:Int))) (.len (.arg 0)))).holds [] { args:=[.list (ns.map .int)] }=true:=by
   have h4:=(holds_andW hc).1;rw [hn] at h4;exact h4
  have h5:=condW_of h4 (w_not (w_lt w_lit (w_len_list (w_arg rfl))));rw [Z08] at h5;refine Nat.le_of_not_lt λq=> ?_;have q':(n:Int)<((ns.length:Nat):Int):=by omega
  first
   | (rw [Z20 q'] at h5;exact absurd h5 (by decide))
   | (simp at h5;omega)
 cases hwl with
 | cons w1 w2 =>
  cases w2
  cases w1 with
  | list ho hall=>exact ⟨_,_,ns,rfl,rfl,ho,A7d ns _ hall,hlen⟩
theorem B5w (l:OpenLaw) (args:List WData):l.row.toRowW.claim.post args (.bool true) args=true :=
 postW_of (r:=l.row.toRowW) (X:=(true == true))
  (show WShape.has [] (.bool true) .bool=true by first | rfl | decide | simp [WShape.has,WShape.arms,WShape.armsAll])
  (show (WTm.eq .res (.lit (.bool true))).value [] { args:=args,res:=some (.bool true),after:=args }=some (.bool (true == true)) from w_eq_bool (w_res rfl) w_lit) rfl
theorem attach_call {l:OpenLaw} {n:Nat} {q:Program} {loose:List Str} {XP:(Str->Option Value)->Heap->Prop} {YP:World->Heap->Prop} {d:DefRec}
  (hn:l.most=some n) (hdf:d.params.defaults=[])
  (call:∀(w:World) (s₀ s₁:Shared) (mg mb:Str->Option Value) (fa:Addr) (o:Obj) (pm cd doc:Value) (a:Addr) (vs:List Value) (ns:List Int),
   Ground q loose [] XP w s₀ mg mb s₁.heap->YP w s₁.heap->
   s₁.heap.get? fa=some o->o.data= .func (docDef d.name d.params d.body d.scope pm cd doc)->s₁.heap.CodeRec cd d.name->mg d.name=some (.ref fa)->
   s₁.heap.get? a=some { cls:= .type "list",data:= .seq vs.toArray }->IntsAre vs ns->ns.length<=n->s₁.gens= #[]->
   codeAny (model l.prog w) callerA (.call (.ref fa) ⟨[.ref a],[]⟩) (λr s'=>r= .ok (.ret (.bool true))/\OldK s₁.heap s'.heap/\s'.os=s₁.os/\AllBare s'.gens) s₁) :
  WalkO q loose XP YP l.row.toRowW d [] (λf vs=>PySem.call f vs):=by
 intro w s₀ s₁ mg mb G Y fa o pm cd doc dV kV ho hd hcd hD hmg hg args vals as hpre hlay hrd hwl hlo;obtain rfl:dV= .none:=Dflts.none hD hdf;obtain rfl:kV= .none:=Dflts.noKw hD;obtain ⟨a,vs,ns,rfl,rfl,hobj,hints,hlen⟩:=B6o hn hpre hwl;refine enter_call (codeAny_mono (call w s₀ s₁ mg mb fa o pm cd doc a vs ns G Y ho (fd_plain hd) hcd hmg hobj hints hlen hg) λr s' hq=> ?_);obtain ⟨rfl,h2,h3,h4⟩:=hq;exact ⟨.inl ⟨.bool true,.bool true,[],rfl,λ_=>rfl,.bool true,B5w l _,λ_=>⟨List.Pairwise.nil,λ_ hm=>(nomatch hm)⟩⟩,h2,h3,h4⟩
section
variable {prog:Program} {w:World} {A:Around} {E:Value->Shared->Prop} {s:Shared} {K:Frag}
end
end Att
namespace L2
open PySem PySem.Spec PyProof.Rows
theorem A9y:∀{vs:List Value} {ns:List Int},IntsAre vs ns->A1n (ns.map V.int) vs
 | _,_,.nil=> .nil
 | _,_,.cons n t h=> .cons ⟨t,rfl⟩ (A9y h)
def C5b (H:Hp):Prop:=∀b,H b=none\/∃o xs,H b=some (.frz o (.lst xs))
theorem B7e {P:Program} {w:World} {K:Frag} {mg mb:Str->Option Value} {CX:CXT} {k:Nat} {fa a:Addr} {fd:FuncData} {x:Str} {sp:Sp} {s₁:Shared} {vs:List Value} {ns:List Int}
  (KX:K.In s₁.heap) (hns:s₁.heap.Ns mainGlobals mg) (hb:s₁.heap.Ns builtinsNs mb) (hbb:∀x:Str,x≠"__name__"->mb x=bootBuiltins x) (hlim:s₁.heap.NoLimit) (hg:s₁.gens= #[])
  (ha:s₁.heap.get? a=some { cls:= .type "list",data:= .seq vs.toArray }) (hi:IntsAre vs ns) (hl:ns.length<=sizeLine) (hr:A4i k callerA)
  (F:∀base:Heap,K.In base->base.Ns mainGlobals mg->A5j P w K mg base CX k fa fd [x] sp) (hbind:∀(s:Shared) (u:Value),BindsTo s fd ⟨[u],[]⟩ [(x,u)])
  (hsp:∀H:Hp,C5b H->SqL K H a (ns.map V.int)->sp [.ref a] H (λv _=>v= .bl true) λ_ _ _=>False)
  (hCX:∀H e s',CX [] H s₁ (λ_ _ _=>False) e s'->False) :
  codeAny (model P w) callerA (.call (.ref fa) ⟨[.ref a],[]⟩) (λr s'=>r= .ok (.ret (.bool true))/\OldK s₁.heap s'.heap/\s'.os=s₁.os/\AllBare s'.gens) s₁:=by
 have rv:=A9y hi;have lenV:=hi.length
 have core:∀H:Hp,C5b H->SqL K H a (ns.map V.int)->HOk P w H s₁.heap->(∀b,H b≠none->b=a)->(H a≠none->K.lookup a=none)->
   codeAny (model P w) callerA (.call (.ref fa) ⟨[.ref a],[]⟩) (λr s'=>r= .ok (.ret (.bool true))/\OldK s₁.heap s'.heap/\s'.os=s₁.os/\AllBare s'.gens) s₁:=by
  intro H hO hS hok hA hK;have base_of:∀{b:Addr} {o:Obj},s₁.heap.get? b=some o->H b=none->(B7v s₁.heap H).get? b=some o:=λe n=>B8e e n
  have noA:∀{b:Addr} {o:Obj} {es:Array DictEntry} {ep:Nat},s₁.heap.get? b=some o->o.data= .dict es ep->H b=none:=λ{b o es ep} e d=>by
   cases q:H b with
   | none=>rfl
   | some u =>
    have e':b=a:=hA b (by rw [q];simp);subst e';rw [ha] at e;cases e;have d':Data.seq vs.toArray _=Data.dict es ep:=d;cases d'
  have nsK:∀{b:Addr} {m:Str->Option Value},s₁.heap.Ns b m->(B7v s₁.heap H).Ns b m:=λ{b m} ⟨o,es,ep,e,d,r⟩=>⟨o,es,ep,base_of e (noA e d),d,r⟩
  have hKb:K.In (B7v s₁.heap H):=λb o e=>base_of (KX b o e) (by
   cases q:H b with
   | none=>rfl
   | some u =>
    have e':b=a:=hA b (by rw [q];simp);subst e'
    rw [hK (by rw [q];simp)] at e;cases e)
  have hM:Mod K mg (B7v s₁.heap H):=⟨hKb,nsK hns,⟨mb,nsK hb,hbb⟩,let ⟨mc,h1,h2⟩:=hlim;⟨mc,nsK h1,h2⟩⟩;have e0:C1b P w K mg (B7v s₁.heap H) callerA [] s₁ H:=⟨rfl,hM,λb o e=>C0r e,Nat.le_of_eq (B5e _ _),trivial,λb hb=>absurd (show b∈([]:List Addr) from hb) (by simp),hok,.of_eq hg⟩;refine codeAny_mono ((F _ hKb (nsK hns)).run callerA [] s₁ H ⟨[.ref a],[]⟩ [.ref a] [.ref a] _ _ hr e0 (hbind s₁ (.ref a)) (.cons rfl .nil) (hsp H hO hS)) λr s' h=> ?_
  cases r with
  | error e=>exact (hCX H e s' h).elim
  | ok fl =>
   cases fl with
   | next=>exact False.elim h
   | brk=>exact False.elim h
   | cont=>exact False.elim h
   | ret u =>
    obtain ⟨v,H',os,bare,un,hok',r',q⟩:=h;have q':v= .bl true:=q;subst q';obtain rfl:u=Value.bool true:=r';refine ⟨rfl,OldK.of_keep λb o e=> ?_,os,bare⟩
    cases q:H b with
    | none=>exact un.keep b o e q (by intro z;exact absurd (show b∈([]:List Addr) from z) (by simp)) (by simp)
    | some u =>
     rcases hO b with z | ⟨ob,xs,z⟩
     ·rw [q] at z;cases z
     ·have z2:=un.frzs b ob _ z;obtain ⟨e1,_⟩:=hok b _ z;obtain ⟨e2,_⟩:=hok' b _ z2;rw [e] at e1;cases e1;exact e2
 cases hk:K.lookup a with
 | some o =>
  have e:=KX a o hk;rw [ha] at e;cases e;refine core (λ_=>none) (λ_=> .inl rfl) (.inr ⟨_,vs.toArray,_,hk,rfl,rfl,rfl,by rw [Z0g,lenV];exact hl,by simpa using rv⟩) (λb u z=>by have z':(none:Option HO)=some u:=z;cases z') (λb z=>absurd rfl z) λz=>absurd rfl z
 | none =>
  refine core (λb=>if b=a then some (.frz { cls:= .type "list",data:= .seq vs.toArray } (.lst (ns.map V.int))) else none) (λb=> ?_) (.inl (.inr ⟨{ cls:= .type "list",data:= .seq vs.toArray },Z12 rfl⟩)) (λb u z=> ?_) (λb z=> ?_) λ_=>hk
  ·by_cases hb:b=a
   ·exact .inr ⟨_,_,Z12 hb⟩
   ·exact .inl (Z0t hb)
  ·by_cases hb:b=a
   ·have z':=(Z12 hb).symm.trans z;cases z';subst hb;exact ⟨ha,by rw [Z08];exact hl,vs,_,rv,ha⟩
   ·have z':=(Z0t hb).symm.trans z;cases z'
  ·by_cases hb:b=a
   ·exact hb
   ·exact absurd (Z0t hb) z
theorem C0v {l:PySem.W.OpenLaw} {n k:Nat} {q:Program} {loose:List Str} {XP:(Str->Option Value)->Heap->Prop} {YP:World->Heap->Prop} {d:DefRec} {K:Params->Frag} {CX:World->CXT} {sp:World->Sp} {x:Str}
  (hn:l.most=some n) (hn2:n<=sizeLine) (hdf:d.params.defaults=[]) (hr:A4i k callerA)
  (hY:∀(w:World) (h:Heap),YP w h->(K w.params).In h)
  (F:∀(w:World) (mg:Str->Option Value) (fa:Addr) (h:Heap),(K w.params).In h->h.Ns mainGlobals mg->mg d.name=some (.ref fa)->
   ∃fd:FuncData,(∀(s:Shared) (u:Value),BindsTo s fd ⟨[u],[]⟩ [(x,u)])/\
    ∀base:Heap,(K w.params).In base->base.Ns mainGlobals mg->A5j l.prog w (K w.params) mg base (CX w) k fa fd [x] (sp w))
  (hsp:∀(w:World) (H:Hp) (a:Addr) (ns:List Int),ns.length<=n->C5b H->SqL (K w.params) H a (ns.map V.int)->sp w [.ref a] H (λv _=>v= .bl true) λ_ _ _=>False)
  (hCX:∀(w:World) (H:Hp) (s:Shared) (e:Value) (s':Shared),CX w [] H s (λ_ _ _=>False) e s'->False) :
  PySem.W.WalkO q loose XP YP l.row.toRowW d [] (λf vs=>PySem.call f vs):=by
 refine Att.attach_call hn hdf λw s₀ s₁ mg mb fa o pm cd doc a vs ns G Y ho hd hcd hmg hobj hints hlen hg=> ?_;have KX:=hY w _ Y;obtain ⟨fd,hb,hF⟩:=F w mg fa _ KX G.T.g hmg;exact B7e KX G.T.g G.T.b G.T.builtins G.T.nolimit hg hobj hints (Z1n hlen hn2) hr hF hb (λH hO hS=>hsp w H a ns hlen hO hS) λH e s'=>hCX w H s₁ e s'
def A3y (s:Stmt) (j:Nat):Stmt:=match s with
 | .ClassDef _ _ _ body _ _ _ _ _ _ _=>body.getD j (.Pass ⟨0,0,0,0⟩)
 | _=> .Pass ⟨0,0,0,0⟩
def A4y (s:Stmt):Arguments:=match s with
 | .FunctionDef _ a _ _ _ _ _ _ _ _=>a
 | _=>{ posonlyargs:=[],args:=[],vararg:=none,kwonlyargs:=[],kw_defaults:=[],kwarg:=none,defaults:=[] }
def A3m (s:Stmt):List Stmt:=match s with
 | .FunctionDef _ _ b _ _ _ _ _ _ _=>b
 | _=>[]
def A0i (s:Stmt):Scope:=match s with
 | .FunctionDef _ _ _ _ _ _ sc _ _ _=>sc
 | _=>{ kind:= .function,names:=[],isGenerator:=false,isCoroutine:=false }
abbrev CX0:CXT:=λ_ _ _ _ _ _=>False
abbrev E0:XK:=λ_ _ _=>False
theorem A4z {X:Cx}:A4h CX0 X E0:=λ_ _ _ _ _ _ _ h=>h.elim
structure Fun (K:Frag) (x qual:Str) (st:Stmt) (f:Addr) (fd:FuncData):Prop where
 ex:∃(oc:Value) (od:Option Addr) (kV doc pm:Value) (an:Option Addr) (cdv ct:Value) (osl:Array (Option Value)),
  fd=fnOf x qual (A4y st) (A3m st) (A0i st) .none kV doc pm an cdv ct/\K.lookup f=some ⟨oc,od,.func fd,osl⟩/\codeIn K cdv qual=true
 kp:keepIn K (.ref f)=true
section
variable {P:Program} {w:World} {K:Frag} {mg:Str->Option Value} {base:Heap}
theorem Fun.ok {x qual:Str} {st:Stmt} {f:Addr} {fd:FuncData} {N ps:List Str} {k:Nat} {sp:Sp} (F:Fun K x qual st f fd) (S:A0n N ps (A0i st)) (len:∀vs H Q E,sp vs H Q E->vs.length=ps.length)
  (hbody:∀(cdv:Value) (A:Around) (outer:List Env) (s:Shared) (H:Hp) (vs:List V) (Q:VK) (E:XK),A4i k (A.deeper (envOfC qual (A0i st) s.heap.objs.size f cdv))->sp vs H Q E->
   ∃t,PSs (B6u CX0 P w K mg base N qual (A0i st) f cdv A outer s H E).nox (A3m st) t/\t { nx:=λ_ H'=>Q .non H',rt:=Q } (A8x N vs) H):A5j P w K mg base CX0 (k+1) f fd ps sp:=by
 obtain ⟨oc,od,kV,doc,pm,an,cdv,ct,osl,rfl,lk,hcd⟩:=F.ex;refine C1y lk hcd S len λA outer s H vs Q E hr hsp=> ?_;obtain ⟨t,h,q⟩:=hbody cdv A outer s H vs Q E hr hsp;exact ⟨t,h.nox,q⟩
theorem Fun.binds {x qual:Str} {st:Stmt} {f:Addr} {fd:FuncData} {ps:List Str} (F:Fun K x qual st f fd)
  (h:∀(kV doc pm:Value) (an:Option Addr) (cdv ct:Value) (us:List Value),us.length=ps.length->bindArgs (fnOf x qual (A4y st) (A3m st) (A0i st) .none kV doc pm an cdv ct) ⟨us,[]⟩=pure (ps.zip us)):A4q K fd ps []:=by
 obtain ⟨oc,od,kV,doc,pm,an,cdv,ct,osl,rfl,lk,hcd⟩:=F.ex;exact .all (h kV doc pm an cdv ct)
theorem B8m {x qual:Str} {st:Stmt} {f:Addr} {oc:Value} {od an:Option Addr} {osl:Array (Option Value)} {kV doc pm cdv ct:Value} (l:K.lookup f=some ⟨oc,od,.func (fnOf x qual (A4y st) (A3m st) (A0i st) .none kV doc pm an cdv ct),osl⟩)
  (c:codeIn K cdv qual=true) (k:keepIn K (.ref f)=true):Fun K x qual st f (fnOf x qual (A4y st) (A3m st) (A0i st) .none kV doc pm an cdv ct):=⟨⟨oc,od,kV,doc,pm,an,cdv,ct,osl,rfl,l,c⟩,k⟩
end
theorem C1q {A:Around} {k:Nat} (hr:A4i k A):A.units+1<cLine:=Z2d (Nat.add_le_add_left (by decide:1<=64) _) hr.units
section
variable {X:Cx}
theorem pv (i:Nat) {x:Str} {pos:Pos} (hN:X.N[i]? =some x:=by rfl) (hv:Vis X.env.scope x:=by first | exact Or.inl rfl | exact Or.inr (Or.inl rfl) | exact Or.inr (Or.inr rfl)) (hd:(x == ("__debug__":Str))=false:=by decide)
  (hcd:(x == ("__classdict__":Str))=false:=by decide):PE X (.Name x pos) (C4n i):=C2t hN hv hd hcd
end
theorem A7z {A B:Prop} (h:B):if false=true then A else B:=by
 rw [Z0t Z0v];exact h
theorem C3d {A B:Prop} (h:A):if true=true then A else B:=by
 rw [Z12 rfl];exact h
theorem C3m {c A B:Prop} [Decidable c] (h1:c->A) (h2:¬c->B):if c then A else B:=by
 by_cases h:c
 ·rw [Z12 h];exact h1 h
 ·rw [Z0t h];exact h2 h
def A1p (H H':Hp):Prop:=∀b o,H b=some o->H' b=some o
theorem A1p.refl (H:Hp):A1p H H:=λ_ _ h=>h
theorem A1p.trans {H H1 H2:Hp} (a:A1p H H1) (b:A1p H1 H2):A1p H H2:=λc o h=>b c o (a c o h)
theorem A1p.free {H H':Hp} (e:A1p H H') {l:Addr} (h:H' l=Option.none):H l=Option.none:=by
 cases q:H l with
 | none=>rfl
 | some o =>
  rw [e l o q] at h;cases h
theorem A1p.seq {K:Frag} {H H':Hp} {a:Addr} {xs:List V} (e:A1p H H') (h:SqL K H a xs):SqL K H' a xs:=by
 rcases h with (h | ⟨o,h⟩) | h
 ·exact .inl (.inl (e _ _ h))
 ·exact .inl (.inr ⟨o,e _ _ h⟩)
 ·exact .inr h
section
variable {κ:Type} [DecidableEq κ]
end
section
variable {X:Cx}
def tCut (t u:TS):TS:=λD σ H=>∃M:St->Hp->Prop,t { D with nx:=M } σ H/\∀σ' H',M σ' H'->u D σ' H'
theorem A2a {st:Stmt} {rest:List Stmt} {t u:TS} (h1:PS X st t) (h2:PSs X rest u):PSs X (st::rest) (tCut t u):=by
 intro pins s σ H D I h;obtain ⟨M,h,hm⟩:=h;refine wpAny_execs_cons (thn (h1 pins s σ H { D with nx:=M } I h) λf s1 q=> ?_)
 cases f with
 | next =>
  obtain ⟨σ',H',I',q⟩:=q;exact h2 pins s1 σ' H' D I' (hm _ _ q)
 | ret v=>exact q
 | brk=>exact q
 | cont=>exact q
def rIsi (K:Frag):List V->Hp->VK->Prop:=λxs H Q=>∃x c t b,xs=[x,c]/\A7x K H x t/\(∀u,A1e c u->kitOne K t u=some b)/\Q (.bl b) H
theorem A1v:B1o X (.builtin "isinstance") (rIsi X.K):=by
 intro pins s σ H xs us Q I r h;obtain ⟨x,c,t,b,rfl,ty,e,q⟩:=h;obtain ⟨u,w',rfl,ru,rw'⟩:=C4x r;exact B5g I ru ty (e w' rw') λtk=>⟨.bl b,H,I.tok tk,rfl,q⟩
theorem A4d {K:Frag} (T:String):∀u,A1e (.ty T) u->kitOne K (.type T) u=some true:=by
 intro u h;cases (show u=Value.type T from h);unfold kitOne;rw [Z12 (beq_self_eq_true _)]
theorem C1u {K:Frag} {T U:String} {b:Bool} (h:(Value.type T == Value.type U)=false) (hm:PySem.W.kitMeta U=true) (hs:(PySem.fastBuiltinMro T).map (·.contains (Value.type U))=some b) :
  ∀u,A1e (.ty U) u->kitOne K (.type T) u=some b:=by
 intro u z;cases (show u=Value.type U from z);unfold kitOne;rw [Z0t (by rw [h];exact Z0v)];show (if PySem.W.kitMeta U=true then subIn K (.type T) (.type U) else none)=some b;rw [Z12 hm];exact hs
def CBig (i j:Int):Prop:=i.natAbs<2^4000/\j.natAbs<2^4000
theorem B4s:OpR X (binaryOp .Mult) (rI CBig λi j=> .int (i*j)):=opI λ_ _ _ _ _ _ _ hc q =>
 mul_int q (IntMulOk.of_le (m:=4000) (n:=4000) (intBits_le_iff.mpr hc.1) (intBits_le_iff.mpr hc.2) (by decide))
end
structure B6z (X:Cx) (scope:Scope) (cl:List (Str×Addr)):Prop where
 eq:closureFor scope X.env=pure cl
 sub:∀x c,cl.lookup x=some c->X.env.cells.lookup x=some c
 has:∀x,((relabel scope X.env).names.lookup x=some .cell\/(relabel scope X.env).names.lookup x=some .free)->∃c,cl.lookup x=some c
 kind:scope.kind= .function
 ncell:∀y∈scope.names,y.2≠.cell
 names:∀y∈scope.names,y.2= .local->scope.names.lookup y.1=some .local
noncomputable def blk (X:Cx) (N':List Str) (scope:Scope) (cl:List (Str×Addr)) (C:Addr) (s₀:Shared) (H₀:Hp) (fp:List Addr):Cx :=
 { X with N:=N',s₀:=s₀,H₀:=H₀,env:=compEnvC scope cl C X.env,outer:=X.stack,ex:=fp,fn:=λ_=>false,pn:=[],xe:=λ_ _=>False }
def A3j (ix:List (Option Nat)) (σ:St):St:=ix.map λo=>o.bind λj=>(σ[j]?).bind id
section
variable {X:Cx} {pins:List (Addr×Obj)} {σ:St} {H:Hp} {s:Shared} {N':List Str} {scope:Scope} {cl:List (Str×Addr)} {fp:List Addr} {ix:List (Option Nat)}
def B8i (X:Cx) (N':List Str) (scope:Scope) (ix:List (Option Nat)):Prop :=
 ix.length=N'.length/\∀i j:Nat,ix[i]? =some (some j)->∃x,N'[i]? =some x/\X.N[j]? =some x/\(X.env.scope.names.lookup x=some .cell\/X.env.scope.names.lookup x=some .free)/\
  ((relabel scope X.env).names.lookup x=some .cell\/(relabel scope X.env).names.lookup x=some .free)
theorem C2b (I:Inv X pins σ H s) (ck:B6z X scope cl) (f:∀b∈fp,B2i X pins H b) (hlt:∀b∈fp,b<s.heap.objs.size):(blk X N' scope cl s.heap.objs.size s H fp).Ok where
 mod:=I.ok.mod
 kind:=ck.kind
 glob:=I.ok.glob
 blt:=I.ok.blt
 above:=Z09 _
 inj:=λx y c h1 h2=>I.ok.inj x y c (ck.sub x c h1) (ck.sub y c h2)
 has:=λx h=>ck.has x h
 cab:=λx c h=>by cases h
 hd:=I.ok.hd
 frames:=I.ok.frames
 stk:= .inl rfl
 exf:=λb hb=>⟨Z0h (hlt b hb),λx c h=>(f b hb).2.2.2.2.1 x c (ck.sub x c h)⟩
 bs:=I.bs
 bsz:=Z1n I.ok.bsz I.sz
 noex:=λb o e hb=>by
  rcases (f b hb).2.2.2.1 with z | z
  ·exact I.ok.noex b o e z
  ·exact absurd (Z0q (Z0a (I.ok.bs b o e).1) z) (Nat.lt_irrefl _)
 exfs:=λb hb hs=>by
  rcases Z0e.mp (I.stkSub b hs) with z | z
  ·exact (f b hb).2.1 z
  ·exact (f b hb).2.2.1 z
 funs:=I.stack
 frf:=I.stkFree
theorem A9i (I:Inv X pins σ H s) (ck:B6z X scope cl) (io:B8i X N' scope ix) (f:∀b∈fp,B2i X pins H b) (hlt:∀b∈fp,b<s.heap.objs.size) {h':Heap} {m:Str->Option Value} {t':Nat}
  (hn:h'.Ns s.heap.objs.size m) (k:∀b o,s.heap.get? b=some o->h'.get? b=some o):Inv (blk X N' scope cl s.heap.objs.size s H fp) [] (A3j ix σ) H { s with heap:=h',toks:=t' }:=by
 have cl':∀x c,cl.lookup x=some c->∃v,s.heap.IsCell c v:=λx c h=>I.cell x c (ck.sub x c h);refine ⟨C2b I ck f hlt,rfl,I.bare,Un.kept k,⟨m,hn,λi x v e1 e2 e3=> ?_⟩,λx c e=> ?_,I.hok.fresh (Z09 _),λx c e=>I.freeC x c (ck.sub x c e),(λp hp=>by cases hp),I.hok.kept k,?_⟩
 ·unfold A3j at e2;rw [Z1z] at e2
  cases hi:ix[i]? with
  | none=>rw [hi] at e2;cases e2
  | some o =>
   rw [hi] at e2
   cases o with
   | none=>cases Z1a e2
   | some j =>
    have e2':(σ[j]?).bind id=some v:=Z1a e2;obtain ⟨x',n1,n2,k1,k2⟩:=io.2 i j hi;have ex:x'=x:=Z1a (n1.symm.trans e1);subst ex
    have es:σ[j]? =some (some v):=by
     cases q:σ[j]? with
     | none=>rw [q] at e2';cases e2'
     | some w =>
      rw [q] at e2';exact congrArg some e2'
    obtain ⟨m0,_,hl⟩:=I.loc;obtain ⟨u,ru,lo⟩:=hl j x' v n2 es (k1.elim (λz=> .inr (.inl z)) λz=> .inr (.inr z));refine ⟨u,ru,.inr ⟨k2,?_⟩⟩;obtain ⟨c,hc⟩:=ck.has x' k2;refine ⟨c,hc,?_⟩;rcases lo with ⟨z,_⟩ | ⟨_,c',hc',ic⟩
    ·exfalso;have z':X.env.scope.names.lookup x'=some .local:=z;rcases k1 with k1 | k1 <;> (rw [z'] at k1;cases k1)
    ·have ec:c'=c:=Z1a (hc'.symm.trans (ck.sub x' c hc));subst ec;obtain ⟨o,ho,hd⟩:=ic;exact ⟨o,k _ _ ho,hd⟩
 ·obtain ⟨v,o,ho,hd⟩:=cl' x c e;exact ⟨v,o,k _ _ ho,hd⟩
 ·unfold A3j;rw [Z08];exact io.1
theorem B6n (I:Inv X pins σ H s) (f:∀b∈fp,B2i X pins H b) {σ':St} {H':Hp} {s':Shared} {pl:List (Addr×Obj)} (J:Inv (blk X N' scope cl s.heap.objs.size s H fp) pl σ' H' s') {h':Heap} (sb:Heap.SameBut s.heap.objs.size s'.heap h') :
  Inv X pins σ H' { s' with heap:=h' }:=by
 have nC:∀b o,s.heap.get? b=some o->b≠s.heap.objs.size:=λb o e=>Z0h (Z0a e);have hC:H' s.heap.objs.size=none:=J.free;have u:Un (frs X.stack) fp H H' s.heap s'.heap:=J.base
 refine I.call' (ch:=fp) (s':={ s' with heap:=h' }) J.os ⟨λb o e n hb hx=>(sb.2 b (nC b o e)).trans (u.keep b o e n hb hx),λb o e n hb hx=> ?_,u.free,λb o e hx=> ?_,u.tups,u.frzs,u.tbls⟩ (λb o e=> ?_) J.bare
  (λb hb=>⟨(f b hb).2.2.2.1,(f b hb).2.1,(f b hb).2.2.2.2.1,(f b hb).2.2.2.2.2⟩)
 ·obtain ⟨sl,q⟩:=u.slot b o e n hb hx;exact ⟨sl,(sb.2 b (nC b o e)).trans q⟩
 ·obtain ⟨o',q⟩:=u.there b o e hx;exact ⟨o',(sb.2 b (nC b o e)).trans q⟩
 ·refine (J.hok b o e).stay (λc v hc q=>(sb.2 c ?_).trans q) (λc q=>q) λc xs q=>q;rcases hc with rfl | hc
  ·exact A0g e hC
  ·exact A0g hc hC
end
def A2j:St->St->Prop
 | [],_=>True
 | none::r,_::r'=>A2j r r'
 | none::r,[]=>A2j r []
 | some v::r,w::r'=>w=some v/\A2j r r'
 | some _::_,[]=>False
theorem A2j.get:∀{a b:St},A2j a b->∀(j:Nat) v,a[j]? =some (some v)->b[j]? =some (some v)
 | [],_,_,_,_,e=>by simp at e
 | none::r,_::r',h,0,v,e=>by simp at e
 | none::r,_::r',h,j+1,v,e=>by simpa using A2j.get (a:=r) (b:=r') h j v (by simpa using e)
 | none::r,[],h,0,v,e=>by simp at e
 | none::r,[],h,j+1,v,e=>by have:=A2j.get (a:=r) (b:=[]) h j v (by simpa using e);simp at this
 | some w::r,_::r',h,0,v,e=>by
  have e':w=v:=by simpa using e
  subst e'
  simpa using h.1
 | some _::r,_::r',h,j+1,v,e=>by simpa using A2j.get (a:=r) (b:=r') h.2 j v (by simpa using e)
section
variable {X:Cx}
def C3a (ix:List (Option Nat)) (wi:TI) (g:TG) (te:TE):TE:=λσ H Q=>wi σ H λJ H1=>∀D,H1 D=none->∃W:Nat->Nat->Hp->Prop,(∃m,W 0 m (upd H1 D (.lst [])))/\∀i m H2,W i m H2->
 (J.stop i H2/\Q (.ref D) H2)\/(J.go i H2/\∃N:VK,(∀y H5,N y H5->∃xs,H5 D=some (.lst xs)/\xs.length<sizeLine/\∃m',m'<m/\W (i+1) m' (upd H5 D (.lst (xs++[y]))))/\∀x H3,J.yld i H2 x H3->g x (A3j ix σ) H3 λσ4 H4=>A2j (A3j ix σ) σ4/\te σ4 H4 N)
end
section
variable {X:Cx} {m:Str} {pos apos:Pos} {e o:Expr} {es:List Expr} {ta:TE} {t:TA}
end
mutual
inductive Rep (H:Hp):V->PyData->Prop
 | non:Rep H .non .none
 | bl (b:Bool):Rep H (.bl b) (.bool b)
 | int (i:Int):Rep H (.int i) (.int i)
 | str (x:Str):Rep H (.str x) (.str x)
 | lst {p:Addr} {xs:List V} {ds:List PyData}:H p=some (.lst xs)->B7j H xs ds->Rep H (.ref p) (.list ds)
 | tup {p:Addr} {xs:List V} {ds:List PyData}:H p=some (.tup xs)->B7j H xs ds->Rep H (.ref p) (.tuple ds)
inductive B7j (H:Hp):List V->List PyData->Prop
 | nil:B7j H [] []
 | cons {v:V} {vs:List V} {d:PyData} {ds:List PyData}:Rep H v d->B7j H vs ds->B7j H (v::vs) (d::ds)
end
section
variable {X:Cx} {pins:List (Addr×Obj)} {σ:St} {H:Hp} {s:Shared}
mutual
theorem A4b (I:Inv X pins σ H s):∀{v:V} {d:PyData} {u:Value},Rep H v d->A1e v u->∃as,Reads s.heap u d as
 | _,_,u,.non,r=>by cases (show u=Value.none from r);exact ⟨_,.none⟩
 | _,_,u,.bl b,r=>by cases (show u=Value.bool b from r);exact ⟨_,.bool b⟩
 | _,_,u,.int i,r=>by obtain ⟨t,q⟩:=(show∃t,u=Value.int i t from r);cases q;exact ⟨_,.int i t⟩
 | _,_,u,.str x,r=>by obtain ⟨t,q⟩:=(show∃t,u=Value.str x t from r);cases q;exact ⟨_,.str x t⟩
 | _,_,u,@Rep.lst _ p xs ds e q,r=>by
  cases (show u=Value.ref p from r)
  obtain ⟨_,its,n,rv,ho⟩:=(show A1k X.prog X.w H s.heap p (.lst xs) from I.hok p _ e);obtain ⟨as,z⟩:=A5k I q rv;exact ⟨_,Reads.list ho rfl rfl (by simpa using z)⟩
 | _,_,u,@Rep.tup _ p xs ds e q,r=>by
  cases (show u=Value.ref p from r)
  obtain ⟨_,its,rv,o,ho,hc,n,hd⟩:=(show A1k X.prog X.w H s.heap p (.tup xs) from I.hok p _ e);obtain ⟨as,z⟩:=A5k I q rv;exact ⟨_,Reads.tuple ho hc hd (by simpa using z)⟩
theorem A5k (I:Inv X pins σ H s):∀{vs:List V} {ds:List PyData} {us:List Value},B7j H vs ds->A1n vs us->∃as,ReadsAll s.heap us ds as
 | _,_,_,.nil,.nil=>⟨_,.nil⟩
 | _,_,_,.cons a r,.cons q rv=>by
  obtain ⟨as,z⟩:=A4b I a q;obtain ⟨bs,y⟩:=A5k I r rv;exact ⟨_,.cons z y⟩
end
end
def rEqD (neg:Bool):R2:=λx y H Q=>∃d e,Rep H x d/\Rep H y e/\SeqAt.shaped d=true/\SeqAt.shaped e=true/\Q (.bl (if neg then !PyData.eqv d e else PyData.eqv d e)) H
section
variable {X:Cx}
theorem B6e (hu:X.A.units+64<cLine):OpR X (compareOp .NotEq) (rEqD true):=by
 intro pins s σ H x y v u Q I rx ry h;obtain ⟨d,e,h1,h2,s1,s2,q⟩:=h;obtain ⟨as,r1⟩:=A4b I h1 rx;obtain ⟨bs,r2⟩:=A4b I h2 ry;exact ne_dataH r1 r2 s1 s2 hu ⟨.bl (!PyData.eqv d e),H,I,rfl,q⟩
end
theorem B4o {X:Cx} {scope:Scope} (hk:scope.kind= .function) (hn:∀y∈scope.names,y.2≠.free/\y.2≠.cell) (hl:∀y∈scope.names,y.2= .local->scope.names.lookup y.1=some .local):B6z X scope [] where
 eq:=closureFor_none λy hy=>(hn y hy).1
 sub:=λx c h=>by cases h
 has:=λx h=>by
  exfalso
  have e:(relabel scope X.env).names=scope.names:=map_eq_self λy hy=>by
   obtain ⟨n,k⟩:=y;have z:=(hn _ hy).1;have z':(k == NameKind.free)=false:=by simpa using z
   simp [z']
  rw [e] at h
  have mem:∀{k:NameKind},scope.names.lookup x=some k->(x,k)∈scope.names:=λ{k} q=>by
   generalize scope.names=l at q
   induction l with
   | nil=>cases q
   | cons a r ih =>
    obtain ⟨n,k'⟩:=a;rw [Z28] at q;split at q
    ·rename_i hb;have hb':x=n:=by simpa using hb
     cases q
     subst hb';exact .head _
    ·exact .tail _ (ih q)
  rcases h with h | h
  ·exact (hn _ (mem h)).2 rfl
  ·exact (hn _ (mem h)).1 rfl
 kind:=hk
 ncell:=λy hy=>(hn y hy).2
 names:=hl
theorem B5m {X:Cx} {N':List Str} {scope:Scope} {n:Nat} (h:n=N'.length):B8i X N' scope (List.replicate n none):=⟨by rw [List.length_replicate];exact h,λi j e=>by
 rw [List.getElem?_replicate] at e
 split at e <;> cases e⟩
section
variable {K:Frag} {a D:Addr} {xs:List V} {g:TG} {te:TE} {Q:VK} {σ₀:St} {H:Hp}
theorem B6s (Pv:Nat->List V->Hp->Prop) (h0:Pv 0 [] (upd H D (.lst []))) (hl:∀i ys H,Pv i ys H->SqT K H a xs)
  (hs:∀i x ys H,xs[i]? =some x->Pv i ys H->g x σ₀ H λσ4 H4=>A2j σ₀ σ4/\te σ4 H4 λy H5=>H5 D=some (.lst ys)/\ys.length<sizeLine/\Pv (i+1) (ys++[y]) (upd H5 D (.lst (ys++[y])))) (hd:∀ys H,Pv xs.length ys H->Q (.ref D) H) :
  ∃W:Nat->Nat->Hp->Prop,(∃m,W 0 m (upd H D (.lst [])))/\∀i m H2,W i m H2->
   ((Itt K a).stop i H2/\Q (.ref D) H2)\/((Itt K a).go i H2/\∃N:VK,(∀y H5,N y H5->∃xs,H5 D=some (.lst xs)/\xs.length<sizeLine/\∃m',m'<m/\W (i+1) m' (upd H5 D (.lst (xs++[y]))))/\
    ∀x H3,(Itt K a).yld i H2 x H3->g x σ₀ H3 λσ4 H4=>A2j σ₀ σ4/\te σ4 H4 N):=by
 refine ⟨λi m H=>m=xs.length-i/\i<=xs.length/\∃ys,Pv i ys H,⟨xs.length,by simp,Z1e _,[],h0⟩,?_⟩;rintro i m H2 ⟨rfl,hi,ys,p⟩;have q:=hl i ys H2 p;by_cases hlt:i<xs.length
 ·refine .inr ⟨⟨xs,xs[i],q,by simp [hlt]⟩,λy H5=>H5 D=some (.lst ys)/\ys.length<sizeLine/\Pv (i+1) (ys++[y]) (upd H5 D (.lst (ys++[y]))),λy H5 n=>⟨ys,n.1,n.2.1,xs.length-(i+1),by omega,rfl,hlt,_,n.2.2⟩,λx H3 z=> ?_⟩;obtain ⟨e,z⟩:=z;subst e;exact hs i x ys _ (z xs q) p
 ·have e:i=xs.length:=by omega
  subst e;exact .inl ⟨⟨xs,q,Z09 _⟩,hd ys H2 p⟩
end
abbrev TJ:=St->Hp->Str->(Str->Hp->Prop)->Prop
def PJ (X:Cx) (es:List Expr) (t:TJ):Prop :=
 ∀(pins:List (Addr×Obj)) (s:Shared) (σ:St) (H:Hp) (out:Str) (Q:Str->Hp->Prop),Inv X pins σ H s->t σ H out Q->wpAny (model X.prog X.w) X.A (joinParts out (evalEach es X.env)) (EP X pins σ λv H'=>∃z,v= .str z/\Q z H') X.xe s
def C5u (x:V) (y:Str):Prop:=(x= .str y/\y.length<=sizeLine)\/∃i:Int,x= .int i/\i.natAbs.log2<1920/\y=(toString i:Str)
def C5k:TJ:=λ_ H out Q=>out.length<=sizeLine/\Q out H
def C2m (te:TE) (tr:TJ):TJ:=λσ H out Q=>te σ H λx H1=>∃y,C5u x y/\(out++y).length<=sizeLine/\tr σ H1 (out++y) Q
def C4q (x:Str) (tr:TJ):TJ:=λσ H out Q=>(out++x).length<=sizeLine/\tr σ H (out++x) Q
section
variable {X:Cx} {e:Expr} {es:List Expr} {te:TE} {tr:TJ} {pos p2:Pos}
theorem B2t:PJ X [] C5k:=λpins s σ H out Q I h=>joinParts_nil ⟨.str out,H,I.tok _,⟨_,rfl⟩,out,rfl,h.2⟩ h.1
theorem B4n (he:PE X e te) (hr:PJ X es tr) (hs:evalEach (.FormattedValue e (-1) none pos::es) X.env=eval (.FormattedValue e (-1) none pos) X.env::evalEach es X.env:=by rfl):PJ X (.FormattedValue e (-1) none pos::es) (C2m te tr):=by
 intro pins s σ H out Q I h;rw [hs];refine joinParts_cons (FormattedValue_plain (thn (he pins s σ H _ I h) ?_));rintro v s1 ⟨x,H1,I1,rx,y,f,hz,q⟩;rcases f with ⟨rfl,hy⟩ | ⟨i,rfl,hi,rfl⟩
 ·obtain ⟨t,rfl⟩:=(show∃t,v=Value.str y t from rx);exact formatField_str (λt' tk=>⟨hz,hr pins _ σ H1 _ Q (I1.tok tk) q⟩) hy
 ·obtain ⟨t,rfl⟩:=(show∃t,v=Value.int i t from rx);exact formatField_int_small hi ⟨hz,hr pins _ σ H1 _ Q (I1.tok _) q⟩
theorem A6u {x:Str} {j:Nat} (hr:PJ X es tr) (hs:evalEach (.Constant (.str x) j pos::es) X.env=eval (.Constant (.str x) j pos) X.env::evalEach es X.env:=by rfl):PJ X (.Constant (.str x) j pos::es) (C4q x tr):=by
 intro pins s σ H out Q I h;rw [hs];refine joinParts_cons (thn (A1a pins s σ H (λv H'=>v= .str x/\H'=H) I ⟨rfl,rfl⟩) ?_);rintro v s1 ⟨y,H1,I1,rx,ey,eH⟩;subst ey eH;obtain ⟨t,rfl⟩:=(show∃t,v=Value.str x t from rx);exact ⟨h.1,hr pins s1 σ H1 _ Q I1 h.2⟩
def C4j (tj:TJ):TE:=λσ H Q=>tj σ H Str.empty λz H'=>Q (.str z) H'
theorem A8l {a b:Expr} {tj:TJ} (h:PJ X (a::b::es) tj) (hs:evalEach (a::b::es) X.env=eval a X.env::eval b X.env::evalEach es X.env:=by rfl):PE X (.JoinedStr (a::b::es) pos) (C4j tj):=by
 intro pins s σ H Q I hq;refine JoinedStr_many ?_;rw [<-hs];exact thn (h pins s σ H _ _ I hq) (by rintro u s1 ⟨v,H1,I1,rv,z,ez,q⟩;subst ez;exact ⟨.str z,H1,I1,rv,q⟩)
end
theorem A3g {x:Str} {k:NameKind}:∀{l:List (Str×NameKind)},l.lookup x=some k->(x,k)∈l
 | [],q=>by cases q
 | (n,k')::r,q=>by
  rw [Z28] at q;split at q
  ·rename_i hb;have hb':x=n:=by simpa using hb
   cases q
   subst hb';exact .head _
  ·exact .tail _ (A3g q)
theorem B7a {X:Cx} {scope:Scope} {x:Str} {c:Addr} (he:closureFor scope X.env=pure [(x,c)]) (hc:X.env.cells.lookup x=some c) (hk:scope.kind= .function) (hn:∀y∈scope.names,y.2≠.cell/\(y.2= .free->y.1=x))
  (hl:∀y∈scope.names,y.2= .local->scope.names.lookup y.1=some .local):B6z X scope [(x,c)] where
 eq:=he
 sub:=λy d h=>by
  rw [Z28] at h;split at h
  ·rename_i hb;have hb':y=x:=by simpa using hb
   cases h
   subst hb';exact hc
  ·cases h
 has:=λy h=>by
  have key:y=x:=by
   have m:∃k,(y,k)∈(relabel scope X.env).names/\(k= .cell\/k= .free):=h.elim (λz=>⟨_,A3g z,.inl rfl⟩) λz=>⟨_,A3g z,.inr rfl⟩;obtain ⟨k,hm,hk⟩:=m;obtain ⟨⟨n,k0⟩,h0,e⟩:=Z2c.mp hm;dsimp only at e;by_cases hf:k0= .free
   ·have en:n=y:=by
     split at e
     ·exact congrArg Prod.fst e
     ·exact congrArg Prod.fst e
    rw [<-en];exact (hn _ h0).2 hf
   ·have hb:(k0 == NameKind.free)=false:=by simpa using hf
    simp only [hb,Bool.false_and,Bool.false_eq_true,if_false] at e;have e2:k0=k:=congrArg Prod.snd e;subst e2;rcases hk with hk | hk
    ·exact absurd hk (hn _ h0).1
    ·exact absurd hk hf
  subst key;exact ⟨c,by simp [Z28]⟩
 kind:=hk
 ncell:=λy hy=>(hn y hy).1
 names:=hl
theorem B5b {X:Cx} {N0:List Str} {x:Str} {scope:Scope} {j:Nat} (hN:X.N[j]? =some x) (h1:X.env.scope.names.lookup x=some .cell\/X.env.scope.names.lookup x=some .free)
  (h2:(relabel scope X.env).names.lookup x=some .cell\/(relabel scope X.env).names.lookup x=some .free):B8i X (N0++[x]) scope (List.replicate N0.length none++[some j]):=by
 refine ⟨by simp,λi k e=> ?_⟩;by_cases hi:i<N0.length
 ·rw [Z26 (by simpa using hi),List.getElem?_replicate] at e;split at e <;> cases e
 ·have hi':i=N0.length:=by
   have:=(Z03.mp e).1;simp at this;omega
  subst hi';rw [Z1l (by simp)] at e;have ek:j=k:=by simpa using e
  subst ek;exact ⟨x,by simp,hN,h1,h2⟩
theorem A1j {H H':Hp} {l:Addr} {o:HO} (s:A1p H H') (hl:H l=none):A1p H (upd H' l o):=λb u e=>by
 rw [A0e (A0g e hl)];exact s b u e
theorem A0q {H:Hp} {l:Addr} {o:HO} (hl:H l=none):A1p H (upd H l o):=A1j (A1p.refl H) hl
theorem A1s {n:Nat} (h:n<=1000000):n<=sizeLine:=by rw [sizeLine_eq];omega
theorem A1m {n:Nat} (h:n<=1000000):n<sizeLine:=by rw [sizeLine_eq];omega
theorem Paired.snoc {α β:Type} {F:α->β->Prop} {a:α} {b:β} (h:F a b):∀{xs:List α} {ys:List β},Paired F xs ys->Paired F (xs++[a]) (ys++[b])
 | _,_,.nil=> .cons h .nil
 | _,_,.cons r t=> .cons r (Paired.snoc h t)
section
variable {G:Hp} {v:V} {vs:List V} {d:PyData} {ds:List PyData}
end
theorem lk0 {k:Str} {v:V} {r:List (Str×V)}:List.lookup k ((k,v)::r)=some v:=by simp [Z28]
theorem lk1 {k j:Str} {v:V} {r:List (Str×V)} {o:Option V} (h:(k == j)=false) (e:List.lookup k r=o):List.lookup k ((j,v)::r)=o:=by
 rw [Z28,h];exact e
theorem A4c {f:Str} {v:V}:A6a f v []=[(f,v)]:=rfl
theorem A1w {f g:Str} {v x:V} {r:List (Str×V)} (h:¬g=f):A6a f v ((g,x)::r)=(g,x)::A6a f v r:=by rw [A6a,Z0t h]
theorem A3u {c A B:Prop} [Decidable c] (hc:¬c) (h:B):if decide c=true then A else B:=by
 rw [Z1j hc];exact A7z h
theorem A3d {c A B:Prop} [Decidable c] (hc:c) (h:A):if decide c=true then A else B:=by
 rw [Z20 hc];exact C3d h
theorem B3u {c A B:Prop} [Decidable c] (h1:c->A) (h2:¬c->B):if decide c=true then A else B :=
 C3m (λh=>h1 (of_decide_eq_true h)) (λh=>h2 λhc=>h (Z20 hc))
theorem A6r {c A B:Prop} [Decidable c] (h1:¬c->A) (h2:c->B):if (!decide c)=true then A else B :=
 C3m (λh=>h1 λhc=>by rw [Z20 hc] at h;cases h) (λh=>h2 (by
  by_cases hc:c
  ·exact hc
  ·rw [Z1j hc] at h;exact absurd rfl h))
section
variable {X:Cx}
end
theorem at0 {α:Type} {v:α} {r:List α}:atI (v::r) 0=some v:=by simp [atI,ixN]
theorem B1q {α:Type} {f:α->V} {xs:List α} {i:Nat} {v:V} (h:(xs.map f)[i]? =some v):∃x,xs[i]? =some x/\v=f x:=by
 rw [Z1z] at h
 cases e:xs[i]? with
 | none=>rw [e] at h;cases h
 | some x=>rw [e] at h;exact ⟨x,rfl,(Z1a h).symm⟩
section
variable {K:Frag} {a D:Addr} {xs:List V} {g:TG} {te:TE} {QD:Hp->Prop} {σ₀:St} {H:Hp}
theorem B0o (Pv:Nat->List V->Hp->Prop) (h0:Pv 0 [] (upd H D (.lst []))) (hl:∀i ys H,Pv i ys H->SqT K H a xs)
  (hs:∀i x ys H,xs[i]? =some x->Pv i ys H->g x σ₀ H λσ4 H4=>A2j σ₀ σ4/\te σ4 H4 λy H5=>H5 D=some (.lst ys)/\ys.length<sizeLine/\Pv (i+1) (ys++[y]) (upd H5 D (.lst (ys++[y])))) (hd:∀ys H,Pv xs.length ys H->QD H) :
  ∃W:Nat->Nat->Hp->Prop,(∃m,W 0 m (upd H D (.lst [])))/\∀i m H2,W i m H2->
   ((Itt K a).stop i H2/\QD H2)\/((Itt K a).go i H2/\∃N:VK,(∀y H5,N y H5->∃xs,H5 D=some (.lst xs)/\xs.length<sizeLine/\∃m',m'<m/\W (i+1) m' (upd H5 D (.lst (xs++[y]))))/\
    ∀x H3,(Itt K a).yld i H2 x H3->g x σ₀ H3 λσ4 H4=>A2j σ₀ σ4/\te σ4 H4 N):=B6s (Q:=λ_ H=>QD H) Pv h0 hl hs hd
end
section
variable {X:Cx}
theorem Inv.frozen {pins:List (Addr×Obj)} {σ:St} {H:Hp} {s:Shared} {a:Addr} {o:Obj} {kvs:List (Key×V)} (I:Inv X pins σ H s) (ha:H a=some (.dK kvs)) (ho:s.heap.get? a=some o):Inv X pins σ (upd H a (.frz o (.dK kvs))) s :=
 I.write (t':=s.toks) (h':=s.heap) (e:=a) (by rw [ha];trivial) (.inl rfl) (λ_ _ _ e=>e) ⟨o,ho⟩ ⟨ho,(show A1k X.prog X.w H s.heap a (.dK kvs) from I.hok a _ ha)⟩
theorem Inv.thaw {pins:List (Addr×Obj)} {σ:St} {H:Hp} {s:Shared} {a:Addr} {o:Obj} {u:HO} (I:Inv X pins σ H s) (ha:H a=some (.frz o u)) (hu:∃kvs,u= .dK kvs) (h0:∀o' u',X.H₀ a≠some (.frz o' u')):Inv X pins σ (upd H a u) s:=by
 have nf:∀b,H b=none->upd H a u b=none:=λb e=>by rw [A0e (λz=>by subst z;rw [ha] at e;cases e)];exact e
 obtain ⟨kvs,rfl⟩:=hu
 refine ⟨I.ok,I.os,I.bare,⟨I.base.keep,I.base.slot,λb ob e n hx=>nf b (I.base.free b ob e n hx),I.base.there,λb xs e=> ?_,λb ob u' e=> ?_,λb ps e=> ?_⟩,I.loc,I.cell,nf _ I.free,λx c e=>nf _ (I.freeC x c e),
  λp hp=>⟨(I.pin p hp).1,nf _ (I.pin p hp).2.1,(I.pin p hp).2.2⟩,λb v e=> ?_,I.len⟩
 ·have q:=I.base.tups b xs e;rw [A0e (A1g q ha (by intro z;cases z))];exact q
 ·have q:=I.base.frzs b ob u' e;rw [A0e (λz=>by subst z;exact h0 _ _ e)];exact q
 ·obtain ⟨more,q⟩:=I.base.tbls b ps e;exact ⟨more,by rw [A0e (A1g q ha (by intro z;cases z))];exact q⟩
 ·by_cases hb:b=a
  ·subst hb;rw [A0d] at e;cases e;obtain ⟨_,q⟩:=(show A1k X.prog X.w H s.heap b (.frz o (.dK kvs)) from I.hok b _ ha);exact q
  ·rw [A0e hb] at e;exact (I.hok b v e).stay (λ_ _ _ q=>q) (λc q=>by rw [A0e (A1g q ha (by intro z;cases z))];exact q) λc xs q=>by rw [A0e (A1g q ha (by intro z;cases z))];exact q
def C3y (X:Cx) (t:TS):TS:=λD σ H=>∃a o kvs,H a=some (.frz o (.dK kvs))/\(∀o' u',X.H₀ a≠some (.frz o' u'))/\t D σ (upd H a (.dK kvs))
theorem B6r {sts:List Stmt} {t:TS} (h:PSs X sts t):PSs X sts (C3y X t):=by
 intro pins s σ H D I hw;obtain ⟨a,o,kvs,ha,h0,q⟩:=hw;exact h pins s σ _ D (I.thaw ha ⟨kvs,rfl⟩ h0) q
def Itd (a:Addr) (o:Obj) (kvs:List (Key×V)):It :=
 ⟨λi H=>H a=some (.frz o (.dK kvs))/\i<kvs.length,λi H x H'=>H'=H/\∃k v,kvs[i]? =some (k,v)/\x=kV k,λi H=>H a=some (.frz o (.dK kvs))/\i=kvs.length⟩
theorem C4t {P:Program} {w:World} {k:Key} {u:Value} (h:(A0j P w).is k u=true):A1e (kV k) u:=by
 rcases A1d (show B1m k u=true from h) with ⟨i,t,rfl,rfl⟩ | ⟨x,t,rfl,rfl⟩
 ·exact ⟨t,rfl⟩
 ·exact ⟨t,rfl⟩
theorem KV.at {kvs:List (Key×V)} {vs:List (Key×Value)}:KV kvs vs->∀{i:Nat} {k:Key} {v:V},kvs[i]? =some (k,v)->∃u,vs[i]? =some (k,u)/\A1e v u:=by
 intro r;unfold KV at r
 induction r with
 | nil=>intro i k v e;simp at e
 | @cons p q ps qs h t ih =>
  intro i k v e
  cases i with
  | zero =>
   simp at e;subst e;obtain ⟨h1,h2⟩:=h;obtain ⟨q1,q2⟩:=q;cases h1;exact ⟨q2,rfl,h2⟩
  | succ j =>
   obtain ⟨u,e1,e2⟩:=ih (i:=j) (by simpa using e);exact ⟨u,by simpa using e1,e2⟩
end
theorem B6f {P:Program} {w:World} {H:Hp} {h:Heap} {a:Addr} {o:Obj} {kvs:List (Key×V)} {es:Array DictEntry} {ep:Nat} (ok:HOk P w H h) (ha:H a=some (.frz o (.dK kvs))) (ho:o.data= .dict es ep) :
  (a == sysModules)=false/\∃vs,KV kvs vs/\h.DictAt (A0j P w) a vs ep:=by
 obtain ⟨e1,hz,hs,vs,rel,o',es',ep',e2,c,d,r⟩:=(show A1k P w H h a (.frz o (.dK kvs)) from ok a _ ha);rw [e1] at e2;cases e2;rw [ho] at d;cases d;exact ⟨hs,vs,rel,o,es,e1,c,ho,r⟩
theorem B5o {P:Program} {w:World} {K:Frag} {tg:Expr} (it a:Addr) (o:Obj) (kvs:List (Key×V)) (es:Array DictEntry) (ep:Nat) (ho:o.data= .dict es ep) :
  C2a P w K tg (Itd a o kvs) [it] it (λi h=>h.IsKeyIter it a i kvs.length ep) where
 mem:=by simp
 obj:=λi h st b hb=>by
  have e:b=it:=by simpa using hb
  subst e;obtain ⟨ob,e,_,d⟩:=st;exact ⟨ob,e,λv z=>by rw [d] at z;cases z⟩
 keep:=λi h h' st k=>st.at λob e=>k it (by simp) ob e
 item:=by
  intro X hP hw hK hc i pins s σ H E I hf st hg;subst hP hw hK;obtain ⟨ha,hi⟩:=hg;obtain ⟨f0,f1,f2,f3,f4,f5⟩:=hf it (by simp);obtain ⟨_,vs,rel,dd⟩:=B6f I.hok ha ho;have hl:=rel.length;obtain ⟨⟨k,v⟩,hkv⟩:∃p,kvs[i]? =some p:=⟨kvs[i],by simp [hi]⟩;obtain ⟨u,hu,_⟩:=rel.at hkv;rw [hl] at st;refine wpAny_pyNext_dict_item st dd hu λkey h' hk hit sb=> ?_;have I1:Inv X pins σ H { s with heap:=h',toks:=s.toks }:=I.turned (t':=s.toks) (λb ob hb e=>(sb.2 b hb).trans e) f0 f1 f3 f4 f5
  obtain ⟨ob,e,c,d⟩:=id hit;exact ⟨key,rfl,B7m (s:={ s with heap:=h' }) e c d (by decide) ⟨kV k,H,I1,C4t hk,⟨rfl,k,v,hkv,rfl⟩,by rw [hl];exact hit,λb hb=>(hf b hb).1⟩⟩
 done:=by
  intro X hP hw hK hc i pins s σ H E I hf st hg;subst hP hw hK;obtain ⟨ha,hi⟩:=hg;obtain ⟨f0,f1,f2,f3,f4,f5⟩:=hf it (by simp);obtain ⟨_,vs,rel,dd⟩:=B6f I.hok ha ho;have hl:=rel.length;rw [hl] at st;exact wpAny_pyNext_dict_end (I.ok.hd hc) st dd (by simp;omega) λh' eb=>⟨rfl,I.turned (t':=s.toks) (λb ob hb e=>eb b ob hb e) f0 f1 f3 f4 f5⟩
 self:=λ_ _ _ _ _ st h=>wpAny_pyIter_keyiter st h
def C4h (tl:TE):TI:=λσ H R=>tl σ H λx H1=>∃a kvs,x= .ref a/\H1 a=some (.dK kvs)/\∀o,R (Itd a o kvs) (upd H1 a (.frz o (.dK kvs)))
theorem B9p {X:Cx} {tg l:Expr} {tl:TE} (hl:PE X l tl):PI X tg l (C4h tl):=by
 intro pins s σ H R I h;refine thn (hl pins s σ H _ I h) ?_;rintro u s1 ⟨x,H1,I1,rx,a,kvs,ex,ha,q⟩;subst ex;cases rx;obtain ⟨hz,hs,vs,rel,o,es,ep,ho,hx,hd,r⟩:=C0j I1.hok ha;have dd:s1.heap.DictAt (A0j X.prog X.w) a vs ep:=⟨o,es,ho,hx,hd,r⟩;refine wpAny_pyIter_dict hs dd ?_;have I2:Inv X pins σ H1 { s1 with heap:=s1.heap.push { cls:= .type "dict_keyiterator",data:= .fields #[.ref a,.int 0 0,.int vs.length 0,.int ep 0] },toks:=s1.toks }:=I1.kept λb ob e=>Z01 _ e
 have I3:=I2.frozen ha (Z01 _ ho);refine ⟨_,[s1.heap.objs.size],_,_,_,rfl,I3,B5o _ a o kvs es ep hd,?_,λb hb=> ?_,q o⟩
 ·rw [rel.length];exact ⟨_,Z0c _ rfl,rfl,rfl⟩
 ·have e:b=s1.heap.objs.size:=by simpa using hb
  subst e;refine I1.fpOk (Z09 _) ?_;rw [A0e (Z1q (I1.hok.lt ha))];exact I1.hok.fresh (Z09 _)
theorem B8c {a:Addr} {o:Obj} {kvs:List (Key×V)} {g:TG} {tb:TS} {D:B7k} {σ:St} {H:Hp} (Pv:Nat->St->Hp->Prop) (h0:Pv 0 σ H) (hl:∀i σ H,Pv i σ H->H a=some (.frz o (.dK kvs)))
  (hs:∀i k v σ H,kvs[i]? =some (k,v)->Pv i σ H->g (kV k) σ H λσ2 H2=>tb { D with nx:=Pv (i+1),ct:=Pv (i+1),bk:=D.nx } σ2 H2) (hd:∀σ H,Pv kvs.length σ H->D.nx σ H) :
  ∃W:Nat->Nat->St->Hp->Prop,(∃m,W 0 m σ H)/\∀i m σ H,W i m σ H->
   ((Itd a o kvs).stop i H/\D.nx σ H)\/((Itd a o kvs).go i H/\∃N:St->Hp->Prop,(∀σ' H',N σ' H'->∃m',m'<m/\W (i+1) m' σ' H')/\∀x H',(Itd a o kvs).yld i H x H'->g x σ H' λσ2 H2=>tb { D with nx:=N,ct:=N,bk:=D.nx } σ2 H2):=by
 refine ⟨λi m σ H=>m=kvs.length-i/\i<=kvs.length/\Pv i σ H,⟨kvs.length,by simp,Z1e _,h0⟩,?_⟩;rintro i m σ H ⟨rfl,hi,p⟩;by_cases hlt:i<kvs.length
 ·refine .inr ⟨⟨hl i σ H p,hlt⟩,Pv (i+1),λσ' H' p'=>⟨kvs.length-(i+1),by omega,rfl,hlt,p'⟩,λx H' y=> ?_⟩;obtain ⟨e,k,v,e1,rfl⟩:=y;subst e;exact hs i k v σ _ e1 p
 ·have e:i=kvs.length:=by omega
  subst e;exact .inl ⟨⟨hl _ σ H p,rfl⟩,hd σ H p⟩
theorem C1h {A:Around} {s:Shared} {kb:List (Key×Value)}:∀{kvs:List (Key×V)} {ka:List (Key×Value)},KV kvs ka->(∀p∈kvs,(∃i,p.2= .int i)\/∃z,p.2= .str z)->
  (∀p∈kvs,∃u,PySem.valueAt kb p.1=some u/\A1e p.2 u)->PySem.W.KeqHits A s kb ka true:=by
 intro kvs ka r;unfold KV at r
 induction r with
 | nil=>intro _ _;exact .nil
 | @cons p q ps qs h t ih =>
  intro h1 h2;obtain ⟨k,v⟩:=p;obtain ⟨k',u⟩:=q;obtain ⟨e,rv⟩:=h;cases e;obtain ⟨y,hy,ry⟩:=h2 _ (.head _);have hr:=ih (λp hp=>h1 p (.tail _ hp)) λp hp=>h2 p (.tail _ hp)
  have heq:SeqAt.EqAt A s u y true:=by
   rcases h1 _ (.head _) with ⟨i,e⟩ | ⟨z,e⟩
   ·have e:v= .int i:=e;subst e;obtain ⟨t1,rfl⟩:=rv;obtain ⟨t2,rfl⟩:=ry
    simpa using SeqAt.EqAt.int_int (A:=A) (s:=s) i t1 i t2
   ·have e:v= .str z:=e;subst e;obtain ⟨t1,rfl⟩:=rv;obtain ⟨t2,rfl⟩:=ry
    simpa using SeqAt.EqAt.str_str (A:=A) (s:=s) z t1 z t2
  exact PySem.W.KeqHits.hit (e:=true) (b:=true) hy heq hr
theorem A7w:∀{l:List (Key×Value)} {p:Key×Value},(l.map (·.1)).Nodup->p∈l->PySem.valueAt l p.1=some p.2
 | [],_,_,h=>by cases h
 | q::r,p,hn,h=>by
  have hn:(q.1::r.map (·.1)).Nodup:=hn;obtain ⟨n1,n2⟩:=Z15.mp hn;rcases Z0e.mp h with rfl | h
  ·simp [PySem.valueAt]
  ·have hne:¬q.1=p.1:=λe=>n1 (e▸List.mem_map_of_mem h);have:=A7w n2 h
   simpa [PySem.valueAt,Z2h,hne] using this
theorem KV.mem {kvs:List (Key×V)} {vs:List (Key×Value)} (r:KV kvs vs) {p:Key×V} (h:p∈kvs):∃u,(p.1,u)∈vs/\A1e p.2 u:=by
 obtain ⟨i,hi⟩:=List.getElem?_of_mem h;obtain ⟨u,e,ru⟩:=r.at (k:=p.1) (v:=p.2) hi;exact ⟨u,Z13 e,ru⟩
section
variable {X:Cx}
def PTs (X:Cx) (cs:List Expr) (t:TT):Prop :=
 ∀(pins:List (Addr×Obj)) (s:Shared) (σ:St) (H:Hp) (Q:Bool->Hp->Prop),Inv X pins σ H s->t σ H Q->wpAny (model X.prog X.w) X.A (forIn cs true λc r=>if r=true then do let ok<-isTrue c X.env (eval c X.env);pure (ForInStep.yield ok) else pure (ForInStep.yield r)) (TP X pins σ Q) X.xe s
theorem B6q {elt iter tg:Expr} {cs:List Expr} {scope:Scope} {pos:Pos} {N':List Str} {ix:List (Option Nat)} {cl:List (Str×Addr)} {wi:TI} {g:TG} {tc:TT} {te:TE} (hc:X.calm=true) (ck:B6z X scope cl) (io:B8i X N' scope ix) (hi:PI X tg iter wi)
  (hg:∀C s₀ H₀ fp,PG (blk X N' scope cl C s₀ H₀ fp) tg g) (ht:∀C s₀ H₀ fp,PTs (blk X N' scope cl C s₀ H₀ fp) cs tc) (he:∀C s₀ H₀ fp,PE (blk X N' scope cl C s₀ H₀ fp) elt te) (R:VK->St->It->Hp->Prop) (hR:∀Q σ J H1,R Q σ J H1->∀D,H1 D=none->∃W:Nat->Nat->Hp->Prop,(∃m,W 0 m (upd H1 D (.lst [])))/\∀i m H2,W i m H2->
 (J.stop i H2/\Q (.ref D) H2)\/(J.go i H2/\∃(N:VK) (M:Hp->Prop),(∀y H5,N y H5->∃xs,H5 D=some (.lst xs)/\xs.length<sizeLine/\∃m',m'<m/\W (i+1) m' (upd H5 D (.lst (xs++[y]))))/\(∀H5,M H5->∃m',m'<m/\W (i+1) m' H5)/\∀x H3,J.yld i H2 x H3->g x (A3j ix σ) H3 λσ4 H4=>A2j (A3j ix σ) σ4/\tc σ4 H4 λb H5=>if b=true then te σ4 H5 N else M H5)) (hs:∀x,foldedSetIterable iter X.env x=pure x:=by intro _;rfl) :
  PE X (.ListComp elt [⟨tg,iter,cs,0⟩] scope pos) (λσ H Q=>wi σ H (R Q σ)):=by
 intro pins s σ H Q I h;rw [eval_ListComp];refine wpAny_comprehension_free (use:=none) rfl hs ck.eq ck.kind ck.names (thn (hi pins s σ H _ I h) λxv s1 h1=>thn h1 λitv s2 h2=> ?_);obtain ⟨it,fp,tn,J,H1,rfl,I1,T,st1,f1,R1⟩:=h2;refine Z16 ?_;have hD:H1 s2.heap.objs.size=none:=I1.hok.fresh (Z09 _);obtain ⟨W,⟨m0,w0⟩,turn⟩:=hR _ _ _ _ R1 _ hD;have hfD:∀b∈fp,b<s2.heap.objs.size:=λb hb=>let ⟨o,e,_⟩:=T.obj _ _ st1 b hb;Z0a e;have I2:Inv X pins σ (upd H1 s2.heap.objs.size (.lst [])) { s2 with heap:=s2.heap.push { cls:= .type "list",data:= .seq ([]:List Value).toArray },toks:=s2.toks }:=I1.lnew (its:=[]) .nil (Z1e _);have f2:∀b∈fp,B2i X pins (upd H1 s2.heap.objs.size (.lst [])) b:=λb hb=>⟨by rw [A0e (Z0h (hfD b hb))];exact (f1 b hb).1,(f1 b hb).2⟩
 have lt2:∀b∈fp,b<(s2.heap.push { cls:= .type "list",data:= .seq ([]:List Value).toArray }).objs.size:=λb hb=>by rw [Z1s];exact Nat.lt_succ_of_lt (hfD b hb)
 refine wpAny_newFunctionEnv ck.ncell (by intro y hy;simp at hy) (λh3 hns sb3=> ?_) ck.kind;dsimp only at hns sb3⊢;have k3:∀b o,(s2.heap.push { cls:= .type "list",data:= .seq ([]:List Value).toArray }).get? b=some o->h3.get? b=some o:=λb o e=>(sb3.2 b (Z0h (Z0a e))).trans (Z01 _ e);generalize hs2:({ s2 with heap:=s2.heap.push { cls:= .type "list",data:= .seq ([]:List Value).toArray },toks:=s2.toks }:Shared)=s3 at I2;have e3:s2.heap.push { cls:= .type "list",data:= .seq ([]:List Value).toArray }=s3.heap:=by rw [<-hs2]
 rw [e3] at hns k3 lt2;have I3:=A9i (N':=N') (ix:=ix) I2 ck io f2 lt2 (h':=h3) (t':=s2.toks+([]:List (Str×Value)).length) hns k3;have e4:({ s3 with heap:=h3,toks:=s2.toks+([]:List (Str×Value)).length }:Shared)={ s2 with heap:=h3,toks:=s2.toks+([]:List (Str×Value)).length }:=by rw [<-hs2]
 rw [e4] at I3;have st3:tn 0 h3:=T.keep _ _ _ st1 λb hb o e=>k3 b o (by rw [<-e3];exact Z01 _ e)
 have loop:∀s4:Shared,s4={ s2 with heap:=h3,toks:=s2.toks+([]:List (Str×Value)).length }->
   codeAny (model X.prog X.w) X.A (.compLoop (.ListComp elt [⟨tg,iter,cs,0⟩] scope pos) 0 (.ref it) (.ref s2.heap.objs.size) (compEnvC scope cl s3.heap.objs.size X.env))
    (compPost (model X.prog X.w) X.A X.xe none (EP X pins σ Q) (.ref s2.heap.objs.size) s3.heap.objs.size) s4:=by
  rintro s4 rfl
  have stat:∀{H':Hp},(∀b∈fp,H' b=none)->∀b∈fp,B2i (blk X N' scope cl s3.heap.objs.size s3 (upd H1 s2.heap.objs.size (.lst [])) fp) [] H' b:=λhn b hb =>
   ⟨hn b hb,Z0h (lt2 b hb),λhs=>I3.ok.exfs b hb hs,.inl hb,λx c e=>(f2 b hb).2.2.2.2.1 x c (ck.sub x c e),(λp hp=>by cases hp)⟩
  refine codeAny_loop rfl (λn s'=>∃i σ' H',Inv (blk X N' scope cl s3.heap.objs.size s3 (upd H1 s2.heap.objs.size (.lst [])) fp) [] σ' H' s'/\(∀(j:Nat) v,(A3j ix σ)[j]? =some (some v)->σ'[j]? =some (some v))/\tn i s'.heap/\(∀b∈fp,H' b=none)/\W i n H')
   (λn s' hI=> ?_) m0 ⟨0,_,_,I3,λ_ _ z=>z,st3,λb hb=>(f2 b hb).1,w0⟩
  obtain ⟨i,σ5,H5,I5,wk,st5,fr5,w5⟩:=hI;show wpAny _ _ ((compTurn (.ListComp elt [⟨tg,iter,cs,0⟩] scope pos) 0 (.ref it) (.ref s2.heap.objs.size) (compEnvC scope cl s3.heap.objs.size X.env)).onRaise (λx=>do noteFrame x (compEnvC scope cl s3.heap.objs.size X.env);theTreesLotGoes x)) _ _ s';refine wpAny_noted ?_;rw [compTurn_list];refine Z00 (Z1y ?_);rcases turn i n H5 w5 with ⟨stop,qn⟩ | ⟨go,NN,MM,hNN,hMM,step⟩
  ·refine Z00 (Z10 (T.done (blk X N' scope cl s3.heap.objs.size s3 (upd H1 s2.heap.objs.size (.lst [])) fp) rfl rfl rfl hc i [] s' σ5 H5 (λ_ _=>False) I5 (stat fr5) st5 stop) (λr s6 h6=> ?_) λ_ _ z=>z.elim);obtain ⟨rfl,I6⟩:=h6;refine Z04 ?_;obtain ⟨mm,hm,_⟩:=id I6.loc;exact ⟨mm,hm,λh' sb=>⟨.ref s2.heap.objs.size,H5,B6n I2 f2 I6 sb,rfl,qn⟩⟩
  ·refine Z00 (Z10 (T.item (blk X N' scope cl s3.heap.objs.size s3 (upd H1 s2.heap.objs.size (.lst [])) fp) rfl rfl rfl hc i [] s' σ5 H5 (λ_ _=>False) I5 (stat fr5) st5 go) (λr s6 h6=> ?_) λ_ _ z=>z.elim);obtain ⟨u,rfl,h6⟩:=h6;refine Z00 (Z10 h6 (λ_ s7 h7=> ?_) λ_ _ z=>z.elim);obtain ⟨x,H7,I7,r7,y7,st7,fr7⟩:=h7;have I7w:Inv (blk X N' scope cl s3.heap.objs.size s3 (upd H1 s2.heap.objs.size (.lst [])) fp) [] (A3j ix σ) H7 s7:=I7.weak (by rw [I7.len];unfold A3j;rw [Z08];exact io.1) wk;have I7p:=I7w.pinned (stat fr7) (T.obj _ _ st7);refine Z00 (Z10 (hg _ _ _ _ _ s7 _ H7 x u _ I7p r7 (step x H7 y7)) (λ_ s8 h8=> ?_) λ_ _ z=>z.elim);obtain ⟨σ8,H8,I8,kp8,q8⟩:=h8
   have back:∀{s10:Shared} {σ10:St} {H10:Hp} {m':Nat},Inv (blk X N' scope cl s3.heap.objs.size s3 (upd H1 s2.heap.objs.size (.lst [])) fp) ([]++A7s fp s7.heap) σ10 H10 s10->(∀(j:Nat) v,(A3j ix σ)[j]? =some (some v)->σ10[j]? =some (some v))->W (i+1) m' H10->
     ∃i σ' H',Inv (blk X N' scope cl s3.heap.objs.size s3 (upd H1 s2.heap.objs.size (.lst [])) fp) [] σ' H' s10/\(∀(j:Nat) v,(A3j ix σ)[j]? =some (some v)->σ'[j]? =some (some v))/\tn i s10.heap/\(∀b∈fp,H' b=none)/\W i m' H':=by
    intro s10 σ10 H10 m' I10 kk w10;refine ⟨i+1,σ10,H10,I10.unpinned,kk,T.keep _ _ _ st7 λb hb o e=>(I10.pin (b,o) (Z02 _ (Z02 _ (A2q hb e)))).1,λb hb=> ?_,w10⟩;obtain ⟨o,e,d⟩:=T.obj _ _ st7 b hb;exact (I10.pin (b,o) (Z02 _ (Z02 _ (A2q hb e)))).2.1
   refine Z00 (Z10 (ht _ _ _ _ _ s8 σ8 H8 _ I8 q8) (λok s9' h9'=> ?_) λ_ _ z=>z.elim);obtain ⟨H9',I9',q9'⟩:=h9'
   cases ok with
   | false =>
    have q9'':MM H9':=by simpa using q9'
    obtain ⟨m',hm',w9⟩:=hMM _ q9'';exact Z00 (Z04 (Z04 ⟨rfl,m',hm',back I9' kp8.get w9⟩))
   | true =>
    have q9'':te σ8 H9' NN:=by simpa using q9'
    refine Z00 (Z00 (Z10 (he _ _ _ _ _ s9' σ8 H9' _ I9' q9'') (λyv s9 h9=> ?_) λ_ _ z=>z.elim));obtain ⟨y,H9,I9,r9,n9⟩:=h9;obtain ⟨xs,hx9,hz9,m',hm',w9⟩:=hNN _ _ n9;refine Z00 (Z10 (A0w (X:=blk X N' scope cl s3.heap.objs.size s3 (upd H1 s2.heap.objs.size (.lst [])) fp) _ s9 σ8 H9 (.ref s2.heap.objs.size) [y] (.ref s2.heap.objs.size) [yv] (λ_ H'=>W (i+1) m' H') I9 rfl (.cons r9 .nil) ⟨_,xs,y,rfl,rfl,hx9,hz9,w9⟩) (λ_ s10 h10=> ?_) λ_ _ z=>z.elim);obtain ⟨_,H10,I10,_,w10⟩:=h10;exact Z04 (Z04 ⟨rfl,m',hm',back I10 kp8.get w10⟩)
 have e5:s3.heap.objs.size=(s2.heap.push { cls:= .type "list",data:= .seq ([]:List Value).toArray }).objs.size:=by rw [e3]
 rw [e5] at loop;exact codeAny_compStart_list (loop _ rfl) (T.self X.A 0 _ _ _ st3 (loop _ rfl))
theorem B6g {elt iter tg:Expr} {scope:Scope} {pos:Pos} {N':List Str} {ix:List (Option Nat)} {cl:List (Str×Addr)} {wi:TI} {g:TG} {te:TE} (hc:X.calm=true) (ck:B6z X scope cl) (io:B8i X N' scope ix) (hi:PI X tg iter wi)
  (hg:∀C s₀ H₀ fp,PG (blk X N' scope cl C s₀ H₀ fp) tg g) (he:∀C s₀ H₀ fp,PE (blk X N' scope cl C s₀ H₀ fp) elt te) (hs:∀x,foldedSetIterable iter X.env x=pure x:=by intro _;rfl) :
  PE X (.ListComp elt [⟨tg,iter,[],0⟩] scope pos) (C3a ix wi g te) :=
 B6q (tc:=λ_ H Q=>Q true H) hc ck io hi hg (λ_ _ _ _ _ _ _ _ _ I h=>wpAny_tests_nil ⟨_,I,h⟩) he _ (λ_ _ _ _ R D2 hD=>by
  obtain ⟨W,w0,turn⟩:=R D2 hD;refine ⟨W,w0,λi m H2 w=>(turn i m H2 w).imp id λ⟨go,N,hN,step⟩=>⟨go,N,λ_=>False,hN,λ_ z=>z.elim,?_⟩⟩
  simpa using step) hs
end
section
variable {K:Frag} {a D:Addr} {xs:List V} {g:TG} {tc:TT} {te:TE} {QD:Hp->Prop} {σ₀:St} {H:Hp}
end
section
variable {prog:Program} {w:World} {K:Type} [DecidableEq K] {knd:KeyKind prog w K} {A:Around} {R:Result->Shared->Prop} {I l d:Addr} {items:Array Value} {rs:List (K×Value)} {h₀:Heap} {g:Array GenState} {dr:Drawn} {os:OsState}
end
def A6n (env:Env):List (Str×Addr)->Prop
 | []=>True
 | p::r=>env.cells.lookup p.1=some p.2/\A6n env r
theorem A6n.get {env:Env}:∀{cl:List (Str×Addr)},A6n env cl->∀{x:Str} {c:Addr},cl.lookup x=some c->env.cells.lookup x=some c
 | [],_,_,_,h=>by cases h
 | (y,d)::r,h,x,c,e=>by
  rw [Z28] at e;split at e
  ·rename_i hb;have hb':x=y:=by simpa using hb
   cases e
   subst hb';exact h.1
  ·exact A6n.get h.2 e
theorem A5g {x:Str}:∀{cl:List (Str×Addr)},x∈cl.map (·.1)->∃c,cl.lookup x=some c
 | [],h=>by cases h
 | (y,d)::r,h=>by
  rw [Z28]
  cases hb:(x == y) with
  | true=>exact ⟨d,rfl⟩
  | false =>
   have hne:x≠y:=by simpa using hb
   rcases Z0e.mp h with e | e
   ·exact absurd e hne
   ·exact A5g e
theorem B5p {X:Cx} {scope:Scope} {cl:List (Str×Addr)} {xs:List Str} (he:closureFor scope X.env=pure cl) (hc:A6n X.env cl) (hx:cl.map (·.1)=xs) (hk:scope.kind= .function) (hn:∀y∈scope.names,y.2≠.cell/\(y.2= .free->y.1∈xs))
  (hl:∀y∈scope.names,y.2= .local->scope.names.lookup y.1=some .local):B6z X scope cl where
 eq:=he
 sub:=λy d h=>hc.get h
 has:=λy h=>by
  have key:y∈xs:=by
   have m:∃k,(y,k)∈(relabel scope X.env).names/\(k= .cell\/k= .free):=h.elim (λz=>⟨_,A3g z,.inl rfl⟩) λz=>⟨_,A3g z,.inr rfl⟩;obtain ⟨k,hm,hk⟩:=m;obtain ⟨⟨n,k0⟩,h0,e⟩:=Z2c.mp hm;dsimp only at e;by_cases hf:k0= .free
   ·have en:n=y:=by
     split at e
     ·exact congrArg Prod.fst e
     ·exact congrArg Prod.fst e
    rw [<-en];exact (hn _ h0).2 hf
   ·have hb:(k0 == NameKind.free)=false:=by simpa using hf
    simp only [hb,Bool.false_and,Bool.false_eq_true,if_false] at e;have e2:k0=k:=congrArg Prod.snd e;subst e2;rcases hk with hk | hk
    ·exact absurd hk (hn _ h0).1
    ·exact absurd hk hf
  rw [<-hx] at key;exact A5g key
 kind:=hk
 ncell:=λy hy=>(hn y hy).1
 names:=hl
def A9w (X:Cx) (scope:Scope):List Str->List Nat->Prop
 | [],[]=>True
 | x::xs,j::js=>(X.N[j]? =some x/\(X.env.scope.names.lookup x=some .cell\/X.env.scope.names.lookup x=some .free)/\((relabel scope X.env).names.lookup x=some .cell\/(relabel scope X.env).names.lookup x=some .free))/\A9w X scope xs js
 | _,_=>False
theorem A9w.get {X:Cx} {scope:Scope}:∀{xs:List Str} {js:List Nat},A9w X scope xs js->xs.length=js.length/\∀(i j:Nat),js[i]? =some j->∃x,xs[i]? =some x/\X.N[j]? =some x/\(X.env.scope.names.lookup x=some .cell\/X.env.scope.names.lookup x=some .free)/\((relabel scope X.env).names.lookup x=some .cell\/(relabel scope X.env).names.lookup x=some .free)
 | [],[],_=>⟨rfl,λi j e=>by simp at e⟩
 | x::xs,j::js,h=>by
  obtain ⟨e,f⟩:=A9w.get h.2;refine ⟨by simp [e],λi k ek=> ?_⟩
  cases i with
  | zero=>simp at ek;subst ek;exact ⟨x,rfl,h.1⟩
  | succ i=>exact f i k (by simpa using ek)
 | [],_::_,h=>h.elim
 | _::_,[],h=>h.elim
theorem B4m {X:Cx} {N0 xs:List Str} {js:List Nat} {scope:Scope} (h:A9w X scope xs js):B8i X (N0++xs) scope (List.replicate N0.length none++js.map some):=by
 obtain ⟨hl,hf⟩:=h.get;refine ⟨by simp [hl],λi k e=> ?_⟩;by_cases hi:i<N0.length
 ·rw [Z26 (by simpa using hi),List.getElem?_replicate] at e;split at e <;> cases e
 ·rw [Z1l (by simpa using hi),List.length_replicate,Z1z] at e;obtain ⟨j,ej,ek⟩:=Z0i.mp e;cases ek;obtain ⟨x,h1,h2,h3,h4⟩:=hf _ _ ej;exact ⟨x,by rw [Z1l (by omega)];exact h1,h2,h3,h4⟩
section
variable {X:Cx}
end
section
variable {D:Addr} {g:TG} {te:TE} {QD:Hp->Prop} {σ₀:St} {H:Hp}
theorem B4t {J:It} (n:Nat) (Pv:Nat->List V->Hp->Prop) (h0:Pv 0 [] (upd H D (.lst []))) (hgo:∀i ys H,i<n->Pv i ys H->J.go i H) (hst:∀ys H,Pv n ys H->J.stop n H)
  (hs:∀i ys H,i<n->Pv i ys H->∀x H3,J.yld i H x H3->g x σ₀ H3 λσ4 H4=>A2j σ₀ σ4/\te σ4 H4 λy H5=>H5 D=some (.lst ys)/\ys.length<sizeLine/\Pv (i+1) (ys++[y]) (upd H5 D (.lst (ys++[y])))) (hd:∀ys H,Pv n ys H->QD H) :
  ∃W:Nat->Nat->Hp->Prop,(∃m,W 0 m (upd H D (.lst [])))/\∀i m H2,W i m H2->
   (J.stop i H2/\QD H2)\/(J.go i H2/\∃N:VK,(∀y H5,N y H5->∃xs,H5 D=some (.lst xs)/\xs.length<sizeLine/\∃m',m'<m/\W (i+1) m' (upd H5 D (.lst (xs++[y]))))/\
    ∀x H3,J.yld i H2 x H3->g x σ₀ H3 λσ4 H4=>A2j σ₀ σ4/\te σ4 H4 N):=by
 refine ⟨λi m H=>m=n-i/\i<=n/\∃ys,Pv i ys H,⟨n,by simp,Z1e _,[],h0⟩,?_⟩;rintro i m H2 ⟨rfl,hi,ys,p⟩;by_cases hlt:i<n
 ·exact .inr ⟨hgo i ys H2 hlt p,λy H5=>H5 D=some (.lst ys)/\ys.length<sizeLine/\Pv (i+1) (ys++[y]) (upd H5 D (.lst (ys++[y]))),λy H5 z=>⟨ys,z.1,z.2.1,n-(i+1),by omega,rfl,hlt,_,z.2.2⟩,λx H3 z=>hs i ys H2 hlt p x H3 z⟩
 ·have e:i=n:=by omega
  subst e;exact .inl ⟨hst ys H2 p,hd ys H2 p⟩
end
section
variable {X:Cx}
theorem B7u {i₀:Nat} {x₀:Str} {pos₀ spos:Pos} {elt iter tg:Expr} {cs:List Expr} {scope:Scope} {pos:Pos} {N':List Str} {ix:List (Option Nat)} {cl:List (Str×Addr)} {wi:TI} {g:TG} {tc:TT} {te:TE} (hN₀:X.N.Nodup) (hi₀:X.N[i₀]? =some x₀) (hx₀:Loc X.env.scope x₀) (hc:X.calm=true) (ck:B6z X scope cl) (io:B8i X N' scope ix) (hi:PI X tg iter wi)
  (hg:∀C s₀ H₀ fp,PG (blk X N' scope cl C s₀ H₀ fp) tg g) (ht:∀C s₀ H₀ fp,PTs (blk X N' scope cl C s₀ H₀ fp) cs tc) (he:∀C s₀ H₀ fp,PE (blk X N' scope cl C s₀ H₀ fp) elt te) (R:B7k->St->It->Hp->Prop) (hR:∀D σ J H1,R D σ J H1->∀D2,H1 D2=none->∃W:Nat->Nat->Hp->Prop,(∃m,W 0 m (upd H1 D2 (.lst [])))/\∀i m H2,W i m H2->
   (J.stop i H2/\D.nx (σ.set i₀ (some (.ref D2))) H2)\/(J.go i H2/\∃(N:VK) (M:Hp->Prop),(∀y H5,N y H5->∃xs,H5 D2=some (.lst xs)/\xs.length<sizeLine/\∃m',m'<m/\W (i+1) m' (upd H5 D2 (.lst (xs++[y]))))/\(∀H5,M H5->∃m',m'<m/\W (i+1) m' H5)/\∀x H3,J.yld i H2 x H3->g x (A3j ix σ) H3 λσ4 H4=>A2j (A3j ix σ) σ4/\tc σ4 H4 λb H5=>if b=true then te σ4 H5 N else M H5)) (hs:∀x,foldedSetIterable iter X.env x=pure x:=by intro _;rfl)
  (hsw:swapsWith (.ListComp elt [⟨tg,iter,cs,0⟩] scope pos) (some (.Name x₀ pos₀)) spos.line X.env=pure true:=by rfl) (hf₀:X.fn x₀=true\/X.env.scope.names.lookup x₀=some .local:=by first | exact .inl rfl | exact .inr rfl | assumption) :
  PS X (.Assign [.Name x₀ pos₀] (.ListComp elt [⟨tg,iter,cs,0⟩] scope pos) spos) (λD σ H=>wi σ H (R D σ)):=by
 intro pins s σ H D₀ I h;rw [exec_Assign_Name_used _ _ _ _ hsw];refine Z00 (Z1y (Z00 ?_));show wpAny _ X.A (do let _<-comprehension (.ListComp elt [⟨tg,iter,cs,0⟩] scope pos) scope X.env _ (newList []) false (eval iter X.env) (some (assign (.Name x₀ pos₀) X.env))) _ _ s;refine Z00 (Z10 (wpAny_comprehension_free (use:=some (assign (.Name x₀ pos₀) X.env)) (Q:=λ_ s'=>∃σ' H',Inv X pins σ' H' s'/\D₀.nx σ' H') rfl hs ck.eq ck.kind ck.names (thn (hi pins s σ H _ I h) λxv s1 h1=>thn h1 λitv s2 h2=> ?_)) (λ_ s' hq=>Z04 (Z04 hq)) λ_ _ e=>e);obtain ⟨it,fp,tn,J,H1,rfl,I1,T,st1,f1,R1⟩:=h2;refine Z16 ?_;have hD:H1 s2.heap.objs.size=none:=I1.hok.fresh (Z09 _);obtain ⟨W,⟨m0,w0⟩,turn⟩:=hR _ _ _ _ R1 _ hD;have hfD:∀b∈fp,b<s2.heap.objs.size:=λb hb=>let ⟨o,e,_⟩:=T.obj _ _ st1 b hb;Z0a e;have I2:Inv X pins σ (upd H1 s2.heap.objs.size (.lst [])) { s2 with heap:=s2.heap.push { cls:= .type "list",data:= .seq ([]:List Value).toArray },toks:=s2.toks }:=I1.lnew (its:=[]) .nil (Z1e _);have f2:∀b∈fp,B2i X pins (upd H1 s2.heap.objs.size (.lst [])) b:=λb hb=>⟨by rw [A0e (Z0h (hfD b hb))];exact (f1 b hb).1,(f1 b hb).2⟩
 have lt2:∀b∈fp,b<(s2.heap.push { cls:= .type "list",data:= .seq ([]:List Value).toArray }).objs.size:=λb hb=>by rw [Z1s];exact Nat.lt_succ_of_lt (hfD b hb)
 refine wpAny_newFunctionEnv ck.ncell (by intro y hy;simp at hy) (λh3 hns sb3=> ?_) ck.kind;dsimp only at hns sb3⊢;have k3:∀b o,(s2.heap.push { cls:= .type "list",data:= .seq ([]:List Value).toArray }).get? b=some o->h3.get? b=some o:=λb o e=>(sb3.2 b (Z0h (Z0a e))).trans (Z01 _ e);generalize hs2:({ s2 with heap:=s2.heap.push { cls:= .type "list",data:= .seq ([]:List Value).toArray },toks:=s2.toks }:Shared)=s3 at I2;have e3:s2.heap.push { cls:= .type "list",data:= .seq ([]:List Value).toArray }=s3.heap:=by rw [<-hs2]
 rw [e3] at hns k3 lt2;have I3:=A9i (N':=N') (ix:=ix) I2 ck io f2 lt2 (h':=h3) (t':=s2.toks+([]:List (Str×Value)).length) hns k3;have e4:({ s3 with heap:=h3,toks:=s2.toks+([]:List (Str×Value)).length }:Shared)={ s2 with heap:=h3,toks:=s2.toks+([]:List (Str×Value)).length }:=by rw [<-hs2]
 rw [e4] at I3;have st3:tn 0 h3:=T.keep _ _ _ st1 λb hb o e=>k3 b o (by rw [<-e3];exact Z01 _ e)
 have loop:∀s4:Shared,s4={ s2 with heap:=h3,toks:=s2.toks+([]:List (Str×Value)).length }->
   codeAny (model X.prog X.w) X.A (.compLoop (.ListComp elt [⟨tg,iter,cs,0⟩] scope pos) 0 (.ref it) (.ref s2.heap.objs.size) (compEnvC scope cl s3.heap.objs.size X.env))
    (compPost (model X.prog X.w) X.A X.xe (some (assign (.Name x₀ pos₀) X.env)) (λ_ s'=>∃σ' H',Inv X pins σ' H' s'/\D₀.nx σ' H') (.ref s2.heap.objs.size) s3.heap.objs.size) s4:=by
  rintro s4 rfl
  have stat:∀{H':Hp},(∀b∈fp,H' b=none)->∀b∈fp,B2i (blk X N' scope cl s3.heap.objs.size s3 (upd H1 s2.heap.objs.size (.lst [])) fp) [] H' b:=λhn b hb =>
   ⟨hn b hb,Z0h (lt2 b hb),λhs=>I3.ok.exfs b hb hs,.inl hb,λx c e=>(f2 b hb).2.2.2.2.1 x c (ck.sub x c e),(λp hp=>by cases hp)⟩
  refine codeAny_loop rfl (λn s'=>∃i σ' H',Inv (blk X N' scope cl s3.heap.objs.size s3 (upd H1 s2.heap.objs.size (.lst [])) fp) [] σ' H' s'/\(∀(j:Nat) v,(A3j ix σ)[j]? =some (some v)->σ'[j]? =some (some v))/\tn i s'.heap/\(∀b∈fp,H' b=none)/\W i n H')
   (λn s' hI=> ?_) m0 ⟨0,_,_,I3,λ_ _ z=>z,st3,λb hb=>(f2 b hb).1,w0⟩
  obtain ⟨i,σ5,H5,I5,wk,st5,fr5,w5⟩:=hI;show wpAny _ _ ((compTurn (.ListComp elt [⟨tg,iter,cs,0⟩] scope pos) 0 (.ref it) (.ref s2.heap.objs.size) (compEnvC scope cl s3.heap.objs.size X.env)).onRaise (λx=>do noteFrame x (compEnvC scope cl s3.heap.objs.size X.env);theTreesLotGoes x)) _ _ s';refine wpAny_noted ?_;rw [compTurn_list];refine Z00 (Z1y ?_);rcases turn i n H5 w5 with ⟨stop,qn⟩ | ⟨go,NN,MM,hNN,hMM,step⟩
  ·refine Z00 (Z10 (T.done (blk X N' scope cl s3.heap.objs.size s3 (upd H1 s2.heap.objs.size (.lst [])) fp) rfl rfl rfl hc i [] s' σ5 H5 (λ_ _=>False) I5 (stat fr5) st5 stop) (λr s6 h6=> ?_) λ_ _ z=>z.elim);obtain ⟨rfl,I6⟩:=h6;refine Z04 ?_;obtain ⟨mm,hm,_⟩:=id I6.loc;have fC:B2i X pins H5 s3.heap.objs.size:=I2.fpOk (Z09 _) I6.free;have Io:Inv X pins σ H5 s6:=B6n I2 f2 I6 (Heap.SameBut.refl _ _);show wpAny _ X.A (assign (.Name x₀ pos₀) X.env (.ref s2.heap.objs.size)) _ _ s6;refine wpAny_assign_Name (A9r Io hN₀ hi₀ hx₀ (v:= .ref s2.heap.objs.size) rfl (λs7 I7 sb7=> ?_) hf₀);obtain ⟨a,sb,ha⟩:=sb7
   have ca:s3.heap.objs.size≠a:=by
    rcases ha with ha | ha
    ·rw [ha];exact fC.2.1
    ·exact λz=>fC.2.2.2.2.1 _ _ ha z.symm
   obtain ⟨oC,es,ep,ho,r⟩:=hm;exact ⟨mm,⟨oC,es,ep,(sb.2 _ ca).trans ho,r⟩,λh' sb'=>⟨_,H5,I7.turned (t':=s7.toks) (λb o hb e=>(sb'.2 b hb).trans e) fC.1 fC.2.1 fC.2.2.2.1 fC.2.2.2.2.1 fC.2.2.2.2.2,qn⟩⟩
  ·refine Z00 (Z10 (T.item (blk X N' scope cl s3.heap.objs.size s3 (upd H1 s2.heap.objs.size (.lst [])) fp) rfl rfl rfl hc i [] s' σ5 H5 (λ_ _=>False) I5 (stat fr5) st5 go) (λr s6 h6=> ?_) λ_ _ z=>z.elim);obtain ⟨u,rfl,h6⟩:=h6;refine Z00 (Z10 h6 (λ_ s7 h7=> ?_) λ_ _ z=>z.elim);obtain ⟨x,H7,I7,r7,y7,st7,fr7⟩:=h7;have I7w:Inv (blk X N' scope cl s3.heap.objs.size s3 (upd H1 s2.heap.objs.size (.lst [])) fp) [] (A3j ix σ) H7 s7:=I7.weak (by rw [I7.len];unfold A3j;rw [Z08];exact io.1) wk;have I7p:=I7w.pinned (stat fr7) (T.obj _ _ st7);refine Z00 (Z10 (hg _ _ _ _ _ s7 _ H7 x u _ I7p r7 (step x H7 y7)) (λ_ s8 h8=> ?_) λ_ _ z=>z.elim);obtain ⟨σ8,H8,I8,kp8,q8⟩:=h8
   have back:∀{s10:Shared} {σ10:St} {H10:Hp} {m':Nat},Inv (blk X N' scope cl s3.heap.objs.size s3 (upd H1 s2.heap.objs.size (.lst [])) fp) ([]++A7s fp s7.heap) σ10 H10 s10->(∀(j:Nat) v,(A3j ix σ)[j]? =some (some v)->σ10[j]? =some (some v))->W (i+1) m' H10->
     ∃i σ' H',Inv (blk X N' scope cl s3.heap.objs.size s3 (upd H1 s2.heap.objs.size (.lst [])) fp) [] σ' H' s10/\(∀(j:Nat) v,(A3j ix σ)[j]? =some (some v)->σ'[j]? =some (some v))/\tn i s10.heap/\(∀b∈fp,H' b=none)/\W i m' H':=by
    intro s10 σ10 H10 m' I10 kk w10;refine ⟨i+1,σ10,H10,I10.unpinned,kk,T.keep _ _ _ st7 λb hb o e=>(I10.pin (b,o) (Z02 _ (Z02 _ (A2q hb e)))).1,λb hb=> ?_,w10⟩;obtain ⟨o,e,d⟩:=T.obj _ _ st7 b hb;exact (I10.pin (b,o) (Z02 _ (Z02 _ (A2q hb e)))).2.1
   refine Z00 (Z10 (ht _ _ _ _ _ s8 σ8 H8 _ I8 q8) (λok s9' h9'=> ?_) λ_ _ z=>z.elim);obtain ⟨H9',I9',q9'⟩:=h9'
   cases ok with
   | false =>
    have q9'':MM H9':=by simpa using q9'
    obtain ⟨m',hm',w9⟩:=hMM _ q9'';exact Z00 (Z04 (Z04 ⟨rfl,m',hm',back I9' kp8.get w9⟩))
   | true =>
    have q9'':te σ8 H9' NN:=by simpa using q9'
    refine Z00 (Z00 (Z10 (he _ _ _ _ _ s9' σ8 H9' _ I9' q9'') (λyv s9 h9=> ?_) λ_ _ z=>z.elim));obtain ⟨y,H9,I9,r9,n9⟩:=h9;obtain ⟨xs,hx9,hz9,m',hm',w9⟩:=hNN _ _ n9;refine Z00 (Z10 (A0w (X:=blk X N' scope cl s3.heap.objs.size s3 (upd H1 s2.heap.objs.size (.lst [])) fp) _ s9 σ8 H9 (.ref s2.heap.objs.size) [y] (.ref s2.heap.objs.size) [yv] (λ_ H'=>W (i+1) m' H') I9 rfl (.cons r9 .nil) ⟨_,xs,y,rfl,rfl,hx9,hz9,w9⟩) (λ_ s10 h10=> ?_) λ_ _ z=>z.elim);obtain ⟨_,H10,I10,_,w10⟩:=h10;exact Z04 (Z04 ⟨rfl,m',hm',back I10 kp8.get w10⟩)
 have e5:s3.heap.objs.size=(s2.heap.push { cls:= .type "list",data:= .seq ([]:List Value).toArray }).objs.size:=by rw [e3]
 rw [e5] at loop;exact codeAny_compStart_list (loop _ rfl) (T.self X.A 0 _ _ _ st3 (loop _ rfl))
theorem B9t {i₀:Nat} {x₀:Str} {pos₀ spos:Pos} {elt iter tg:Expr} {scope:Scope} {pos:Pos} {N':List Str} {ix:List (Option Nat)} {cl:List (Str×Addr)} {wi:TI} {g:TG} {te:TE} (hN₀:X.N.Nodup) (hi₀:X.N[i₀]? =some x₀) (hx₀:Loc X.env.scope x₀) (hc:X.calm=true) (ck:B6z X scope cl) (io:B8i X N' scope ix) (hi:PI X tg iter wi)
  (hg:∀C s₀ H₀ fp,PG (blk X N' scope cl C s₀ H₀ fp) tg g) (he:∀C s₀ H₀ fp,PE (blk X N' scope cl C s₀ H₀ fp) elt te) (hs:∀x,foldedSetIterable iter X.env x=pure x:=by intro _;rfl)
  (hsw:swapsWith (.ListComp elt [⟨tg,iter,[],0⟩] scope pos) (some (.Name x₀ pos₀)) spos.line X.env=pure true:=by rfl) (hf₀:X.fn x₀=true\/X.env.scope.names.lookup x₀=some .local:=by first | exact .inl rfl | exact .inr rfl | assumption) :
  PS X (.Assign [.Name x₀ pos₀] (.ListComp elt [⟨tg,iter,[],0⟩] scope pos) spos) (C5m (C3a ix wi g te) (B4y i₀)) :=
 B7u (tc:=λ_ H Q=>Q true H) hN₀ hi₀ hx₀ hc ck io hi hg (λ_ _ _ _ _ _ _ _ _ I h=>wpAny_tests_nil ⟨_,I,h⟩) he _ (λ_ _ _ _ R D2 hD=>by
  obtain ⟨W,w0,turn⟩:=R D2 hD;refine ⟨W,w0,λi m H2 w=>(turn i m H2 w).imp id λ⟨go,N,hN,step⟩=>⟨go,N,λ_=>False,hN,λ_ z=>z.elim,?_⟩⟩
  simpa using step) hs hsw hf₀
end
theorem A1k.at18 {P:Program} {w:World} {H:Hp} {h:Heap} {a:Addr} {o:HO} (x:A1k P w H h a o):∃u,h.get? a=some u:=by
 cases o with
 | lst xs=>obtain ⟨_,_,_,_,e⟩:=x;exact ⟨_,e⟩
 | tup xs=>obtain ⟨_,_,_,o,e,_⟩:=x;exact ⟨_,e⟩
 | dK kvs=>obtain ⟨_,_,_,_,o,_,_,e,_⟩:=x;exact ⟨_,e⟩
 | dT kvs=>obtain ⟨_,_,_,_,o,_,_,e,_⟩:=x;exact ⟨_,e⟩
 | set S n=>obtain ⟨o,_,_,_,e,_⟩:=x;exact ⟨_,e⟩
 | ins C dx fs=>obtain ⟨_,_,_,e,_⟩:=x;exact ⟨_,e⟩
 | own y=>obtain ⟨_,e⟩:=x;exact ⟨_,e⟩
 | xd fs=>obtain ⟨_,⟨_,_,_,e,_⟩,_⟩:=x;exact ⟨_,e⟩
 | rng lo hi=>obtain ⟨_,_,_,e⟩:=x;exact ⟨_,e⟩
 | frz ob u=>obtain ⟨e,_⟩:=x;exact ⟨_,e⟩
 | tbl ps=>exact ⟨_,(show h.get? a=some _ from x)⟩
 | met f y=>exact ⟨_,(show h.get? a=some _ from x)⟩
 | ext φ=>obtain ⟨_,⟨_,e⟩,_⟩:=x;exact ⟨_,e⟩
section
variable {X:Cx} {pins:List (Addr×Obj)} {σ:St} {H1 H':Hp} {s1:Shared} {B h1 h':Heap}
theorem B8p (I:Inv X pins σ H1 s1) (hx:X.ex=[]) (u:Un (frs X.stack) [] H1 H' s1.heap h1) (hb1:∀b o,s1.heap.get? b=some o->b∉frs X.stack->∃o',B.get? b=some o') (hst:B.StaysIn h1) (hst':B.StaysIn h') (up:h1.UpToSlots h') :
  Un X.fs [] X.H₀ H' X.s₀.heap h'/\∀b o,X.s₀.heap.get? b=some o->b∉X.fs->∃o',B.get? b=some o':=by
 have a:Un X.fs [] X.H₀ H1 X.s₀.heap s1.heap:=by
  have z:=I.base;rw [hx] at z;exact z
 have no:∀b:Addr,b∉([]:List Addr):=λb=>by simp
 have nst:∀b o,X.s₀.heap.get? b=some o->b∉X.fs->b∉frs X.stack:=λb o e hb m =>
  (Z0e.mp (I.stkSub b m)).elim (Z0h (Z0q (Z0a e) I.ok.above)) hb
 have B1:∀b o,X.s₀.heap.get? b=some o->b∉X.fs->∃o',B.get? b=some o':=λb o e hb=>by
  obtain ⟨o1,e1⟩:=a.there b o e (no b);exact hb1 b o1 e1 (nst b o e hb)
 have slot:∀b o,X.s₀.heap.get? b=some o->X.H₀ b=none->b∈X.fs->∃sl,h'.get? b=some { o with slots:=sl }:=λb o e n hb=>by
  obtain ⟨sl,e1⟩:=a.slot b o e n hb (no b);obtain ⟨sl2,e2⟩:=u.any e1 (a.free b o e n (no b)) (no b);obtain ⟨_,of,ho,hd⟩:=I.ok.funs.mem hb;rw [e] at ho;cases ho;obtain ⟨sl3,e3⟩:=up b _ e2 hd;exact ⟨sl3,e3⟩
 refine ⟨⟨λb o e n hb _=> ?_,λb o e n hb _=>slot b o e n hb,λb o e n _=> ?_,λb o e _=> ?_,λb xs e=>u.tups b xs (a.tups b xs e),λb o v e=>u.frzs b o v (a.frzs b o v e),λb ps e=> ?_⟩,B1⟩
 ·have e2:=u.keep b o (a.keep b o e n hb (no b)) (a.free b o e n (no b)) (nst b o e hb) (no b);obtain ⟨o',eB⟩:=B1 b o e hb;have e3:=hst b o' eB;rw [e2] at e3;cases e3;exact hst' b o eB
 ·obtain ⟨o1,e1⟩:=a.there b o e (no b);exact u.free b o1 e1 (a.free b o e n (no b)) (no b)
 ·by_cases hb:b∈X.fs
  ·obtain ⟨sl,q⟩:=slot b o e (I.ok.frf b hb) hb;exact ⟨_,q⟩
  ·obtain ⟨o',eB⟩:=B1 b o e hb;exact ⟨o',hst' b o' eB⟩
 ·obtain ⟨m1,e1⟩:=a.tbls b ps e;obtain ⟨m2,e2⟩:=u.tbls b _ e1;exact ⟨m1++m2,by rw [e2,Array.append_assoc]⟩
theorem B8y {P:Program} {w:World} (ok:HOk P w H' h1) (b2:∀b o,H' b=some o->∃o',B.get? b=some o') (hst:B.StaysIn h1) (hst':B.StaysIn h'):HOk P w H' h':=λa o e =>
 (ok a o e).stay (λb u hb q=>by
  have:∃o',B.get? b=some o':=by
   rcases hb with rfl | hb
   ·exact b2 _ _ e
   ·exact b2 _ _ hb
  obtain ⟨o',eB⟩:=this;have z:=hst b o' eB;rw [q] at z;cases z
  exact hst' b u eB) (λ_ q=>q) λ_ _ q=>q
end
section
variable {P:Program} {w:World} {K:Frag} {mg:Str->Option Value} {base:Heap} {N:List Str} {qual:Str} {scope:Scope} {f:Addr} {cd:Value} {A:Around} {outer:List Env} {s:Shared} {H:Hp} {E:XK}
def B9d (X:Cx) (C:Addr) (E:XK):Prop:=∀(pins:List (Addr×Obj)) (σ:St) (H:Hp) (s:Shared) (h':Heap) (e:Addr) (vs:List Value),Inv X pins σ H s->Heap.MadeExcOf s.heap h' e (.ref C) vs->E (.ref C) none H->X.xe (.ref e) { s with heap:=h' }
end
theorem C0s {K:Frag} {h:Heap} {C:Addr} {bmB:List Value} {newId:String} (X:K.In h) (q:excIn K C bmB newId=true) :
  ∃(nm qn:Str) (N:Addr) (bs bm:List Value) (hdct:Bool) (sn:List Str) (sub:List Value) (ab:Bool) (col:Option Bool) (dd:Option Addr) (k0 k1 k2 k3 k5:Option Value) (mN:Str->Option Value),
   h.get? C=some (excClassObj nm qn C N bs bm hdct sn sub ab col dd k0 k1 k2 k3 k5 newId)/\h.Ns N mN/\mN "__init__"=none/\OwnTail h bmB bm:=by
 cases lk:K.lookup C with
 | none=>simp [excIn,lk] at q
 | some ob =>
  have there:=X _ _ lk;unfold excIn at q;rw [lk] at q;split at q
  case h_2=>cases q
  case h_1 dct cls parts same =>
   injection same with same;subst same;split at q
   case h_2=>cases q
   case h_1 own tl p0 p1 p2 p3 made p5 along row =>
    repeat rw [Bool.and_eq_true] at q
    have w1:own=C:=beq_iff_eq.mp q.1.1.1.1.1;have w2:made=newId:=beq_iff_eq.mp q.1.1.1.1.2;have w3:cls.hasDel=false:=by simpa using q.1.1.1.2
    have w4:=beq_iff_eq.mp q.2;subst w1 w2;have sl:parts= #[p0,p1,p2,p3,some (.builtin made),p5]:=Array.toList_inj.mp row;rw [sl] at there;cases cls;dsimp only at along w3 w4 q;rw [along,w3] at there;exact ⟨_,_,_,_,tl,_,_,_,_,_,dct,p0,p1,p2,p3,p5,_,there,Heap.Ns.of_isNs (PySem.W.isNs_of_in X q.1.2),PySem.W.nsMap_none_of_in X q.1.2 w4,PySem.W.tail_of_in X q.1.1.2⟩
abbrev C1i:List Value:=[.type "ValueError",.type "Exception",.type "BaseException",.type "object"]
def C2r (C:Addr) (E:XK) (t:TA):TS:=λ_ σ H=>t σ H λvs H1=>vs.length<=sizeLine/\E (.ref C) none H1
theorem A6f {X:Cx} {C:Addr} {E:XK} {x:Str} {np cpos pos:Pos} {e:Expr} {es:List Expr} {t:TA} (hT:B9d X C E) (q:excIn X.K C C1i "ValueError.__new__"=true) (hg:Gl X x) (hm:X.mg x=some (.ref C)) (hc:X.calm=true)
  (ha:PA X (e::es) t) (hdb:(x == ("__debug__":Str))=false:=by decide) (he:starEach (e::es) X.env=(false,eval e X.env)::starEach es X.env:=by rfl) (hpl:(backTo cpos (starEach es X.env)).any (·.1)=false:=by rfl) :
  PS X (.Raise (some (.Call (.Name x np) (e::es) [] cpos)) none pos) (C2r C E t):=by
 intro pins s σ H D I h;obtain ⟨nm,qn,N,bs,bm,hdct,sn,sub,ab,col,dd,k0,k1,k2,k3,k5,mN,hC,hN,hni,T⟩:=C0s I.mod.kin q;have kb:∀{s2:Shared} {σ2:St} {H2:Hp},Inv X pins σ2 H2 s2->∀b o,X.base.get? b=some o->s2.heap.get? b=some o:=λI2=>I2.bk
 have hpl':(backTo cpos (starEach (e::es) X.env)).any (·.1)=false:=by
  rw [he];exact hpl
 refine wpAny_Raise_call_subU (C:=C) (nm:=nm) (q:=qn) (N:=N) (bs:=bs) (bm:=bm) (hdct:=hdct) (sn:=sn) (sub:=sub) (ab:=ab) (col:=col) (dd:=dd) (k0:=k0) (k1:=k1) (k2:=k2) (k3:=k3) (k5:=k5) (mN:=mN) (bmB:=C1i)
  PySem.F.excBase_ValueError (by decide +kernel) PySem.F.excBase_ValueError (T.hasType (by decide +kernel)) (I.ok.hd hc) hpl' hni ?_
 refine A8f I hg hm ⟨rfl,?_⟩ hdb
 have hA:=thn (ha cpos pins s σ H _ I h) (Q':=λus s2=>us.length<=sizeLine/\s2.heap.get? C=some (excClassObj nm qn C N bs bm hdct sn sub ab col dd k0 k1 k2 k3 k5 "ValueError.__new__")/\s2.heap.Ns N mN/\OwnTail s2.heap C1i bm/\
    ∀h' e,Heap.MadeExcOf s2.heap h' e (.ref C) us->X.xe (.ref e) { s2 with heap:=h' }) λus s2 ⟨vs,H2,I2,r,hl,hE⟩ =>
  ⟨r.length▸hl,kb I2 _ _ hC,hN.keeps (kb I2),T.keeps (kb I2),λh' e hx=>hT pins σ H2 s2 h' e us I2 hx hE⟩
 rw [he] at hA⊢;exact Calls.evalArgs_plain (thn hA (by rintro us s2 ⟨a,b,c,d,k⟩;exact ⟨rfl,a,b,c,d,k⟩))
section
variable {X:Cx} {pins:List (Addr×Obj)} {σ:St} {H H1:Hp} {s s1:Shared} {ea C:Addr} {a0:Value} {B:Heap}
end
section
variable {X:Cx} {C C':Addr} {y n:Str} {yp hpos:Pos} {b₀:Stmt} {suite:List Stmt} {rest:List ExceptHandler} {th:Addr->TS} {i:Nat}
end
section
variable {X:Cx} {k:Nat} {f:Addr} {fd:FuncData} {ps:List Str} {sp:Sp} {x:Str} {p pos:Pos} {e:Expr} {es:List Expr} {t:TA}
end
section
variable {X:Cx} {hs:List ExceptHandler} {h₀:ExceptHandler} {e:Expr} {tx:TX} {pos epos npos:Pos} {i:Nat} {n:Str}
end
section
variable {P:Program} {w:World} {K:Frag} {mg:Str->Option Value} {base:Heap}
end
theorem B2r {X:Cx} {x:Str} {v:V} {pos:Pos} (h:∃u,X.mg x=some u/\A1e v u) (hg:Gl X x) (hd:(x == ("__debug__":Str))=false:=by decide):PE X (.Name x pos) (tC v):=by
 obtain ⟨u,hm,r⟩:=h;exact λ_ _ _ H _ I q=>A8f I hg hm ⟨v,H,I,r,q⟩ hd
def B8z (H:Hp) (u v:V):Prop:=(∃d,Rep H u d/\Rep H v d/\d.canLay0=true/\d.depth<=60)\/
 ∃a b kvs,u= .ref a/\v= .ref b/\Rd H a (.dK kvs)/\Rd H b (.dK kvs)/\∀p∈kvs,(∃i,p.2= .int i)\/∃z,p.2= .str z
theorem B3r {prog:Program} {w:World} (l b:Addr) (u v:Array Value) (n m:Nat) (dd ee:Option Addr) (sl tl:Array (Option Value)) :
  MeetsIn prog w (Builtin.«tuple.__ne__» ⟨[.ref l,.ref b],[]⟩)
   (λA R s=>s.heap.get? l=some { cls:= .type "tuple",dict:=dd,data:= .seq u n,slots:=sl }/\s.heap.get? b=some { cls:= .type "tuple",dict:=ee,data:= .seq v m,slots:=tl }/\
    (∀p∈u.toList.zip v.toList,∀(E:Value->Shared->Prop) (Q:Bool->Shared->Prop),Q true s->wpAny (model prog w) A.in1 (eqBool p.1 p.2) Q E s)/\u.size=v.size/\R (.ok (.ret (.bool false))) s) :=
 .of_wp λA R s h=>by
  obtain ⟨hp,g,d,tk,os⟩:=s;obtain ⟨h1,h2,he,hz,h⟩:=h;have sub:=AutoSeq1.sub_tuple_tuple
  wp_walk using AutoSeq1.wpAny_loadPart' h1,AutoSeq1.wpAny_loadPart' h2,wpAny_forIn_list _ (λrest b s'=>b.1=none/\s'=⟨hp,g,d,tk,os⟩/\∀p∈rest,p∈u.toList.zip v.toList) _
  case turn =>
   rintro ⟨y,x⟩ rest b s' ⟨hb',rfl,hm⟩;refine Z00 (he (y,x) (hm _ (.head _)) _ _ ?_)
   wp_walk
   exact ⟨rfl,rfl,λp hp=>hm p (.tail _ hp)⟩
  case fin =>
   rintro ⟨b1,b2⟩ s' ⟨hb',rfl,_⟩;have hb':b1=none:=hb';subst hb'
   wp_walk
   exact ⟨_,rfl,by simpa [Builtin.Tuple.tupleCompareSizes,bne,hz] using h⟩
  case h =>
   exact ⟨rfl,rfl,λp hp=>hp⟩
section
variable {X:Cx}
theorem B2m {pins:List (Addr×Obj)} {σ:St} {H:Hp} {s:Shared} (I:Inv X pins σ H s) {A:Around} (hu:A.units+62<cLine) {u v:V} {p q:Value} (h:B8z H u v) (ru:A1e u p) (rv:A1e v q) {E:Value->Shared->Prop} {Q:Bool->Shared->Prop} (hq:Q true s) :
  wpAny (model X.prog X.w) A (eqBool p q) Q E s:=by
 rcases h with ⟨d,h1,h2,sh,dp⟩ | ⟨a,b,kvs,rfl,rfl,ha,hb,hf⟩
 ·obtain ⟨as,x1⟩:=A4b I h1 ru;obtain ⟨bs,x2⟩:=A4b I h2 rv
  have heq:SeqAt.EqAt A s p q (PyData.eqv d d):=SeqAt.eqAt_reads d d A s p q as bs x1 x2 sh sh (by
   have hm:min d.depth d.depth<=d.depth:=Nat.min_le_left _ _
   omega)
  rw [SeqAt.eqv_refl d sh] at heq;exact heq _ _ _ _ hq
 ·cases ru
  cases rv
  by_cases hab:a=b
  ·subst hab;exact SeqAt.EqAt.same _ _ _ _ _ hq
  ·obtain ⟨_,sa,ka,ra,da⟩:=A8v I.hok ha;obtain ⟨_,sb,kb,rb,db⟩:=A8v I.hok hb;have nb:(kb.map (·.1)).Nodup:=let ⟨_,_,_,_,_,_,_,_,hn⟩:=db;hn;have el:ka.length=kb.length:=ra.length.symm.trans rb.length;unfold eqBool;refine Z1w (wpAny_ite_split (λz=>absurd (by have:=eq_of_beq z;injection this) hab) λ_=> ?_);refine Z00 (PySem.W.keq_eq (knd:=A0j X.prog X.w) (r:=true) sa sb da db (by omega) (λ_=>C1h ra hf λp hp=> ?_) ?_)
   ·obtain ⟨u,hm,ru⟩:=rb.mem hp;exact ⟨u,A7w nb hm,ru⟩
   ·rw [el];simp only [beq_self_eq_true,Bool.and_self];exact wpAny_truthy_bool hq
def C3l (K:Frag):R2:=λx y H Q=>∃a b xs ys,x= .ref a/\y= .ref b/\SqT K H a xs/\SqT K H b ys/\xs.length+ys.length<=sizeLine/\
 (xs=[]->Q (.ref b) H)/\(xs≠[]->ys=[]->Q (.ref a) H)/\(xs≠[]->ys≠[]->∀p,H p=none->Q (.ref p) (upd H p (.tup (xs++ys))))
theorem B8b:OpR X (binaryOp .Add) (C3l X.K):=by
 intro pins s σ H x y v u Q I rx ry h;obtain ⟨a,b,xs,ys,rfl,rfl,ha,hb,hz,q1,q2,q3⟩:=h;by_cases hx:xs=[]
 ·subst hx;cases rx;cases ry;obtain ⟨its,r1,p1,_⟩:=I.tuple ha;obtain ⟨its2,r2,p2,_⟩:=I.tuple hb;have e1:its=[]:=r1.nil_iff.mpr rfl;obtain ⟨⟨cls,dd,data,sl⟩,ho,hc,n,hd⟩:=id p1;obtain ⟨⟨cls2,dd2,data2,sl2⟩,ho2,hc2,n2,hd2⟩:=id p2;simp only at hc hd hc2 hd2;subst hc hd hc2 hd2
  exact concat_meets ⟨_,ho,rfl⟩ ⟨_,ho2,rfl⟩ noFill_tuple_add seq_tuple_add PySem.F.slot_tuple_add PySem.F.entry_tuple_add (PySem.F.args_tuple_add_2 _ _)
   (tuple_addW0 a b its.toArray its2.toArray n n2 dd dd2 sl sl2 (by simp [e1])) ⟨ho,ho2,⟨.ref b,H,I,rfl,q1 rfl⟩⟩
 ·exact C0q pins s σ H _ _ v u Q I rx ry ⟨a,b,xs,ys,rfl,rfl,ha,hb,hx,hz,λz=>q2 hx z,λz=>q3 hx z⟩
def B9g:R2:=λx y H Q=>∃a b xs ys,x= .ref a/\y= .ref b/\H a=some (.tup xs)/\H b=some (.tup ys)/\xs.length+ys.length<=sizeLine/\∀q H',A1p H H'->H' q=some (.tup (xs++ys))->Q (.ref q) H'
theorem A8s:OpR X (binaryOp .Add) B9g:=λpins s σ H x y v u Q I rx ry h=>by
 obtain ⟨a,b,xs,ys,e1,e2,ha,hb,hz,q⟩:=h;refine B8b pins s σ H x y v u Q I rx ry ⟨a,b,xs,ys,e1,e2,SqT.of ha,SqT.of hb,hz,λz=> ?_,λ_ z=> ?_,λ_ _ p hp=> ?_⟩
 ·subst z;exact q b H (A1p.refl _) hb
 ·subst z;exact q a H (A1p.refl _) (by rw [Z0u];exact ha)
 ·exact q p _ (A0q hp) A0d
end
open PySem PySem.Spec PyProof.Rows PyProof.Rows.KTD
def B6l:V->Value->Bool
 | .non,.none=>true
 | .bl b,.bool c=>b == c
 | .int i,.int j _=>i == j
 | .str x,.str y _=>x == y
 | .ref a,.ref b=>a == b
 | .ty n,.type m=>n == m
 | _,_=>false
theorem B3v:∀(v:V) (u:Value),B6l v u=true->A1e v u:=by
 intro v u h;cases v <;> cases u <;> simp only [B6l,beq_iff_eq] at h <;> first | cases h;done | (subst h;first | rfl | exact ⟨_,rfl⟩) | skip
 all_goals first | rfl | (cases h;rfl)
def B8t (K:Frag) (p:Addr) (D:List (Str×V)):Prop:=tabLook B6l (λa=>K.lookup a) p D=true
section
variable {X:Cx} {pins:List (Addr×Obj)} {σ:St} {H:Hp} {s:Shared} {p:Addr} {D:List (Str×V)} {k:Str} {tk:Tok} {A:Around} {E:Value->Shared->Prop}
theorem B8t.at (T:B8t X.K p D) (I:Inv X pins σ H s):TabOf A1e s.heap p D:=tab_of_look B3v (λa o e=>I.kIn a o e) T
theorem TabOf.ty {R:V->Value->Prop} (T:TabOf R s.heap p D):s.TypeIs (.ref p) "dict":=by
 obtain ⟨_,o,_,_,ho,hc,_⟩:=T;exact ⟨o,ho,hc.1⟩
theorem B9o {prog:Program} {w:World} {Q:Option Value->Shared->Prop} (T:TabOf A1e s.heap p D) (h1:∀d v,datumAt k D=some d->A1e d v->Q (some v) { s with toks:=s.toks+1 }) (h2:datumAt k D=none->Q none { s with toks:=s.toks+1 }) :
  wpAny (model prog w) A (dictGet p (.str k tk)) Q E s:=by
 obtain ⟨_,o,es,ep,ho,hc,hd,hr⟩:=T
 have ex:(es.all λe=>isExactStrKey e.key)=true:=by
  have:=hr.exact;rw [<-Array.all_toList];exact this
 have fb:findBy (λk v=>v.isStr k) es k=(es.toList.find? λe=>e.key.isStr k).map (·.val):=by unfold findBy;rw [Array.find?_toList]
 have q:Q (findBy (λk v=>v.isStr k) es k) { s with toks:=s.toks+1 }:=by
  rw [fb];cases e:datumAt k D with
  | none=>rw [hr.find_none e];exact h2 e
  | some d=>obtain ⟨v,hv,r⟩:=hr.find_some e;rw [hv];exact h1 d v e r
 unfold dictGet
 try with_reducible refine Z1w ?_
 refine Z00 (wpAny_pyHash_str (Z00 (kt_dictFind_strs (s:={ s with toks:=s.toks+1 }) ho hd ex ?_)))
 rw [findBy_of_findIdx?] at q;cases hi:es.findIdx? λe=>e.key.isStr k with
 | none=>rw [hi] at q;exact Z04 q
 | some i=>rw [hi] at q;exact Z00 (wpAny_dictEntries (s:={ s with toks:=s.toks+1 }) ho hd (Z04 q))
end
section
variable {X:Cx}
def C2g (K:Frag):R2:=λx y H Q=>∃(p:Addr) (D:List (Str×V)) (k:Str) (v:V),x= .ref p/\y= .str k/\B8t K p D/\datumAt k D=some v/\Q v H
theorem C1c {o i:Expr} {td ty:TE} {pos:Pos} (ho:PE X o td) (hi:PE X i ty) (hs:C4w i):PE X (.Subscript o i pos) (tOp (C2g X.K) td ty):=by
 intro pins s σ H Q I h;refine B6h PySem.F.slot_dict_getitem.lookup hs (thn (ho pins s σ H _ I h) ?_);rintro u s1 ⟨x,H1,I1,rx,q1⟩;refine thn (hi pins s1 σ H1 _ I1 q1) ?_;rintro iv s2 ⟨y,H2,I2,ry,q2⟩;obtain ⟨p,D,k,d,rfl,rfl,T,hd,q⟩:=q2;cases rx;obtain ⟨t,rfl⟩:=(show∃t,iv=Value.str k t from ry);have T':=T.at I2;refine ⟨TabOf.ty T',?_⟩;unfold getItem
 try with_reducible refine Z1w ?_
 refine Z00 (wpAny_sequenceKey (TabOf.ty T') (by decide) ?_);refine (Z00 (wpAny_callSpecial?_slot (name:=Str.ofString "__getitem__") (TabOf.ty T') PySem.F.slot_dict_getitem (wpAny_call_entry PySem.F.slot_dict_getitem (TabOf.ty T') PySem.F.entry_dict_getitem ?_ (PySem.F.args_dict_getitem_2 _ _))));show wpAny _ _ (dictGet p (.str k t) >>= _) _ _ s2;refine Z00 (B9o T' (λd' v' e r=>Z04 ⟨v',rfl,Z04 ?_⟩) λe=> ?_)
 ·rw [hd] at e;cases e;exact ⟨d,H2,I2.tok _,r,q⟩
 ·rw [hd] at e;cases e
end
def C2 (o o':Obj):Prop:=∀vs,o.data= .fields vs->∃vs',o'.data= .fields vs'/\vs'[2]? =vs[2]?
theorem C2.refl (o:Obj):C2 o o:=λvs e=>⟨vs,e,rfl⟩
theorem C2.trans {a b c:Obj} (x:C2 a b) (y:C2 b c):C2 a c:=λvs e=>by
 obtain ⟨v1,e1,q1⟩:=x vs e;obtain ⟨v2,e2,q2⟩:=y v1 e1;exact ⟨v2,e2,q2.trans q1⟩
def KD (h h':Heap):Prop:=∀b o,h.get? b=some o->∃o',h'.get? b=some o'/\o'.cls=o.cls/\o'.dict=o.dict/\C2 o o'
theorem KD.refl (h:Heap):KD h h:=λb o e=>⟨o,e,rfl,rfl,C2.refl o⟩
theorem KD.trans {h1 h2 h3:Heap} (a:KD h1 h2) (b:KD h2 h3):KD h1 h3:=λx o e=>by
 obtain ⟨o1,e1,c1,d1,f1⟩:=a x o e;obtain ⟨o2,e2,c2,d2,f2⟩:=b x o1 e1;exact ⟨o2,e2,c2.trans c1,d2.trans d1,f1.trans f2⟩
theorem KD.field {h:Heap} {T:Addr} {o:Obj} {ts:Array Value} (hT:h.get? T=some o) (hd:o.data= .fields ts) (f:Array Value->Array Value) (hf:∀a:Array Value,(f a)[2]? =a[2]?):KD h (h.update T (Obj.mapFields f)):=λb u e=>by
 by_cases z:b=T
 ·subst z;rw [hT] at e;cases e;exact ⟨_,Z1r _ hT (Obj.isFreed_of_fields (Obj.data_mapFields hd _)),Obj.cls_mapFields _ _,by obtain ⟨_,_,dd,_⟩:=o;cases hd;rfl,λvs ev=>⟨_,Obj.data_mapFields ev _,hf vs⟩⟩
 ·exact ⟨u,(Z1d _ _ (Ne.symm z)).trans e,rfl,rfl,C2.refl u⟩
def B9v (h B:Heap) (e:Addr) (cls a0:Value):Prop:=(∃oe vs,h.get? e=some oe/\(oe.cls=cls/\vs[0]? =some a0)/\oe.data= .fields vs/\vs[1]? =some .none)\/∃fl,h.TracedAtW B e cls a0 fl
section
variable {M:Model} {A:Around} {E:Value->Shared->Prop} {s:Shared} {B:Heap} {env:Env} {outer:List Env} {L e:Addr} {cls a0:Value} {Q:Unit->Shared->Prop}
theorem B8x {oe:Obj} {vs:Array Value} {hd:Value} {nx:Bool} (hfr:A.frames=some (env::outer)) (ff:s.heap.FunFrames B (env::outer)) (hf:env.frame=some L) (he:s.heap.get? e=some oe) (st:B.StaysIn s.heap) (hn:B.get? e=none) (hv:oe.data= .fields vs) (hz:1<vs.size) (h0:vs[0]? =some a0)
  (h:∀h',Heap.NotedW B (env::outer) e oe.cls a0 (rawInt L) s.heap h'->KD s.heap h'->Q () { s with heap:=h' }) :
  wpAny M A (do let a<-frameOf env;let pl<-entryPlaceOf L nx;let b<-EntryCells.newEntry hd a .none (rawInt L) .none pl;setField (.ref e) 1 b) Q E s:=by
 have nf:e∉(env::outer).filterMap (·.frame):=λm=>by
  obtain ⟨_,o,ho,hnf⟩:=ff.mem m;rw [he] at ho;cases ho;exact hnf vs hv
 refine Z00 (wpAny_frameOf_fun hfr ff hf λg sg=>Z00 (wpAny_entryPlaceOf λpl hpl=> ?_));unfold EntryCells.newEntry newFields;refine Z00 (Z16 ?_ (hpl.sizeOk5 _ _ _ _ _));have he1:g.get? e=some oe:=(sg.2.1 e nf).trans he;have st1:B.StaysIn g:=λb o hb=>(sg.2.1 b λm=>by rw [(ff.mem m).1] at hb;cases hb).trans (st b o hb);generalize hob:({ cls:= .type "traceback",dict:=none,data:= .fields ([hd,.ref L,.none,rawInt L,.none]++(if pl.isEmpty then List.replicate 6 Value.none else pl)).toArray }:Obj)=ob;have he2:=Z01 (h:=g) ob he1;have eb:({ cls:=Value.type "traceback",data:= .fields ([hd,.ref L,.none,rawInt L,.none]++(if pl.isEmpty then List.replicate 6 Value.none else pl)).toArray }:Obj)=ob:=hob;refine Z1t (by first | exact he2 | (rw [eb];exact he2)) hv hz ?_
 try rw [eb]
 have nTe:g.objs.size≠e:=Z1q (Z0a he1);have dm:=Obj.data_mapFields hv (·.setIfInBounds 1 (Value.ref g.objs.size));have he3:=Z1r (Obj.mapFields (·.setIfInBounds 1 (Value.ref g.objs.size))) he2 (Obj.isFreed_of_fields dm);have hT3:((g.push ob).update e (Obj.mapFields (·.setIfInBounds 1 (Value.ref g.objs.size)))).get? g.objs.size=some ob:=(Z1d _ _ (Ne.symm nTe)).trans (Z0c g (by rw [<-hob];rfl));have kp:∀b o,b≠e->g.get? b=some o->((g.push ob).update e (Obj.mapFields (·.setIfInBounds 1 (Value.ref g.objs.size)))).get? b=some o:=λb o ne hb=>(Z1d _ _ (Ne.symm ne)).trans (Z01 _ hb)
 have nr:∀b o,s.heap.get? b=some o->(∀vs,o.data≠.fields vs)->b≠e:=λb o hb hnf z=>by
  rw [z,he] at hb;cases hb;exact hnf vs hv
 refine h _ ⟨λb o hb=>kp b o (λz=>by rw [z,hn] at hb;cases hb) (st1 b o hb),ff.of_keeps λb o hb hnf=> ?_,?_,λb o hb hnf=> ?_⟩ λb o hb=> ?_
 ·obtain ⟨sl,hs⟩:=sg.2.2 b o hb;exact ⟨_,kp b _ (nr b o hb hnf) hs,rfl⟩
 ·refine ⟨_,_,g.objs.size,ob,_,he3,⟨Obj.cls_mapFields _ _,?_⟩,dm,by simp [hz],st1.fresh,nTe,hT3,by rw [<-hob],?_⟩
  ·rw [Z25 (by decide)];exact h0
  ·rcases hpl with rfl | ⟨_,_,_,_,_,_,_,rfl⟩ <;> simp
 ·obtain ⟨sl,hs⟩:=sg.2.2 b o hb;exact ⟨sl,kp b _ (nr b o hb hnf) hs⟩
 ·by_cases z:b=e
  ·subst z;rw [he] at hb;cases hb;exact ⟨_,he3,Obj.cls_mapFields _ _,by obtain ⟨_,_,dd,_⟩:=oe;cases hv;rfl,λws ew=>⟨_,Obj.data_mapFields ew _,Z25 (by decide)⟩⟩
  ·obtain ⟨sl,hs⟩:=sg.2.2 b o hb;exact ⟨_,kp b _ z hs,rfl,rfl,λws ew=>⟨ws,ew,rfl⟩⟩
theorem C4l (hfr:A.frames=some (env::outer)) (hf:env.frame=some L) (st:B.StaysIn s.heap) (hn:B.get? e=none) (ff:s.heap.FunFrames B (env::outer)) (ht:B9v s.heap B e cls a0)
  (hQ:∀h',Heap.HeldW B (env::outer) e cls a0 L h'->s.heap.UpToSlots h'->KD s.heap h'->Q () { s with heap:=h' }):wpAny M A (noteFrame (.ref e) env) Q E s:=by
 rcases ht with ⟨oe,vs,he,⟨hc,h0⟩,hv,h1⟩ | ⟨fl,ht⟩
 ·subst hc;unfold noteFrame;simp only [hf];refine Z00 (Z11 he hv h1 ?_);rw [Z0t (show¬((Value.none != Value.none)=true) by simp)];exact B8x hfr ff hf he st hn hv (Z1m.mp h1).1 h0 λh' N kd=>hQ h' ⟨N.1,hn,N.2.1,N.2.2.1⟩ N.2.2.2 kd
 ·by_cases hfl:(fl == rawInt L)=true
  ·have e1:fl=rawInt L:=beq_iff_eq.mp hfl;subst e1;exact wpAny_noteFrame_againW hf ht (hQ s.heap ⟨st,hn,ff,ht⟩ (Heap.UpToSlots.refl _) (KD.refl _))
  ·obtain ⟨oe,vs,T,oT,ts,he,⟨hcls,h0⟩,hd,h1,hnT,hTe,hT,hdT,h3⟩:=id ht;subst hcls;unfold noteFrame;simp only [hf];refine Z00 (Z11 he hd h1 ?_);rw [Z12 (show (Value.ref T != Value.none)=true by simp)];refine Z00 (Z11 hT hdT h3 ?_);rw [Z0t hfl];refine Z00 (Z1t hT hdT (Z1m.mp h3).1 ?_);have oth:∀b,b≠T->(s.heap.update T (Obj.mapFields (·.setIfInBounds 3 Value.none))).get? b=s.heap.get? b:=λb hb=>Z1d _ _ (Ne.symm hb)
   have nr:∀b o,s.heap.get? b=some o->(∀vs,o.data≠.fields vs)->b≠T:=λb o hb hnf q=>by
    rw [q,hT] at hb;cases hb;exact hnf ts hdT
   exact B8x hfr (ff.of_keeps λb o hb hnf=>⟨o,(oth b (nr b o hb hnf)).trans hb,rfl⟩) hf ((oth e (Ne.symm hTe)).trans he) (λb o hbo=>(oth b λq=>by rw [q,hnT] at hbo;cases hbo).trans (st b o hbo)) hn hd (Z1m.mp h1).1 h0
    λh' N kd=>hQ h' ⟨N.1,hn,N.2.1,N.2.2.1⟩ (λb o hb hnf=>N.2.2.2 b o ((oth b (nr b o hb hnf)).trans hb) hnf) ((KD.field hT hdT _ λ_=>Z25 (by decide)).trans kd)
theorem C3r {l:List Env} {fl:Value} {fr:Option Addr} (st:B.StaysIn s.heap) (ff:s.heap.FunFrames B l) (ht:s.heap.TracedAtW B e cls a0 fl)
  (hQ:∀h',B.StaysIn h'->h'.FunFrames B l->h'.TracedAtW B e cls a0 (fr.elim .none λf=>rawInt f)->s.heap.UpToSlots h'->KD s.heap h'->Q () { s with heap:=h' }):wpAny M A (setFlight (.ref e) fr) Q E s:=by
 obtain ⟨oe,vs,T,oT,ts,he,hcls,hd,h1,hnT,hTe,hT,hdT,h3⟩:=ht;have z3:3<ts.size:=(Z1m.mp h3).1;have oth:∀b,b≠T->(s.heap.update T (Obj.mapFields (·.setIfInBounds 3 (fr.elim Value.none λf=>rawInt f)))).get? b=s.heap.get? b:=λb hb=>Z1d _ _ (Ne.symm hb)
 have nr:∀b o,s.heap.get? b=some o->(∀vs,o.data≠.fields vs)->b≠T:=λb o hb hnf q=>by
  rw [q,hT] at hb;cases hb;exact hnf ts hdT
 unfold setFlight;refine Z00 (Z11 he hd h1 ?_);rw [Z12 (show (Value.ref T != Value.none)=true by simp)];refine Z1t hT hdT z3 (hQ _ (λb o hbo=>(oth b λq=>by rw [q,hnT] at hbo;cases hbo).trans (st b o hbo)) (ff.of_keeps λb o hb hnf=>⟨o,(oth b (nr b o hb hnf)).trans hb,rfl⟩) ?_ (λb o hb hnf=>⟨o.slots,(oth b (nr b o hb hnf)).trans hb⟩) (KD.field hT hdT _ λ_=>Z25 (by decide)));exact ⟨oe,vs,T,_,_,(oth e (Ne.symm hTe)).trans he,hcls,hd,h1,hnT,hTe,Z1r _ hT (Obj.isFreed_of_fields (Obj.data_mapFields hdT _)),Obj.data_mapFields hdT _,by simp [z3]⟩
theorem B8r (hfr:A.frames=some (env::outer)) (hf:env.frame=some L) (st:B.StaysIn s.heap) (hn:B.get? e=none) (ff:s.heap.FunFrames B (env::outer)) (ht:B9v s.heap B e cls a0)
  (hQ:∀h',Heap.FlyingW B outer e cls a0 h'->s.heap.UpToSlots h'->KD s.heap h'->Q () { s with heap:=h' }):wpAny M A (leaving env (.ref e)) Q E s:=by
 unfold leaving;refine Z00 (C4l hfr hf st hn ff ht λh1 held u1 k1=>C3r (s:={ s with heap:=h1 }) held.1 held.2.2.1 held.2.2.2 λh2 s2 f2 t2 u2 k2=> ?_)
 exact hQ h2 ⟨s2,hn,f2.2.2,t2⟩ (u1.trans u2) (k1.trans k2)
end
theorem FlyingW.exc {B h:Heap} {l:List Env} {e:Addr} {cls a0:Value} (f:Heap.FlyingW B l e cls a0 h):B9v h B e cls a0:= .inr ⟨.none,f.2.2.2⟩
def DictAt (h:Heap) (e:Addr) (od:Option Addr):Prop:=∃o vs,h.get? e=some o/\o.dict=od/\o.data= .fields vs/\vs[2]? =some .none
theorem DictAt.kd {h h':Heap} {e:Addr} {od:Option Addr} (d:DictAt h e od) (k:KD h h'):DictAt h' e od:=by
 obtain ⟨o,vs,e1,e2,e5,e6⟩:=d;obtain ⟨o',e3,_,e4,c2⟩:=k _ o e1;obtain ⟨vs',e7,e8⟩:=c2 vs e5;exact ⟨o',vs',e3,e4.trans e2,e7,e8.trans e6⟩
def CXD (P:Program) (w:World):CXT:=λouter H s E e s' =>
 ∃(ea C:Addr) (a0:Value) (od:Option Addr) (H':Hp) (B:Heap),e= .ref ea/\s'.os=s.os/\AllBare s'.gens/\Un (frs outer) [] H H' s.heap s'.heap/\HOk P w H' s'.heap/\
  (∀b o,s.heap.get? b=some o->b∉frs outer->∃o',B.get? b=some o')/\(∀b o,H' b=some o->∃o',B.get? b=some o')/\
  Heap.FlyingW B outer ea (.ref C) a0 s'.heap/\DictAt s'.heap ea od/\E (.ref C) od H'
section
variable {P:Program} {w:World} {K:Frag} {mg:Str->Option Value} {base:Heap} {N:List Str} {qual:Str} {scope:Scope} {f:Addr} {cd:Value} {A:Around} {outer:List Env} {s:Shared} {H:Hp} {E:XK}
theorem B3m:A4h (CXD P w) (B6u (CXD P w) P w K mg base N qual scope f cd A outer s H E) E:=by
 intro pins σ H1 s1 e s' I hcx;obtain ⟨ea,C,a0,od,H',B,rfl,os,bare,un,hok,b1,b2,fl,dd,q⟩:=hcx;refine B8r I.ok.frames rfl fl.1 fl.2.1 fl.2.2.1 (FlyingW.exc fl) λh' fl' up kd=> ?_;obtain ⟨un',b1'⟩:=B8p I rfl un b1 fl.1 fl'.1 up;exact ⟨ea,C,a0,od,H',B,rfl,os.trans I.os,bare,un',B8y hok b2 fl.1 fl'.1,b1',b2,fl',dd.kd kd,q⟩
theorem B2p {C:Addr}:B9d (B6u (CXD P w) P w K mg base N qual scope f cd A outer s H E) C E:=by
 intro pins σ H1 s1 h1 e vs I hx q;obtain ⟨t,he,htn,ht⟩:=hx.there;have kB:∀b o,s1.heap.get? b=some o->b∉frs (envOfC qual scope s.heap.objs.size f cd::outer)->(hideAll s1.heap (frs (envOfC qual scope s.heap.objs.size f cd::outer))).get? b=some o:=λb o e hb=>PySem.W.hideAll_get _ e hb
 have en:(hideAll s1.heap (frs (envOfC qual scope s.heap.objs.size f cd::outer))).get? e=none:=by
  cases z:(hideAll s1.heap (frs (envOfC qual scope s.heap.objs.size f cd::outer))).get? e with
  | none=>rfl
  | some o=>have:=PySem.W.of_hideAll _ z;rw [hx.new] at this;cases this
 have st1:(hideAll s1.heap (frs (envOfC qual scope s.heap.objs.size f cd::outer))).StaysIn h1:=λb o z=>hx.keeps b o (PySem.W.of_hideAll _ z)
 refine B8r (B:=hideAll s1.heap (frs (envOfC qual scope s.heap.objs.size f cd::outer))) (cls:= .ref C) (a0:= .ref t) I.ok.frames rfl st1 en
  ((PySem.W.funFrames_hide I.stack λenv he b hb=>List.mem_filterMap.mpr ⟨env,he,hb⟩).of_keeps λb o hb _=>⟨o,hx.keeps b o hb,rfl⟩) (.inl ⟨_,_,he,⟨rfl,rfl⟩,rfl,rfl⟩) λh' fl up kd=> ?_
 have b2:∀b o,H1 b=some o->∃o',(hideAll s1.heap (frs (envOfC qual scope s.heap.objs.size f cd::outer))).get? b=some o':=λb o z=>by
  obtain ⟨u,hu⟩:=(I.hok b o z).at18;refine ⟨u,kB b u hu λm=> ?_⟩;have:=I.stkFree b m;rw [z] at this;cases this
 obtain ⟨un',b1'⟩:=B8p (B:=hideAll s1.heap (frs (envOfC qual scope s.heap.objs.size f cd::outer))) I rfl (Un.kept hx.keeps) (λb o z hb=>⟨o,kB b o z hb⟩) st1 fl.1 up;exact ⟨e,C,.ref t,none,H1,_,rfl,I.os,I.bare,un',B8y (I.hok.kept hx.keeps) b2 st1 fl.1,b1',b2,fl,DictAt.kd (h:=h1) ⟨_,_,he,rfl,rfl,rfl⟩ kd,q⟩
theorem Fun.okD {x qual:Str} {st:Stmt} {f:Addr} {fd:FuncData} {N ps:List Str} {k:Nat} {sp:Sp} (F:Fun K x qual st f fd) (S:A0n N ps (A0i st)) (len:∀vs H Q E,sp vs H Q E->vs.length=ps.length)
  (hbody:∀(cdv:Value) (A:Around) (outer:List Env) (s:Shared) (H:Hp) (vs:List V) (Q:VK) (E:XK),A4i k (A.deeper (envOfC qual (A0i st) s.heap.objs.size f cdv))->sp vs H Q E->
   ∃t,PSs (B6u (CXD P w) P w K mg base N qual (A0i st) f cdv A outer s H E) (A3m st) t/\t { nx:=λ_ H'=>Q .non H',rt:=Q } (A8x N vs) H):A5j P w K mg base (CXD P w) (k+1) f fd ps sp:=by
 obtain ⟨oc,od,kV,doc,pm,an,cdv,ct,osl,rfl,lk,hcd⟩:=F.ex;exact C1y lk hcd S len λA outer s H vs Q E hr hsp=>hbody cdv A outer s H vs Q E hr hsp
end
theorem C2f {P:Program} {w:World} {X:Cx}:A4h (CXD P w) X (λ_ _ _=>False):=by
 intro pins σ H s e s' I h;obtain ⟨_,_,_,_,_,_,_,_,_,_,_,_,_,_,_,q⟩:=h;exact q.elim
theorem B7z {y:Str} (h:PyData.strOk y=true):(reprText y).length<=10*y.length+2:=by
 refine StrLaws.reprText_len y λc hc=> ?_;have h2:∀(i:Nat) (x:i<y.cps.size),y.cps[i]<1114112:=by simpa [PyData.strOk] using h
 obtain ⟨i,hi,e⟩:=List.mem_iff_getElem.mp hc;have:=h2 i (by simpa using hi);rw [<-e];exact Z0q (by simpa using this) (by decide)
def C2y (te:TE) (tr:TJ):TJ:=λσ H out Q=>te σ H λx H1=>∃y:Str,x= .str y/\PyData.strOk y=true/\out.length+10*y.length+2<=sizeLine/\∀z:Str,z.length<=10*y.length+2->tr σ H1 (out++z) Q
section
variable {X:Cx} {e:Expr} {es:List Expr} {te:TE} {tr:TJ} {pos p2:Pos}
theorem C1a (he:PE X e te) (hr:PJ X es tr) (hs:evalEach (.FormattedValue e 114 none pos::es) X.env=eval (.FormattedValue e 114 none pos) X.env::evalEach es X.env:=by rfl):PJ X (.FormattedValue e 114 none pos::es) (C2y te tr):=by
 intro pins s σ H out Q I h;rw [hs];refine joinParts_cons (wpAny_FormattedValue_repr (thn (he pins s σ H _ I h) ?_));rintro v s1 ⟨x,H1,I1,rx,y,ex,oky,hz,q⟩;subst ex;obtain ⟨t,rfl⟩:=(show∃t,v=Value.str y t from rx);have hl:=B7z oky;refine pyReprObj_str ?_ (by omega);refine formatField_str (λt' tk=>⟨?_,hr pins _ σ H1 _ Q ((I1.tok _).tok tk) (q _ hl)⟩) (by omega);rw [strLen_append];omega
end
theorem A5j.up {P:Program} {w:World} {K:Frag} {mg:Str->Option Value} {base:Heap} {CX:CXT} {k:Nat} {f:Addr} {fd:FuncData} {ps:List Str} {sp:Sp} (F:A5j P w K mg base CX0 k f fd ps sp) :
  A5j P w K mg base CX k f fd ps sp :=
 ⟨F.len,λA outer s H args us vs Q E hr he hb hv hs=>codeAny_mono (F.run A outer s H args us vs Q E hr he hb hv hs) λr s' hq=>by
  cases r with
  | error e=>exact False.elim hq
  | ok fl=>cases fl <;> exact hq⟩
def B7r (R:Addr->Sp->Prop) (E:XK) (tf:TE) (t:TA):TE:=λσ H Q=>tf σ H λx H1=>∃f sp,x= .ref f/\R f sp/\t σ H1 λvs H2=>sp vs H2 Q E
section
variable {X:Cx} {CX:CXT} {E:XK} {p pos:Pos} {e o i:Expr} {es:List Expr} {tf:TE} {t:TA}
theorem B3w {R:Addr->Sp->Prop} (hT:∀f sp,R f sp->∃fd ps k,A5j X.prog X.w X.K X.mg X.base CX k f fd ps sp/\A4i k X.A/\keepIn X.K (.ref f)=true/\A4q X.K fd ps []) (hx:A4h CX X E)
  (hf:PE X (.Subscript o i p) tf) (ha:PA X (e::es) t) (hst:starEach (e::es) X.env=(false,eval e X.env)::starEach es X.env:=by rfl) (hpl:(backTo pos (starEach es X.env)).any (·.1)=false:=by rfl) :
  PE X (.Call (.Subscript o i p) (e::es) [] pos) (B7r R E tf t):=by
 intro pins s σ H Q I h;have arm:eval (.Call (.Subscript o i p) (e::es) [] pos) X.env=(do callWith pos (<-eval (.Subscript o i p) X.env) [] (backTo pos (starEach (e::es) X.env)) (backToKw pos (keywordEach [] X.env))):=rfl;rw [arm];refine Z00 (thn (hf pins s σ H _ I h) ?_);rintro u s1 ⟨x,H1,I1,rx,f,sp,rfl,hR,q⟩;obtain rfl:u=Value.ref f:=rx;obtain ⟨fd,ps,k,F,hr,hk,hb⟩:=hT f sp hR;refine PySem.W.callWith_K (h₀:=X.base) I.ok.mod.kin hk (thn (ha pos pins s1 σ H1 _ I1 q) ?_) hst hpl;rintro us s2 ⟨vs,H2,I2,r,q2⟩;exact ⟨I2.kIn,B1w (ds:=[]) (dvs:=[]) F hr hb .nil hx I2 r (by rw [Z0u];exact q2)⟩
end
theorem C2h {α:Type} {f:α->Int} {c:Int}:∀{l:List α},(l.map f).Nodup->(l.filter λx=>f x == c).length<=1
 | [],_=>by simp
 | x::r,h=>by
  rw [Z0p,Z15] at h;by_cases e:f x=c
  ·have:r.filter (λx=>f x == c)=[]:=by
    rw [List.filter_eq_nil_iff];intro y hy z;have:f y=c:=by simpa using z
    exact h.1 (by rw [e,<-this];exact Z2c.mpr ⟨y,hy,rfl⟩)
   rw [List.filter_cons,Z12 (by simpa using e),this];simp
  ·rw [List.filter_cons,Z0t (by simpa using e)];exact C2h h.2
theorem A6h {α β γ δ:Type} {F:(α×β)->(α×γ)->Prop} {g:α->δ} (h:∀p q,F p q->p.1=q.1):∀{l:List (α×β)} {m:List (α×γ)},Paired F l m->m.map (λx=>g x.1)=l.map λx=>g x.1
 | _,_,.nil=>rfl
 | _,_,.cons z r=>by rw [Z0p,Z0p,A6h h r,h _ _ z]
def A4n (P:Program) (w:World) (k:List Key):Int:=(tupleKind (A0j P w)).hash k
section
variable {prog:Program} {w:World} {A:Around} {E:Value->Shared->Prop} {s:Shared}
theorem A5y {id:String} {d:Addr} {o:Obj} {es:Array DictEntry} {ep:Nat} {xs:List (List Key×Addr×Value)} {Q:Array DictEntry->Shared->Prop} (ho:s.heap.get? d=some o) (hd:o.data= .dict es ep)
  (he:es.toList=xs.map (entryOfKey (tupleKind (A0j prog w)))) (hk:∀x∈xs,(tupleKind (A0j prog w)).is s.heap x.1 x.2.1) (hn:(xs.map λx=>A4n prog w x.1).Nodup) (h:Q es s) :
  wpAny (model prog w) A (Builtin.Dict.entriesForEmpty id d) Q E s:=by
 unfold Builtin.Dict.entriesForEmpty;refine Z00 (wpAny_dictEntries ho hd ?_);refine Z00 ?_;rw [<-Array.forIn_toList];refine wpAny_forIn_list _ (λrest _ s'=>s'=s/\∀e∈rest,e∈es.toList) _ ?_ ?_ _ _ ⟨rfl,λe z=>z⟩
 ·rintro e rest b s' ⟨rfl,hm⟩;have hin:=hm e Z27;rw [he] at hin;obtain ⟨x,hx,rfl⟩:=Z2c.mp hin;have ty:s'.TypeIs (.ref x.2.1) "tuple":=IsTupleKey.typeIs (hk x hx);show wpAny _ _ (Builtin.Dict.quietEq (.ref x.2.1) >>= _) _ _ _;refine Z00 ?_;unfold Builtin.Dict.quietEq;refine Z00 (wpAny_specialOf ty F.slot_tuple_eq.lookup (Z04 ?_))
  have hsz:¬((es.filter (·.hash == (entryOfKey (tupleKind (A0j prog w)) x).hash)).size>1):=by
   have e1:(es.filter (·.hash == (entryOfKey (tupleKind (A0j prog w)) x).hash)).size=(es.toList.filter (·.hash == (entryOfKey (tupleKind (A0j prog w)) x).hash)).length:=by
    rw [<-Array.length_toList,Array.toList_filter]
   rw [e1,he];have:=C2h (f:=λe:DictEntry=>e.hash) (c:=(entryOfKey (tupleKind (A0j prog w)) x).hash) (l:=xs.map (entryOfKey (tupleKind (A0j prog w)))) (by rw [List.map_map];exact hn);omega
  have hq:(some (Value.builtin "tuple.__eq__") == some (Value.builtin "object.__eq__"))=false:=by decide
  first
   | (rw [hq];simp only [Bool.not_false,if_true];rw [Z0t hsz];exact Z04 ⟨rfl,λe' z=>hm e' (Z1f _ z)⟩)
   | (simp only [hq,Bool.not_false,if_true,Z0t hsz];exact Z04 ⟨rfl,λe' z=>hm e' (Z1f _ z)⟩)
 ·rintro b s' ⟨rfl,_⟩;exact Z04 h
theorem B3b {nm:String} {d o:Addr} {od oo:Obj} {eso:Array DictEntry} {epd epo:Nat} {xs:List (List Key×Addr×Value)} {Q:Unit->Shared->Prop} (hdo:d≠o) (hoS:(o == sysModules)=false)
  (hod:s.heap.get? d=some od) (hcd:od.ExactDict) (hdd:od.data= .dict #[] epd) (hoo:s.heap.get? o=some oo) (hdo':oo.data= .dict eso epo)
  (he:eso.toList=xs.map (entryOfKey (tupleKind (A0j prog w)))) (hk:∀x∈xs,(tupleKind (A0j prog w)).is s.heap x.1 x.2.1) (hn:(xs.map λx=>A4n prog w x.1).Nodup) (hsz:xs.length<=sizeLine)
  (hQ:∀h' ob ep,h'.get? d=some ob->ob.ExactDict->ob.data= .dict eso ep->Heap.SameBut d s.heap h'->Q () { s with heap:=h' }) :
  wpAny (model prog w) A (Builtin.Dict.mergeDict nm d o) Q E s:=by
 have hlen:xs.length=eso.size:=by have:=congrArg List.length he;simpa using this.symm
 unfold Builtin.Dict.mergeDict;rw [Z0t (by simpa using hdo)];unfold Builtin.Dict.showsAll;rw [Z0t (by rw [hoS];exact Z0v)];refine Z00 (Z04 ?_);refine Z00 (wpAny_dictEntries hoo hdo' ?_);dsimp only;by_cases hx:xs=[]
 ·have h0:eso= #[]:=by
   have:eso.toList=[]:=by rw [he,hx];rfl
   exact Array.toList_eq_nil_iff.mp this
  subst h0;rw [Z0t (by simp)];refine Z00 (wpAny_dictEpoch hoo hdo' ?_);refine Z00 (wpAny_dictEntries hoo hdo' ?_);refine Z00 ?_;rw [Std.Legacy.Range.forIn_eq_forIn_range'];exact Z04 (Z04 (hQ _ od epd hod hcd hdd (Heap.SameBut.refl _ _)))
 ·obtain ⟨x,r,rfl⟩:∃x r,xs=x::r:=by
   cases xs with
   | nil=>exact absurd rfl hx
   | cons x r=>exact ⟨x,r,rfl⟩
  have hf:(decide (eso.size<=8)&&eso.all λe=>(keyPart e.key).isSome)=false:=by
   have:(eso.all λe=>(keyPart e.key).isSome)=false:=by
    rw [<-Array.all_toList,he];rfl
   rw [this,Bool.and_false]
  rw [hf];rw [Z12 (by decide)];refine Z00 (wpAny_dictEntries hod hdd ?_);rw [Z12 (by decide)];refine Z00 (A5y hoo hdo' he hk hn ?_)
  have hne:(!eso.isEmpty)=true:=by
   have:eso≠#[]:=λz=>by rw [z] at he;cases he
   simpa using this
  rw [Z12 hne];have hto:eso.size<=sizeLine+1:=by omega
  exact Z00 (wpAny_updateDictKeysTo hod hdd (Z04 (hQ _ _ (epd+1) (Z1r _ hod (Obj.isFreed_of_dict (Obj.data_mapDictKeys hdd _))) (hcd.mapDictKeys _) (Obj.data_mapDictKeys hdd _) (Heap.SameBut.update ..))) hto)
theorem B1n {o:Addr} {oo:Obj} {eso:Array DictEntry} {epo:Nat} {xs:List (List Key×Addr×Value)} {Q:Value->Shared->Prop} (hoS:(o == sysModules)=false) (hoo:s.heap.get? o=some oo) (hco:oo.ExactDict) (hdo':oo.data= .dict eso epo)
  (he:eso.toList=xs.map (entryOfKey (tupleKind (A0j prog w)))) (hk:∀x∈xs,(tupleKind (A0j prog w)).is s.heap x.1 x.2.1) (hn:(xs.map λx=>A4n prog w x.1).Nodup) (hsz:xs.length<=sizeLine)
  (h:∀h' ob ep,h'.get? s.heap.objs.size=some ob->ob.ExactDict->ob.data= .dict eso ep->Heap.SameBut s.heap.objs.size (s.heap.push { cls:= .type "dict",data:= .dict #[] }) h'->Q (.ref s.heap.objs.size) { s with heap:=h' }) :
  wpAny (model prog w) A (call (.type "dict") [.ref o]) Q E s:=by
 refine callType_codes (Q₁:=λobj s₁=>obj= .ref s.heap.objs.size/\s₁={ s with heap:=s.heap.push { cls:= .type "dict",data:= .dict #[] } }) F.kt_called_dict (F.kt_typeCall_dict_1 _) F.entry_dict_init (kt_code_dict_new _ ⟨rfl,rfl⟩) ?_;rintro obj s₁ ⟨rfl,rfl⟩;have hnew:(s.heap.push { cls:= .type "dict",data:= .dict #[] }).get? s.heap.objs.size=some { cls:= .type "dict",data:= .dict #[] }:=Z0c _ rfl;have ho':(s.heap.push { cls:= .type "dict",data:= .dict #[] }).get? o=some oo:=Z01 _ hoo;have tn:({ s with heap:=s.heap.push { cls:= .type "dict",data:= .dict #[] } }:Shared).TypeIs (.ref s.heap.objs.size) "dict":=⟨_,hnew,rfl⟩;have to:({ s with heap:=s.heap.push { cls:= .type "dict",data:= .dict #[] } }:Shared).TypeIs (.ref o) "dict":=⟨_,ho',hco.1⟩;have hdo:s.heap.objs.size≠o:=λe=>absurd (Z0a hoo) (by rw [e];exact Nat.lt_irrefl _)
 refine ⟨tn,F.args_dict_init_2 _ _,?_⟩;unfold Builtin.«dict.__init__»;refine Z00 ?_;unfold Builtin.Dict.selfAndRest;refine Z00 (wpAny_notOrdered_dict tn ?_);show wpAny _ _ (pure (s.heap.objs.size,[Value.ref o])) _ _ _;refine Z04 ?_;show wpAny _ _ (Builtin.Dict.updateFrom "dict.__init__" s.heap.objs.size (.ref o) [] .none) _ _ _;unfold Builtin.Dict.updateFrom;refine Z00 (wpAny_typeOf to ?_);rw [Z0t (by decide)];refine Z00 ?_;unfold Builtin.Dict.merge;refine Z00 ?_;unfold Builtin.Dict.readDirectly;refine Z00 (wpAny_isInstance to isSubtype_dict_dict ?_);simp only [Bool.not_true,Bool.false_eq_true,if_false];refine Z00 (wpAny_specialOf to F.slot_dict_iter.lookup (Z04 ?_));simp only [beq_self_eq_true,if_true];refine Z00 (Z04 ?_)
 have kx:∀x∈xs,(tupleKind (A0j prog w)).is (s.heap.push { cls:= .type "dict",data:= .dict #[] }) x.1 x.2.1:=λx hx=>by
  obtain ⟨o',items,n,h1,h2⟩:=hk x hx;exact ⟨o',items,n,Z01 _ h1,h2⟩
 refine B3b hdo hoS hnew ⟨rfl,rfl,rfl⟩ rfl ho' hdo' he kx hn hsz λh' ob ep e1 e2 e3 hs'=> ?_;show wpAny _ _ (Builtin.Dict.addKeywords s.heap.objs.size [] >>= _) _ _ _;exact Z00 (Z04 (Z04 ⟨rfl,h h' ob ep e1 e2 e3 hs'⟩))
end
section
variable {X:Cx}
theorem B2z:B1o X (.type "dict") (λxs H Q=>∃a kvs,xs=[V.ref a]/\Rd H a (.dT kvs)/\(kvs.map λe=>A4n X.prog X.w e.1).Nodup/\∀p,H p=none->Q (.ref p) (upd H p (.dT kvs))):=by
 intro pins s σ H xs us Q I r h;obtain ⟨a,kvs,rfl,ha,hh,q⟩:=h;obtain ⟨u,rfl,ru⟩:=B6t r;cases ru;obtain ⟨hz,hs,ys,rel,o,es,ep,h1,h2,h3,h4,h5,h6⟩:=A9x I.hok ha;have el:ys.map (λx=>A4n X.prog X.w x.1)=kvs.map λe=>A4n X.prog X.w e.1:=A6h (λ_ _ z=>z.1) rel;have hl:ys.length<=sizeLine:=by rw [<-Paired.length rel];exact hz
 refine B1n (xs:=ys) hs h1 h2 h3 h4 h5 (by rw [el];exact hh) hl λh' ob ep' e1 e2 e3 sb=> ?_;have hn:=I.hok.fresh (Z09 s.heap.objs.size);have kp:∀b u,s.heap.get? b=some u->h'.get? b=some u:=λb u e=>(sb.2 b (Z0h (Z0a e))).trans (Z01 _ e)
 have hsy:(s.heap.objs.size == sysModules)=false:=by
  have:=I.big;have hne:s.heap.objs.size≠sysModules:=Z1q this
  simpa using hne
 exact ⟨.ref s.heap.objs.size,_,I.laid (t':=s.toks) (o:= .dT kvs) kp (Z09 _) ⟨hz,hsy,ys,Paired.mapP rel (λ_ _ z=>⟨z.1,by rw [A0e (A0g z.2.1 hn)];exact z.2.1,z.2.2⟩),ob,es,ep',e1,e2,e3,h4,h6⟩,rfl,q _ hn⟩
end
theorem A8p {α:Type}:∀{l:List α},l.Nodup->∀{i j:Nat} {x:α},l[i]? =some x->l[j]? =some x->i=j
 | [],_,_,_,_,h,_=>by simp at h
 | a::r,nd,0,0,_,_,_=>rfl
 | a::r,nd,0,j+1,x,h1,h2=>by
  simp at h1;subst h1;exact absurd (Z13 (by simpa using h2)) (Z15.mp nd).1
 | a::r,nd,i+1,0,x,h1,h2=>by
  simp at h2;subst h2;exact absurd (Z13 (by simpa using h1)) (Z15.mp nd).1
 | a::r,nd,i+1,j+1,x,h1,h2=>by
  have:=A8p (Z15.mp nd).2 (i:=i) (j:=j) (x:=x) (by simpa using h1) (by simpa using h2);omega
theorem C0h {α β:Type} {F:α->β->Prop}:∀{l:List α} {m:List β},Paired F l m->∀{i:Nat} {x:α},l[i]? =some x->∃y,m[i]? =some y/\F x y
 | _,_,.nil,i,x,e=>by simp at e
 | _,_,.cons r t,0,x,e=>by simp at e;subst e;exact ⟨_,rfl,r⟩
 | _,_,.cons r t,i+1,x,e=>by
  obtain ⟨y,e1,e2⟩:=C0h t (i:=i) (by simpa using e);exact ⟨y,by simpa using e1,e2⟩
section
variable {prog:Program} {w:World} {A:Around} {E:Value->Shared->Prop} {s:Shared}
theorem A7r {nm:String} {a b:Addr} {oa ob:Obj} {es es':Array DictEntry} {ep ep':Nat} {Q:Bool->Shared->Prop} (ha:(a == sysModules)=false) (hb:(b == sysModules)=false)
  (hoa:s.heap.get? a=some oa) (hda:oa.data= .dict es ep) (hob:s.heap.get? b=some ob) (hdb:ob.data= .dict es' ep') (hsz:es.size=es'.size)
  (hfind:∀(i:Nat) (e:DictEntry),es[i]? =some e->∀(Q:Option Nat->Shared->Prop) (E:Value->Shared->Prop),Q (some i) s->wpAny (model prog w) A (dictFind b e.key e.hash) Q E s)
  (hval:∀(i:Nat) (e e':DictEntry),es[i]? =some e->es'[i]? =some e'->∀(Q:Bool->Shared->Prop) (E:Value->Shared->Prop),Q true s->wpAny (model prog w) A (eqBool e.val e'.val) Q E s)
  (h:Q true s):wpAny (model prog w) A (Builtin.Dict.samePairs nm a b) Q E s:=by
 unfold Builtin.Dict.samePairs Builtin.Dict.showsAll;rw [Z0t (show¬(a == sysModules)=true by rw [ha];exact Z0v),Z0t (show¬(b == sysModules)=true by rw [hb];exact Z0v)];refine Z00 (Z04 (Z00 (Z04 ?_)));refine Z00 (wpAny_dictEntries hoa hda ?_);dsimp only;refine Z00 (wpAny_dictEntries hob hdb ?_);rw [Z0t (by rw [hsz];simp)];refine Z00 (wpAny_dictEpoch hoa hda ?_);refine Z00 ?_;rw [Std.Legacy.Range.forIn_eq_forIn_range'];simp only [Std.Legacy.Range.size,Nat.sub_zero,Nat.add_sub_cancel,Nat.div_one]
 refine wpAny_forIn_list _
  (λrest q s'=>s'=s/\q=(none,())/\∃i,rest=List.range' i (es.size-i)/\i<=es.size)
  _ ?_ ?_ _ _ ⟨rfl,rfl,0,by simp,Z1e _⟩
 ·rintro x rest q s' ⟨rfl,rfl,i,hr,hi⟩
  have hlt:i<es.size:=by
   rcases Nat.lt_or_ge i es.size with h | h
   ·exact h
   ·rw [Nat.sub_eq_zero_of_le h] at hr;simp at hr
  obtain ⟨rfl,hrest⟩:x=i/\rest=List.range' (i+1) (es.size-(i+1)):=by
   have e:es.size-i=(es.size-(i+1))+1:=by omega
   rw [e,List.range'_succ] at hr;injection hr with h1 h2;exact ⟨h1,h2⟩
  refine Z00 (wpAny_dictEntries hoa hda ?_);have hex:es[x]? =some es[x]:=Array.getElem?_eq_getElem hlt;rw [hex];have hlt':x<es'.size:=by rw [<-hsz];exact hlt
  have hex':es'[x]? =some es'[x]:=Array.getElem?_eq_getElem hlt';show wpAny _ _ (holding [es[x].key,es[x].val] _ >>= _) _ _ _;refine Z00 (Z1w (Z00 (hfind x _ hex _ _ ?_)));refine Z00 (wpAny_dictEntries hob hdb ?_);rw [hex'];refine Z1w (hval x _ _ hex hex' _ _ ?_);show wpAny _ _ (if (!true)=true then _ else _) _ _ _;rw [Z0t (by decide)];refine Z00 (wpAny_dictEpoch hoa hda ?_);rw [Z0t (by simp)];exact Z04 ⟨rfl,rfl,x+1,hrest,hlt⟩
 ·rintro q s' ⟨rfl,rfl,i,hr,hi⟩;exact Z04 h
theorem B2g {a b:Addr} {Q:Bool->Shared->Prop} (hab:a≠b) (ta:s.TypeIs (.ref a) "dict") (tb:s.TypeIs (.ref b) "dict") (hu:A.units+1<cLine)
  (hp:∀(nm:String) (Q:Bool->Shared->Prop) (E:Value->Shared->Prop),Q true s->wpAny (model prog w) A.in1 (Builtin.Dict.samePairs nm a b) Q E s) (h:Q true s):wpAny (model prog w) A (eqBool (.ref a) (.ref b)) Q E s:=by
 unfold eqBool;refine Z1w (wpAny_ite_split (λz=>absurd (by have:=eq_of_beq z;injection this) hab) λ_=> ?_);refine Z00 ?_;refine wpAny_richCompare_same_room (op:= .Eq) ta tb PySem.F.slot_dict_eq (wpAny_call_entry PySem.F.slot_dict_eq ta PySem.F.entry_dict_eq ?_ (PySem.F.args_dict_eq_2 _ _)) (by omega);show wpAny _ _ (Builtin.Dict.dictSlotArgs "__eq__" ⟨[.ref a,.ref b],[]⟩ >>= _) _ _ s;refine Z00 ?_;unfold Builtin.Dict.dictSlotArgs;refine Z00 (wpAny_notOrdered_dict ta ?_);show wpAny _ _ (pure (Value.ref a,Value.ref b)) _ _ s;refine Z04 ?_;refine Z00 (wpAny_isInstance (T:="dict") tb PySem.F.sub_dict_dict ?_);simp only [Bool.not_true,Bool.false_eq_true,if_false];refine Z00 (Z04 (Z00 (Z04 ?_)));refine Z00 (hp _ _ _ ?_);refine Z04 ⟨_,rfl,?_,?_⟩
 ·exact λx=>nomatch x
 ·exact wpAny_truthy_bool h
end
section
variable {X:Cx} {pins:List (Addr×Obj)} {σ:St} {H:Hp} {s:Shared} {A:Around} {E:Value->Shared->Prop} {Q:Bool->Shared->Prop}
theorem C0p (I:Inv X pins σ H s) (hu:A.units+62<cLine) {v:V} {p q:Value} (hv:∃i,v= .int i) (rp:A1e v p) (rq:A1e v q) (hq:Q true s):wpAny (model X.prog X.w) A (eqBool p q) Q E s:=by
 obtain ⟨i,rfl⟩:=hv;exact B2m I hu (.inl ⟨.int i,.int i,.int i,by simp [PyData.canLay0],by simp [PyData.depth]⟩) rp rq hq
theorem A3s {α β γ:Type} {F:(α×β)->(α×γ)->Prop}:∀{l:List (α×β)} {m:List (α×γ)},Paired F l m->∀{i:Nat} {y:α×γ},m[i]? =some y->∃x,l[i]? =some x/\F x y
 | _,_,.nil,i,y,e=>by simp at e
 | _,_,.cons r t,0,y,e=>by simp at e;subst e;exact ⟨_,rfl,r⟩
 | _,_,.cons r t,i+1,y,e=>by
  obtain ⟨x,e1,e2⟩:=A3s t (i:=i) (by simpa using e);exact ⟨x,by simpa using e1,e2⟩
theorem C3t (I:Inv X pins σ H s) (hu:A.units+64<cLine) {c d:Addr} {kvs:List (List Key×V)} (hc:Rd H c (.dT kvs)) (hd:Rd H d (.dT kvs)) (hi:∀e∈kvs,∃i,e.2=V.int i) (hq:Q true s):wpAny (model X.prog X.w) A (eqBool (.ref c) (.ref d)) Q E s:=by
 by_cases hcd:c=d
 ·subst hcd;exact SeqAt.EqAt.same _ _ _ _ _ hq
 ·obtain ⟨_,sc,xs,rx,oc,ec,pc,c1,c2,c3,c4,c5,c6⟩:=A9x I.hok hc;obtain ⟨_,sd,ys,ry,od,ed,pd,d1,d2,d3,d4,d5,d6⟩:=A9x I.hok hd;have hu1:A.in1.units+62<cLine:=by show A.units+1+62<cLine;omega
  have lx:=Paired.length rx;have ly:=Paired.length ry;have sx:ec.size=xs.length:=by have:=congrArg List.length c4;simpa using this
  have sy:ed.size=ys.length:=by have:=congrArg List.length d4;simpa using this
  have ex:∀(i:Nat) (e:DictEntry),ec[i]? =some e->∃x,xs[i]? =some x/\e=entryOfKey (tupleKind (A0j X.prog X.w)) x:=λi e h=>by
   rw [<-Array.getElem?_toList,c4,Z1z] at h
   cases hx:xs[i]? with
   | none=>rw [hx] at h;cases h
   | some x=>rw [hx] at h;cases h;exact ⟨x,rfl,rfl⟩
  have ey:∀(i:Nat) (e:DictEntry),ed[i]? =some e->∃x,ys[i]? =some x/\e=entryOfKey (tupleKind (A0j X.prog X.w)) x:=λi e h=>by
   rw [<-Array.getElem?_toList,d4,Z1z] at h
   cases hx:ys[i]? with
   | none=>rw [hx] at h;cases h
   | some x=>rw [hx] at h;cases h;exact ⟨x,rfl,rfl⟩
  have ndk:(kvs.map (·.1)).Nodup:=by
   have:=A6h (g:=id) (λ_ _ z=>z.1) rx;have e2:xs.map (·.1)=kvs.map (·.1):=this;rw [<-e2];exact c6
  have same:∀{i j:Nat} {p q:List Key×V},kvs[i]? =some p->kvs[j]? =some q->p.1=q.1->i=j:=λ{i j p q} h1 h2 h=>by
   have l1:=(Z03.mp h1).1;have l2:=(Z03.mp h2).1;have g1:(kvs.map (·.1))[i]? =some p.1:=by rw [Z1z,h1];rfl
   have g2:(kvs.map (·.1))[j]? =some p.1:=by rw [Z1z,h2,h];rfl
   exact A8p ndk g1 g2
  refine B2g hcd ⟨oc,c1,c2.1⟩ ⟨od,d1,d2.1⟩ (by omega) (λnm Q' E' hq'=> ?_) hq;refine A7r sc sd c1 c3 d1 d3 (by omega) (λi e he Q2 E2 h2=> ?_) (λi e e' he he' Q2 E2 h2=> ?_) hq'
  ·obtain ⟨x,hx,rfl⟩:=ex i e he;obtain ⟨kv,hkv,z1,z2,z3⟩:=A3s rx hx;have hkey:=c5 x (Z13 hx);refine wpAny_dictFind_heap (knd:=tupleKind (A0j X.prog X.w)) (k:=x.1) (by show A.in1.units<cLine;omega) hkey d1 d3 d4 d5 d6 (λhn=> ?_) (λj p hj=> ?_)
   ·obtain ⟨yy,hyi⟩:∃yy,ys[i]? =some yy:=⟨_,Z0b (by have:=(Z03.mp hx).1;omega)⟩;obtain ⟨kv',hkv',y1,_⟩:=A3s ry hyi;rw [hkv] at hkv';cases hkv';exact absurd hyi (by rw [show yy=(x.1,yy.2) from Prod.ext (y1.symm.trans z1) rfl];exact hn i _)
   ·obtain ⟨kv',hkv',y1,_⟩:=A3s ry hj;have:=same hkv' hkv (y1.trans z1.symm);subst this;exact h2
  ·obtain ⟨x,hx,rfl⟩:=ex i e he;obtain ⟨y,hy,rfl⟩:=ey i e' he';obtain ⟨kv,hkv,z1,z2,z3⟩:=A3s rx hx;obtain ⟨kv',hkv',y1,y2,y3⟩:=A3s ry hy;rw [hkv] at hkv';cases hkv';exact C0p I hu1 (hi kv (Z13 hkv)) z3 y3 h2
def C3i (H:Hp) (p q:Key×V):Prop:=p.1=q.1/\∃c d kvs,p.2=V.ref c/\q.2=V.ref d/\Rd H c (.dT kvs)/\Rd H d (.dT kvs)/\∀e∈kvs,∃i,e.2=V.int i
def A6i (H:Hp) (u v:V):Prop:=B8z H u v\/∃a b kas kbs,u= .ref a/\v= .ref b/\Rd H a (.dK kas)/\Rd H b (.dK kbs)/\Paired (C3i H) kas kbs
theorem C4o (I:Inv X pins σ H s) (hu:A.units+65<cLine) {a b:Addr} {kas kbs:List (Key×V)} (ha:Rd H a (.dK kas)) (hb:Rd H b (.dK kbs)) (pr:Paired (C3i H) kas kbs) (hq:Q true s):wpAny (model X.prog X.w) A (eqBool (.ref a) (.ref b)) Q E s:=by
 by_cases hab:a=b
 ·subst hab;exact SeqAt.EqAt.same _ _ _ _ _ hq
 ·obtain ⟨_,sa,vas,ra,da⟩:=A8v I.hok ha;obtain ⟨_,sb,vbs,rb,db⟩:=A8v I.hok hb;have ta:=da.typeIs (s:=s);have tb:=db.typeIs (s:=s);obtain ⟨oa,es,ep,hoa,_,hda,hka,hpa,hna⟩:=da;obtain ⟨ob,es',ep',hob,_,hdb,hkb,hpb,hnb⟩:=db;have hla:vas.length=es.size:=by rw [<-hpa.length];exact Array.length_toList
  have hlb:vbs.length=es'.size:=by rw [<-hpb.length];exact Array.length_toList
  have l1:kas.length=vas.length:=ra.length;have l2:kbs.length=vbs.length:=rb.length;have l3:=Paired.length pr
  have at1:∀(i:Nat) (e:DictEntry),es[i]? =some e->∃k v u,kas[i]? =some (k,v)/\(A0j X.prog X.w).is k e.key=true/\A1e v e.val/\e.hash=(A0j X.prog X.w).hash k/\u=k:=λi e h=>by
   have hl:=(Z1m.mp h).1;obtain ⟨va,hv⟩:∃va,vas[i]? =some va:=⟨_,Z0b (by omega)⟩;obtain ⟨hk,hv2⟩:=hpa.get? (i:=i) (e:=e) (k:=va.1) (v:=va.2) (by rw [Array.getElem?_toList];exact h) hv;obtain ⟨kv,hkv,z1,z2⟩:=A3s ra hv;obtain ⟨k',hk',hh⟩:=hka e (Array.mem_of_getElem? h);have ekk:=(A0j X.prog X.w).inj _ _ _ hk' hk;exact ⟨kv.1,kv.2,kv.1,hkv,by rw [z1];exact hk,by rw [hv2];exact z2,by rw [z1,<-ekk];exact hh,rfl⟩
  have at2:∀(i:Nat) (e:DictEntry),es'[i]? =some e->∃k v,kbs[i]? =some (k,v)/\(A0j X.prog X.w).is k e.key=true/\A1e v e.val:=λi e h=>by
   have hl:=(Z1m.mp h).1;obtain ⟨va,hv⟩:∃va,vbs[i]? =some va:=⟨_,Z0b (by omega)⟩;obtain ⟨hk,hv2⟩:=hpb.get? (i:=i) (e:=e) (k:=va.1) (v:=va.2) (by rw [Array.getElem?_toList];exact h) hv;obtain ⟨kv,hkv,z1,z2⟩:=A3s rb hv;exact ⟨kv.1,kv.2,hkv,by rw [z1];exact hk,by rw [hv2];exact z2⟩
  have ndk:(kbs.map (·.1)).Nodup:=by
   have e2:vbs.map (·.1)=kbs.map (·.1):=A6h (g:=id) (λ_ _ z=>z.1) rb;rw [<-e2];exact hnb
  refine B2g hab ta tb (by omega) (λnm Q' E' hq'=> ?_) hq;refine A7r sa sb hoa hda hob hdb (by omega) (λi e he Q2 E2 h2=> ?_) (λi e e' he he' Q2 E2 h2=> ?_) hq'
  ·obtain ⟨k,v,_,hkv,hkey,_,hh,_⟩:=at1 i e he;obtain ⟨⟨k',v'⟩,hkv',z1,_⟩:=C0h pr hkv;cases (show k=k' from z1);rw [hh];refine wpAny_dictFind_of hkey hob hdb hkb ?_
   have:es'.findIdx? (λe=>(A0j X.prog X.w).is k e.key)=some i:=by
    have hl:i<es'.size:=by have:=(Z03.mp hkv').1;omega
    refine Array.findIdx?_eq_some_iff_getElem.mpr ⟨hl,?_,λj hj hf=> ?_⟩
    ·obtain ⟨k2,v2,h3,h4,_⟩:=at2 i es'[i] (Array.getElem?_eq_getElem hl);rw [hkv'] at h3;cases h3;exact h4
    ·obtain ⟨k2,v2,h3,h4,_⟩:=at2 j es'[j] (Array.getElem?_eq_getElem (by omega));have:=(A0j X.prog X.w).inj _ _ _ h4 hf;subst this;have g1:(kbs.map (·.1))[j]? =some k2:=by rw [Z1z,h3];rfl
     have g2:(kbs.map (·.1))[i]? =some k2:=by rw [Z1z,hkv'];rfl
     have:=A8p ndk g1 g2;omega
   rw [this];exact h2
  ·obtain ⟨k,v,_,hkv,_,rv,_,_⟩:=at1 i e he;obtain ⟨k2,v2,hkv2,_,rv2⟩:=at2 i e' he';obtain ⟨⟨k',v'⟩,hkv',_,c,d,kvs,e1,e2,hc,hd,hi⟩:=C0h pr hkv;rw [hkv2] at hkv';cases hkv';cases (show v=_ from e1);cases (show v2=_ from e2);rw [show e.val=Value.ref c from rv,show e'.val=Value.ref d from rv2];exact C3t I (by show A.units+1+64<cLine;omega) hc hd hi h2
theorem B4z (I:Inv X pins σ H s) (hu:A.units+65<cLine) {u v:V} {p q:Value} (h:A6i H u v) (ru:A1e u p) (rv:A1e v q) (hq:Q true s):wpAny (model X.prog X.w) A (eqBool p q) Q E s:=by
 rcases h with h | ⟨a,b,kas,kbs,rfl,rfl,ha,hb,pr⟩
 ·exact B2m I (by omega) h ru rv hq
 ·cases ru
  cases rv
  exact C4o I hu ha hb pr hq
end
section
variable {X:Cx}
def C4m:R2:=λx y H Q=>∃a b xs ys,x= .ref a/\y= .ref b/\H a=some (.tup xs)/\H b=some (.tup ys)/\Paired (A6i H) xs ys/\Q (.bl false) H
theorem B9s (hu:X.A.units+70<cLine):OpR X (compareOp .NotEq) C4m:=by
 intro pins s σ H x y v u Q I rx ry h;obtain ⟨a,b,xs,ys,rfl,rfl,ha,hb,pr,q⟩:=h;cases rx;cases ry;obtain ⟨_,its,rv,o,ho,hc,n,hd⟩:=(show A1k X.prog X.w H s.heap a (.tup xs) from I.hok a _ ha);obtain ⟨_,jts,rw',o',ho',hc',n',hd'⟩:=(show A1k X.prog X.w H s.heap b (.tup ys) from I.hok b _ hb);obtain ⟨cls,dd,data,sl⟩:=o;obtain ⟨cls',dd',data',sl'⟩:=o';simp only at hc hd hc' hd';subst hc hd hc' hd'
 have key:∀{xs ys:List V} {its jts:List Value},Paired (A6i H) xs ys->A1n xs its->A1n ys jts->its.length=jts.length/\∀p∈its.zip jts,∃u v,A6i H u v/\A1e u p.1/\A1e v p.2:=by
  intro xs ys its jts pr
  induction pr generalizing its jts with
  | nil=>intro r1 r2;cases r1;cases r2;exact ⟨rfl,λp hp=>by cases hp⟩
  | @cons x y xs ys hxy t ih =>
   intro r1 r2
   cases r1 with
   | cons q1 r1 =>
    cases r2 with
    | cons q2 r2 =>
     obtain ⟨e,k⟩:=ih r1 r2;refine ⟨by simp [e],λp hp=> ?_⟩;rcases Z0e.mp hp with rfl | hp
     ·exact ⟨x,y,hxy,q1,q2⟩
     ·exact k p hp
 obtain ⟨e,k⟩:=key pr rv rw';refine wpAny_richCompare_same_room (op:= .NotEq) ⟨_,ho,rfl⟩ ⟨_,ho',rfl⟩ PySem.F.slot_tuple_ne (call_meetsIn PySem.F.slot_tuple_ne ⟨_,ho,rfl⟩ PySem.F.entry_tuple_ne (PySem.F.args_tuple_ne_2 _ _) (B3r a b its.toArray jts.toArray n n' dd dd' sl sl') ⟨ho,ho',?_,by simpa using e,?_⟩) (by omega)
 ·intro p hp E Q hq;obtain ⟨u,v,h,r1,r2⟩:=k p (by simpa using hp);exact B4z I (by show X.A.units+1+65<cLine;omega) h r1 r2 hq
 ·exact ⟨(λz=>nomatch z),.bl false,H,I,rfl,q⟩
end
end L2
namespace My
open PySem L2
def Sm (z:Int):Prop:=z.natAbs<=10^32
def C5v (x:Str):Prop:=x.length<=20/\PyData.strOk x=true
theorem B5k {n:Nat} (h:n<10^33):(Str.ofString (Nat.repr n)).length<=33:=by
 rw [PyProof.Rows.ofString_len]
 simpa [Nat.repr] using PySem.toDigits_len_pow (b:=10) (k:=33) (by decide) (by decide) h
theorem B9n (a b:String):Str.ofString (a++b)=Str.ofString a++Str.ofString b:=by
 rw [Str.ofString_eq_toList,Str.ofString_eq_toList,Str.ofString_eq_toList];apply Str.ext';simp [Str.cps_append,String.toList_append]
theorem B1b {z:Int} (h:Sm z):(toString z:Str).length<=34:=by
 unfold Sm at h
 cases z with
 | ofNat m =>
  have hm:m<10^33:=Z2d (show m<=10^32 from h) (by decide);exact Nat.le_succ_of_le (B5k hm)
 | negSucc m =>
  have hm:m+1<10^33:=Z2d (show m+1<=10^32 from h) (by decide);have e:(toString (Int.negSucc m):Str)=Str.ofString "-"++Str.ofString (Nat.repr (m+1)):=B9n "-" (Nat.repr (m+1));rw [e,Str.length_append];have h1:=B5k hm;have h2:(Str.ofString "-").length=1:=by decide +kernel
  omega
theorem B5h {z:Int} (h:Sm z):z.natAbs.log2<1920:=by
 by_cases h0:z.natAbs=0
 ·rw [h0];decide
 ·exact (Nat.log2_lt h0).mpr (Z2d h (Z0q (show 10^32<2^110 by decide) (Nat.pow_le_pow_right (by decide) (by decide))))
section
variable {G:Hp} {v:V}
end
theorem A9m {H:Hp}:∀ns:List Int,B7j H (ns.map V.int) (ns.map PyData.int)
 | []=> .nil
 | n::r=> .cons (.int n) (A9m r)
theorem A9j:∀ns:List Int,PyData.canLayAll0 (ns.map PyData.int)=true/\PyData.depthAll (ns.map PyData.int)=0/\PyData.eqvAll (ns.map PyData.int) (ns.map PyData.int)=true
 | []=>⟨rfl,rfl,rfl⟩
 | n::r=>by
  obtain ⟨h1,h2,h3⟩:=A9j r;simp [PyData.canLayAll0,PyData.canLay0,PyData.depthAll,PyData.depth,PyData.eqvAll,PyData.eqv,h1,h2,h3]
def tho (m p1 p2 p5:Nat) (hashes:List Int):Int :=
 let acc:=hashes.foldl (init:=p5) λacc h =>
  let acc:=(acc+(h%(m:Int)).toNat*p2)%m
  let acc:=(acc*2^31)%m+acc/2^33
  (acc*p1)%m
 let acc:=(acc+(hashes.length ^^^ (p5 ^^^ 3527539)))%m
 if acc == m-1 then 1546275796 else if acc<2^63 then acc else (acc:Int)-m
theorem B9e:Builtin.Tuple.tupleHashOf=tho (2^64) 11400714785074694791 14029467366897019727 2870177450012600261:=by
 funext hs;rfl
def inn (m p2 acc x:Nat):Nat:=(acc+x*p2)%m
def rot (m a:Nat):Nat:=(a*2^31)%m+a/2^33
def B3y (m:Nat) (h:Int):Nat:=(h%(m:Int)).toNat
def hq (m p1 p2 acc:Nat) (h:Int):Nat:=(rot m (inn m p2 acc (B3y m h))*p1)%m
def A5z (m c acc:Nat):Int:=if (acc+c)%m == m-1 then 1546275796 else if (acc+c)%m<2^63 then (((acc+c)%m:Nat):Int) else (((acc+c)%m:Nat):Int)-m
theorem thl (m p1 p2 p5:Nat) (l:List Int):tho m p1 p2 p5 l=A5z m (l.length ^^^ (p5 ^^^ 3527539)) (l.foldl (hq m p1 p2) p5):=rfl
theorem fo1 {f:Nat->Int->Nat} {a:Nat} {x:Int}:[x].foldl f a=f a x:=by rw [List.foldl_cons,List.foldl_nil]
theorem fo2 {f:Nat->Int->Nat} {a:Nat} {x y:Int}:[x,y].foldl f a=f (f a x) y:=by rw [List.foldl_cons,List.foldl_cons,List.foldl_nil]
section
variable {m:Nat} (hm:m=18446744073709551616)
include hm
theorem B1f {a b p i:Nat} (hp:p*i%m=1) (ha:a<m) (hb:b<m) (h:a*p%m=b*p%m):a=b:=by
 have h1:1<m:=by rw [hm];decide
 have e:∀c,c<m->(c*p%m)*i%m=c:=λc hc=>by
  rw [Nat.mod_mul_mod,Nat.mul_assoc,Nat.mul_mod,hp,Nat.mul_one,Nat.mod_mod,Nat.mod_eq_of_lt hc]
 rw [<-e a ha,<-e b hb,h]
theorem B5j {a:Nat}:rot m a=(a%8589934592)*2147483648+a/8589934592:=by
 unfold rot;rw [hm,show (2:Nat)^31=2147483648 by decide,show (2:Nat)^33=8589934592 by decide,show (18446744073709551616:Nat)=8589934592*2147483648 by decide,Nat.mul_mod_mul_right]
theorem C1f {a b:Nat} (ha:a<m) (hb:b<m) (h:rot m a=rot m b):a=b:=by
 rw [B5j hm,B5j hm] at h;rw [hm] at ha hb;omega
theorem B9a {a:Nat} (ha:a<m):rot m a<m:=by
 rw [B5j hm];rw [hm] at ha⊢;omega
theorem B1v (p2 c x:Nat):inn m p2 c x<m:=Nat.mod_lt _ (by rw [hm];decide)
theorem B4u {p1 p2 i c d:Nat} {x y:Int} (hp:p1*i%m=1) (h:hq m p1 p2 c x=hq m p1 p2 d y):inn m p2 c (B3y m x)=inn m p2 d (B3y m y) :=
 C1f hm (B1v hm _ _ _) (B1v hm _ _ _) (B1f hm hp (B9a hm (B1v hm _ _ _)) (B9a hm (B1v hm _ _ _)) h)
theorem B3c (p1 p2 c:Nat) (x:Int):hq m p1 p2 c x<m:=Nat.mod_lt _ (by rw [hm];decide)
theorem B5q {c u v:Nat} (h:(c+u)%m=(c+v)%m):u%m=v%m:=by rw [hm] at h⊢;omega
theorem A6q (h:Int):B3y m h<m:=by unfold B3y;rw [hm];omega
theorem B4f {p2 i c x y:Nat} (hp:p2*i%m=1) (hx:x<m) (hy:y<m) (h:inn m p2 c x=inn m p2 c y):x=y:=B1f hm hp hx hy (B5q hm h)
theorem B5i {c a b:Nat} (ha:a<m) (hb:b<m) (na:(a+c)%m≠m-1) (nb:(b+c)%m≠m-1) (h:A5z m c a=A5z m c b):a=b:=by
 unfold A5z at h;have e1:((a+c)%m == m-1)=false:=by simpa using na
 have e2:((b+c)%m == m-1)=false:=by simpa using nb
 rw [e1,e2,Z0t Z0v,Z0t Z0v,show (2:Nat)^63=9223372036854775808 by decide] at h;have l1:(a+c)%m<m:=Nat.mod_lt _ (by omega);have l2:(b+c)%m<m:=Nat.mod_lt _ (by omega)
 have h3:(a+c)%m=(b+c)%m:=by
  rw [hm] at h l1 l2⊢;generalize (a+c)%18446744073709551616=u at *;generalize (b+c)%18446744073709551616=v at *;by_cases hu:u<9223372036854775808 <;> by_cases hv:v<9223372036854775808 <;> simp only [hu,hv,if_true,if_false] at h <;> omega
 rw [hm] at h3 ha hb;omega
end
def A9a (x:Int):Int:=if x<0 then -((x.natAbs%2305843009213693951:Nat):Int) else ((x.natAbs%2305843009213693951:Nat):Int)
theorem B7o (x:Int):rawHash x=if A9a x= -1 then -2 else A9a x:=by
 have e:(2:Nat)^61-1=2305843009213693951:=by decide
 simp only [rawHash,e,A9a];split <;> split <;> simp_all
theorem A3x (x:Int):hashInt x=if A9a x= -1 then -2 else A9a x:=by
 unfold hashInt;rw [B7o];by_cases h:A9a x= -1
 ·rw [Z12 h];decide
 ·rw [Z0t h,Z0t (by simpa using h)]
theorem B0b {x y:Int} (h: -200<=x-y/\x-y<=200):A9a x-A9a y=x-y\/A9a x-A9a y=x-y-2305843009213693951\/A9a x-A9a y=x-y+2305843009213693951:=by
 unfold A9a;split <;> split <;> omega
theorem B1g (x:Int): -2305843009213693951<A9a x/\A9a x<2305843009213693951:=by
 unfold A9a;split <;> omega
theorem A8k (x:Int): -2305843009213693952<hashInt x/\hashInt x<2305843009213693952:=by
 have:=B1g x;rw [A3x];split <;> omega
theorem B5d {x y:Int} (h: -200<=x-y/\x-y<=200):(-202<=hashInt x-hashInt y/\hashInt x-hashInt y<=202)\/(hashInt x-hashInt y<=-2305843009213693951+202/\-2305843009213693951-202<=hashInt x-hashInt y)\/(hashInt x-hashInt y<=2305843009213693951+202/\2305843009213693951-202<=hashInt x-hashInt y):=by
 have r:=B0b h;rw [A3x,A3x];split <;> split <;> omega
theorem B2q {x y:Int} (h: -200<=x-y/\x-y<=200) (he:(x-y)%2=0) (hh:hashInt x=hashInt y):x=y:=by
 have r:=B0b h;have b1:=B1g x;have b2:=B1g y;rw [A3x,A3x] at hh;by_cases h1:A9a x= -1
 ·rw [Z12 h1] at hh;by_cases h2:A9a y= -1
  ·omega
  ·rw [Z0t h2] at hh;omega
 ·rw [Z0t h1] at hh;by_cases h2:A9a y= -1
  ·rw [Z12 h2] at hh;omega
  ·rw [Z0t h2] at hh;omega
theorem B2l {i:Int} (h: -9223372036854775808<=i/\i<9223372036854775808) (n:i≠-1):reduceHash i=i:=by
 unfold reduceHash;rw [Z12 (by rw [show (2:Int)^63=9223372036854775808 by decide];simp;omega),Z0t (by simpa using n)]
section
variable {m p1 p2 p5:Nat} (hm:m=18446744073709551616) (h1:p1=11400714785074694791) (h2:p2=14029467366897019727) (h5:p5=2870177450012600261)
include hm h1 h2 h5
theorem B1u (c a:Nat): -9223372036854775808<=A5z m c a/\A5z m c a<9223372036854775808/\A5z m c a≠-1:=by
 have l1:(a+c)%m<m:=Nat.mod_lt _ (by omega);unfold A5z;rw [show (2:Nat)^63=9223372036854775808 by decide];generalize (a+c)%m=u at *;subst hm;by_cases e:u=18446744073709551615
 ·subst e;decide
 ·rw [Z0t (by simpa using e)];split <;> omega
theorem B2n {acc c:Nat} {L x:Int} (hL:(hq m p1 p2 acc L+c)%m=m-1) (bL:L< -2305843009213693952\/2305843009213693952<L) (rL: -9223372036854775808<=L/\L<9223372036854775808) (bx: -2305843009213693952<x/\x<2305843009213693952):(hq m p1 p2 acc x+c)%m≠m-1:=λh=>by
 have l1:=B3c hm p1 p2 acc x;have l2:=B3c hm p1 p2 acc L
 have e:hq m p1 p2 acc x=hq m p1 p2 acc L:=by
  rw [<-hL] at h;generalize hq m p1 p2 acc x=u at *;generalize hq m p1 p2 acc L=v at *;subst hm;omega
 have e2:=B4f hm (i:=839798700976720815) (by rw [h2,hm]) (A6q hm _) (A6q hm _) (B4u hm (i:=614540362697595703) (by rw [h1,hm]) e);unfold B3y at e2;subst hm;omega
theorem A9d {acc c:Nat} {L x y:Int} (hL:(hq m p1 p2 acc L+c)%m=m-1) (bL:L< -2305843009213693952\/2305843009213693952<L) (rL: -9223372036854775808<=L/\L<9223372036854775808) (bx: -2305843009213693952<x/\x<2305843009213693952) (by_: -2305843009213693952<y/\y<2305843009213693952)
  (h:A5z m c (hq m p1 p2 acc x)=A5z m c (hq m p1 p2 acc y)):x=y:=by
 have e:=B5i hm (B3c hm _ _ _ _) (B3c hm _ _ _ _) (B2n hm h1 h2 h5 hL bL rL bx) (B2n hm h1 h2 h5 hL bL rL by_) h;have e2:=B4f hm (i:=839798700976720815) (by rw [h2,hm]) (A6q hm _) (A6q hm _) (B4u hm (i:=614540362697595703) (by rw [h1,hm]) e);unfold B3y at e2;subst hm;omega
theorem B6i {a0 a2 c:Nat} {L0 L2 x y:Int} (hL0:(hq m p1 p2 a0 L0+c)%m=m-1) (bL0:L0< -2305843009213693952\/2305843009213693952<L0) (rL0: -9223372036854775808<=L0/\L0<9223372036854775808)
  (hL2:(hq m p1 p2 a2 L2+c)%m=m-1) (bL2:L2< -2305843009213693952\/2305843009213693952<L2) (rL2: -9223372036854775808<=L2/\L2<9223372036854775808)
  (hd:(a0+2743415681610773093*p2)%m=a2%m) (bx: -2305843009213693952<x/\x<2305843009213693952) (by_: -2305843009213693952<y/\y<2305843009213693952)
  (nr:(-202<=x-y/\x-y<=202)\/(x-y<=-2305843009213693951+202/\-2305843009213693951-202<=x-y)\/(x-y<=2305843009213693951+202/\2305843009213693951-202<=x-y)) :
  A5z m c (hq m p1 p2 a0 x)≠A5z m c (hq m p1 p2 a2 y):=λh=>by
 have e:=B5i hm (B3c hm _ _ _ _) (B3c hm _ _ _ _) (B2n hm h1 h2 h5 hL0 bL0 rL0 bx) (B2n hm h1 h2 h5 hL2 bL2 rL2 by_) h;have e2:=B4u hm (i:=614540362697595703) (by rw [h1,hm]) e;unfold inn at e2
 have e3:(a0+B3y m x*p2)%m=(a0+(2743415681610773093+B3y m y)*p2)%m:=by
  rw [e2,Nat.add_mul,<-Nat.add_assoc,Nat.add_mod,<-hd,<-Nat.add_mod]
 have e4:=B5q hm e3
 have e5:B3y m x=(2743415681610773093+B3y m y)%m:=by
  refine B1f hm (p:=p2) (i:=839798700976720815) (by rw [h2,hm]) (A6q hm _) (Nat.mod_lt _ (by omega)) ?_;rw [e4,Nat.mod_mul_mod]
 unfold B3y at e5;subst hm;omega
include hm h1 h2 h5
theorem C0f {x y:Int} (bx: -2305843009213693952<x/\x<2305843009213693952) (by_: -2305843009213693952<y/\y<2305843009213693952) (h:reduceHash (tho m p1 p2 p5 [x])=reduceHash (tho m p1 p2 p5 [y])):x=y:=by
 have lc:∀x:Int,[x].length=1:=λ_=>rfl;rw [thl,thl,fo1,fo1,lc,lc] at h;have r1:=B1u hm h1 h2 h5 (1 ^^^ (p5 ^^^ 3527539)) (hq m p1 p2 p5 x);have r2:=B1u hm h1 h2 h5 (1 ^^^ (p5 ^^^ 3527539)) (hq m p1 p2 p5 y);rw [B2l ⟨r1.1,r1.2.1⟩ r1.2.2,B2l ⟨r2.1,r2.2.1⟩ r2.2.2] at h;have f:(hq m p1 p2 p5 (-8496733470247235670)+(1 ^^^ (p5 ^^^ 3527539)))%m=m-1:=by subst hm h1 h2 h5;decide +kernel
 exact A9d hm h1 h2 h5 f (by decide) (by decide) bx by_ h
theorem B7i {a b x y:Int} (ha:a=0\/a=2) (hb:b=0\/b=2) (bx: -2305843009213693952<x/\x<2305843009213693952) (by_: -2305843009213693952<y/\y<2305843009213693952)
  (nr:(-202<=x-y/\x-y<=202)\/(x-y<=-2305843009213693951+202/\-2305843009213693951-202<=x-y)\/(x-y<=2305843009213693951+202/\2305843009213693951-202<=x-y))
  (h:reduceHash (tho m p1 p2 p5 [a,x])=reduceHash (tho m p1 p2 p5 [b,y])):a=b/\x=y:=by
 have lc:∀x y:Int,[x,y].length=2:=λ_ _=>rfl;rw [thl,thl,fo2,fo2,lc,lc] at h;have r1:=B1u hm h1 h2 h5 (2 ^^^ (p5 ^^^ 3527539)) (hq m p1 p2 (hq m p1 p2 p5 a) x);have r2:=B1u hm h1 h2 h5 (2 ^^^ (p5 ^^^ 3527539)) (hq m p1 p2 (hq m p1 p2 p5 b) y);rw [B2l ⟨r1.1,r1.2.1⟩ r1.2.2,B2l ⟨r2.1,r2.2.1⟩ r2.2.2] at h;have a0:hq m p1 p2 p5 0=6823068795704846497:=by subst hm h1 h2 h5;decide +kernel
 have a2:hq m p1 p2 p5 2=4039278139849780428:=by subst hm h1 h2 h5;decide +kernel
 have f0:(hq m p1 p2 6823068795704846497 8439652683406997565+(2 ^^^ (p5 ^^^ 3527539)))%m=m-1:=by subst hm h1 h2 h5;decide +kernel
 have f2:(hq m p1 p2 4039278139849780428 5696237001796224472+(2 ^^^ (p5 ^^^ 3527539)))%m=m-1:=by subst hm h1 h2 h5;decide +kernel
 have fd:(6823068795704846497+2743415681610773093*p2)%m=4039278139849780428%m:=by subst hm h1 h2 h5;decide +kernel
 rw [<-a0] at f0 fd;rw [<-a2] at f2 fd;clear a0 a2 r1 r2;generalize 2 ^^^ (p5 ^^^ 3527539)=c at *;rcases ha with rfl | rfl <;> rcases hb with rfl | rfl
 ·exact ⟨rfl,A9d hm h1 h2 h5 f0 (by decide) (by decide) bx by_ h⟩
 ·exact absurd h (B6i hm h1 h2 h5 f0 (by decide) (by decide) f2 (by decide) (by decide) fd bx by_ nr)
 ·exact absurd h.symm (B6i hm h1 h2 h5 f0 (by decide) (by decide) f2 (by decide) (by decide) fd by_ bx (by omega))
 ·exact ⟨rfl,A9d hm h1 h2 h5 f2 (by decide) (by decide) bx by_ h⟩
end
theorem hT1 (P:Program) (w:World) (x:Int):A4n P w [Sum.inl x]=reduceHash (Builtin.Tuple.tupleHashOf [hashInt x]):=rfl
theorem hT2 (P:Program) (w:World) (a x:Int):A4n P w [Sum.inl a,Sum.inl x]=reduceHash (Builtin.Tuple.tupleHashOf [hashInt a,hashInt x]):=rfl
theorem B7t (P:Program) (w:World) {x y:Int} (h: -200<=x-y/\x-y<=200) (he:(x-y)%2=0) (hh:A4n P w [Sum.inl x]=A4n P w [Sum.inl y]):x=y:=by
 rw [hT1,hT1,B9e] at hh;exact B2q h he (C0f (by decide) rfl rfl rfl (A8k x) (A8k y) hh)
theorem B6w (P:Program) (w:World) {a b x y:Int} (ha:a=0\/a=2) (hb:b=0\/b=2) (h: -200<=x-y/\x-y<=200) (he:(x-y)%2=0) (hh:A4n P w [Sum.inl a,Sum.inl x]=A4n P w [Sum.inl b,Sum.inl y]):a=b/\x=y:=by
 rw [hT2,hT2,B9e] at hh;have z:∀c:Int,c=0\/c=2->hashInt c=c:=λc hc=>by rcases hc with rfl | rfl <;> decide
 rw [z a ha,z b hb] at hh;obtain ⟨e1,e2⟩:=B7i (by decide) rfl rfl rfl ha hb (A8k x) (A8k y) (B5d h) hh;exact ⟨e1,B2q h he e2⟩
def top (i:Nat):Stmt:=PySem.Challenge.pw_arrayloom_k71_sums_on_the_tape.main.body.getD i (.Pass ⟨0,0,0,0⟩)
abbrev C4e:Stmt:=top 7
abbrev A2x:Stmt:=A3y (top 8) 0
abbrev A3l:Stmt:=A3y (top 8) 1
abbrev A1x:Stmt:=A3y (top 8) 2
abbrev A2h:Stmt:=A3y (top 8) 3
abbrev A2e:Stmt:=A3y (top 8) 4
abbrev A2m:Stmt:=A3y (top 8) 5
abbrev A1y:Stmt:=A3y (top 8) 6
abbrev A2n:Stmt:=A3y (top 8) 7
abbrev A7g:Stmt:=top 9
abbrev A7v:Stmt:=top 10
abbrev A7b:Stmt:=top 11
abbrev A5s:Stmt:=top 12
abbrev A5p:Stmt:=top 13
abbrev A7e:Stmt:=top 14
abbrev A5n:Stmt:=top 15
abbrev A4j:Stmt:=top 16
abbrev A6l:Stmt:=top 17
abbrev A6k:Stmt:=top 18
abbrev A9s:Stmt:=top 19
abbrev A7t:Stmt:=top 20
abbrev B0j:Stmt:=top 21
abbrev A6m:Stmt:=top 22
abbrev A7h:Stmt:=top 23
abbrev A4r:Stmt:=top 26
abbrev A6v:Stmt:=top 27
abbrev A4w:Stmt:=top 28
abbrev A4a:Stmt:=top 29
abbrev A4u:Stmt:=top 30
abbrev A5t:Stmt:=top 31
abbrev A8o:Stmt:=top 32
abbrev A4l:Stmt:=top 33
abbrev A3z:Stmt:=top 34
abbrev A2y:Stmt:=top 35
abbrev A2z:Stmt:=top 36
abbrev A8g:Stmt:=top 37
abbrev A5m:Stmt:=top 38
abbrev B7h:Stmt:=top 39
structure TyC (K:Frag) (C:Addr):Prop where
 ha:findIn K (.ref C) "__class__"=some (some (.builtin "object.__class__"))
 hn:specialIn K (.builtin "object.__class__") "__get__"=some (some (.builtin "getset_descriptor.__get__"))
 htk:takesIn K (.builtin "object.__class__")=some true
 hm:mroIn K C (.type "object")=some true
abbrev C3q:List Str:=["tape","wheel","homes","boxes","most"]
abbrev C5i:List Str:=["self","wheel","homes","boxes"]
abbrev B9u:List Str:=["self","array","indexes"]
abbrev C4g:List Str:=["self","counter","shift"]
abbrev C3p:List Str:=["self","box","number"]
abbrev A3a:List Str:=["machine","row"]
abbrev C4b:List Str:=["_law_script","_law_k"]
abbrev C3u:List Str:=["_law_k","_law_size","_law_cell"]
abbrev C4v:List Str:=["_law_size","_law_cell","_law_wheel"]
abbrev C4a:List Str:=["_law_cell","_law_stack","_law_home","_law_boxes"]
abbrev C1e:List Str:=["_law_row","_law_box","_law_stack","_law_boxes","_law_trace","_law_wheel"]
abbrev B3l:List Str:=["_law_found","_law_due"]
abbrev C0k:List Str:=["_law_found","_law_boxes","_law_trace"]
abbrev C0e:List Str:=["_law_script","_law_wheel","_law_places","_law_boxes"]
abbrev C0g:List Str:=["machine","row","left","right"]
set_option genInjectivity false in
set_option genSizeOf false in
structure Adr where
 gt:Addr
 fu:Addr
 bg:Addr
 bb:Addr
 ac:Addr
 e_:Addr
 gI:Addr
 gE:FuncData
 cg:Addr
 fe:FuncData
 dg:Addr
 fm:FuncData
 bf:Addr
 de:FuncData
 bt:Addr
 du:FuncData
 br:Addr
 dl:FuncData
 az:Addr
 bz:FuncData
 av:Addr
 be:FuncData
 bw:Addr
 d_:FuncData
 c_:Addr
 gc:FuncData
 di:Addr
 fP:FuncData
 cy:Addr
 ge:FuncData
 c7:Addr
 fU:FuncData
 c9:Addr
 fX:FuncData
 b_:Addr
 fq:FuncData
 bh:Addr
 fg:FuncData
 bc:Addr
 eg:FuncData
 cq:Addr
 g0:FuncData
 cz:Addr
 f_:FuncData
 dw:Addr
 g5:FuncData
 dn:Addr
 fV:FuncData
 ef:Addr
 g8:FuncData
 cf:Addr
 fJ:FuncData
 cn:Addr
 fG:FuncData
 fM:Addr
 fL:FuncData
 fZ:Addr
 g7:FuncData
 fK:Addr
 fO:FuncData
 ft:Addr
 fx:FuncData
 fF:Addr
 fI:FuncData
 fQ:Addr
 fW:FuncData
 gk:Addr
 gf:FuncData
 fz:Addr
 fH:FuncData
 fy:Addr
 fv:FuncData
 fj:Addr
 eo:FuncData
 fc:Addr
 fh:FuncData
 gg:Addr
 gi:FuncData
 fR:Addr
 fT:FuncData
 gF:Addr
 gD:FuncData
structure FQ (K:Frag) (mg:Str->Option Value) (x q:Str) (st:Stmt) (f:Addr) (fd:FuncData) (ps:List Str):Prop where
 F:Fun K x q st f fd
 m:mg x=some (.ref f)
 b:A4q K fd ps []
structure FM (K:Frag) (x q:Str) (st:Stmt) (f:Addr) (fd:FuncData) (ps:List Str):Prop where
 F:Fun K x q st f fd
 b:A4q K fd ps []
structure Txt (K:Frag) (mg:Str->Option Value) (t:Adr):Prop where
 gl:FQ K mg "go" "go" C4e t.gI t.gE C3q
 bp:FM K "__init__" "Machine.__init__" A2x t.cg t.fe C5i
 ag:FM K "put" "Machine.put" A3l t.dg t.fm ["self","number"]
 ad:FM K "two_taken" "Machine.two_taken" A1x t.bf t.de ["self"]
 ak:FM K "home_of" "Machine.home_of" A2h t.bt t.du B9u
 aw:FM K "index_at" "Machine.index_at" A2e t.br t.dl C4g
 ap:FM K "box_of" "Machine.box_of" A2m t.az t.bz B9u
 au:FM K "number_in" "Machine.number_in" A1y t.av t.be ["self","box"]
 ao:FM K "put_in" "Machine.put_in" A2n t.bw t.d_ C3p
 cw:FQ K mg "do_push" "do_push" A7g t.c_ t.gc A3a
 gy:FQ K mg "do_count" "do_count" A7v t.di t.fP A3a
 cu:FQ K mg "do_plus" "do_plus" A7b t.cy t.ge A3a
 c8:FQ K mg "do_minus" "do_minus" A5s t.c7 t.fU A3a
 cc:FQ K mg "do_times" "do_times" A5p t.c9 t.fX A3a
 dy:FQ K mg "do_load" "do_load" A7e t.b_ t.fq A3a
 dh:FQ K mg "do_store" "do_store" A5n t.bh t.fg A3a
 cm:FQ K mg "do_gather" "do_gather" A4j t.bc t.eg A3a
 cp:FQ K mg "do_skip" "do_skip" A6l t.cq t.g0 A3a
 cr:FQ K mg "do_jump" "do_jump" A6k t.cz t.f_ A3a
 gB:FQ K mg "do_zero" "do_zero" A9s t.dw t.g5 A3a
 gu:FQ K mg "do_begin" "do_begin" A7t t.dn t.fV A3a
 gC:FQ K mg "do_step" "do_step" B0j t.ef t.g8 A3a
 gn:FQ K mg "do_unless" "do_unless" A6m t.cf t.fJ A3a
 gq:FQ K mg "do_within" "do_within" A7h t.cn t.fG A3a
 af:FQ K mg "_law_cell_at" "_law_cell_at" A4r t.fM t.fL C4b
 cv:FQ K mg "_law_whole" "_law_whole" A6v t.fZ t.g7 ["_law_found"]
 ci:FQ K mg "_law_home_by" "_law_home_by" A4w t.fK t.fO C3u
 ce:FQ K mg "_law_boxes_by" "_law_boxes_by" A4a t.ft t.fx C4v
 ba:FQ K mg "_law_address" "_law_address" A4u t.fF t.fI ["_law_home"]
 dj:FQ K mg "_law_row_by" "_law_row_by" A5t t.fQ t.fW C4a
 eu:FQ K mg "_law_pair" "_law_pair" A8o t.gk t.gf ["_law_word","_law_stack"]
 cj:FQ K mg "_law_box_row" "_law_box_row" A4l t.fz t.fH C1e
 cb:FQ K mg "_law_side_row" "_law_side_row" A3z t.fy t.fv ["_law_cell","_law_home"]
 bn:FQ K mg "_law_same_boxes" "_law_same_boxes" A2y t.fj t.eo B3l
 bq:FQ K mg "_law_same_trace" "_law_same_trace" A2z t.fc t.fh B3l
 fi:FQ K mg "_law_told" "_law_told" A8g t.gg t.gi C0k
 dk:FQ K mg "_law_played" "_law_played" A5m t.fR t.fT C0e
 gp:FQ K mg "law" "law" B7h t.gF t.gD ["_law_script"]
 fk:∃u,mg "NO_COUNTER"=some u/\A1e (.int (-1)) u
 g9:∃u,mg "DOINGS"=some u/\A1e (.ref t.e_) u
 fY:B8t K t.e_ [("push",V.ref t.c_),("count",V.ref t.di),("plus",V.ref t.cy),("minus",V.ref t.c7),("times",V.ref t.c9),("load",V.ref t.b_),("store",V.ref t.bh),("gather",V.ref t.bc),("skip",V.ref t.cq),("jump",V.ref t.cz),("zero",V.ref t.dw),("begin",V.ref t.dn),("step",V.ref t.ef),("unless",V.ref t.cf),("within",V.ref t.cn)]
 gm:mg "NoEnd"=some (.ref t.fu)
 fo:mg "Outside"=some (.ref t.bg)
 fN:mg "Unwritten"=some (.ref t.bb)
 gj:excIn K t.fu C1i "ValueError.__new__"=true
 et:excIn K t.bg C1i "ValueError.__new__"=true
 fw:excIn K t.bb C1i "ValueError.__new__"=true
 g6:mg "Machine"=some (.ref t.ac)
 aa:Cls K t.ac
 fS:Mk K t.ac t.cg
 ay:A3o K t.ac "wheel"
 bv:A3o K t.ac "homes"
 ah:A3o K t.ac "boxes"
 dq:A3o K t.ac "counts"
 ae:A3o K t.ac "stack"
 aq:A3o K t.ac "trace"
 ax:B6p K t.ac "box_of" t.az
 bi:B6p K t.ac "home_of" t.bt
 df:B6p K t.ac "index_at" t.br
 a_:B6p K t.ac "number_in" t.av
 am:B6p K t.ac "put" t.dg
 bu:B6p K t.ac "put_in" t.bw
 al:B6p K t.ac "two_taken" t.bf
 gz:TyC K t.ac
 bj:mg "len"=none
 dz:mg "list"=none
 em:mg "tuple"=none
 aj:mg "isinstance"=none
 gA:mg "bool"=none
 gG:mg "int"=none
 dv:mg "range"=none
 gH:mg "str"=none
 gv:mg "dict"=none
abbrev FO (P:Program) (w:World) (base:Heap) {K:Frag} {mg:Str->Option Value} {x q:Str} {st:Stmt} {f:Addr} {fd:FuncData} {ps:List Str} (_:FQ K mg x q st f fd ps) (n:Nat) (sp:Sp):Prop:=A5j P w K mg base CX0 n f fd ps sp
abbrev FP (P:Program) (w:World) (mg:Str->Option Value) (base:Heap) {K:Frag} {x q:Str} {st:Stmt} {f:Addr} {fd:FuncData} {ps:List Str} (_:FM K x q st f fd ps) (n:Nat) (sp:Sp):Prop:=A5j P w K mg base CX0 n f fd ps sp
theorem pcl {X:Cx} {k k2:Nat} {f:Addr} {fd:FuncData} {ps:List Str} {sp:Sp} {x q:Str} {st:Stmt} {e:Expr} {es:List Expr} {t:TA} {p pos:Pos} (F:A5j X.prog X.w X.K X.mg X.base CX0 k f fd ps sp) (hr:A4i k2 X.A) (Z:FQ X.K X.mg x q st f fd ps) (ha:PA X (e::es) t) (hk:k<=k2:=by omega) (hg:Gl X x:=by rfl) (hdb:(x == ("__debug__":Str))=false:=by decide) (he:starEach (e::es) X.env=(false,eval e X.env)::starEach es X.env:=by rfl) (hpl:(backTo pos (starEach es X.env)).any (·.1)=false:=by rfl):PE X (.Call (.Name x p) (e::es) [] pos) (C0t sp [] E0 t):=B5x F (hr.mono hk) hg Z.m Z.F.kp Z.b .nil A4z ha hdb he hpl
theorem pmk {X:Cx} {C:Addr} {k k2:Nat} {f:Addr} {fd:FuncData} {ps:List Str} {sp:Sp} {x:Str} {e:Expr} {es:List Expr} {t:TA} {p pos:Pos} (M:Mk X.K C f) (F:A5j X.prog X.w X.K X.mg X.base CX0 k f fd ps sp) (hr:A4i k2 X.A) (hm:X.mg x=some (.ref C)) (hb:A4q X.K fd ps []) (ha:PA X (e::es) t) (hk:k+1<=k2:=by omega) (hg:Gl X x:=by rfl) (hdb:(x == ("__debug__":Str))=false:=by decide) (he:starEach (e::es) X.env=(false,eval e X.env)::starEach es X.env:=by rfl) (hpl:(backTo pos (starEach es X.env)).any (·.1)=false:=by rfl):PE X (.Call (.Name x p) (e::es) [] pos) (C1r C sp [] E0 t):=B9w M F (hr.mono hk) hg hm hb .nil A4z ha hdb he hpl
theorem A0o {n:Nat} (h:Nat.ble n 1000000=true):n<=sizeLine:=A1s (Nat.le_of_ble_eq_true h)
theorem C5z:(0:Int)<2:=by decide
theorem C4s:(0:Int)<3:=by decide
theorem C5h:(0:Int)<4:=by decide
theorem z_80:(0:Int)<8:=by decide
theorem nH {H:Hp} {x:Addr} {o:HO} (h:H x=none):∃H',A1p H H'/\H' x=some o/\upd H x o=H':=⟨_,A0q h,A0d,rfl⟩
abbrev Sro (a:Addr):Option V:=some (.ref a)
abbrev Sio (a:Int):Option V:=some (.int a)
abbrev Sso (a:Str):Option V:=some (.str a)
abbrev Sbo (a:Bool):Option V:=some (.bl a)
local macro_rules | `(tactic| walk_at "ix") => `(tactic| first | exact Or.inl rfl | exact Or.inr rfl | (simp [relabel]; rfl) | (with_unfolding_all exact Or.inl rfl) | (with_unfolding_all exact Or.inr rfl) | (with_unfolding_all decide))
local macro_rules | `(tactic| walk_at "sc") => `(tactic| exact ⟨rfl, rfl, rfl, by decide +kernel, rfl, by decide +kernel, by decide +kernel⟩)
local macro_rules | `(tactic| walk_at "ln") => `(tactic| (intro _ _ _ _ h; first | (cases h; subst_vars; rfl) | ((repeat (obtain ⟨_, h⟩ := h)); subst_vars; rfl)))
theorem A9z:A0n ["tape","wheel","homes","boxes","most","machine","place","doings","row","to"] C3q (A0i C4e):=by walk_at "sc"
theorem A6p:A0n C5i ["self","wheel","homes","boxes"] (A0i A2x):=by walk_at "sc"
theorem A7l:A0n ["self","number"] ["self","number"] (A0i A3l):=by walk_at "sc"
theorem A1q:A0n ["self","right","left"] ["self"] (A0i A1x):=by walk_at "sc"
theorem A5i:A0n B9u ["self","array","indexes"] (A0i A2h):=by walk_at "sc"
theorem A4v:A0n C4g ["self","counter","shift"] (A0i A2e):=by walk_at "sc"
theorem A3c:A0n ["self","array","indexes","home"] B9u (A0i A2m):=by walk_at "sc"
theorem A2o:A0n C3p ["self","box"] (A0i A1y):=by walk_at "sc"
theorem A5q:A0n C3p ["self","box","number"] (A0i A2n):=by walk_at "sc"
theorem A5v:A0n ["machine","row","word","number"] A3a (A0i A7g):=by walk_at "sc"
theorem A5o:A0n C0g A3a (A0i A7b):=by walk_at "sc"
theorem A4t:A0n C0g A3a (A0i A5s):=by walk_at "sc"
theorem A4o:A0n C0g A3a (A0i A5p):=by walk_at "sc"
theorem A4e:A0n ["machine","row","word","array","indexes"] A3a (A0i A7e):=by walk_at "sc"
theorem A2u:A0n ["machine","row","word","array","indexes","box"] A3a (A0i A5n):=by walk_at "sc"
theorem A2c:A0n ["machine","row","word","array","indexes","box","gathered"] A3a (A0i A4j):=by walk_at "sc"
theorem A3b:A0n ["machine","row","word","array","indexes","to"] A3a (A0i A6l):=by walk_at "sc"
theorem A5l:A0n ["machine","row","word","to"] A3a (A0i A6k):=by walk_at "sc"
theorem B0c:A0n C4b ["_law_script","_law_k"] (A0i A4r):=by walk_at "sc"
theorem B3q:A0n ["_law_found"] ["_law_found"] (A0i A6v):=by walk_at "sc"
theorem A3q:A0n ["_law_k","_law_size","_law_cell","_law_box","_law_far"] C3u (A0i A4w):=by walk_at "sc"
theorem A3k:A0n ["_law_size","_law_cell","_law_wheel","_law_boxes","_law_k"] C4v (A0i A4a):=by walk_at "sc"
theorem B0g:A0n ["_law_home"] ["_law_home"] (A0i A4u):=by walk_at "sc"
theorem A3i:A0n ["_law_cell","_law_stack","_law_home","_law_boxes","_law_act","_law_rest","_law_full"] C4a (A0i A5t):=by walk_at "sc"
theorem A7j:A0n ["_law_word","_law_stack","_law_right","_law_left"] ["_law_word","_law_stack"] (A0i A8o):=by walk_at "sc"
theorem A9n:A0n C1e ["_law_row","_law_box","_law_stack","_law_boxes","_law_trace","_law_wheel"] (A0i A4l):=by walk_at "sc"
theorem A5a:A0n ["_law_cell","_law_home","_law_some"] ["_law_cell","_law_home"] (A0i A3z):=by walk_at "sc"
theorem A3w:A0n ["_law_found","_law_due","_law_k"] B3l (A0i A2y):=by walk_at "sc"
theorem A2t:A0n ["_law_found","_law_due","_law_k","_law_row"] B3l (A0i A2z):=by walk_at "sc"
theorem B4g:A0n C0k ["_law_found","_law_boxes","_law_trace"] (A0i A8g):=by walk_at "sc"
theorem A1c:A0n ["_law_script","_law_wheel","_law_places","_law_boxes","_law_tape","_law_stack","_law_trace","_law_many","_law_cell","_law_home","_law_row"] C0e (A0i A5m):=by walk_at "sc"
theorem A2k:A0n ["_law_script","_law_wheel","_law_size","_law_places","_law_homes","_law_name","_law_cell","_law_box","_law_first","_law_boxes","_law_tape","_law_trace","_law_many","_law_turn","_law_handed","_law_found"] ["_law_script"] (A0i B7h):=by walk_at "sc"
theorem B0l:(["counter","shift","self"]:List Str).Nodup:=by decide +kernel
theorem B4i:(["_law_number"]:List Str).Nodup:=by decide +kernel
theorem B5u:(["_law_k","_law_script","_law_size"]:List Str).Nodup:=by decide +kernel
local macro_rules | `(tactic| walk_at "lk") => `(tactic| first | with_reducible exact lk0 | (refine lk1 (by decide +kernel) ?_; walk_at "lk") | rfl)
theorem C0a {α β:Type} {F:α->β->Prop}:∀{l:List α} {m:List β},Paired F l m->∀{i:Nat} {x:α},l[i]? =some x->∃y,m[i]? =some y/\F x y
 | _,_,.nil,i,x,e=>by simp at e
 | _,_,.cons r t,0,x,e=>by simp at e;subst e;exact ⟨_,rfl,r⟩
 | _,_,.cons r t,i+1,x,e=>by
  obtain ⟨y,e1,e2⟩:=C0a t (i:=i) (by simpa using e);exact ⟨y,by simpa using e1,e2⟩
inductive Ro where
 | push (n:Int) | plus | minus | times
 | load (a:Str) (ix:List Int) | store (a:Str) (ix:List Int) | gather (a:Str) (ix:List Int)
 | skip (a:Str) (ix:List Int) (to:Nat) | jump (to:Nat)
abbrev Hm:=List (List Int×Int)
structure Mc where
 bx:List (Option Int)
 st:List Int
 tr:List (Str×Nat)
def enO:Option Int->V
 | none=> .non
 | some i=> .int i
def hmL (D:List (Str×Hm)) (a:Str):Option Hm:=(D.find? λe=>decide (e.1=a)).map (·.2)
def hmI (l:Hm) (ix:List Int):Option Int:=(l.find? λe=>decide (e.1=ix)).map (·.2)
def A5c (D:List (Str×Hm)) (a:Str) (ix:List Int):Option Int:=(hmL D a).bind λl=>hmI l ix
def A6d (D:List (Str×Hm)) (n:Nat) (a:Str) (ix:List Int):Option Nat:=(A5c D a ix).bind λh=>if 0<=h/\h<n then some h.toNat else none
inductive Ou where
 | nx (m:Mc) (to:Option Nat) | out | bare | stuck
def two (f:Int->Int->Int) (wh:Int) (m:Mc):Ou :=
 match m.st with
 | r::l::s=> .nx { m with st:=f l r%wh::s } none
 | _=> .stuck
def A2d (wh:Int) (D:List (Str×Hm)) (m:Mc):Ro->Ou
 | .push n=> .nx { m with st:=n%wh::m.st } none
 | .plus=>two (λl r=>l+r) wh m
 | .minus=>two (λl r=>l-r) wh m
 | .times=>two (λl r=>l*r) wh m
 | .load a ix=>match A6d D m.bx.length a ix with
  | none=> .out
  | some b=>match m.bx[b]? with
   | some (some v)=> .nx { m with st:=v%wh::m.st,tr:=m.tr++[(("read":Str),b)] } none
   | _=> .bare
 | .store a ix=>match A6d D m.bx.length a ix with
  | none=> .out
  | some b=>match m.st with
   | x::s=> .nx ⟨m.bx.set b (some (x%wh)),s,m.tr++[(("write":Str),b)]⟩ none
   | []=> .stuck
 | .gather a ix=>match A6d D m.bx.length a ix with
  | none=> .out
  | some b=>match m.bx[b]? with
   | some (some v)=>match m.st with
    | x::s=> .nx ⟨m.bx.set b (some ((v+x)%wh)),s,m.tr++[(("read":Str),b)]++[(("write":Str),b)]⟩ none
    | []=> .stuck
   | _=> .bare
 | .skip a ix to=>match A5c D a ix with
  | none=> .nx m (some to)
  | some _=> .nx m none
 | .jump to=> .nx m (some to)
def IxP (H:Hp) (v:V) (i:Int):Prop:=∃p,v= .ref p/\H p=some (.tup [.int (-1),.int i])
def IxT (H:Hp) (q:Addr) (ix:List Int):Prop:=∃vs,H q=some (.tup vs)/\Paired (IxP H) vs ix/\ix.length<=1000
def RoV (H:Hp):Ro->List V->Prop
 | .push n,vs=>vs=[.str "push",.int n]
 | .plus,vs=>vs=[.str "plus"]
 | .minus,vs=>vs=[.str "minus"]
 | .times,vs=>vs=[.str "times"]
 | .load a ix,vs=>∃q,vs=[.str "load",.str a,.ref q]/\IxT H q ix
 | .store a ix,vs=>∃q,vs=[.str "store",.str a,.ref q]/\IxT H q ix
 | .gather a ix,vs=>∃q,vs=[.str "gather",.str a,.ref q]/\IxT H q ix
 | .skip a ix to,vs=>∃q,vs=[.str "skip",.str a,.ref q,.int to]/\IxT H q ix
 | .jump to,vs=>vs=[.str "jump",.int to]
def A9f (H:Hp) (v:V) (r:Ro):Prop:=∃p vs,v= .ref p/\H p=some (.tup vs)/\RoV H r vs
def kvT (l:Hm):List (List Key×V):=l.map λe=>(e.1.map Sum.inl,.int e.2)
def HmP (H:Hp) (kv:Key×V) (e:Str×Hm):Prop:=kv.1= .inr e.1/\∃p,kv.2= .ref p/\H p=some (.dT (kvT e.2))
def C2d (H:Hp) (hm:Addr) (D:List (Str×Hm)):Prop:=∃kvs,H hm=some (.dK kvs)/\Paired (HmP H) kvs D
def TrP (H:Hp) (v:V) (e:Str×Nat):Prop:=∃p,v= .ref p/\H p=some (.tup [.str e.1,.int e.2])
structure Mh where
 x:Addr
 b:Addr
 s:Addr
 r:Addr
 hm:Addr
 wh:Int
structure MAt (A:Adr) (H:Hp) (g:Mh) (m:Mc):Prop where
 ins:∃dx c,H g.x=some (.ins A.ac dx [("wheel",.int g.wh),("homes",.ref g.hm),("boxes",.ref g.b),("counts",.ref c),("stack",.ref g.s),("trace",.ref g.r)])
 bx:H g.b=some (.lst (m.bx.map enO))
 st:H g.s=some (.lst (m.st.reverse.map V.int))
 tr:∃vs,H g.r=some (.lst vs)/\Paired (TrP H) vs m.tr
 n1:g.b≠g.s
 n2:g.b≠g.r
 n3:g.s≠g.r
 sm:∀x∈m.st,Sm x
 wp:0<g.wh/\g.wh<=10^30
def KG (g:Mh) (H H':Hp):Prop:=∀b o,b≠g.b->b≠g.s->b≠g.r->H b=some o->H' b=some o
theorem KG.refl {g:Mh} {H:Hp}:KG g H H:=λ_ _ _ _ _ e=>e
theorem KG.of {g:Mh} {H H':Hp} (s:A1p H H'):KG g H H':=λ_ _ _ _ _ e=>s _ _ e
theorem KG.trans {g:Mh} {H H' H2:Hp} (a:KG g H H') (b:KG g H' H2):KG g H H2:=λc o n m k e=>b c o n m k (a c o n m k e)
theorem KG.s {g:Mh} {H:Hp} {o:HO}:KG g H (upd H g.s o):=λb u _ n _ e=>by rw [A0e n];exact e
theorem KG.b {g:Mh} {H:Hp} {o:HO}:KG g H (upd H g.b o):=λb u n _ _ e=>by rw [A0e n];exact e
theorem KG.r {g:Mh} {H:Hp} {o:HO}:KG g H (upd H g.r o):=λb u _ _ n e=>by rw [A0e n];exact e
theorem Paired.tr {H H':Hp} (k:∀p xs,H p=some (.tup xs)->H' p=some (.tup xs)) {vs:List V} {es:List (Str×Nat)} (h:Paired (TrP H) vs es):Paired (TrP H') vs es :=
 Paired.mapP h λ_ _ ⟨p,e,hp⟩=>⟨p,e,k _ _ hp⟩
theorem A2f {H:Hp} {l:Addr} {o:HO} {xs:List V} (h:H l=some (.lst xs)):∀p ys,H p=some (.tup ys)->upd H l o p=some (.tup ys):=λp ys e=>by
 rw [A0e (A1g e h (by intro z;cases z))];exact e
theorem IxT.kt {H H':Hp} (k:∀p xs,H p=some (.tup xs)->H' p=some (.tup xs)) {q:Addr} {ix:List Int} (h:IxT H q ix):IxT H' q ix:=by
 obtain ⟨vs,e,pr,l⟩:=h;exact ⟨vs,k _ _ e,Paired.mapP pr λ_ _ ⟨p,e1,e2⟩=>⟨p,e1,k _ _ e2⟩,l⟩
theorem A9f.kt {H H':Hp} (k:∀p xs,H p=some (.tup xs)->H' p=some (.tup xs)) {v:V} {r:Ro} (h:A9f H v r):A9f H' v r:=by
 obtain ⟨p,vs,e,hp,rv⟩:=h;refine ⟨p,vs,e,k _ _ hp,?_⟩
 cases r with
 | push n=>exact rv
 | plus=>exact rv
 | minus=>exact rv
 | times=>exact rv
 | load a ix=>obtain ⟨q,e1,e2⟩:=rv;exact ⟨q,e1,e2.kt k⟩
 | store a ix=>obtain ⟨q,e1,e2⟩:=rv;exact ⟨q,e1,e2.kt k⟩
 | gather a ix=>obtain ⟨q,e1,e2⟩:=rv;exact ⟨q,e1,e2.kt k⟩
 | skip a ix to=>obtain ⟨q,e1,e2⟩:=rv;exact ⟨q,e1,e2.kt k⟩
 | jump to=>exact rv
section
variable {A:Adr} {H H':Hp} {g:Mh} {m:Mc}
theorem MAt.same (h:MAt A H g m) (s:A1p H H'):MAt A H' g m:=by
 obtain ⟨dx,c,e⟩:=h.ins;obtain ⟨vs,ht,pr⟩:=h.tr;exact ⟨⟨dx,c,s _ _ e⟩,s _ _ h.bx,s _ _ h.st,⟨vs,s _ _ ht,Paired.tr (λ_ _ z=>s _ _ z) pr⟩,h.n1,h.n2,h.n3,h.sm,h.wp⟩
theorem MAt.setS {st':List Int} (h:MAt A H g m) (hs:∀x∈st',Sm x):MAt A (upd H g.s (.lst (st'.reverse.map V.int))) g { m with st:=st' }:=by
 obtain ⟨dx,c,e⟩:=h.ins;obtain ⟨vs,ht,pr⟩:=h.tr;refine ⟨⟨dx,c,?_⟩,?_,A0d,⟨vs,?_,Paired.tr (A2f h.st) pr⟩,h.n1,h.n2,h.n3,hs,h.wp⟩
 ·rw [A0e (A1g e h.st (by intro z;cases z))];exact e
 ·rw [A0e h.n1];exact h.bx
 ·rw [A0e h.n3.symm];exact ht
theorem MAt.setB {bx':List (Option Int)} (h:MAt A H g m):MAt A (upd H g.b (.lst (bx'.map enO))) g { m with bx:=bx' }:=by
 obtain ⟨dx,c,e⟩:=h.ins;obtain ⟨vs,ht,pr⟩:=h.tr;refine ⟨⟨dx,c,?_⟩,A0d,?_,⟨vs,?_,Paired.tr (A2f h.bx) pr⟩,h.n1,h.n2,h.n3,h.sm,h.wp⟩
 ·rw [A0e (A1g e h.bx (by intro z;cases z))];exact e
 ·rw [A0e h.n1.symm];exact h.st
 ·rw [A0e h.n2.symm];exact ht
theorem MAt.addT {vs:List V} {p:Addr} {x:Str} {b:Nat} (h:MAt A H g m) (ht:H g.r=some (.lst vs)) (hp:H p=some (.tup [.str x,.int b])):MAt A (upd H g.r (.lst (vs++[.ref p]))) g { m with tr:=m.tr++[(x,b)] }:=by
 obtain ⟨dx,c,e⟩:=h.ins;obtain ⟨vs',ht',pr⟩:=h.tr;rw [ht] at ht';cases ht';refine ⟨⟨dx,c,?_⟩,?_,?_,⟨_,A0d,Paired.snoc ⟨p,rfl,A2f ht _ _ hp⟩ (Paired.tr (A2f ht) pr)⟩,h.n1,h.n2,h.n3,h.sm,h.wp⟩
 ·rw [A0e (A1g e ht (by intro z;cases z))];exact e
 ·rw [A0e h.n2];exact h.bx
 ·rw [A0e h.n3];exact h.st
theorem MAt.len (h:MAt A H g m) {vs:List V} (ht:H g.r=some (.lst vs)):vs.length=m.tr.length:=by
 obtain ⟨vs',ht',pr⟩:=h.tr;rw [ht] at ht';cases ht';exact Paired.length pr
end
theorem C1o {n wh:Int} (h:0<wh/\wh<=10^30):Sm (n%wh):=by
 have h1:=Z1v n (Int.ne_of_gt h.1);have h2:=Z1p n h.1;have h3:=h.2;unfold Sm;omega
def Lim (m:Mc):Prop:=m.st.length<=2000000/\m.tr.length<=4000000/\m.bx.length<=1000000
theorem A8d {n:Nat} (h:n<=5000000):n<sizeLine:=by rw [sizeLine_eq];omega
theorem B8q {x:Int} {s:List Int}:(((x::s).reverse.map V.int))[((x::s).reverse.map V.int).length-1]? =some (.int x):=by simp
theorem B0k {x:Int} {s:List Int}:((x::s).reverse.map V.int).dropLast=s.reverse.map V.int:=by simp
def C3k (A:Adr):Sp:=λvs H Q _=>∃(g:Mh) (m:Mc) (n:Int),vs=[.ref g.x,.int n]/\MAt A H g m/\m.st.length<=2000000/\∀H',KG g H H'->MAt A H' g { m with st:=n%g.wh::m.st }->Q .non H'
def C3j (A:Adr):Sp:=λvs H Q _=>∃(g:Mh) (m:Mc) (l r:Int) (s:List Int),vs=[.ref g.x]/\MAt A H g m/\m.st=r::l::s/\∀p H',KG g H H'->MAt A H' g { m with st:=s }->H' p=some (.tup [.int l,.int r])->Q (.ref p) H'
def B1k (A:Adr):Sp:=λvs H Q _=>∃(v:V) (i:Int),vs=[v,.int (-1),.int i]/\Q (.int i) H
def B3p (A:Adr):Sp:=λvs H Q _=>∃(g:Mh) (m:Mc) (a:Str) (q:Addr) (ix:List Int) (D:List (Str×Hm)),vs=[.ref g.x,.str a,.ref q]/\MAt A H g m/\C2d H g.hm D/\(hmL D a).isSome=true/\IxT H q ix/\∀H',A1p H H'->Q (enO (A5c D a ix)) H'
def B5s (A:Adr):Sp:=λvs H Q E=>∃(g:Mh) (m:Mc) (a:Str) (q:Addr) (ix:List Int) (D:List (Str×Hm)),vs=[.ref g.x,.str a,.ref q]/\MAt A H g m/\C2d H g.hm D/\(hmL D a).isSome=true/\(∀h,A5c D a ix=some h->Sm h)/\C5v a/\m.bx.length<=1000000/\IxT H q ix/\
 (∀b,A6d D m.bx.length a ix=some b->∀H',A1p H H'->Q (.int b) H')/\(A6d D m.bx.length a ix=none->∀H',A1p H H'->E (.ref A.bg) none H')
def B0i (A:Adr):Sp:=λvs H Q E=>∃(g:Mh) (m:Mc) (b:Nat) (o:Option Int),vs=[.ref g.x,.int b]/\MAt A H g m/\Lim m/\m.bx[b]? =some o/\b<=1000000/\
 (∀v,o=some v->∀H',KG g H H'->MAt A H' g { m with tr:=m.tr++[(("read":Str),b)] }->Q (.int v) H')/\(o=none->E (.ref A.bb) none H)
def B6c (A:Adr):Sp:=λvs H Q _=>∃(g:Mh) (m:Mc) (b:Nat) (n:Int),vs=[.ref g.x,.int b,.int n]/\MAt A H g m/\m.tr.length<=4000001/\b<m.bx.length/\∀H',KG g H H'->MAt A H' g { m with bx:=m.bx.set b (some (n%g.wh)),tr:=m.tr++[(("write":Str),b)] }->Q .non H'
theorem C3g {H:Hp} {kvs:List (Key×V)} {D:List (Str×Hm)} {a:Str}:Paired (HmP H) kvs D->(hmL D a).isSome=true->∃p l,hmL D a=some l/\A7k kvs (Sum.inr a)=some (.ref p)/\H p=some (.dT (kvT l)):=by
 intro pr
 induction pr with
 | nil=>intro h;cases h
 | @cons kv e r1 r2 z _ ih =>
  intro h;obtain ⟨e1,p,e2,e3⟩:=z;by_cases ha:e.1=a
  ·refine ⟨p,e.2,?_,?_,e3⟩
   ·unfold hmL;rw [Z2h,Z20 ha];rfl
   ·unfold A7k;rw [Z2h,Z20 (by rw [e1,ha])];exact congrArg some e2
  ·have q:hmL (e::r2) a=hmL r2 a:=by unfold hmL;rw [Z2h,Z1j ha]
   rw [q] at h⊢;obtain ⟨p',l,h1,h2,h3⟩:=ih h;refine ⟨p',l,h1,?_,h3⟩;unfold A7k at h2⊢;rw [Z2h,Z1j (by rw [e1];intro z;injection z with z;exact ha z)];exact h2
theorem B9f {x y:List Int}:x.map (Sum.inl:Int->Key)=y.map Sum.inl↔x=y:=by
 constructor
 ·intro h;have:Function.Injective (Sum.inl:Int->Key):=λa b e=>by injection e
  exact (List.map_inj_right (λa b e=>this e)).mp h
 ·intro h;rw [h]
theorem B9l (l:Hm) (ix:List Int):A7k (kvT l) (ix.map Sum.inl)=(hmI l ix).map V.int:=by
 induction l with
 | nil=>rfl
 | cons e r ih =>
  unfold A7k hmI kvT at ih⊢;rw [Z0p,Z2h,Z2h];by_cases h:e.1=ix
  ·rw [Z20 h,Z20 (by simp only [h])];rfl
  ·rw [Z1j h,Z1j (λz=>h (B9f.mp z))];exact ih
variable {P:Program} {w:World} {K:Frag} {mg:Str->Option Value} {base:Heap} {t:Adr}
theorem A1u (T:Txt K mg t):FP P w mg base T.ag 1 (C3k t):=by
 refine T.ag.F.ok A7l (by walk_at "ln") λ_ A _ s H _ Q E hr h=> ?_
 ·obtain ⟨g,m,n,rfl,ma,lim,k⟩:=h;obtain ⟨dx,c,hi⟩:=ma.ins;refine ⟨_,(A0h (A0z (A4p Z0k Z0n Z0o A0w (A2r (pv 0) rfl) (A0a (A0p A1t (pv 1) (A2r (pv 0) rfl)) A0b)))),?_⟩;refine ⟨_,rfl,g.x,_,dx,_,.ref g.s,rfl,hi,T.aa,T.ae,(by walk_at "lk"),.inl ⟨rfl,_,SqL.of ma.st⟩,?_⟩;refine ⟨_,rfl,_,rfl,g.x,_,dx,_,_,rfl,hi,T.aa,T.ay,(by walk_at "lk"),_,_,rfl,rfl,ma.wp.1,?_⟩;refine ⟨g.s,_,_,rfl,rfl,ma.st,A8d (by simp;omega),?_⟩;refine k _ KG.s ?_;have:=ma.setS (st':=n%g.wh::m.st) (λx hx=>(Z0e.mp hx).elim (λe=>by rw [e];exact C1o ma.wp) (ma.sm x));rw [List.reverse_cons,Z0s] at this;exact this
theorem A1r (T:Txt K mg t):FP P w mg base T.ad 1 (C3j t):=by
 refine T.ad.F.ok A1q (by walk_at "ln") λ_ A _ s H _ Q E hr h=> ?_
 ·obtain ⟨g,m,l,r,st,rfl,ma,hst,k⟩:=h;obtain ⟨bx,_,tr⟩:=m;cases hst;obtain ⟨dx,c,hi⟩:=ma.ins
  refine ⟨_,(A0c (A0t (i:=1) A1q.nd rfl (.inl rfl) (A5f Z0k PySem.F.slot_list_pop PySem.F.type_list_pop A5x (A2r (pv 0) rfl)))
   (A0c (A0t (i:=2) A1q.nd rfl (.inl rfl) (A5f Z0k PySem.F.slot_list_pop PySem.F.type_list_pop A5x (A2r (pv 0) rfl)))
   (A0h (A0s (A0y (A0a (pv 2) (A0a (pv 1) A0b))))))),?_⟩
  refine ⟨_,rfl,g.x,_,dx,_,.ref g.s,rfl,hi,T.aa,T.ae,(by walk_at "lk"),.inl ⟨rfl,_,SqL.of ma.st⟩,g.s,_,_,rfl,rfl,ma.st,B8q,?_⟩;rw [B0k];have m1:=ma.setS (st':=l::st) λx hx=>ma.sm x (Z1f _ hx);have k1:KG g H (upd H g.s (.lst ((l::st).reverse.map V.int))):=KG.s;generalize upd H g.s (.lst ((l::st).reverse.map V.int))=H1 at m1 k1⊢;obtain ⟨dx1,c1,hi1⟩:=m1.ins;refine ⟨_,rfl,g.x,_,dx1,_,.ref g.s,rfl,hi1,T.aa,T.ae,(by walk_at "lk"),.inl ⟨rfl,_,SqL.of m1.st⟩,g.s,_,_,rfl,rfl,m1.st,B8q,?_⟩;rw [B0k];have m2:=m1.setS (st':=st) λx hx=>ma.sm x (Z1f _ (Z1f _ hx));have k2:KG g H1 (upd H1 g.s (.lst (st.reverse.map V.int))):=KG.s;generalize upd H1 g.s (.lst (st.reverse.map V.int))=H2 at m2 k2⊢;refine ⟨_,rfl,_,rfl,A0o rfl,λp hp=> ?_⟩;exact k p _ (k1.trans (k2.trans (KG.of (A0q hp)))) (m2.same (A0q hp)) A0d
theorem A4x (T:Txt K mg t):FP P w mg base T.aw 1 (B1k t):=by
 refine T.aw.F.ok A4v (by walk_at "ln") λ_ A _ s H _ Q E hr h=> ?_
 ·obtain ⟨v,i,rfl,k⟩:=h
  refine ⟨_,(A0c (A1z (A0m A4m (pv 1) (B2r T.fk rfl) (A0u _))
    (A0h (A0s (pv 2)))
    A0x)
   (A0h B7n)),?_⟩
  exact ⟨_,rfl,rfl,_,rfl,A3d rfl ⟨_,rfl,k⟩⟩
theorem A2v (T:Txt K mg t):FP P w mg base T.ak 2 (B3p t):=by
 have Ga0:= @A4x P w K mg base t T;refine T.ak.F.ok A5i (by walk_at "ln") λ_ A _ s H _ Q E hr h=> ?_
 ·obtain ⟨g,m,a,q,ix,D,rfl,ma,⟨kvs,hk,pr⟩,hs,⟨es,eq,px,lx⟩,k⟩:=h;have hu:=C1q hr;obtain ⟨dx,c,hi⟩:=ma.ins;obtain ⟨p,l,h1,h2,h3⟩:=C3g pr hs;have ll:=Paired.length px;refine ⟨_,(A0h (A0s (B7s hu (B1a hu (A2r (pv 0) rfl) (pv 1) (λ_ _=>rfl)) (A2s A5h (by rfl) T.em Z0m (A0a (B6g (N':=["counter","shift","self"]) (ix:=(List.replicate 2 none++[some 0])) (g:=C5x K 2 (C0x (B4y 0) (C0x (B4y 1) C5s))) rfl (B7a (x:="self") rfl rfl rfl (by decide +kernel) (by decide +kernel)) (B5b (N0:=["counter","shift"]) rfl (.inl rfl) (by walk_at "ix")) (B8k (pv 2)) (λ_ _ _ _=>(A3p (n:=2) rfl (A0k (A0l (i:=0) B0l rfl (.inl rfl)) (A0k (A0l (i:=1) B0l rfl (.inl rfl)) A2l)))) (λ_ _ _ _=>(A2b (pv 2) T.aa T.df Ga0 (hr.mono (by omega)) T.aw.b .nil A4z (A0a (pv 0) (A0a (pv 1) A0b))))) A0b)) ⟨rfl,rfl,rfl,rfl⟩))),?_⟩;refine ⟨_,rfl,g.x,_,dx,_,_,rfl,hi,T.aa,T.bv,(by walk_at "lk"),_,rfl,g.hm,_,rfl,.inl ⟨kvs,.inr a,.inl hk,rfl,h2.symm⟩,p,rfl,.inr ⟨_,.inl h3⟩,?_⟩;refine ⟨_,rfl,q,rfl,⟨_,SqT.of eq⟩,λD' hD=> ?_⟩;refine B0o (K:=K) (a:=q) (D:=D') (xs:=es) (λi ys H2=>A1p H H2/\H2 D'=some (.lst ys)/\ys=(ix.take i).map V.int) ⟨A0q hD,A0d,rfl⟩ (λi ys H2 ⟨s2,_⟩=>SqT.of (s2 _ _ eq)) ?_ ?_
  ·rintro i x ys H2 hx ⟨s2,hD2,rfl⟩;have hil:i<ix.length:=by have:=(Z03.mp hx).1;omega
   obtain ⟨j,hj,y,rfl,ey⟩:=C0a px hx;refine ⟨y,_,rfl,SqT.of (s2 _ _ ey),rfl,_,_,rfl,_,_,rfl,rfl,⟨rfl,True.intro⟩,_,rfl,g.x,dx,_,rfl,s2 _ _ hi,(by walk_at "lk"),_,rfl,_,rfl,_,j,rfl,?_⟩;refine ⟨hD2,A1m (by simp;omega),A1j s2 hD,A0d,?_⟩;rw [Z14,hj,Option.toList_some,Z0s];rfl
  ·rintro ys H2 ⟨s2,hD2,rfl⟩;rw [ll,List.take_length] at hD2;refine ⟨D',_,rfl,.inl ⟨SqL.of hD2,λz hz=> ?_⟩⟩;have s3:=s2.trans (A0q (o:= .tup (ix.map V.int)) hz);refine ⟨_,.inr ⟨kvT l,ix.map Sum.inl,z,.inl (s3 _ _ h3),rfl,?_,rfl⟩,?_⟩
   ·rw [List.map_map];exact A0d
   ·rw [B9l];have e:A5c D a ix=hmI l ix:=by unfold A5c;rw [h1];rfl
    rw [e] at k;have:=k _ s3
    cases hh:hmI l ix with
    | none=>rw [hh] at this;exact this
    | some v=>rw [hh] at this;exact this
def C2j (D:List (Str×Hm)) (a:Str) (ix:List Int):Prop:=(hmL D a).isSome=true/\C5v a/\∀h,A5c D a ix=some h->Sm h
def B5z (D:List (Str×Hm)):Ro->Prop
 | .load a ix=>C2j D a ix
 | .store a ix=>C2j D a ix
 | .gather a ix=>C2j D a ix
 | .skip a ix _=>C2j D a ix
 | _=>True
def toV:Option Nat->V
 | none=> .non
 | some n=> .int n
def B0n (A:Adr) (g:Mh) (H:Hp) (Q:VK) (E:XK):Ou->Prop
 | .nx m to=>∀H',KG g H H'->MAt A H' g m->Q (toV to) H'
 | .out=>∀H',KG g H H'->E (.ref A.bg) none H'
 | .bare=>∀H',KG g H H'->E (.ref A.bb) none H'
 | .stuck=>False
def A3f (A:Adr) (ok:Ro->Prop):Sp:=λvs H Q E=>∃(g:Mh) (m:Mc) (D:List (Str×Hm)) (r:Ro) (v:V),vs=[.ref g.x,v]/\ok r/\A9f H v r/\MAt A H g m/\Lim m/\C2d H g.hm D/\B5z D r/\B0n A g H Q E (A2d g.wh D m r)
theorem A9o {D:List (Str×Hm)} {n b:Nat} {a:Str} {ix:List Int} (h:A6d D n a ix=some b):b<n:=by
 unfold A6d at h
 cases e:A5c D a ix with
 | none=>rw [e] at h;cases h
 | some z =>
  rw [e] at h;have h:(if 0<=z/\z<(n:Int) then some z.toNat else none)=some b:=h;by_cases c:0<=z/\z<(n:Int)
  ·rw [Z12 c] at h;cases h;omega
  ·rw [Z0t c] at h;cases h
def C0l (A:Adr):Sp:=λvs H Q _=>∃(x dx hm bl:Addr) (wh:Int) (xs:List V),vs=[.ref x,.int wh,.ref hm,.ref bl]/\H x=some (.ins A.ac dx [])/\H bl=some (.lst xs)/\
 ∀(b c s r:Addr) (H':Hp),(∀a o,a≠x->H a=some o->H' a=some o)->H b=none->H s=none->H r=none->b≠s->b≠r->s≠r->H' x=some (.ins A.ac dx [("wheel",.int wh),("homes",.ref hm),("boxes",.ref b),("counts",.ref c),("stack",.ref s),("trace",.ref r)])->
  H' b=some (.lst xs)->H' s=some (.lst [])->H' r=some (.lst [])->Q .non H'
theorem A7i (T:Txt K mg t):FP P w mg base T.bp 1 (C0l t):=by
 refine T.bp.F.ok A6p (by walk_at "ln") λ_ A _ s H _ Q E hr h=> ?_
 ·obtain ⟨x,dx,hm,bl,wh,xs,rfl,hx,hb,k⟩:=h;have f1:∀v:V,A6a "homes" v [("wheel",.int wh)]=([("wheel",.int wh),("homes",v)]:List (Str×V)):=λv=>by rw [A1w (by decide +kernel),A4c]
  have f2:∀u v:V,A6a "boxes" v [("wheel",.int wh),("homes",u)]=([("wheel",.int wh),("homes",u),("boxes",v)]:List (Str×V)):=λu v=>by rw [A1w (by decide +kernel),A1w (by decide +kernel),A4c]
  have f3:∀u1 u v:V,A6a "counts" v [("wheel",.int wh),("homes",u1),("boxes",u)]=([("wheel",.int wh),("homes",u1),("boxes",u),("counts",v)]:List (Str×V)):=λu1 u v=>by rw [A1w (by decide +kernel),A1w (by decide +kernel),A1w (by decide +kernel),A4c]
  have f4:∀u1 u2 u v:V,A6a "stack" v [("wheel",.int wh),("homes",u1),("boxes",u2),("counts",u)]=([("wheel",.int wh),("homes",u1),("boxes",u2),("counts",u),("stack",v)]:List (Str×V)):=λu1 u2 u v=>by rw [A1w (by decide +kernel),A1w (by decide +kernel),A1w (by decide +kernel),A1w (by decide +kernel),A4c]
  have f5:∀u1 u2 u3 u v:V,A6a "trace" v [("wheel",.int wh),("homes",u1),("boxes",u2),("counts",u3),("stack",u)]=([("wheel",.int wh),("homes",u1),("boxes",u2),("counts",u3),("stack",u),("trace",v)]:List (Str×V)):=λu1 u2 u3 u v=>by rw [A1w (by decide +kernel),A1w (by decide +kernel),A1w (by decide +kernel),A1w (by decide +kernel),A1w (by decide +kernel),A4c]
  have nx:bl≠x:=A1g hb hx (by intro z;cases z)
  refine ⟨_,(A0c (A7y (pv 0) (pv 1) rfl)
   (A0c (A7y (pv 0) (pv 2) rfl)
   (A0c (A7y (pv 0) (A2s A2w (by rfl) T.dz Z1o (A0a (pv 3) A0b)) rfl)
   (A0c (A7y (pv 0) B2h rfl)
   (A0c (A7y (pv 0) (A3n A0b) rfl)
   (A0h (A7y (pv 0) (A3n A0b) rfl))))))),_,rfl,_,rfl,x,_,dx,[],rfl,hx,T.aa,T.ay,(by decide),?_⟩
  rw [A4c];refine ⟨_,rfl,_,rfl,x,_,dx,_,rfl,A0d,T.aa,T.bv,(by show 1<1000;decide),?_⟩;rw [B0r,f1];have k1:∀a o,a≠x->H a=some o->upd H x (.ins t.ac dx [("wheel",.int wh),("homes",.ref hm)]) a=some o:=λa o n e=>by rw [A0e n];exact e
  have x1:upd H x (.ins t.ac dx [("wheel",.int wh),("homes",.ref hm)]) x=some (.ins t.ac dx [("wheel",.int wh),("homes",.ref hm)]):=A0d;generalize upd H x (.ins t.ac dx [("wheel",.int wh),("homes",.ref hm)])=G1 at k1 x1⊢
  have fr:∀(G:Hp) (o:HO),(∀a u,a≠x->H a=some u->G a=some u)->G x=some o->∀b,G b=none->H b=none/\b≠x:=λG o kk xx b e=>by
   have n:b≠x:=λz=>by rw [z,xx] at e;cases e
   refine ⟨?_,n⟩
   cases eb:H b with
   | none=>rfl
   | some u=>rw [kk b u n eb] at e;cases e
  refine ⟨_,rfl,bl,xs,rfl,.inl (SqL.of (k1 _ _ nx hb)),λb hbn=> ?_⟩;obtain ⟨b0,bx⟩:=fr G1 _ k1 x1 b hbn;refine ⟨_,rfl,x,_,dx,_,rfl,(by rw [A0e bx.symm];exact x1),T.aa,T.ah,(by show 2<1000;decide),?_⟩;rw [f2];have k2:∀a o,a≠x->H a=some o->upd (upd G1 b (.lst xs)) x (.ins t.ac dx [("wheel",.int wh),("homes",.ref hm),("boxes",.ref b)]) a=some o:=λa o n e=>by rw [A0e n,A0e (A0g e b0)];exact k1 _ _ n e
  have x2:upd (upd G1 b (.lst xs)) x (.ins t.ac dx [("wheel",.int wh),("homes",.ref hm),("boxes",.ref b)]) x=some (.ins t.ac dx [("wheel",.int wh),("homes",.ref hm),("boxes",.ref b)]):=A0d;have e2:upd (upd G1 b (.lst xs)) x (.ins t.ac dx [("wheel",.int wh),("homes",.ref hm),("boxes",.ref b)]) b=some (.lst xs):=by rw [A0e bx];exact A0d
  generalize upd (upd G1 b (.lst xs)) x (.ins t.ac dx [("wheel",.int wh),("homes",.ref hm),("boxes",.ref b)])=G2 at k2 x2 e2⊢;intro c hc;obtain ⟨c0,cx⟩:=fr G2 _ k2 x2 c hc;refine ⟨_,rfl,x,_,dx,_,rfl,(by rw [A0e cx.symm];exact x2),T.aa,T.dq,(by show 3<1000;decide),?_⟩;rw [f3];have k3:∀a o,a≠x->H a=some o->upd (upd G2 c (.dK [])) x (.ins t.ac dx [("wheel",.int wh),("homes",.ref hm),("boxes",.ref b),("counts",.ref c)]) a=some o:=λa o n e=>by rw [A0e n,A0e (A0g e c0)];exact k2 _ _ n e
  have x3:upd (upd G2 c (.dK [])) x (.ins t.ac dx [("wheel",.int wh),("homes",.ref hm),("boxes",.ref b),("counts",.ref c)]) x=some (.ins t.ac dx [("wheel",.int wh),("homes",.ref hm),("boxes",.ref b),("counts",.ref c)]):=A0d;have e3:upd (upd G2 c (.dK [])) x (.ins t.ac dx [("wheel",.int wh),("homes",.ref hm),("boxes",.ref b),("counts",.ref c)]) b=some (.lst xs):=by rw [A0e bx,A0e (A0g e2 hc)];exact e2
  generalize upd (upd G2 c (.dK [])) x (.ins t.ac dx [("wheel",.int wh),("homes",.ref hm),("boxes",.ref b),("counts",.ref c)])=G3 at k3 x3 e3⊢;refine ⟨A0o rfl,λs hs=> ?_⟩;obtain ⟨s0,sx⟩:=fr G3 _ k3 x3 s hs;have sb:b≠s:=A0g e3 hs;refine ⟨_,rfl,x,_,dx,_,rfl,(by rw [A0e sx.symm];exact x3),T.aa,T.ae,(by show 4<1000;decide),?_⟩;rw [f4];have k4:∀a o,a≠x->H a=some o->upd (upd G3 s (.lst [])) x (.ins t.ac dx [("wheel",.int wh),("homes",.ref hm),("boxes",.ref b),("counts",.ref c),("stack",.ref s)]) a=some o:=λa o n e=>by rw [A0e n,A0e (A0g e s0)];exact k3 _ _ n e
  have x4:upd (upd G3 s (.lst [])) x (.ins t.ac dx [("wheel",.int wh),("homes",.ref hm),("boxes",.ref b),("counts",.ref c),("stack",.ref s)]) x=some (.ins t.ac dx [("wheel",.int wh),("homes",.ref hm),("boxes",.ref b),("counts",.ref c),("stack",.ref s)]):=A0d;have e4:upd (upd G3 s (.lst [])) x (.ins t.ac dx [("wheel",.int wh),("homes",.ref hm),("boxes",.ref b),("counts",.ref c),("stack",.ref s)]) b=some (.lst xs):=by rw [A0e bx,A0e sb];exact e3
  have g4:upd (upd G3 s (.lst [])) x (.ins t.ac dx [("wheel",.int wh),("homes",.ref hm),("boxes",.ref b),("counts",.ref c),("stack",.ref s)]) s=some (.lst []):=by rw [A0e sx];exact A0d
  generalize upd (upd G3 s (.lst [])) x (.ins t.ac dx [("wheel",.int wh),("homes",.ref hm),("boxes",.ref b),("counts",.ref c),("stack",.ref s)])=G4 at k4 x4 e4 g4⊢;refine ⟨A0o rfl,λr hr'=> ?_⟩;obtain ⟨r0,rx⟩:=fr G4 _ k4 x4 r hr';have rb:b≠r:=A0g e4 hr';have rs:s≠r:=A0g g4 hr';refine ⟨_,rfl,x,_,dx,_,rfl,(by rw [A0e rx.symm];exact x4),T.aa,T.aq,(by show 5<1000;decide),?_⟩;rw [f5];refine k b c s r _ (λa o n e=>by rw [A0e n,A0e (A0g e r0)];exact k4 _ _ n e) b0 s0 r0 sb rb rs A0d ?_ ?_ ?_
  ·rw [A0e bx,A0e rb];exact e4
  ·rw [A0e sx,A0e rs];exact g4
  ·rw [A0e rx];exact A0d
theorem A2i (T:Txt K mg t):A5j P w K mg base (CXD P w) 3 t.az t.bz B9u (B5s t):=by
 have Ga1:= @A2v P w K mg base t T;refine T.ap.F.okD A3c (by walk_at "ln") λ_ A _ s H _ Q E hr h=> ?_
 ·obtain ⟨g,m,a,q,ix,D,rfl,ma,hm,hs,hsm,nm,lb,hix,kq,ke⟩:=h;obtain ⟨dx,c,hi⟩:=ma.ins
  refine ⟨_,(A0c (A0t (i:=3) A3c.nd rfl (.inl rfl) (A2b (pv 0) T.aa T.bi Ga1 (hr.mono (by omega)) T.ak.b .nil A4z (A0a (pv 1) (A0a (pv 2) A0b))))
   (A0c (A1z (A0m A9v (pv 3) A3t (A0u _))
    (A0h (A6f B2p T.et rfl T.fo rfl (A0a (A8l (A6u (C1a (pv 1) (A6u B2t)))) A0b)))
    A0x)
   (A0c (A1z (A5d (B6v C3s C1d A0f (pv 3) (A0v A0r (by rfl) T.bj Z0r (A0a (A2r (pv 0) rfl) A0b))))
    (A0h (A6f B2p T.et rfl T.fo rfl (A0a (A8l (A6u (B4n (pv 3) B2t))) A0b)))
    A0x)
   (A0h (A0s (pv 3)))))),?_⟩
  refine ⟨_,rfl,g.x,dx,_,rfl,hi,(by walk_at "lk"),_,rfl,_,rfl,g,m,a,q,ix,D,rfl,ma,hm,hs,hix,λH1 s1=> ?_⟩
  cases hh:A5c D a ix with
  | none =>
   have hb:A6d D m.bx.length a ix=none:=by unfold A6d;rw [hh];rfl
   refine ⟨_,rfl,rfl,_,rfl,A3d rfl ?_⟩;have e0:(Str.empty++("a cell of ":Str)).length<=20:=by decide +kernel
   have e9:(" has no home":Str).length<=20:=by decide +kernel
   have ln:=nm.1;refine ⟨A1s (by omega),_,rfl,a,rfl,nm.2,A1s (by omega),λz hz=> ?_⟩;have e1:(Str.empty++("a cell of ":Str)++z).length<=300:=by rw [Str.length_append];omega
   have e2:(Str.empty++("a cell of ":Str)++z++(" has no home":Str)).length<=400:=by rw [Str.length_append];omega
   exact ⟨A1s (by omega),A1s (by omega),A0o rfl,ke hb _ s1⟩
  | some z =>
   have hz:=hsm z hh;refine ⟨_,rfl,rfl,_,rfl,A3u (by intro y;cases y) ?_⟩;obtain ⟨dx1,c1,hi1⟩:=(ma.same s1).ins
   have fin:∀b:Bool,(b=true->0<=z/\z<(m.bx.length:Int))->(b=false->¬(0<=z/\z<(m.bx.length:Int)))->A6d D m.bx.length a ix=if b=true then some z.toNat else none:=λb h1 h2=>by
    unfold A6d;rw [hh];show (if 0<=z/\z<(m.bx.length:Int) then some z.toNat else none)=_
    cases b with
    | true=>rw [Z12 (h1 rfl),Z12 rfl]
    | false=>rw [Z0t (h2 rfl),Z0t Z0v]
   have bad:¬(0<=z/\z<(m.bx.length:Int))->(Str.empty++("the row has no box ":Str)).length<=sizeLine/\∃v,([some (V.ref g.x),some (.str a),some (.ref q),some (.int z)]:St)[3]? =some (some v)/\∃y,C5u v y/\(Str.empty++("the row has no box ":Str)++y).length<=sizeLine/\(Str.empty++("the row has no box ":Str)++y).length<=sizeLine/\[V.str (Str.empty++("the row has no box ":Str)++y)].length<=sizeLine/\E (.ref t.bg) none H1:=λhc=>by
    have e0:(Str.empty++("the row has no box ":Str)).length<=30:=by decide +kernel
    have l1:=B1b hz;have e1:(Str.empty++("the row has no box ":Str)++(toString z:Str)).length<=100:=by rw [Str.length_append];omega
    exact ⟨A1s (by omega),_,rfl,_,.inr ⟨_,rfl,B5h hz,rfl⟩,A1s (by omega),A1s (by omega),A0o rfl,ke (by rw [fin false (λh=>by cases h) (λ_=>hc)];rfl) _ s1⟩
   refine ⟨_,rfl,_,_,rfl,rfl,_,rfl,B3u (λh0=> ?_) (λh0=> ?_)⟩
   ·have h0:0<=z:=h0;refine ⟨_,rfl,g.x,_,dx1,_,.ref g.b,rfl,hi1,T.aa,T.ah,(by walk_at "lk"),g.b,_,rfl,.inl (SqL.of (s1 _ _ ma.bx)),_,_,rfl,rfl,_,rfl,?_⟩;rw [Z08];refine A6r (λh1=>bad λc=>h1 c.2) (λh1=>⟨_,rfl,?_⟩);have:=kq z.toNat (by rw [fin true (λ_=>⟨h0,h1⟩) (λh=>by cases h)];rfl) _ s1;rw [Int.toNat_of_nonneg h0] at this;exact this
   ·have h0:¬0<=z:=h0;refine ⟨_,rfl,?_⟩;show if (!false)=true then _ else _
    exact C3d (bad λc=>h0 c.1)
theorem A2p (T:Txt K mg t):A5j P w K mg base (CXD P w) 1 t.av t.be ["self","box"] (B0i t):=by
 refine T.au.F.okD A2o (by walk_at "ln") λ_ A _ s H _ Q E hr h=> ?_
 ·obtain ⟨g,m,b,o,rfl,ma,lim,hb,lb,kq,ke⟩:=h;obtain ⟨dx,c,hi⟩:=ma.ins
  refine ⟨_,(A0c (A0t (i:=2) A2o.nd rfl (.inl rfl) (A1h A1i (A2r (pv 0) rfl) (pv 1) (λ_ _=>rfl)))
   (A0c (A1z (A0m A9v (pv 2) A3t (A0u _))
    (A0h (A6f B2p T.fw rfl T.fN rfl (A0a (A8l (A6u (B4n (pv 1) (A6u B2t)))) A0b)))
    A0x)
   (A0c (A0z (A4p Z0k Z0n Z0o A0w (A2r (pv 0) rfl) (A0a (A0y (A0a A1a (A0a (pv 1) A0b))) A0b)))
   (A0h (A0s (pv 2)))))),?_⟩
  refine ⟨_,rfl,g.x,_,dx,_,.ref g.b,rfl,hi,T.aa,T.ah,(by walk_at "lk"),_,rfl,g.b,_,_,enO o,rfl,rfl,SqL.of ma.bx,A1f (by rw [Z1z,hb];rfl),?_⟩
  cases o with
  | none =>
   refine ⟨_,rfl,rfl,_,rfl,A3d rfl ?_⟩;have e0:(Str.empty++("nothing was put in the box ":Str)).length<=40:=by decide +kernel
   have e9:(" yet":Str).length<=20:=by decide +kernel
   have sb:Sm (b:Int):=by unfold Sm;omega
   have l1:=B1b sb;have e1:(Str.empty++("nothing was put in the box ":Str)++(toString (b:Int):Str)).length<=100:=by rw [Str.length_append];omega
   have e2:(Str.empty++("nothing was put in the box ":Str)++(toString (b:Int):Str)++(" yet":Str)).length<=200:=by rw [Str.length_append];omega
   exact ⟨A1s (by omega),_,rfl,_,.inr ⟨_,rfl,B5h sb,rfl⟩,A1s (by omega),A1s (by omega),A1s (by omega),A0o rfl,ke rfl⟩
  | some v =>
   refine ⟨_,rfl,rfl,_,rfl,A3u (by intro y;cases y) ?_⟩;obtain ⟨vs,ht,pr⟩:=ma.tr;refine ⟨_,rfl,g.x,_,dx,_,.ref g.r,rfl,hi,T.aa,T.aq,(by walk_at "lk"),.inl ⟨rfl,_,SqL.of ht⟩,?_⟩;refine ⟨_,rfl,A0o rfl,λp hp=> ?_⟩;have s1:A1p H (upd H p (.tup [.str "read",.int b])):=A0q hp;have m1:=ma.same s1;have hp1:upd H p (.tup [.str "read",.int b]) p=some (.tup [.str "read",.int b]):=A0d;generalize upd H p (.tup [.str "read",.int b])=H1 at s1 m1 hp1⊢;have ht1:=s1 _ _ ht;refine ⟨g.r,_,_,rfl,rfl,ht1,A8d (by rw [m1.len ht1];have:=lim.2.1;omega),_,rfl,?_⟩;exact kq v rfl _ ((KG.of s1).trans KG.r) (m1.addT ht1 hp1)
theorem A3e (T:Txt K mg t):FP P w mg base T.ao 1 (B6c t):=by
 refine T.ao.F.ok A5q (by walk_at "ln") λ_ A _ s H _ Q E hr h=> ?_
 ·obtain ⟨g,m,b,n,rfl,ma,lim,hb,k⟩:=h;obtain ⟨dx,c,hi⟩:=ma.ins
  refine ⟨_,(A0c (A3h (A0p A1t (pv 2) (A2r (pv 0) rfl)) (B4d (A2r (pv 0) rfl) (pv 1) A8q))
   (A0h (A0z (A4p Z0k Z0n Z0o A0w (A2r (pv 0) rfl) (A0a (A0y (A0a A1a (A0a (pv 1) A0b))) A0b))))),?_⟩
  refine ⟨_,rfl,_,rfl,g.x,_,dx,_,.int g.wh,rfl,hi,T.aa,T.ay,(by walk_at "lk"),_,_,rfl,rfl,ma.wp.1,_,rfl,g.x,_,dx,_,.ref g.b,rfl,hi,T.aa,T.ah,(by walk_at "lk"),_,rfl,g.b,_,_,b,rfl,rfl,ma.bx,?_,?_⟩
  ·rw [Z08];unfold ixN;rw [Z12 (by omega)];simp [hb]
  have eq:(m.bx.map enO).set b (.int (n%g.wh))=(m.bx.set b (some (n%g.wh))).map enO:=by rw [List.map_set];rfl
  rw [eq];have m1:=ma.setB (bx':=m.bx.set b (some (n%g.wh)));have k1:KG g H (upd H g.b (.lst ((m.bx.set b (some (n%g.wh))).map enO))):=KG.b;generalize upd H g.b (.lst ((m.bx.set b (some (n%g.wh))).map enO))=H1 at m1 k1⊢;obtain ⟨dx1,c1,hi1⟩:=m1.ins;obtain ⟨vs,ht,pr⟩:=m1.tr;refine ⟨_,rfl,g.x,_,dx1,_,.ref g.r,rfl,hi1,T.aa,T.aq,(by walk_at "lk"),.inl ⟨rfl,_,SqL.of ht⟩,?_⟩;refine ⟨_,rfl,A0o rfl,λp hp=> ?_⟩;have s1:A1p H1 (upd H1 p (.tup [.str "write",.int b])):=A0q hp;have m2:=m1.same s1;have hp1:upd H1 p (.tup [.str "write",.int b]) p=some (.tup [.str "write",.int b]):=A0d;generalize upd H1 p (.tup [.str "write",.int b])=H2 at s1 m2 hp1⊢;have ht1:=s1 _ _ ht;refine ⟨g.r,_,_,rfl,rfl,ht1,A8d (by rw [m2.len ht1];show m.tr.length<=_;omega),?_⟩;exact k _ (k1.trans ((KG.of s1).trans KG.r)) (m2.addT ht1 hp1)
theorem B3f (T:Txt K mg t):FO P w base T.cw 2 (A3f t λr=>∃n,r= .push n):=by
 have Ga2:= @A1u P w K mg base t T;refine T.cw.F.ok A5v (by walk_at "ln") λ_ A _ s H _ Q E hr h=> ?_
 ·obtain ⟨g,m,D,r,v,rfl,⟨n,rfl⟩,⟨p,vs,rfl,hp,rv⟩,ma,lim,hm,ok,k⟩:=h;cases (show vs=_ from rv);obtain ⟨dx,c,hi⟩:=ma.ins
  refine ⟨_,(A0c (A3h (pv 1) (A3p (n:=2) rfl (A0k (A0l (i:=2) A5v.nd rfl (.inl rfl)) (A0k (A0l (i:=3) A5v.nd rfl (.inl rfl)) A2l))))
   (A0h (A0z (A2b (pv 0) T.aa T.am Ga2 (hr.mono (by omega)) T.ag.b .nil A4z (A0a (pv 3) A0b))))),?_⟩
  exact ⟨_,rfl,p,_,rfl,SqT.of hp,rfl,_,_,rfl,_,_,rfl,rfl,_,rfl,g.x,dx,_,rfl,hi,(by walk_at "lk"),_,rfl,g,m,n,rfl,ma,lim.1,k⟩
theorem B2x (T:Txt K mg t):FO P w base T.cr 1 (A3f t λr=>∃n,r= .jump n):=by
 refine T.cr.F.ok A5l (by walk_at "ln") λ_ A _ s H _ Q E hr h=> ?_
 ·obtain ⟨g,m,D,r,v,rfl,⟨n,rfl⟩,⟨p,vs,rfl,hp,rv⟩,ma,lim,hm,ok,k⟩:=h;cases (show vs=_ from rv)
  refine ⟨_,(A0c (A3h (pv 1) (A3p (n:=2) rfl (A0k (A0l (i:=2) A5l.nd rfl (.inl rfl)) (A0k (A0l (i:=3) A5l.nd rfl (.inl rfl)) A2l))))
   (A0h (A0s (pv 3)))),?_⟩
  exact ⟨_,rfl,p,_,rfl,SqT.of hp,rfl,_,_,rfl,_,_,rfl,rfl,_,rfl,k H KG.refl ma⟩
theorem B3n (T:Txt K mg t):FO P w base T.cu 2 (A3f t λr=>r= .plus):=by
 have Ga2:= @A1u P w K mg base t T;have Ga3:= @A1r P w K mg base t T;refine T.cu.F.ok A5o (by walk_at "ln") λ_ A _ s H _ Q E hr h=> ?_
 ·obtain ⟨g,⟨bx,st,tr⟩,D,r,v,rfl,rfl,⟨p,vs,rfl,hp,rv⟩,ma,lim,hm,ok,k⟩:=h;obtain ⟨dx,c,hi⟩:=ma.ins
  obtain ⟨r,l,st',rfl⟩:∃r l s,st=r::l::s:=by
   cases st with
   | nil=>exact k.elim
   | cons r s=>cases s with
    | nil=>exact k.elim
    | cons l s=>exact ⟨r,l,s,rfl⟩
  refine ⟨_,(A0c (A3h (A8r (pv 0) T.aa T.al Ga3 (hr.mono (by omega)) T.ad.b .nil A4z) (A3p (n:=2) rfl (A0k (A0l (i:=2) A5o.nd rfl (.inl rfl)) (A0k (A0l (i:=3) A5o.nd rfl (.inl rfl)) A2l))))
   (A0h (A0z (A2b (pv 0) T.aa T.am Ga2 (hr.mono (by omega)) T.ag.b .nil A4z (A0a (A0p A2g (pv 2) (pv 3)) A0b))))),?_⟩
  refine ⟨_,rfl,g.x,dx,_,rfl,hi,(by walk_at "lk"),g,_,l,r,st',rfl,ma,rfl,λp1 H1 k1 m1 hp1=> ?_⟩;obtain ⟨dx1,c1,hi1⟩:=m1.ins;exact ⟨p1,_,rfl,SqT.of hp1,rfl,_,_,rfl,_,_,rfl,rfl,_,rfl,g.x,dx1,_,rfl,hi1,(by walk_at "lk"),_,rfl,_,rfl,_,_,rfl,rfl,g,_,_,rfl,m1,(by have:=lim.1;simp only [Z0y] at this;show st'.length<=_;omega),λH2 k2 m2=>k H2 (k1.trans k2) m2⟩
theorem B0v (T:Txt K mg t):FO P w base T.c8 2 (A3f t λr=>r= .minus):=by
 have Ga2:= @A1u P w K mg base t T;have Ga3:= @A1r P w K mg base t T;refine T.c8.F.ok A4t (by walk_at "ln") λ_ A _ s H _ Q E hr h=> ?_
 ·obtain ⟨g,⟨bx,st,tr⟩,D,r,v,rfl,rfl,⟨p,vs,rfl,hp,rv⟩,ma,lim,hm,ok,k⟩:=h;obtain ⟨dx,c,hi⟩:=ma.ins
  obtain ⟨r,l,st',rfl⟩:∃r l s,st=r::l::s:=by
   cases st with
   | nil=>exact k.elim
   | cons r s=>cases s with
    | nil=>exact k.elim
    | cons l s=>exact ⟨r,l,s,rfl⟩
  refine ⟨_,(A0c (A3h (A8r (pv 0) T.aa T.al Ga3 (hr.mono (by omega)) T.ad.b .nil A4z) (A3p (n:=2) rfl (A0k (A0l (i:=2) A4t.nd rfl (.inl rfl)) (A0k (A0l (i:=3) A4t.nd rfl (.inl rfl)) A2l))))
   (A0h (A0z (A2b (pv 0) T.aa T.am Ga2 (hr.mono (by omega)) T.ag.b .nil A4z (A0a (A0p A4g (pv 2) (pv 3)) A0b))))),?_⟩
  refine ⟨_,rfl,g.x,dx,_,rfl,hi,(by walk_at "lk"),g,_,l,r,st',rfl,ma,rfl,λp1 H1 k1 m1 hp1=> ?_⟩;obtain ⟨dx1,c1,hi1⟩:=m1.ins;exact ⟨p1,_,rfl,SqT.of hp1,rfl,_,_,rfl,_,_,rfl,rfl,_,rfl,g.x,dx1,_,rfl,hi1,(by walk_at "lk"),_,rfl,_,rfl,_,_,rfl,rfl,g,_,_,rfl,m1,(by have:=lim.1;simp only [Z0y] at this;show st'.length<=_;omega),λH2 k2 m2=>k H2 (k1.trans k2) m2⟩
theorem B2s {z:Int} (h:Sm z):z.natAbs<2^4000:=Z2d h (Z0q (show 10^32<2^110 by decide) (Nat.pow_le_pow_right (by decide) (by decide)))
theorem B1h (T:Txt K mg t):FO P w base T.cc 2 (A3f t λr=>r= .times):=by
 have Ga2:= @A1u P w K mg base t T;have Ga3:= @A1r P w K mg base t T;refine T.cc.F.ok A4o (by walk_at "ln") λ_ A _ s H _ Q E hr h=> ?_
 ·obtain ⟨g,⟨bx,st,tr⟩,D,r,v,rfl,rfl,⟨p,vs,rfl,hp,rv⟩,ma,lim,hm,ok,k⟩:=h;obtain ⟨dx,c,hi⟩:=ma.ins
  obtain ⟨r,l,st',rfl⟩:∃r l s,st=r::l::s:=by
   cases st with
   | nil=>exact k.elim
   | cons r s=>cases s with
    | nil=>exact k.elim
    | cons l s=>exact ⟨r,l,s,rfl⟩
  have b1:Sm r:=ma.sm r Z27;have b2:Sm l:=ma.sm l (Z1f _ Z27)
  refine ⟨_,(A0c (A3h (A8r (pv 0) T.aa T.al Ga3 (hr.mono (by omega)) T.ad.b .nil A4z) (A3p (n:=2) rfl (A0k (A0l (i:=2) A4o.nd rfl (.inl rfl)) (A0k (A0l (i:=3) A4o.nd rfl (.inl rfl)) A2l))))
   (A0h (A0z (A2b (pv 0) T.aa T.am Ga2 (hr.mono (by omega)) T.ag.b .nil A4z (A0a (A0p B4s (pv 2) (pv 3)) A0b))))),?_⟩
  refine ⟨_,rfl,g.x,dx,_,rfl,hi,(by walk_at "lk"),g,_,l,r,st',rfl,ma,rfl,λp1 H1 k1 m1 hp1=> ?_⟩;obtain ⟨dx1,c1,hi1⟩:=m1.ins;exact ⟨p1,_,rfl,SqT.of hp1,rfl,_,_,rfl,_,_,rfl,rfl,_,rfl,g.x,dx1,_,rfl,hi1,(by walk_at "lk"),_,rfl,_,rfl,_,_,rfl,rfl,⟨B2s b2,B2s b1⟩,g,_,_,rfl,m1,(by have:=lim.1;simp only [Z0y] at this;show st'.length<=_;omega),λH2 k2 m2=>k H2 (k1.trans k2) m2⟩
theorem B2w (T:Txt K mg t):FO P w base T.cp 3 (A3f t λr=>∃a ix n,r= .skip a ix n):=by
 have Ga1:= @A2v P w K mg base t T;refine T.cp.F.ok A3b (by walk_at "ln") λ_ A _ s H _ Q E hr h=> ?_
 ·obtain ⟨g,m,D,r,v,rfl,⟨a,ix,n,rfl⟩,⟨p,vs,rfl,hp,q,rv,hix⟩,ma,lim,hm,ok,k⟩:=h;cases (show vs=_ from rv);obtain ⟨dx,c,hi⟩:=ma.ins
  refine ⟨_,(A0c (A3h (pv 1) (A3p (n:=4) rfl (A0k (A0l (i:=2) A3b.nd rfl (.inl rfl)) (A0k (A0l (i:=3) A3b.nd rfl (.inl rfl)) (A0k (A0l (i:=4) A3b.nd rfl (.inl rfl)) (A0k (A0l (i:=5) A3b.nd rfl (.inl rfl)) A2l))))))
   (A0c (A1z (A0m A9v (A2b (pv 0) T.aa T.bi Ga1 (hr.mono (by omega)) T.ak.b .nil A4z (A0a (pv 3) (A0a (pv 4) A0b))) A3t (A0u _))
    (A0h (A0s (pv 5)))
    A0x)
   (A0h (A0s A3t)))),?_⟩
  refine ⟨_,rfl,p,_,rfl,SqT.of hp,rfl,_,_,rfl,_,_,rfl,_,_,rfl,_,_,rfl,rfl,_,rfl,g.x,dx,_,rfl,hi,(by walk_at "lk"),_,rfl,_,rfl,g,m,a,q,ix,D,rfl,ma,hm,ok.1,hix,λH1 s1=> ?_⟩;simp only [A2d] at k
  cases hh:A5c D a ix with
  | none =>
   rw [hh] at k;exact ⟨rfl,_,rfl,A3d rfl ⟨_,rfl,k H1 (KG.of s1) (ma.same s1)⟩⟩
  | some z =>
   rw [hh] at k;exact ⟨rfl,_,rfl,A3u (by intro y;cases y) (k H1 (KG.of s1) (ma.same s1))⟩
theorem B3s (T:Txt K mg t):A5j P w K mg base (CXD P w) 4 t.b_ t.fq A3a (A3f t λr=>∃a ix,r= .load a ix):=by
 have Ga2:= @A1u P w K mg base t T;have Ga4:= @A2i P w K mg base t T;have Ga5:= @A2p P w K mg base t T;refine T.dy.F.okD A4e (by walk_at "ln") λ_ A _ s H _ Q E hr h=> ?_
 ·obtain ⟨g,m,D,r,v,rfl,⟨a,ix,rfl⟩,⟨p,vs,rfl,hp,q,rv,hix⟩,ma,lim,hm,ok,k⟩:=h;cases (show vs=_ from rv);obtain ⟨dx,c,hi⟩:=ma.ins;simp only [A2d] at k
  refine ⟨_,(A0c (A3h (pv 1) (A3p (n:=3) rfl (A0k (A0l (i:=2) A4e.nd rfl (.inl rfl)) (A0k (A0l (i:=3) A4e.nd rfl (.inl rfl)) (A0k (A0l (i:=4) A4e.nd rfl (.inl rfl)) A2l)))))
   (A0h (A0z (A2b (pv 0) T.aa T.am Ga2 (hr.mono (by omega)) T.ag.b .nil A4z (A0a (A2b (pv 0) T.aa T.a_ Ga5 (hr.mono (by omega)) T.au.b .nil B3m (A0a (A2b (pv 0) T.aa T.ax Ga4 (hr.mono (by omega)) T.ap.b .nil B3m (A0a (pv 3) (A0a (pv 4) A0b))) A0b)) A0b))))),?_⟩
  refine ⟨_,rfl,p,_,rfl,SqT.of hp,rfl,_,_,rfl,_,_,rfl,_,_,rfl,rfl,_,rfl,g.x,dx,_,rfl,hi,(by walk_at "lk"),_,rfl,g.x,dx,_,rfl,hi,(by walk_at "lk"),_,rfl,g.x,dx,_,rfl,hi,(by walk_at "lk"),_,rfl,_,rfl,g,m,a,q,ix,D,rfl,ma,hm,ok.1,ok.2.2,ok.2.1,lim.2.2,hix,λb hb H1 s1=> ?_,λhb H1 s1=> ?_⟩
  ·have lb:=A9o hb;have l2:=lim.2.2;simp only [hb] at k;refine ⟨g,m,b,m.bx[b],rfl,ma.same s1,lim,Z0b lb,by omega,λv e H2 k2 m2=> ?_,λe=> ?_⟩
   ·rw [Z0b lb,e] at k;exact ⟨g,_,v,rfl,m2,lim.1,λH3 k3 m3=>k H3 ((KG.of s1).trans (k2.trans k3)) m3⟩
   ·rw [Z0b lb,e] at k;exact k H1 (KG.of s1)
  ·simp only [hb] at k;exact k H1 (KG.of s1)
open PyProof.Rows.KTD (datumAt)
theorem dt0 {k:Str} {d:V} {D:List (Str×V)}:datumAt k ((k,d)::D)=some d:=by unfold datumAt;rw [Z12 (Z20 rfl)]
theorem dt1 {k x:Str} {d:V} {D:List (Str×V)} {o:Option V} (h:decide (k=x)=false) (e:datumAt k D=o):datumAt k ((x,d)::D)=o:=by unfold datumAt;rw [Z0t (by rw [h];exact Z0v)];exact e
local macro_rules | `(tactic| walk_at "dt") => `(tactic| first | with_reducible exact dt0 | (refine dt1 (by decide +kernel) ?_; walk_at "dt"))
inductive Rs where
 | good (m:Mc) | noend | out | bare | stuck
def A8e (wh:Int) (D:List (Str×Hm)) (tp:List Ro):Nat->Nat->Mc->Rs
 | 0,pl,m=>if pl=tp.length then .good m else .noend
 | n+1,pl,m=>if pl=tp.length then .good m else
  match tp[pl]? with
  | none=> .stuck
  | some r=>match A2d wh D m r with
   | .nx m' to=>A8e wh D tp n (to.getD (pl+1)) m'
   | .out=> .out
   | .bare=> .bare
   | .stuck=> .stuck
def B2a (A:Adr) (H:Hp) (Q:VK) (E:XK):Rs->Prop
 | .good m=>∀(p b r:Addr) (vs:List V) (H':Hp),A1p H H'->H b=none->H r=none->b≠r->H' p=some (.tup [.ref b,.ref r])->H' b=some (.lst (m.bx.map enO))->H' r=some (.lst vs)->Paired (TrP H') vs m.tr->Q (.ref p) H'
 | .noend=>∀H',A1p H H'->E (.ref A.fu) none H'
 | .out=>∀H',A1p H H'->E (.ref A.bg) none H'
 | .bare=>∀H',A1p H H'->E (.ref A.bb) none H'
 | .stuck=>False
def C3x (A:Adr):Sp:=λvs H Q E=>∃(tp hm bl:Addr) (wh:Int) (most:Nat) (xs:List V) (rows:List Ro) (bx:List (Option Int)) (D:List (Str×Hm)),vs=[.ref tp,.int wh,.ref hm,.ref bl,.int most]/\H tp=some (.lst xs)/\Paired (A9f H) xs rows/\(∀r∈rows,B5z D r)/\C2d H hm D/\H bl=some (.lst (bx.map enO))/\
 (0<wh/\wh<=10^30)/\most<=1000000/\bx.length<=1000000/\B2a A H Q E (A8e wh D rows most 0 ⟨bx,[],[]⟩)
def C1t (A:Adr) (f:Addr) (sp:Sp):Prop:=(f=A.c_/\sp=A3f A λr=>∃n,r= .push n)\/(f=A.cy/\sp=A3f A λr=>r= .plus)\/(f=A.c7/\sp=A3f A λr=>r= .minus)\/(f=A.c9/\sp=A3f A λr=>r= .times)\/
 (f=A.b_/\sp=A3f A λr=>∃a ix,r= .load a ix)\/(f=A.bh/\sp=A3f A λr=>∃a ix,r= .store a ix)\/(f=A.bc/\sp=A3f A λr=>∃a ix,r= .gather a ix)\/(f=A.cq/\sp=A3f A λr=>∃a ix n,r= .skip a ix n)\/(f=A.cz/\sp=A3f A λr=>∃n,r= .jump n)
theorem B0n.mono {A:Adr} {g:Mh} {H:Hp} {Q Q':VK} {E:XK} {o:Ou} (h:B0n A g H Q E o) (f:∀v H',Q v H'->Q' v H'):B0n A g H Q' E o:=by
 cases o with
 | nx m to=>exact λH' k a=>f _ _ (h H' k a)
 | out=>exact h
 | bare=>exact h
 | stuck=>exact h
def doT (A:Adr):List (Str×V):=[("push",V.ref A.c_),("count",V.ref A.di),("plus",V.ref A.cy),("minus",V.ref A.c7),("times",V.ref A.c9),("load",V.ref A.b_),("store",V.ref A.bh),("gather",V.ref A.bc),("skip",V.ref A.cq),("jump",V.ref A.cz),("zero",V.ref A.dw),("begin",V.ref A.dn),("step",V.ref A.ef),("unless",V.ref A.cf),("within",V.ref A.cn)]
theorem C2u (A:Adr) {H:Hp} {v:V} {r:Ro} (h:A9f H v r):∃(f:Addr) (x0:Str) (p:Addr) (vs:List V) (ok:Ro->Prop),v= .ref p/\H p=some (.tup (.str x0::vs))/\C1t A f (A3f A ok)/\ok r/\datumAt x0 (doT A)=some (.ref f):=by
 obtain ⟨p,vs,rfl,hp,rv⟩:=h
 cases r with
 | push n=>cases (show vs=_ from rv);exact ⟨_,_,p,_,_,rfl,hp,.inl ⟨rfl,rfl⟩,⟨_,rfl⟩,by unfold doT;walk_at "dt"⟩
 | plus=>cases (show vs=_ from rv);exact ⟨_,_,p,_,_,rfl,hp,.inr (.inl ⟨rfl,rfl⟩),rfl,by unfold doT;walk_at "dt"⟩
 | minus=>cases (show vs=_ from rv);exact ⟨_,_,p,_,_,rfl,hp,.inr (.inr (.inl ⟨rfl,rfl⟩)),rfl,by unfold doT;walk_at "dt"⟩
 | times=>cases (show vs=_ from rv);exact ⟨_,_,p,_,_,rfl,hp,.inr (.inr (.inr (.inl ⟨rfl,rfl⟩))),rfl,by unfold doT;walk_at "dt"⟩
 | load a ix=>obtain ⟨q,rv,_⟩:=rv;cases (show vs=_ from rv);exact ⟨_,_,p,_,_,rfl,hp,.inr (.inr (.inr (.inr (.inl ⟨rfl,rfl⟩)))),⟨_,_,rfl⟩,by unfold doT;walk_at "dt"⟩
 | store a ix=>obtain ⟨q,rv,_⟩:=rv;cases (show vs=_ from rv);exact ⟨_,_,p,_,_,rfl,hp,.inr (.inr (.inr (.inr (.inr (.inl ⟨rfl,rfl⟩))))),⟨_,_,rfl⟩,by unfold doT;walk_at "dt"⟩
 | gather a ix=>obtain ⟨q,rv,_⟩:=rv;cases (show vs=_ from rv);exact ⟨_,_,p,_,_,rfl,hp,.inr (.inr (.inr (.inr (.inr (.inr (.inl ⟨rfl,rfl⟩)))))),⟨_,_,rfl⟩,by unfold doT;walk_at "dt"⟩
 | skip a ix n=>obtain ⟨q,rv,_⟩:=rv;cases (show vs=_ from rv);exact ⟨_,_,p,_,_,rfl,hp,.inr (.inr (.inr (.inr (.inr (.inr (.inr (.inl ⟨rfl,rfl⟩))))))),⟨_,_,_,rfl⟩,by unfold doT;walk_at "dt"⟩
 | jump n=>cases (show vs=_ from rv);exact ⟨_,_,p,_,_,rfl,hp,.inr (.inr (.inr (.inr (.inr (.inr (.inr (.inr ⟨rfl,rfl⟩))))))),⟨_,rfl⟩,by unfold doT;walk_at "dt"⟩
theorem KG.same0 {g:Mh} {H0 H H':Hp} (s:A1p H0 H) (k:KG g H H') (hb:H0 g.b=none) (hs:H0 g.s=none) (hr:H0 g.r=none):A1p H0 H':=λb o e=>k b o (A0g e hb) (A0g e hs) (A0g e hr) (s _ _ e)
theorem B1s {wh:Int} {D:List (Str×Hm)} {m m':Mc} {r:Ro} {to:Option Nat} (h:A2d wh D m r= .nx m' to):m'.st.length<=m.st.length+1/\m'.tr.length<=m.tr.length+2/\m'.bx.length=m.bx.length:=by
 obtain ⟨bx,st,tr⟩:=m
 cases r with
 | push n=>cases h;exact ⟨by simp,by simp,rfl⟩
 | jump n=>cases h;exact ⟨by simp,by simp,rfl⟩
 | plus=>cases st with
  | nil=>cases h
  | cons a s=>cases s with
   | nil=>cases h
   | cons b s=>cases h;exact ⟨by simp,by simp,rfl⟩
 | minus=>cases st with
  | nil=>cases h
  | cons a s=>cases s with
   | nil=>cases h
   | cons b s=>cases h;exact ⟨by simp,by simp,rfl⟩
 | times=>cases st with
  | nil=>cases h
  | cons a s=>cases s with
   | nil=>cases h
   | cons b s=>cases h;exact ⟨by simp,by simp,rfl⟩
 | skip a ix n =>
  simp only [A2d] at h
  cases hh:A5c D a ix with
  | none=>rw [hh] at h;cases h;exact ⟨by simp,by simp,rfl⟩
  | some z=>rw [hh] at h;cases h;exact ⟨by simp,by simp,rfl⟩
 | load a ix =>
  simp only [A2d] at h
  cases hb:A6d D bx.length a ix with
  | none=>simp only [hb] at h;cases h
  | some b =>
   simp only [hb] at h
   cases hv:bx[b]? with
   | none=>simp only [hv] at h;cases h
   | some o=>cases o with
    | none=>simp only [hv] at h;cases h
    | some v=>simp only [hv] at h;cases h;exact ⟨by simp,by simp,rfl⟩
 | store a ix =>
  simp only [A2d] at h
  cases hb:A6d D bx.length a ix with
  | none=>simp only [hb] at h;cases h
  | some b =>
   simp only [hb] at h
   cases st with
   | nil=>cases h
   | cons x s=>cases h;exact ⟨by simp;omega,by simp,by simp⟩
 | gather a ix =>
  simp only [A2d] at h
  cases hb:A6d D bx.length a ix with
  | none=>simp only [hb] at h;cases h
  | some b =>
   simp only [hb] at h
   cases hv:bx[b]? with
   | none=>simp only [hv] at h;cases h
   | some o=>cases o with
    | none=>simp only [hv] at h;cases h
    | some v =>
     simp only [hv] at h
     cases st with
     | nil=>cases h
     | cons x s=>cases h;exact ⟨by simp;omega,by simp,by simp⟩
theorem B0t (T:Txt K mg t):A5j P w K mg base (CXD P w) 4 t.bh t.fg A3a (A3f t λr=>∃a ix,r= .store a ix):=by
 have Ga6:= @A3e P w K mg base t T;have Ga4:= @A2i P w K mg base t T;refine T.dh.F.okD A2u (by walk_at "ln") λ_ A _ s H _ Q E hr h=> ?_
 ·obtain ⟨g,⟨bx,st,tr⟩,D,r,v,rfl,⟨a,ix,rfl⟩,⟨p,vs,rfl,hp,q,rv,hix⟩,ma,lim,hm,ok,k⟩:=h;cases (show vs=_ from rv);obtain ⟨dx,c,hi⟩:=ma.ins;simp only [A2d] at k
  refine ⟨_,(A0c (A3h (pv 1) (A3p (n:=3) rfl (A0k (A0l (i:=2) A2u.nd rfl (.inl rfl)) (A0k (A0l (i:=3) A2u.nd rfl (.inl rfl)) (A0k (A0l (i:=4) A2u.nd rfl (.inl rfl)) A2l)))))
   (A0c (A0t (i:=5) A2u.nd rfl (.inl rfl) (A2b (pv 0) T.aa T.ax Ga4 (hr.mono (by omega)) T.ap.b .nil B3m (A0a (pv 3) (A0a (pv 4) A0b))))
   (A0h (A0z (A2b (pv 0) T.aa T.bu Ga6 (hr.mono (by omega)) T.ao.b .nil A4z (A0a (pv 5) (A0a (A5f Z0k PySem.F.slot_list_pop PySem.F.type_list_pop A5x (A2r (pv 0) rfl)) A0b))))))),?_⟩
  refine ⟨_,rfl,p,_,rfl,SqT.of hp,rfl,_,_,rfl,_,_,rfl,_,_,rfl,rfl,_,rfl,g.x,dx,_,rfl,hi,(by walk_at "lk"),_,rfl,_,rfl,g,_,a,q,ix,D,rfl,ma,hm,ok.1,ok.2.2,ok.2.1,lim.2.2,hix,λb hb H1 s1=> ?_,λhb H1 s1=> ?_⟩
  ·have lb:=A9o hb;simp only [hb] at k
   cases st with
   | nil=>exact k.elim
   | cons x st' =>
    have m1:=ma.same s1;obtain ⟨dx1,c1,hi1⟩:=m1.ins;refine ⟨_,rfl,g.x,dx1,_,rfl,hi1,(by walk_at "lk"),_,rfl,_,rfl,g.x,_,dx1,_,.ref g.s,rfl,hi1,T.aa,T.ae,(by walk_at "lk"),.inl ⟨rfl,_,SqL.of m1.st⟩,g.s,_,_,rfl,rfl,m1.st,B8q,?_⟩;rw [B0k];have m2:=m1.setS (st':=st') λy hy=>ma.sm y (Z1f _ hy);have k2:KG g H1 (upd H1 g.s (.lst (st'.reverse.map V.int))):=KG.s;generalize upd H1 g.s (.lst (st'.reverse.map V.int))=H2 at m2 k2⊢;exact ⟨g,_,b,x,rfl,m2,Nat.le_succ_of_le lim.2.1,lb,λH3 k3 m3=>k H3 ((KG.of s1).trans (k2.trans k3)) m3⟩
  ·simp only [hb] at k;exact k H1 (KG.of s1)
theorem B0m (T:Txt K mg t):A5j P w K mg base (CXD P w) 4 t.bc t.eg A3a (A3f t λr=>∃a ix,r= .gather a ix):=by
 have Ga6:= @A3e P w K mg base t T;have Ga4:= @A2i P w K mg base t T;have Ga5:= @A2p P w K mg base t T;refine T.cm.F.okD A2c (by walk_at "ln") λ_ A _ s H _ Q E hr h=> ?_
 ·obtain ⟨g,⟨bx,st,tr⟩,D,r,v,rfl,⟨a,ix,rfl⟩,⟨p,vs,rfl,hp,q,rv,hix⟩,ma,lim,hm,ok,k⟩:=h;cases (show vs=_ from rv);obtain ⟨dx,c,hi⟩:=ma.ins;simp only [A2d] at k
  refine ⟨_,(A0c (A3h (pv 1) (A3p (n:=3) rfl (A0k (A0l (i:=2) A2c.nd rfl (.inl rfl)) (A0k (A0l (i:=3) A2c.nd rfl (.inl rfl)) (A0k (A0l (i:=4) A2c.nd rfl (.inl rfl)) A2l)))))
   (A0c (A0t (i:=5) A2c.nd rfl (.inl rfl) (A2b (pv 0) T.aa T.ax Ga4 (hr.mono (by omega)) T.ap.b .nil B3m (A0a (pv 3) (A0a (pv 4) A0b))))
   (A0c (A0t (i:=6) A2c.nd rfl (.inl rfl) (A2b (pv 0) T.aa T.a_ Ga5 (hr.mono (by omega)) T.au.b .nil B3m (A0a (pv 5) A0b)))
   (A0h (A0z (A2b (pv 0) T.aa T.bu Ga6 (hr.mono (by omega)) T.ao.b .nil A4z (A0a (pv 5) (A0a (A0p A2g (pv 6) (A5f Z0k PySem.F.slot_list_pop PySem.F.type_list_pop A5x (A2r (pv 0) rfl))) A0b)))))))),?_⟩
  refine ⟨_,rfl,p,_,rfl,SqT.of hp,rfl,_,_,rfl,_,_,rfl,_,_,rfl,rfl,_,rfl,g.x,dx,_,rfl,hi,(by walk_at "lk"),_,rfl,_,rfl,g,_,a,q,ix,D,rfl,ma,hm,ok.1,ok.2.2,ok.2.1,lim.2.2,hix,λb hb H1 s1=> ?_,λhb H1 s1=> ?_⟩
  ·have lb:=A9o hb;have l2:=lim.2.2;simp only [hb] at k;have lb':b<bx.length:=lb;have m1:=ma.same s1;obtain ⟨dx1,c1,hi1⟩:=m1.ins;refine ⟨_,rfl,g.x,dx1,_,rfl,hi1,(by walk_at "lk"),_,rfl,g,_,b,bx[b],rfl,m1,lim,Z0b lb,Nat.le_of_lt (Z0q lb l2),λv e H2 k2 m2=> ?_,λe=> ?_⟩
   ·rw [Z0b lb',e] at k
    cases st with
    | nil=>exact k.elim
    | cons x st' =>
     obtain ⟨dx2,c2,hi2⟩:=m2.ins;refine ⟨_,rfl,g.x,dx2,_,rfl,hi2,(by walk_at "lk"),_,rfl,_,rfl,_,rfl,g.x,_,dx2,_,.ref g.s,rfl,hi2,T.aa,T.ae,(by walk_at "lk"),.inl ⟨rfl,_,SqL.of m2.st⟩,g.s,_,_,rfl,rfl,m2.st,B8q,_,_,rfl,rfl,?_⟩;rw [B0k];have m3:=m2.setS (st':=st') λy hy=>ma.sm y (Z1f _ hy);have k3:KG g H2 (upd H2 g.s (.lst (st'.reverse.map V.int))):=KG.s;generalize upd H2 g.s (.lst (st'.reverse.map V.int))=H3 at m3 k3⊢;exact ⟨g,_,b,v+x,rfl,m3,(by have:=lim.2.1;show (tr++_).length<=_;rw [Z06];exact Nat.succ_le_succ this),lb,λH4 k4 m4=>k H4 ((KG.of s1).trans (k2.trans (k3.trans k4))) m4⟩
   ·rw [Z0b lb',e] at k;exact k H1 (KG.of s1)
  ·simp only [hb] at k;exact k H1 (KG.of s1)
theorem C1n (T:Txt K mg t) {A':Around} (hr:A4i 5 A'):∀f sp,C1t t f sp->∃fd ps k,A5j P w K mg base (CXD P w) k f fd ps sp/\A4i k A'/\keepIn K (.ref f)=true/\A4q K fd ps []:=by
 rintro f sp (⟨rfl,rfl⟩ | ⟨rfl,rfl⟩ | ⟨rfl,rfl⟩ | ⟨rfl,rfl⟩ | ⟨rfl,rfl⟩ | ⟨rfl,rfl⟩ | ⟨rfl,rfl⟩ | ⟨rfl,rfl⟩ | ⟨rfl,rfl⟩)
 ·exact ⟨_,_,_,(B3f T).up,hr.mono (by omega),T.cw.F.kp,T.cw.b⟩
 ·exact ⟨_,_,_,(B3n T).up,hr.mono (by omega),T.cu.F.kp,T.cu.b⟩
 ·exact ⟨_,_,_,(B0v T).up,hr.mono (by omega),T.c8.F.kp,T.c8.b⟩
 ·exact ⟨_,_,_,(B1h T).up,hr.mono (by omega),T.cc.F.kp,T.cc.b⟩
 ·exact ⟨_,_,_,B3s T,hr.mono (by omega),T.dy.F.kp,T.dy.b⟩
 ·exact ⟨_,_,_,B0t T,hr.mono (by omega),T.dh.F.kp,T.dh.b⟩
 ·exact ⟨_,_,_,B0m T,hr.mono (by omega),T.cm.F.kp,T.cm.b⟩
 ·exact ⟨_,_,_,(B2w T).up,hr.mono (by omega),T.cp.F.kp,T.cp.b⟩
 ·exact ⟨_,_,_,(B2x T).up,hr.mono (by omega),T.cr.F.kp,T.cr.b⟩
theorem C4f (T:Txt K mg t):A5j P w K mg base (CXD P w) 6 t.gI t.gE C3q (C3x t):=by
 have Ga7:= @A7i P w K mg base t T;refine T.gl.F.okD A9z (by walk_at "ln") λ_ A _ s H _ Q E hr h=> ?_
 ·obtain ⟨tp,hm,bl,wh,most,xs,rows,bx,D,rfl,htp,pr,rok,hhm,hbl,wp,lm,lb,k⟩:=h;have lx:=Paired.length pr
  refine ⟨_,(A0c (A0t (i:=5) A9z.nd rfl (.inl rfl) (pmk T.fS Ga7 hr T.g6 T.bp.b (A0a (pv 1) (A0a (pv 2) (A0a (pv 3) A0b)))))
   (A0c (A0t (i:=6) A9z.nd rfl (.inl rfl) A0f)
   (A0c (A0t (i:=7) A9z.nd rfl (.inl rfl) A0f)
   (A0c (B8a PassesOwn.leaving (A0m B2y (pv 6) (A0v A0r (by rfl) T.bj Z0r (A0a (pv 0) A0b)) (A0u _))
    (A0c (A1z (A0m C3z (pv 7) (pv 4) (A0u _))
     (A0h (A6f B2p T.gj rfl T.gm rfl (A0a (A8l (A6u (B4n (pv 4) (A6u B2t)))) A0b)))
     A0x)
    (A0c (A0t (i:=8) A9z.nd rfl (.inl rfl) (A1h A1i (pv 0) (pv 6) (λ_ _=>rfl)))
    (A0c (A0t (i:=9) A9z.nd rfl (.inl rfl) (B3w (C1n T hr) B3m (C1c (B2r T.g9 rfl) (A1h A1o (pv 8) A0f (λ_ _=>rfl)) (λ_ _=>rfl)) (A0a (pv 5) (A0a (pv 8) A0b))))
    (A0c (A0t (i:=6) A9z.nd rfl (.inl rfl) (B7w (A0m A9v (pv 9) A3t (A0u _)) (A0p A2g (pv 6) A0f) (pv 9)))
    (A0h (A0t (i:=7) A9z.nd rfl (.inl rfl) (A0p A2g (pv 7) A0f))))))))
   (A0h (A0s (A0y (A0a (A2r (pv 5) rfl) (A0a (A2r (pv 5) rfl) A0b))))))))),?_⟩
  refine ⟨_,rfl,_,rfl,_,rfl,λx dx hx hdx nd=>⟨x,dx,hm,bl,wh,_,rfl,A0d,(by rw [A0e (A0g hbl hx),A0e (A0g hbl hdx)];exact hbl),λb c s0 r H1 k1 hb hs hr' nbs nbr nsr ex eb es er=>⟨rfl,?_⟩⟩⟩
  have f0:∀a,upd (upd H dx (.own x)) x (.ins t.ac dx []) a=none->H a=none:=λa e=>by
   have n1:a≠x:=λz=>by rw [z,A0d] at e;cases e
   rw [A0e n1] at e;have n2:a≠dx:=λz=>by rw [z,A0d] at e;cases e
   rw [A0e n2] at e;exact e
  have s1:A1p H H1:=λa o e=>k1 a o (A0g e hx) (by rw [A0e (A0g e hx),A0e (A0g e hdx)];exact e);obtain ⟨g,hg⟩:∃g:Mh,g=⟨x,b,s0,r,hm,wh⟩:=⟨_,rfl⟩;have m1:MAt t H1 g ⟨bx,[],[]⟩:=by rw [hg];exact ⟨⟨dx,c,ex⟩,eb,es,⟨[],er,.nil⟩,nbs,nbr,nsr,(λy hy=>nomatch hy),wp⟩
  have gb:H g.b=none:=by rw [hg];exact f0 _ hb
  have gs:H g.s=none:=by rw [hg];exact f0 _ hs
  have gr:H g.r=none:=by rw [hg];exact f0 _ hr'
  have gx:g.x=x:=by rw [hg]
  have gw:g.wh=wh:=by rw [hg]
  have gh:g.hm=hm:=by rw [hg]
  have gbr:g.b≠g.r:=by rw [hg];exact nbr
  clear hg
  refine ⟨λn σ G=>∃(pl kd:Nat) (m:Mc) (o8 o9:Option V),n=most-kd/\kd<=most/\σ=[Sro tp,Sio wh,Sro hm,Sro bl,Sio most,Sro x,Sio pl,Sio kd,o8,o9]/\A1p H G/\MAt t G g m/\m.st.length<=kd/\m.tr.length<=2*kd/\m.bx.length<=1000000/\B2a t H Q E (A8e wh D rows (most-kd) pl m),
   ⟨_,0,0,_,none,none,rfl,Z1e _,rfl,s1,m1,Z09 _,Z09 _,lb,k⟩,?_⟩
  rintro n σ G ⟨pl,kd,m,o8,o9,rfl,hkd,rfl,sG,mG,l1,l2,l3,kG⟩;refine ⟨_,rfl,_,rfl,tp,_,rfl,.inl (SqL.of (sG _ _ htp)),rfl,_,rfl,?_⟩;rw [lx];by_cases he:pl=rows.length
  ·rw [Z20 (by rw [he])];show if (!true)=true then _ else _
   refine A7z ?_
   have hr0:A8e wh D rows (most-kd) pl m= .good m:=by
    cases most-kd with
    | zero=>unfold A8e;rw [Z12 he]
    | succ j=>unfold A8e;rw [Z12 he]
   rw [hr0] at kG;obtain ⟨dx1,c1,hi⟩:=mG.ins;obtain ⟨vs,ht,pt⟩:=mG.tr;rw [gx] at hi;refine ⟨_,rfl,x,_,dx1,_,.ref g.b,rfl,hi,T.aa,T.ah,(by walk_at "lk"),_,rfl,x,_,dx1,_,.ref g.r,rfl,hi,T.aa,T.aq,(by walk_at "lk"),A0o rfl,λp hp=> ?_⟩;have s2:=A0q (o:= .tup [.ref g.b,.ref g.r]) hp;exact kG p g.b g.r vs _ (sG.trans s2) gb gr gbr A0d (s2 _ _ mG.bx) (s2 _ _ ht) (Paired.tr (λ_ _ z=>s2 _ _ z) pt)
  ·rw [Z1j (λz=>he (by injection z with z;omega))];show if (!false)=true then _ else _
   refine C3d ⟨λσ' H'=>∃m',m'<most-kd/\∃(pl kd:Nat) (m:Mc) (o8 o9:Option V),m'=most-kd/\kd<=most/\σ'=[some (.ref tp),some (.int wh),some (.ref hm),some (.ref bl),some (.int most),some (.ref x),some (.int pl),some (.int kd),o8,o9]/\A1p H H'/\MAt t H' g m/\m.st.length<=kd/\m.tr.length<=2*kd/\m.bx.length<=1000000/\B2a t H Q E (A8e wh D rows (most-kd) pl m),λσ' H' z=>z,?_⟩;refine ⟨_,rfl,_,rfl,_,_,rfl,rfl,_,rfl,B3u (λhc=> ?_) (λhc=> ?_)⟩
   ·have hc:(most:Int)<=kd:=hc;have e0:most-kd=0:=by omega
    rw [e0] at kG;have hr0:A8e wh D rows 0 pl m= .noend:=by unfold A8e;rw [Z0t he]
    rw [hr0] at kG;have sm:Sm (most:Int):=by unfold Sm;omega
    have q0:(Str.empty++("no end within ":Str)).length<=40:=by decide +kernel
    have q9:(" doings":Str).length<=20:=by decide +kernel
    have q1:=B1b sm;have q2:(Str.empty++("no end within ":Str)++(toString (most:Int):Str)).length<=100:=by rw [Str.length_append];omega
    have q3:(Str.empty++("no end within ":Str)++(toString (most:Int):Str)++(" doings":Str)).length<=200:=by rw [Str.length_append];omega
    exact ⟨A1s (by omega),_,rfl,_,.inr ⟨_,rfl,B5h sm,rfl⟩,A1s (by omega),A1s (by omega),A1s (by omega),A0o rfl,kG _ sG⟩
   ·have hc:¬(most:Int)<=kd:=hc;obtain ⟨j,ej⟩:∃j,most-kd=j+1:=⟨most-kd-1,by omega⟩;have ej2:most-(kd+1)=j:=by omega
    rw [ej] at kG;unfold A8e at kG;rw [Z0t he] at kG
    cases hrow:rows[pl]? with
    | none=>rw [hrow] at kG;exact kG.elim
    | some ro =>
     rw [hrow] at kG;have hpl:pl<rows.length:=(Z03.mp hrow).1;have hxp:xs[pl]? =some xs[pl]:=Z0b (by omega);obtain ⟨ro',hro',ra⟩:=C0a pr hxp;rw [hrow] at hro';cases hro';have ra:=ra.kt λ_ _ z=>sG _ _ z;generalize xs[pl]=v at hxp ra;have rk:=rok ro (Z13 hrow)
     have hmG:C2d G g.hm D:=by
      rw [gh];obtain ⟨kvs,e,pr⟩:=hhm;exact ⟨kvs,sG _ _ e,Paired.mapP pr λ_ _ z=>⟨z.1,z.2.choose,z.2.choose_spec.1,sG _ _ z.2.choose_spec.2⟩⟩
     have lim:Lim m:=⟨by omega,by omega,l3⟩
     have aft:B0n t g G (λv H'=>∃(pl':Nat) (m':Mc),(v= .non/\pl'=pl+1\/v= .int pl')/\A1p H H'/\MAt t H' g m'/\m'.st.length<=kd+1/\m'.tr.length<=2*(kd+1)/\m'.bx.length<=1000000/\B2a t H Q E (A8e wh D rows j pl' m')) E (A2d g.wh D m ro):=by
      rw [gw]
      cases hst:A2d wh D m ro with
      | nx m' to =>
       simp only [hst] at kG;obtain ⟨q1,q2,q3⟩:=B1s hst;intro H' kk mm;refine ⟨to.getD (pl+1),m',?_,KG.same0 sG kk gb gs gr,mm,by omega,by omega,by omega,kG⟩
       cases to with
       | none=>exact .inl ⟨rfl,rfl⟩
       | some n=>exact .inr rfl
      | out =>
       simp only [hst] at kG;exact λH' kk=>kG H' (KG.same0 sG kk gb gs gr)
      | bare =>
       simp only [hst] at kG;exact λH' kk=>kG H' (KG.same0 sG kk gb gs gr)
      | stuck=>simp only [hst] at kG;exact kG.elim
     obtain ⟨f,x0,p,vs,ok,rfl,hp,dt,hok,dat⟩:=C2u t ra;refine ⟨_,rfl,_,rfl,tp,_,_,.ref p,rfl,rfl,SqL.of (sG _ _ htp),A1f hxp,?_⟩;refine ⟨_,rfl,p,_,_,_,rfl,rfl,SqT.of hp,at0,t.e_,_,x0,.ref f,rfl,rfl,T.fY,dat,f,A3f t ok,rfl,dt,_,rfl,_,rfl,g,m,D,ro,_,(by rw [gx]),hok,ra,mG,lim,hmG,rk,aft.mono ?_⟩;rintro v H' ⟨pl',m',hv,q1,q2,q3,q4,q5,q6⟩;rcases hv with ⟨rfl,rfl⟩ | rfl
     ·exact ⟨_,rfl,rfl,_,rfl,A3d rfl ⟨_,rfl,_,_,rfl,rfl,_,rfl,_,_,rfl,rfl,most-(kd+1),by omega,pl+1,kd+1,m',_,_,rfl,by omega,rfl,q1,q2,q3,q4,q5,by rw [ej2];exact q6⟩⟩
     ·exact ⟨_,rfl,rfl,_,rfl,A3u (by intro z;cases z) ⟨_,rfl,_,rfl,_,_,rfl,rfl,most-(kd+1),by omega,pl',kd+1,m',_,_,rfl,by omega,rfl,q1,q2,q3,q4,q5,by rw [ej2];exact q6⟩⟩
def cA (ns:List Int) (k:Nat):Int:=(ns[k]?).getD 0
def A9t (K:Frag):Sp:=λvs H Q _=>∃(a:Addr) (ns:List Int) (k:Nat),vs=[.ref a,.int k]/\SqL K H a (ns.map V.int)/\Q (.int (cA ns k)) H
def B3d:Sp:=λvs H Q _=>∃z:Int,vs=[.int z]/\Q (.bl true) H
def B0q (c:Int):Int:=c/5%(2*10^(29:Int).toNat-1)-(10^(29:Int).toNat-1)
abbrev Pl:=Str×List Int×Int
def plc (c n:Int) (k:Nat):Pl:=if k=0 then ("all",[],((k:Int)+c)%n) else if k%2=1 then ("row",[B0q c+k],((k:Int)+c)%n) else ("col",[(k:Int)%4,B0q c-k],((k:Int)+c)%n)
def B5l (H:Hp) (v:V) (e:Pl):Prop:=∃q z,v= .ref q/\H q=some (.tup [.str e.1,.ref z,.int e.2.2])/\H z=some (.tup (e.2.1.map V.int))/\e.2.1.length<=2
theorem B5l.kt {H H':Hp} (k:∀p xs,H p=some (.tup xs)->H' p=some (.tup xs)) {v:V} {e:Pl} (h:B5l H v e):B5l H' v e:=by
 obtain ⟨q,z,e1,h1,h2,l⟩:=h;exact ⟨q,z,e1,k _ _ h1,k _ _ h2,l⟩
def B3a:Sp:=λvs H Q _=>∃(k:Nat) (n c:Int),vs=[.int k,.int n,.int c]/\0<n/\∀(q:Addr) (H':Hp),A1p H H'->B5l H' (.ref q) (plc c n k)->Q (.ref q) H'
def C1k (wh:Int) (bx:List (Option Int)):Prop:=∀v:Int,some v∈bx->0<=v/\v<wh
def B1l:Sp:=λvs H Q _=>∃(n:Nat) (c wh:Int),vs=[.int n,.int c,.int wh]/\n<=60/\0<wh/\∀(L:Addr) (bx:List (Option Int)) (H':Hp),H L=none->A1p H H'->H' L=some (.lst (bx.map enO))->bx.length=n->C1k wh bx->Q (.ref L) H'
def A8a:Sp:=λvs H Q _=>∃(v:V) (e:Pl),vs=[v]/\B5l H v e/\∀(p s:Addr) (H':Hp),A1p H H'->H' p=some (.tup [.str e.1,.ref s])->IxT H' s e.2.1->Q (.ref p) H'
theorem A9u (T:Txt K mg t):FO P w base T.af 1 (A9t K):=by
 refine T.af.F.ok B0c (by walk_at "ln") λ_ A _ s H _ Q E hr h=> ?_
 ·obtain ⟨a,ns,k,rfl,hS,q⟩:=h
  refine ⟨_,(A0c (A1z (A0m C1d (pv 1) (A0v A0r (by rfl) T.bj Z0r (A0a (pv 0) A0b)) (A0u _))
    (A0h (A0s (A1h A1i (pv 0) (pv 1) (λ_ _=>rfl))))
    A0x)
   (A0h (A0s A0f))),?_⟩
  refine ⟨_,rfl,_,rfl,a,_,rfl,.inl hS,_,_,rfl,rfl,_,rfl,?_⟩;refine B3u (λhk=> ?_) (λhk=> ?_)
  ·have hk:(k:Int)<((ns.map V.int).length:Nat):=hk;rw [Z08] at hk;have hkn:ns[k]? =some ns[k]:=Z0b (by omega);refine ⟨_,rfl,_,rfl,a,_,_,V.int (cA ns k),rfl,rfl,hS,A1f ?_,q⟩;rw [Z1z,hkn];unfold cA;rw [hkn];rfl
  ·have hk:¬(k:Int)<((ns.map V.int).length:Nat):=hk;rw [Z08] at hk;have hkn:ns[k]? =none:=List.getElem?_eq_none_iff.mpr (by omega);have:cA ns k=0:=by unfold cA;rw [hkn];rfl
   rw [this] at q;exact q
theorem A7q (T:Txt K mg t):FO P w base T.cv 1 B3d:=by
 refine T.cv.F.ok B3q (by walk_at "ln") λ_ A _ s H _ Q E hr h=> ?_
 ·obtain ⟨z,rfl,q⟩:=h;refine ⟨_,(A0h (A0s (B8w (A0v A1v (by rfl) T.aj Z0d (A0a (pv 0) (A0a (A4k (v:=V.ty "int") rfl T.gG PyProof.Rows.boot_int rfl) A0b))) (B8l (C3h (A0v A1v (by rfl) T.aj Z0d (A0a (pv 0) (A0a (A4k (v:=V.ty "bool") rfl T.gA PyProof.Rows.boot_bool rfl) A0b)))))))),?_⟩;refine ⟨_,rfl,_,_,_,_,rfl,A7x.int z,A4d "int",true,rfl,C3d ?_⟩;exact ⟨_,rfl,_,_,_,_,rfl,A7x.int z,C1u (by decide +kernel) (by decide +kernel) (by decide +kernel),false,rfl,q⟩
theorem A9h (T:Txt K mg t):FO P w base T.ci 1 B3a:=by
 refine T.ci.F.ok A3q (by walk_at "ln") λ_ A _ s H _ Q E hr h=> ?_
 ·obtain ⟨k,n,c,rfl,n0,kq⟩:=h
  refine ⟨_,(A0c (A0t (i:=3) A3q.nd rfl (.inl rfl) (A0p A1t (A0p A2g (pv 0) (pv 2)) (pv 1)))
   (A0c (A0t (i:=4) A3q.nd rfl (.inl rfl) (A0p A4g (A0p A1t (A0p A5u (pv 2) A0f) (A0p A4g (A0p A7u A0f (A0p A7m A0f A0f)) A0f)) (A0p A4g (A0p A7m A0f A0f) A0f)))
   (A0c (A1z (A0m A4m (pv 0) A0f (A0u _))
    (A0h (A0s (A0y (A0a A1a (A0a (A0y A0b) (A0a (pv 3) A0b))))))
    A0x)
   (A0c (A1z (A0m A4m (A0p A1t (pv 0) A0f) A0f (A0u _))
    (A0h (A0s (A0y (A0a A1a (A0a (A0y (A0a (A0p A2g (pv 4) (pv 0)) A0b)) (A0a (pv 3) A0b))))))
    A0x)
   (A0h (A0s (A0y (A0a A1a (A0a (A0y (A0a (A0p A1t (pv 0) A0f) (A0a (A0p A4g (pv 4) (pv 0)) A0b))) (A0a (pv 3) A0b)))))))))),?_⟩
  refine ⟨_,rfl,_,rfl,_,_,rfl,rfl,_,rfl,_,_,rfl,rfl,n0,?_⟩;refine ⟨_,rfl,_,_,rfl,rfl,⟨by decide,by decide⟩,_,_,rfl,rfl,⟨by decide,by decide,by decide⟩,_,_,rfl,rfl,.inl ⟨by decide,by decide⟩,_,_,rfl,rfl,_,_,rfl,rfl,(by show (0:Int)<2*10^(29:Int).toNat-1;decide),_,_,rfl,rfl,⟨by decide,by decide,by decide⟩,_,_,rfl,rfl,_,_,rfl,rfl,?_⟩;refine ⟨_,rfl,rfl,_,rfl,B3u (λe=> ?_) (λe=> ?_)⟩
  ·have e:k=0:=by injection e with e;omega
   refine ⟨A0o rfl,λz hz=>⟨_,rfl,A0o rfl,λq hq=> ?_⟩⟩;have s1:A1p H (upd H z (.tup [])):=A0q hz;have f1:upd H z (.tup []) z=some (.tup []):=A0d;dsimp only at hq⊢;generalize upd H z (.tup [])=H1 at s1 f1 hq⊢;refine kq q _ (s1.trans (A0q hq)) ?_;unfold plc;rw [Z12 e];exact ⟨q,z,rfl,A0d,(A0q hq) _ _ f1,by simp⟩
  ·have e:¬k=0:=λz=>e (by rw [z];rfl);refine ⟨_,rfl,_,_,rfl,rfl,C5z,rfl,_,rfl,B3u (λe2=> ?_) (λe2=> ?_)⟩
   ·have e2:k%2=1:=by injection e2 with e2;have e2:(k:Int)%2=1:=e2;omega
    refine ⟨_,rfl,_,rfl,_,_,rfl,rfl,A0o rfl,λz hz=>⟨_,rfl,A0o rfl,λq hq=> ?_⟩⟩;dsimp only at hq⊢;have s1:A1p H (upd H z (.tup [.int (B0q c+k)])):=A0q hz;have f1:upd H z (.tup [.int (B0q c+k)]) z=some (.tup [.int (B0q c+k)]):=A0d;rw [show c/5%(2*10^(29:Int).toNat-1)-(10^(29:Int).toNat-1)=B0q c from rfl] at hq⊢;generalize upd H z (.tup [.int (B0q c+k)])=H1 at s1 f1 hq⊢;refine kq q _ (s1.trans (A0q hq)) ?_;unfold plc;rw [Z0t e,Z12 e2];exact ⟨q,z,rfl,A0d,(A0q hq) _ _ f1,by simp⟩
   ·have e2:¬k%2=1:=λz=>e2 (by have:(k:Int)%2=1:=(by omega);exact congrArg V.int this);refine ⟨_,rfl,_,_,rfl,rfl,C5h,_,rfl,_,rfl,_,_,rfl,rfl,A0o rfl,λz hz=>⟨_,rfl,A0o rfl,λq hq=> ?_⟩⟩;dsimp only at hq⊢;have s1:A1p H (upd H z (.tup [.int ((k:Int)%4),.int (B0q c-k)])):=A0q hz;have f1:upd H z (.tup [.int ((k:Int)%4),.int (B0q c-k)]) z=some (.tup [.int ((k:Int)%4),.int (B0q c-k)]):=A0d;rw [show c/5%(2*10^(29:Int).toNat-1)-(10^(29:Int).toNat-1)=B0q c from rfl] at hq⊢;generalize upd H z (.tup [.int ((k:Int)%4),.int (B0q c-k)])=H1 at s1 f1 hq⊢;refine kq q _ (s1.trans (A0q hq)) ?_;unfold plc;rw [Z0t e,Z0t e2];exact ⟨q,z,rfl,A0d,(A0q hq) _ _ f1,by simp⟩
theorem A8m (T:Txt K mg t):FO P w base T.ce 1 B1l:=by
 refine T.ce.F.ok A3k (by walk_at "ln") λ_ A _ s H _ Q E hr h=> ?_
 ·obtain ⟨n,c,wh,rfl,n6,w0,k⟩:=h
  refine ⟨_,(A0c (A0t (i:=3) A3k.nd rfl (.inl rfl) (A3n A0b))
   (A0c (A7a PassesOwn.never rfl (A3v rfl T.dv (A0a (pv 0) A0b)) (A0l (i:=4) A3k.nd rfl (.inl rfl))
    (A0h (A1z (A0m A4m (A0p A1t (A0p A2g (pv 1) (A0p A7u (pv 4) (pv 4))) A0f) A0f (A0u _))
     (A0h (A0z (A4p Z0k Z0n Z0o A0w (pv 3) (A0a A3t A0b))))
     (A0h (A0z (A4p Z0k Z0n Z0o A0w (pv 3) (A0a (A0p A1t (A0p A2g (A0p A2g (A0p A7u (pv 1) (A0p A2g (pv 4) A0f)) (A0p A7u (A0p A7u (pv 4) (pv 4)) A0f)) A0f) (pv 2)) A0b)))))))
   (A0h (A0s (pv 3))))),?_⟩
  refine ⟨A0o rfl,λL hL=> ?_⟩;refine ⟨_,rfl,_,rfl,by omega,by omega,?_⟩;refine A5e (n:=(n:Int).toNat) (λi σ G=>∃(o4:Option V) (bx:List (Option Int)),σ=[Sio n,Sio c,Sio wh,Sro L,o4]/\A1p H G/\G L=some (.lst (bx.map enO))/\bx.length=i/\C1k wh bx) ⟨none,[],rfl,A0q hL,A0d,rfl,λv hv=>nomatch hv⟩ ?_ ?_
  ·rintro i σ G hi ⟨o4,bx,rfl,sG,hb,lb,bo⟩;have hi:i<n:=by simpa using hi
   have i64: -(2^64:Int)<0+(i:Int)/\0+(i:Int)<2^64:=by omega
   refine ⟨_,rfl,_,rfl,_,rfl,_,_,rfl,rfl,.inl i64,_,_,rfl,rfl,_,_,rfl,rfl,C4s,rfl,_,rfl,B3u (λ_=> ?_) (λ_=> ?_)⟩
   ·refine ⟨_,rfl,.inl ⟨rfl,_,SqL.of hb⟩,L,_,_,rfl,rfl,hb,A1m (by simp;omega),some (.int (0+(i:Int))),bx++[none],rfl,A1j sG hL,by rw [Z0s];exact A0d,by simp [lb],λv hv=> ?_⟩;rcases Z07.mp hv with z | z
    ·exact bo v z
    ·simp at z
   ·refine ⟨_,rfl,.inl ⟨rfl,_,SqL.of hb⟩,_,rfl,_,rfl,_,_,rfl,rfl,_,_,rfl,rfl,.inr ⟨by show -(2^64:Int)<0+(i:Int)+2;omega,by show 0+(i:Int)+2<2^64;omega⟩,_,rfl,_,rfl,_,_,rfl,rfl,.inl i64,_,_,rfl,rfl,.inr ⟨by decide,by decide⟩,_,_,rfl,rfl,_,_,rfl,rfl,_,rfl,_,_,rfl,rfl,w0,L,_,_,rfl,rfl,hb,A1m (by simp;omega),?_⟩;generalize hz:(c*(0+(i:Int)+2)+(0+(i:Int))*(0+(i:Int))*977+5)%wh=z;refine ⟨some (.int (0+(i:Int))),bx++[some z],rfl,A1j sG hL,?_,by simp [lb],λv hv=> ?_⟩
    ·rw [Z0s,<-hz];exact A0d
    ·rcases Z07.mp hv with y | y
     ·exact bo v y
     ·simp at y;rw [y,<-hz];exact ⟨Z1v _ (by omega),Z1p _ w0⟩
  ·rintro σ G ⟨o4,bx,rfl,sG,hb,lb,bo⟩;exact ⟨_,rfl,k L bx G hL sG hb (by simpa using lb) bo⟩
theorem B0e (T:Txt K mg t):FO P w base T.ba 1 A8a:=by
 refine T.ba.F.ok B0g (by walk_at "ln") λ_ A _ s H _ Q E hr h=> ?_
 ·obtain ⟨v,e,rfl,⟨q,z,rfl,hq,hz,l2⟩,k⟩:=h;refine ⟨_,(A0h (A0s (A0y (A0a (A1h A1o (pv 0) A0f (λ_ _=>rfl)) (A0a (A2s A5h (by rfl) T.em Z0m (A0a (B6g (N':=["_law_number"]) (ix:=(List.replicate 1 none)) rfl (B4o rfl (by decide +kernel) (by decide +kernel)) (B5m rfl) (B8k (A1h A1o (pv 0) A0f (λ_ _=>rfl))) (λ_ _ _ _=>(A0l (i:=0) B4i rfl (.inl rfl))) (λ_ _ _ _=>(A0y (A0a (C0m B4r A0f) (A0a (pv 0) A0b))))) A0b)) A0b))))),?_⟩;refine ⟨_,rfl,q,_,_,_,rfl,rfl,SqT.of hq,at0,?_⟩;refine ⟨_,rfl,q,_,_,.ref z,rfl,rfl,SqT.of hq,A1f (j:=1) rfl,z,rfl,⟨_,SqT.of hz⟩,λD hD=> ?_⟩;refine B0o (K:=K) (a:=z) (D:=D) (xs:=e.2.1.map V.int) (λi ys H2=>A1p H H2/\H2 D=some (.lst ys)/\Paired (IxP H2) ys (e.2.1.take i)) ⟨A0q hD,A0d,.nil⟩ (λi ys H2 ⟨s2,_⟩=>SqT.of (s2 _ _ hz)) ?_ ?_
  ·rintro i x ys H2 hx ⟨s2,hD2,pr⟩;obtain ⟨j,hj,rfl⟩:=B1q hx;have hi:i<e.2.1.length:=(Z03.mp hj).1;have ly:=Paired.length pr;rw [Z0x] at ly;refine ⟨True.intro,_,rfl,_,rfl,A0o rfl,λp hp=> ?_⟩;obtain ⟨H3,s3,f3,eNH⟩:=nH (o:= .tup [.int (-1),.int j]) hp;rw [eNH];have hD3:=s3 _ _ hD2;refine ⟨hD3,A1m (by omega),A1j (s2.trans s3) hD,A0d,?_⟩;rw [Z14,hj,Option.toList_some];have kt:=A2f (o:= .lst (ys++[.ref p])) hD3;exact Paired.snoc ⟨p,rfl,kt _ _ f3⟩ (Paired.mapP pr λ_ _ ⟨y,e1,e2⟩=>⟨y,e1,kt _ _ (s3 _ _ e2)⟩)
  ·rintro ys H2 ⟨s2,hD2,pr⟩;rw [Z08,List.take_length] at pr;refine ⟨D,_,rfl,.inl ⟨SqL.of hD2,λy hy=> ?_⟩⟩;obtain ⟨H3,s3,f3,eNH⟩:=nH (o:= .tup ys) hy;rw [eNH];refine ⟨A0o rfl,λp hp=> ?_⟩;have s4:A1p H3 (upd H3 p (.tup [.str e.1,.ref y])):=A0q hp;exact k p y _ (s2.trans (s3.trans s4)) A0d ⟨ys,s4 _ _ f3,Paired.mapP pr λ_ _ ⟨x,e1,e2⟩=>⟨x,e1,(s3.trans s4) _ _ e2⟩,by omega⟩
def dJ (ns:List Int):PyData:= .list (ns.map PyData.int)
theorem B2c {H:Hp} {a:Addr} {ns:List Int} (h:H a=some (.lst (ns.map V.int))):Rep H (.ref a) (dJ ns):= .lst h (A9m _)
theorem B7d (ns:List Int):SeqAt.shaped (dJ ns)=true:=by
 obtain ⟨h1,h2,_⟩:=A9j ns;have c:PyData.canLay0 (dJ ns)=true:=by unfold dJ;simp only [PyData.canLay0];exact h1
 unfold SeqAt.shaped;rw [c,Bool.true_and];refine Z20 ?_;unfold dJ;simp only [PyData.depth];omega
theorem B8j (ns:List Int):PyData.eqv (dJ ns) (dJ [])=decide (ns=[]):=by
 cases ns <;> simp [dJ,PyData.eqv,PyData.eqvAll]
structure LAt (H:Hp) (g:Mh) (m:Mc):Prop where
 bx:H g.b=some (.lst (m.bx.map enO))
 st:H g.s=some (.lst (m.st.reverse.map V.int))
 tr:∃vs,H g.r=some (.lst vs)/\Paired (TrP H) vs m.tr
 n1:g.b≠g.s
 n2:g.b≠g.r
 n3:g.s≠g.r
section
variable {H H':Hp} {g:Mh} {m:Mc}
theorem LAt.same (h:LAt H g m) (s:A1p H H'):LAt H' g m:=by
 obtain ⟨vs,ht,pr⟩:=h.tr;exact ⟨s _ _ h.bx,s _ _ h.st,⟨vs,s _ _ ht,Paired.tr (λ_ _ z=>s _ _ z) pr⟩,h.n1,h.n2,h.n3⟩
theorem LAt.setS {st':List Int} (h:LAt H g m):LAt (upd H g.s (.lst (st'.reverse.map V.int))) g { m with st:=st' }:=by
 obtain ⟨vs,ht,pr⟩:=h.tr;exact ⟨by rw [A0e h.n1];exact h.bx,A0d,⟨vs,by rw [A0e h.n3.symm];exact ht,Paired.tr (A2f h.st) pr⟩,h.n1,h.n2,h.n3⟩
theorem LAt.setB {bx':List (Option Int)} (h:LAt H g m):LAt (upd H g.b (.lst (bx'.map enO))) g { m with bx:=bx' }:=by
 obtain ⟨vs,ht,pr⟩:=h.tr;exact ⟨A0d,by rw [A0e h.n1.symm];exact h.st,⟨vs,by rw [A0e h.n2.symm];exact ht,Paired.tr (A2f h.bx) pr⟩,h.n1,h.n2,h.n3⟩
theorem LAt.addT {vs:List V} {p:Addr} {x:Str} {b:Nat} (h:LAt H g m) (ht:H g.r=some (.lst vs)) (hp:H p=some (.tup [.str x,.int b])):LAt (upd H g.r (.lst (vs++[.ref p]))) g { m with tr:=m.tr++[(x,b)] }:=by
 obtain ⟨vs',ht',pr⟩:=h.tr;rw [ht] at ht';cases ht';exact ⟨by rw [A0e h.n2];exact h.bx,by rw [A0e h.n3];exact h.st,⟨_,A0d,Paired.snoc ⟨p,rfl,A2f ht _ _ hp⟩ (Paired.tr (A2f ht) pr)⟩,h.n1,h.n2,h.n3⟩
theorem LAt.len (h:LAt H g m) {vs:List V} (ht:H g.r=some (.lst vs)):vs.length=m.tr.length:=by
 obtain ⟨vs',ht',pr⟩:=h.tr;rw [ht] at ht';cases ht';exact Paired.length pr
end
def C0u (m:Mc) (b:Nat) (e:Pl) (r:Ro):Prop:=(∃n,r= .push n)\/r= .jump 0\/(2<=m.st.length/\(r= .plus\/r= .minus\/r= .times))\/(r= .load e.1 e.2.1/\∃v,m.bx[b]? =some (some v))\/(r= .store e.1 e.2.1/\m.st≠[])\/(r= .gather e.1 e.2.1/\m.st≠[]/\∃v,m.bx[b]? =some (some v))
def B4w:Sp:=λvs H Q _=>∃(c:Int) (S bl:Addr) (v:V) (e:Pl) (m:Mc) (b:Nat),vs=[.int c,.ref S,v,.ref bl]/\H S=some (.lst (m.st.reverse.map V.int))/\B5l H v e/\H bl=some (.lst (m.bx.map enO))/\e.2.2=(b:Int)/\b<m.bx.length/\
 ∀(p:Addr) (r:Ro) (H':Hp),A1p H H'->A9f H' (.ref p) r->C0u m b e r->Q (.ref p) H'
theorem A8n {σ:St} {G:Hp} {Qv:VK} {E:XK} {wd:Str} {v:V} {e:Pl} (hv:σ[2]? =some (some v)) (pl:B5l G v e)
  (k:∀(y s:Addr) (H':Hp),A1p G H'->H' y=some (.tup [.str wd,.str e.1,.ref s])->IxT H' s e.2.1->Qv (.ref y) H'):tOp B9g (C5n (C0o (tC (.str wd)) C3o)) (C0t A8a [] E (C0o (C4n 2) C3o)) σ G Qv:=by
 refine ⟨A0o rfl,λz hz=> ?_⟩;obtain ⟨G1,u1,f1,eNH⟩:=nH (o:= .tup [.str wd]) hz;rw [eNH];exact ⟨v,hv,v,e,rfl,pl.kt (λ_ _ z=>u1 _ _ z),λq s0 H3 s3 hq hix=>⟨z,q,_,_,rfl,rfl,s3 _ _ f1,hq,A0o rfl,λy H4 s4 hy=>k y s0 H4 (u1.trans (s3.trans s4)) hy (hix.kt λ_ _ z=>s4 _ _ z)⟩⟩
theorem at3' {a b c:V} {i:Int} (h0:0<=i) (h3:i<3):atI [a,b,c] i=some (if i=0 then a else if i=1 then b else c):=by
 have:i=0\/i=1\/i=2:=by omega
 rcases this with rfl | rfl | rfl <;> rfl
theorem B0z (T:Txt K mg t):FO P w base T.dj 2 B4w:=by
 have Ga8:= @B0e P w K mg base t T;refine T.dj.F.ok A3i (by walk_at "ln") λ_ A _ s H _ Q E hr h=> ?_
 ·obtain ⟨c,S,bl,v,e,m,b,rfl,hS,pl,hbl,eb,lb,k⟩:=h;obtain ⟨q,z,rfl,hq,hz,l2⟩:=id pl
  refine ⟨_,(A0c (A0t (i:=4) A3i.nd rfl (.inl rfl) (A0p A1t (pv 0) A0f))
   (A0c (A0t (i:=5) A3i.nd rfl (.inl rfl) (A0p A5u (pv 0) A0f))
   (A0c (A0t (i:=6) A3i.nd rfl (.inl rfl) (C0w B1d (A1h A1i (pv 3) (A1h A1o (pv 2) A0f (λ_ _=>rfl)) (λ_ _=>rfl)) A3t (A0u _)))
   (A2a (A1z (PW.pt (A5w (A0m A4m (pv 4) A0f (A0u _)) (A5r (A4f (pv 6)))))
    (A0h (A0s (A0p A8s (A0y (A0a A1a A0b)) (pcl Ga8 hr T.ba (A0a (pv 2) A0b)))))
    A0x)
   (A2a (A1z (PW.pt (A5w (A0m A4m (pv 4) A0f (A0u _)) (A5r (A0m (B6e hr.units) (pv 1) (A3n A0b) (A0u _)))))
    (A0h (A0s (A0p A8s (A0y (A0a A1a A0b)) (pcl Ga8 hr T.ba (A0a (pv 2) A0b)))))
    A0x)
   (A2a (A1z (PW.pt (A5w (A0m A4m (pv 4) A0f (A0u _)) (A5w (A0m (B6e hr.units) (pv 1) (A3n A0b) (A0u _)) (A5r (A4f (pv 6))))))
    (A0h (A0s (A0p A8s (A0y (A0a A1a A0b)) (pcl Ga8 hr T.ba (A0a (pv 2) A0b)))))
    A0x)
   (A2a (A1z (PW.pt (A5w (A0m C2w (pv 4) A0f (A0u _)) (A5w (A0m C1d (pv 4) A0f (A0u _)) (A5r (A0m C2w (A0v A0r (by rfl) T.bj Z0r (A0a (pv 1) A0b)) A0f (A0u _))))))
    (A0h (A0s (A0y (A0a (A1h A1i (A3n (A0a A1a (A0a A1a (A0a A1a A0b)))) (A0p A1t (pv 5) A0f) (λ_ _=>rfl)) A0b))))
    A0x)
   (A2a (A1z (A0m A4m (pv 4) A0f (A0u _))
    (A0h (A0s (A0y (A0a A1a (A0a A0f A0b)))))
    A0x)
   (A0h (A0s (A0y (A0a A1a (A0a (A0p A4g (A0p A1t (pv 5) (A0p A4g (A0p A7u A0f (A0p A7m A0f A0f)) A0f)) (A0p A4g (A0p A7m A0f A0f) A0f)) A0b))))))))))))),?_⟩
  refine ⟨_,rfl,_,_,rfl,rfl,z_80,_,rfl,_,_,rfl,rfl,⟨by decide,by decide⟩,?_⟩;refine ⟨_,rfl,_,rfl,q,_,_,.int e.2.2,rfl,rfl,SqT.of hq,A1f (j:=2) rfl,bl,_,_,enO m.bx[b],rfl,rfl,SqL.of hbl,?_,rfl,?_⟩
  ·rw [eb];exact A1f (by rw [Z1z,Z0b lb];rfl)
  obtain ⟨f,hf,ht⟩:∃f:Bool,(!decide (enO m.bx[b]=V.non))=f/\(f=true->∃v,m.bx[b]? =some (some v)):=by
   refine ⟨_,rfl,λh=> ?_⟩;rw [Z0b lb]
   cases hb:m.bx[b] with
   | none=>rw [hb] at h;exact absurd h (by decide)
   | some v=>exact ⟨v,rfl⟩
  rw [hf];refine ⟨λσ G=>σ=[Sio c,Sro S,Sro q,Sro bl,Sio (c%8),Sio (c/8),Sbo f]/\A1p H G,?_,?_⟩
  ·refine ⟨_,rfl,rfl,_,rfl,B3u (λ_=>⟨_,rfl,_,rfl,C3m (λhf1=> ?_) (λ_=>⟨rfl,A1p.refl _⟩)⟩) (λ_=>A7z ⟨rfl,A1p.refl _⟩)⟩;exact A8n (v:= .ref q) rfl pl λy s0 H' s' hy hix=>k y (.load e.1 e.2.1) H' s' ⟨y,_,rfl,hy,s0,rfl,hix⟩ (.inr (.inr (.inr (.inl ⟨rfl,ht hf1⟩))))
  rintro σ G1 ⟨rfl,s1⟩;refine ⟨λσ G=>σ=[Sio c,Sro S,Sro q,Sro bl,Sio (c%8),Sio (c/8),Sbo f]/\A1p H G,?_,?_⟩
  ·refine ⟨_,rfl,rfl,_,rfl,B3u (λ_=> ?_) (λ_=>A7z ⟨rfl,s1⟩)⟩;refine ⟨_,rfl,A0o rfl,λz1 hz1=> ?_⟩;have u1:A1p G1 (upd G1 z1 (.lst [])):=A0q hz1;have f1:upd G1 z1 (.lst []) z1=some (.lst (([]:List Int).map V.int)):=A0d;generalize upd G1 z1 (.lst [])=G2 at u1 f1⊢;refine ⟨dJ m.st.reverse,dJ [],B2c ((s1.trans u1) _ _ hS),B2c f1,B7d _,B7d _,_,rfl,?_⟩;show if (!PyData.eqv (dJ m.st.reverse) (dJ []))=true then _ else _
   rw [B8j];refine A6r (λh3=> ?_) (λ_=>⟨rfl,s1.trans u1⟩);exact A8n (v:= .ref q) rfl (pl.kt λ_ _ z=>(s1.trans u1) _ _ z) λy s0 H' s' hy hix=>k y (.store e.1 e.2.1) H' (s1.trans (u1.trans s')) ⟨y,_,rfl,hy,s0,rfl,hix⟩ (.inr (.inr (.inr (.inr (.inl ⟨rfl,λz=>h3 (by rw [z];rfl)⟩)))))
  rintro σ G2 ⟨rfl,s2⟩;refine ⟨λσ G=>σ=[Sio c,Sro S,Sro q,Sro bl,Sio (c%8),Sio (c/8),Sbo f]/\A1p H G,?_,?_⟩
  ·refine ⟨_,rfl,rfl,_,rfl,B3u (λ_=> ?_) (λ_=>A7z ⟨rfl,s2⟩)⟩;refine ⟨_,rfl,A0o rfl,λz1 hz1=> ?_⟩;have u1:A1p G2 (upd G2 z1 (.lst [])):=A0q hz1;have f1:upd G2 z1 (.lst []) z1=some (.lst (([]:List Int).map V.int)):=A0d;generalize upd G2 z1 (.lst [])=G3 at u1 f1⊢;refine ⟨dJ m.st.reverse,dJ [],B2c ((s2.trans u1) _ _ hS),B2c f1,B7d _,B7d _,_,rfl,?_⟩;show if (!PyData.eqv (dJ m.st.reverse) (dJ []))=true then _ else _
   rw [B8j];refine A6r (λh3=> ?_) (λ_=>A7z ⟨rfl,s2.trans u1⟩);refine ⟨_,rfl,_,rfl,C3m (λhf1=> ?_) (λ_=>⟨rfl,s2.trans u1⟩)⟩;exact A8n (v:= .ref q) rfl (pl.kt λ_ _ z=>(s2.trans u1) _ _ z) λy s0 H' s' hy hix=>k y (.gather e.1 e.2.1) H' (s2.trans (u1.trans s')) ⟨y,_,rfl,hy,s0,rfl,hix⟩ (.inr (.inr (.inr (.inr (.inr ⟨rfl,(λz=>h3 (by rw [z];rfl)),ht hf1⟩)))))
  rintro σ G3 ⟨rfl,s3⟩;refine ⟨λσ G=>σ=[Sio c,Sro S,Sro q,Sro bl,Sio (c%8),Sio (c/8),Sbo f]/\A1p H G,?_,?_⟩
  ·refine ⟨_,rfl,_,_,rfl,rfl,_,rfl,B3u (λ_=> ?_) (λ_=>A7z ⟨rfl,s3⟩)⟩;refine ⟨_,rfl,_,_,rfl,rfl,_,rfl,B3u (λ_=> ?_) (λ_=>A7z ⟨rfl,s3⟩)⟩;refine ⟨_,rfl,S,_,rfl,.inl (SqL.of (s3 _ _ hS)),_,_,rfl,rfl,_,rfl,B3u (λh2=> ?_) (λ_=>⟨rfl,s3⟩)⟩;have h2:(1:Int)<((m.st.reverse.map V.int).length:Nat):=h2;rw [Z08,List.length_reverse] at h2;refine ⟨A0o rfl,λz1 hz1=> ?_⟩;obtain ⟨G4,u1,f1,eNH⟩:=nH (o:= .lst [.str "plus",.str "minus",.str "times"]) hz1;rw [eNH];have q1:0<=c/8%3:=by omega
   have q2:c/8%3<3:=by omega
   have e3:=at3' (a:=V.str "plus") (b:=V.str "minus") (c:=V.str "times") q1 q2;refine ⟨_,rfl,_,_,rfl,rfl,C4s,z1,_,_,_,rfl,rfl,SqL.of f1,e3,A0o rfl,λy hy=> ?_⟩;have s5:=s3.trans (u1.trans (A0q (o:= .tup [if c/8%3=0 then V.str "plus" else if c/8%3=1 then V.str "minus" else V.str "times"]) hy));by_cases h0:c/8%3=0
   ·rw [Z12 h0] at s5⊢;exact k y .plus _ s5 ⟨y,_,rfl,A0d,rfl⟩ (.inr (.inr (.inl ⟨by omega,.inl rfl⟩)))
   ·rw [Z0t h0] at s5⊢;by_cases h1:c/8%3=1
    ·rw [Z12 h1] at s5⊢;exact k y .minus _ s5 ⟨y,_,rfl,A0d,rfl⟩ (.inr (.inr (.inl ⟨by omega,.inr (.inl rfl)⟩)))
    ·rw [Z0t h1] at s5⊢;exact k y .times _ s5 ⟨y,_,rfl,A0d,rfl⟩ (.inr (.inr (.inl ⟨by omega,.inr (.inr rfl)⟩)))
  rintro σ G4 ⟨rfl,s4⟩;refine ⟨λσ G=>σ=[Sio c,Sro S,Sro q,Sro bl,Sio (c%8),Sio (c/8),Sbo f]/\A1p H G,?_,?_⟩
  ·refine ⟨_,rfl,rfl,_,rfl,B3u (λ_=> ?_) (λ_=>⟨rfl,s4⟩)⟩;exact ⟨A0o rfl,λy hy=>k y (.jump 0) _ (s4.trans (A0q hy)) ⟨y,_,rfl,A0d,rfl⟩ (.inr (.inl rfl))⟩
  rintro σ G5 ⟨rfl,s5⟩;refine ⟨_,rfl,_,_,rfl,rfl,⟨by decide,by decide,by decide⟩,_,_,rfl,rfl,.inl ⟨by decide,by decide⟩,_,_,rfl,rfl,_,_,rfl,rfl,(by show (0:Int)<2*10^(30:Int).toNat-1;decide),_,_,rfl,rfl,⟨by decide,by decide,by decide⟩,_,_,rfl,rfl,_,_,rfl,rfl,A0o rfl,λy hy=> ?_⟩;exact k y (.push _) _ (s5.trans (A0q hy)) ⟨y,_,rfl,A0d,rfl⟩ (.inl ⟨_,rfl⟩)
structure InV (wh:Int) (m:Mc):Prop where
 bx:C1k wh m.bx
 st:∀x∈m.st,0<=x/\x<wh
def opF:Ro->Int->Int->Int
 | .plus,l,r=>l+r
 | .minus,l,r=>l-r
 | _,l,r=>l*r
def opW:Ro->Str
 | .plus=>"plus"
 | .minus=>"minus"
 | _=>"times"
def B9j:Sp:=λvs H Q _=>∃(S:Addr) (r:Ro) (x y:Int) (st:List Int),vs=[.str (opW r),.ref S]/\H S=some (.lst ((y::x::st).reverse.map V.int))/\Sm x/\Sm y/\(r= .plus\/r= .minus\/r= .times)/\Q (.int (opF r x y)) (upd H S (.lst (st.reverse.map V.int)))
def B3x:Sp:=λvs H Q _=>∃(g:Mh) (m m':Mc) (v:V) (r:Ro) (b:Nat) (wh:Int) (e:Pl) (D:List (Str×Hm)),vs=[v,.int b,.ref g.s,.ref g.b,.ref g.r,.int wh]/\A9f H v r/\(r= .load e.1 e.2.1\/r= .store e.1 e.2.1\/r= .gather e.1 e.2.1)/\LAt H g m/\InV wh m/\0<wh/\A6d D m.bx.length e.1 e.2.1=some b/\A2d wh D m r= .nx m' none/\m.st.length<=100/\m.tr.length<=200/\
 ∀H',KG g H H'->LAt H' g m'->Q .non H'
def B0x:Sp:=λvs H Q _=>∃(c:Int) (v:V) (e:Pl),vs=[.int c,v]/\B5l H v e/\∀(p:Addr) (r:Ro) (H':Hp),A1p H H'->A9f H' (.ref p) r->(r= .times\/(∃i,r= .load e.1 i)\/r= .jump 0\/∃n,r= .push n)->Q (.ref p) H'
def A8c:Sp:=λvs H Q _=>∃(a b:Addr) (bx:List (Option Int)),vs=[.ref a,.ref b]/\H a=some (.lst (bx.map enO))/\H b=some (.lst (bx.map enO))/\bx.length<=1000/\Q (.bl true) H
def A8z:Sp:=λvs H Q _=>∃(a b:Addr) (xs ys:List V) (tr:List (Str×Nat)),vs=[.ref a,.ref b]/\H a=some (.lst xs)/\H b=some (.lst ys)/\Paired (TrP H) xs tr/\Paired (TrP H) ys tr/\tr.length<=1000/\(∀e∈tr,PyData.strOk e.1=true)/\Q (.bl true) H
def B9h:Sp:=λvs H Q _=>∃(p a b c d:Addr) (bx:List (Option Int)) (xs ys:List V) (tr:List (Str×Nat)),vs=[.ref p,.ref c,.ref d]/\H p=some (.tup [.ref a,.ref b])/\H a=some (.lst (bx.map enO))/\H c=some (.lst (bx.map enO))/\bx.length<=1000/\H b=some (.lst xs)/\H d=some (.lst ys)/\Paired (TrP H) xs tr/\Paired (TrP H) ys tr/\tr.length<=1000/\(∀e∈tr,PyData.strOk e.1=true)/\Q (.bl true) H
theorem B5r (T:Txt K mg t):FO P w base T.eu 1 B9j:=by
 refine T.eu.F.ok A7j (by walk_at "ln") λ_ A _ s H _ Q E hr h=> ?_
 ·obtain ⟨S,r,x,y,st,rfl,hS,sx,sy,hr',k⟩:=h
  refine ⟨_,(A0c (A0t (i:=2) A7j.nd rfl (.inl rfl) (A5f Z0k PySem.F.slot_list_pop PySem.F.type_list_pop A5x (pv 1)))
   (A0c (A0t (i:=3) A7j.nd rfl (.inl rfl) (A5f Z0k PySem.F.slot_list_pop PySem.F.type_list_pop A5x (pv 1)))
   (A2a (A1z (A0m A4m (pv 0) A1a (A0u _))
    (A0h (A0s (A0p A2g (pv 3) (pv 2))))
    A0x)
   (A2a (A1z (A0m A4m (pv 0) A1a (A0u _))
    (A0h (A0s (A0p A4g (pv 3) (pv 2))))
    A0x)
   (A0h (A0s (A0p B4s (pv 3) (pv 2)))))))),?_⟩
  refine ⟨_,rfl,.inl ⟨rfl,_,SqL.of hS⟩,S,_,_,rfl,rfl,hS,B8q,?_⟩;rw [B0k];refine ⟨_,rfl,.inl ⟨rfl,_,SqL.of A0d⟩,S,_,_,rfl,rfl,A0d,B8q,?_⟩;rw [B0k,B0r];rcases hr' with rfl | rfl | rfl
  ·refine ⟨λ_ _=>False,⟨_,rfl,rfl,_,rfl,A3d rfl ⟨_,rfl,_,rfl,_,_,rfl,rfl,k⟩⟩,λ_ _ z=>z.elim⟩
  ·refine ⟨λσ G=>σ=[some (.str "minus"),Sro S,Sio y,Sio x]/\G=upd H S (.lst (st.reverse.map V.int)),⟨_,rfl,rfl,_,rfl,A3u (λz=>absurd (V.str.inj z) (by decide +kernel)) ⟨rfl,rfl⟩⟩,?_⟩;rintro σ G ⟨rfl,rfl⟩;refine ⟨λ_ _=>False,⟨_,rfl,rfl,_,rfl,A3d rfl ⟨_,rfl,_,rfl,_,_,rfl,rfl,k⟩⟩,λ_ _ z=>z.elim⟩
  ·refine ⟨λσ G=>σ=[some (.str "times"),Sro S,Sio y,Sio x]/\G=upd H S (.lst (st.reverse.map V.int)),⟨_,rfl,rfl,_,rfl,A3u (λz=>absurd (V.str.inj z) (by decide +kernel)) ⟨rfl,rfl⟩⟩,?_⟩;rintro σ G ⟨rfl,rfl⟩;refine ⟨λσ G=>σ=[some (.str "times"),Sro S,Sio y,Sio x]/\G=upd H S (.lst (st.reverse.map V.int)),⟨_,rfl,rfl,_,rfl,A3u (λz=>absurd (V.str.inj z) (by decide +kernel)) ⟨rfl,rfl⟩⟩,?_⟩;rintro σ G ⟨rfl,rfl⟩;exact ⟨_,rfl,_,rfl,_,_,rfl,rfl,⟨B2s sx,B2s sy⟩,k⟩
theorem B9z {bx:List (Option Int)} {b:Nat} {v:Int} (h:bx[b]? =some (some v)):some v∈bx:=Z13 h
theorem B0a (T:Txt K mg t):FO P w base T.cj 1 B3x:=by
 refine T.cj.F.ok A9n (by walk_at "ln") λ_ A _ s H _ Q E hr h=> ?_
 ·obtain ⟨g,⟨bx,st,tr⟩,m',v,r,b,wh,e,D,rfl,ra,hk,la,iv,w0,hb,hst,ls,lt,k⟩:=h;have lb:=A9o hb;have lb':b<bx.length:=lb;have ls:st.length<=100:=ls;have lt:tr.length<=200:=lt;obtain ⟨p,vs,rfl,hp,rv⟩:=ra;have hb':A6d D bx.length e.1 e.2.1=some b:=hb
  refine ⟨_,(A0h (A1z (A0m A4m (A1h A1o (pv 0) A0f (λ_ _=>rfl)) A1a (A0u _))
    (A0c (A0z (A4p Z0k Z0n Z0o A0w (pv 2) (A0a (A1h A1i (pv 3) (pv 1) (λ_ _=>rfl)) A0b)))
    (A0h (A0z (A4p Z0k Z0n Z0o A0w (pv 4) (A0a (A0y (A0a A1a (A0a (pv 1) A0b))) A0b)))))
    (A0h (A1z (A0m A4m (A1h A1o (pv 0) A0f (λ_ _=>rfl)) A1a (A0u _))
     (A0c (A3h (A5f Z0k PySem.F.slot_list_pop PySem.F.type_list_pop A5x (pv 2)) (B4d (pv 3) (pv 1) A8q))
     (A0h (A0z (A4p Z0k Z0n Z0o A0w (pv 4) (A0a (A0y (A0a A1a (A0a (pv 1) A0b))) A0b)))))
     (A0c (A3h (A0p A1t (A0p A2g (A1h A1i (pv 3) (pv 1) (λ_ _=>rfl)) (A5f Z0k PySem.F.slot_list_pop PySem.F.type_list_pop A5x (pv 2))) (pv 5)) (B4d (pv 3) (pv 1) A8q))
     (A0c (A0z (A4p Z0k Z0n Z0o A0w (pv 4) (A0a (A0y (A0a A1a (A0a (pv 1) A0b))) A0b)))
     (A0h (A0z (A4p Z0k Z0n Z0o A0w (pv 4) (A0a (A0y (A0a A1a (A0a (pv 1) A0b))) A0b)))))))))),?_⟩
  rcases hk with rfl | rfl | rfl
  ·obtain ⟨q,rv,_⟩:=rv;cases (show vs=_ from rv);simp only [A2d,hb'] at hst
   obtain ⟨x,hx⟩:∃x,bx[b]? =some (some x):=by
    cases h2:bx[b]? with
    | none=>simp only [h2] at hst;cases hst
    | some o=>cases o with
     | none=>simp only [h2] at hst;cases hst
     | some x=>exact ⟨x,rfl⟩
   simp only [hx] at hst;cases hst;have xr:=iv.bx x (B9z hx);have xm:x%wh=x:=Int.emod_eq_of_lt xr.1 xr.2;rw [xm] at k;refine ⟨_,rfl,p,_,_,_,rfl,rfl,SqT.of hp,at0,rfl,_,rfl,A3d rfl ?_⟩;refine ⟨_,rfl,.inl ⟨rfl,_,SqL.of la.st⟩,_,rfl,_,rfl,g.b,_,_,.int x,rfl,rfl,SqL.of la.bx,A1f (by rw [Z1z,hx];rfl),g.s,_,_,rfl,rfl,la.st,A1m (by simp;omega),?_⟩;have l1:=la.setS (st':=x::st);rw [List.reverse_cons,Z0s] at l1;have k1:KG g H (upd H g.s (.lst (st.reverse.map V.int++[V.int x]))):=KG.s;have l1:LAt (upd H g.s (.lst (st.reverse.map V.int++[V.int x]))) g ⟨bx,x::st,tr⟩:=l1;generalize upd H g.s (.lst (st.reverse.map V.int++[V.int x]))=G1 at l1 k1⊢;obtain ⟨ts,ht,pt⟩:=l1.tr;refine ⟨_,rfl,.inl ⟨rfl,_,SqL.of ht⟩,_,rfl,A0o rfl,λy hy=> ?_⟩;obtain ⟨G2,s2,f2,eNH⟩:=nH (o:= .tup [.str "read",.int b]) hy;rw [eNH];have ht2:=s2 _ _ ht;refine ⟨g.r,_,_,rfl,rfl,ht2,A1m (by rw [l1.len ht];show tr.length<=_;have:tr.length<=200:=lt;omega),?_⟩;exact k _ (k1.trans ((KG.of s2).trans KG.r)) ((l1.same s2).addT ht2 f2)
  ·obtain ⟨q,rv,_⟩:=rv;cases (show vs=_ from rv);simp only [A2d,hb'] at hst
   cases st with
   | nil=>cases hst
   | cons x st' =>
    cases hst
    have xr:=iv.st x Z27;have xm:x%wh=x:=Int.emod_eq_of_lt xr.1 xr.2;rw [xm] at k;refine ⟨_,rfl,p,_,_,_,rfl,rfl,SqT.of hp,at0,rfl,_,rfl,A3u (λz=>absurd (V.str.inj z) (by decide +kernel)) ?_⟩;refine ⟨_,rfl,p,_,_,_,rfl,rfl,SqT.of hp,at0,rfl,_,rfl,A3d rfl ?_⟩;refine ⟨_,rfl,.inl ⟨rfl,_,SqL.of la.st⟩,g.s,_,_,rfl,rfl,la.st,B8q,?_⟩;rw [B0k];have l1:LAt (upd H g.s (.lst (st'.reverse.map V.int))) g ⟨bx,st',tr⟩:=la.setS (st':=st');have k1:KG g H (upd H g.s (.lst (st'.reverse.map V.int))):=KG.s;generalize upd H g.s (.lst (st'.reverse.map V.int))=G1 at l1 k1⊢;refine ⟨_,rfl,_,rfl,g.b,_,_,b,rfl,rfl,l1.bx,?_,?_⟩
    ·rw [Z08];unfold ixN;rw [Z12 (by omega)];simp [lb']
    have eq:(bx.map enO).set b (.int x)=(bx.set b (some x)).map enO:=by rw [List.map_set];rfl
    rw [eq];have l2:LAt (upd G1 g.b (.lst ((bx.set b (some x)).map enO))) g ⟨bx.set b (some x),st',tr⟩:=l1.setB (bx':=bx.set b (some x));have k2:KG g G1 (upd G1 g.b (.lst ((bx.set b (some x)).map enO))):=KG.b;generalize upd G1 g.b (.lst ((bx.set b (some x)).map enO))=G2 at l2 k2⊢;obtain ⟨ts,ht,pt⟩:=l2.tr;refine ⟨_,rfl,.inl ⟨rfl,_,SqL.of ht⟩,_,rfl,A0o rfl,λy hy=> ?_⟩;obtain ⟨G3,s3,f3,eNH⟩:=nH (o:= .tup [.str "write",.int b]) hy;rw [eNH];have ht2:=s3 _ _ ht;refine ⟨g.r,_,_,rfl,rfl,ht2,A1m (by rw [l2.len ht];show tr.length<=_;have:tr.length<=200:=lt;omega),?_⟩;exact k _ (k1.trans (k2.trans ((KG.of s3).trans KG.r))) ((l2.same s3).addT ht2 f3)
  ·obtain ⟨q,rv,_⟩:=rv;cases (show vs=_ from rv);simp only [A2d,hb'] at hst
   obtain ⟨x,hx⟩:∃x,bx[b]? =some (some x):=by
    cases h2:bx[b]? with
    | none=>simp only [h2] at hst;cases hst
    | some o=>cases o with
     | none=>simp only [h2] at hst;cases hst
     | some x=>exact ⟨x,rfl⟩
   simp only [hx] at hst
   cases st with
   | nil=>cases hst
   | cons z st' =>
    cases hst
    refine ⟨_,rfl,p,_,_,_,rfl,rfl,SqT.of hp,at0,rfl,_,rfl,A3u (λz=>absurd (V.str.inj z) (by decide +kernel)) ?_⟩;refine ⟨_,rfl,p,_,_,_,rfl,rfl,SqT.of hp,at0,rfl,_,rfl,A3u (λz=>absurd (V.str.inj z) (by decide +kernel)) ?_⟩;refine ⟨_,rfl,_,rfl,g.b,_,_,.int x,rfl,rfl,SqL.of la.bx,A1f (by rw [Z1z,hx];rfl),_,rfl,.inl ⟨rfl,_,SqL.of la.st⟩,g.s,_,_,rfl,rfl,la.st,B8q,?_⟩;rw [B0k];have l1:LAt (upd H g.s (.lst (st'.reverse.map V.int))) g ⟨bx,st',tr⟩:=la.setS (st':=st');have k1:KG g H (upd H g.s (.lst (st'.reverse.map V.int))):=KG.s;generalize upd H g.s (.lst (st'.reverse.map V.int))=G1 at l1 k1⊢;refine ⟨_,_,rfl,rfl,_,rfl,_,_,rfl,rfl,w0,_,rfl,_,rfl,g.b,_,_,b,rfl,rfl,l1.bx,?_,?_⟩
    ·rw [Z08];unfold ixN;rw [Z12 (by omega)];simp [lb']
    dsimp only;have eq:(bx.map enO).set b (.int ((x+z)%wh))=(bx.set b (some ((x+z)%wh))).map enO:=by rw [List.map_set];rfl
    rw [eq];have l2:LAt (upd G1 g.b (.lst ((bx.set b (some ((x+z)%wh))).map enO))) g ⟨bx.set b (some ((x+z)%wh)),st',tr⟩:=l1.setB (bx':=bx.set b (some ((x+z)%wh)));have k2:KG g G1 (upd G1 g.b (.lst ((bx.set b (some ((x+z)%wh))).map enO))):=KG.b;generalize upd G1 g.b (.lst ((bx.set b (some ((x+z)%wh))).map enO))=G2 at l2 k2⊢;obtain ⟨ts,ht,pt⟩:=l2.tr;refine ⟨_,rfl,.inl ⟨rfl,_,SqL.of ht⟩,_,rfl,A0o rfl,λy hy=> ?_⟩;obtain ⟨G3,s3,f3,eNH⟩:=nH (o:= .tup [.str "read",.int b]) hy;rw [eNH];have ht2:=s3 _ _ ht;refine ⟨g.r,_,_,rfl,rfl,ht2,A1m (by rw [l2.len ht];show tr.length<=_;have:tr.length<=200:=lt;omega),?_⟩;have l4:LAt (upd G3 g.r (.lst (ts++[.ref y]))) g ⟨bx.set b (some ((x+z)%wh)),st',tr++[(("read":Str),b)]⟩:=(l2.same s3).addT ht2 f3;have k4:KG g G3 (upd G3 g.r (.lst (ts++[.ref y]))):=KG.r;generalize upd G3 g.r (.lst (ts++[.ref y]))=G4 at l4 k4⊢;obtain ⟨ts4,ht4,pt4⟩:=l4.tr;refine ⟨_,rfl,.inl ⟨rfl,_,SqL.of ht4⟩,_,rfl,A0o rfl,λy2 hy2=> ?_⟩;obtain ⟨G5,s5,f5,eNH⟩:=nH (o:= .tup [.str "write",.int b]) hy2;rw [eNH];have ht5:=s5 _ _ ht4;refine ⟨g.r,_,_,rfl,rfl,ht5,A1m (by rw [l4.len ht4];show (tr++[_]).length<=_;rw [Z06];simp;omega),?_⟩;exact k _ (k1.trans (k2.trans ((KG.of s3).trans (k4.trans ((KG.of s5).trans KG.r))))) ((l4.same s5).addT ht5 f5)
theorem at4' {a b c d:V} {i:Int} (h0:0<=i) (h4:i<4):∃v,atI [a,b,c,d] i=some v/\(v=a\/v=b\/v=c\/v=d):=by
 have:i=0\/i=1\/i=2\/i=3:=by omega
 rcases this with rfl | rfl | rfl | rfl
 ·exact ⟨a,rfl,.inl rfl⟩
 ·exact ⟨b,rfl,.inr (.inl rfl)⟩
 ·exact ⟨c,rfl,.inr (.inr (.inl rfl))⟩
 ·exact ⟨d,rfl,.inr (.inr (.inr rfl))⟩
def dT2 (e:Str×Nat):PyData:= .tuple [.str e.1,.int (e.2:Int)]
theorem B6d {e:Str×Nat} (h:PyData.strOk e.1=true):PyData.canLay0 (dT2 e)=true:=by simp [dT2,PyData.canLay0,PyData.canLayAll0,h]
theorem B8o {e:Str×Nat} (h:PyData.strOk e.1=true):SeqAt.shaped (dT2 e)=true:=by
 unfold SeqAt.shaped;rw [B6d h,Bool.true_and];refine Z20 ?_;simp [dT2,PyData.depth,PyData.depthAll]
theorem A8t (T:Txt K mg t):FO P w base T.cb 1 B0x:=by
 refine T.cb.F.ok A5a (by walk_at "ln") λ_ A _ s H _ Q E hr h=> ?_
 ·obtain ⟨c,v,e,rfl,⟨q,z,rfl,hq,hz,l2⟩,k⟩:=h
  refine ⟨_,(A0c (A0t (i:=2) A5a.nd rfl (.inl rfl) (A3n (A0a (A0y (A0a A1a A0b)) (A0a (A0y (A0a A1a (A0a (A1h A1o (pv 1) A0f (λ_ _=>rfl)) (A0a (A0y (A0a (A0y (A0a (C0m B4r A0f) (A0a (A0p A7m A0f A0f) A0b))) (A0a (A0y (A0a (C0m B4r A0f) (A0a A0f A0b))) A0b))) A0b)))) (A0a (A0y (A0a A1a (A0a A0f A0b))) (A0a (A0y (A0a A1a (A0a A0f A0b))) A0b))))))
   (A0h (A0s (A1h A1i (pv 2) (A0p A1t (A0p A5u (pv 0) A0f) A0f) (λ_ _=>rfl))))),?_⟩
  refine ⟨A0o rfl,λa1 h1=> ?_⟩;obtain ⟨H1,s1,f1,eNH⟩:=nH (o:= .tup [.str "times"]) h1;rw [eNH];refine ⟨_,rfl,q,_,_,_,rfl,rfl,SqT.of (s1 _ _ hq),at0,_,rfl,_,_,rfl,rfl,⟨by decide,by decide,by decide⟩,A0o rfl,λa2 h2=> ?_⟩;dsimp only;obtain ⟨H2,s2,f2,eNH⟩:=nH (o:= .tup [.int (-1),.int (10^(31:Int).toNat)]) h2;rw [eNH];refine ⟨_,rfl,A0o rfl,λa3 h3=> ?_⟩;obtain ⟨H3,s3,f3,eNH⟩:=nH (o:= .tup [.int (-1),.int 7]) h3;rw [eNH];refine ⟨A0o rfl,λa4 h4=> ?_⟩;obtain ⟨H4,s4,f4,eNH⟩:=nH (o:= .tup [.ref a2,.ref a3]) h4;rw [eNH];refine ⟨A0o rfl,λa5 h5=> ?_⟩;obtain ⟨H5,s5,f5,eNH⟩:=nH (o:= .tup [.str "load",.str e.1,.ref a4]) h5;rw [eNH];refine ⟨A0o rfl,λa6 h6=> ?_⟩;obtain ⟨H6,s6,f6,eNH⟩:=nH (o:= .tup [.str "jump",.int 0]) h6;rw [eNH];refine ⟨A0o rfl,λa7 h7=> ?_⟩;obtain ⟨H7,s7,f7,eNH⟩:=nH (o:= .tup [.str "push",.int 1]) h7;rw [eNH];refine ⟨A0o rfl,λl hl=> ?_⟩;obtain ⟨H8,s8,f8,eNH⟩:=nH (o:= .lst [.ref a1,.ref a5,.ref a6,.ref a7]) hl;rw [eNH];obtain ⟨v,hv,hc⟩:=at4' (a:=V.ref a1) (b:= .ref a5) (c:= .ref a6) (d:= .ref a7) (i:=c/8%4) (by omega) (by omega);refine ⟨_,rfl,_,rfl,_,_,rfl,rfl,⟨by decide,by decide⟩,_,_,rfl,rfl,C5h,l,_,_,v,rfl,rfl,SqL.of f8,hv,?_⟩;have s28:=s2.trans (s3.trans (s4.trans (s5.trans (s6.trans (s7.trans s8)))));have s58:=s6.trans (s7.trans s8);rcases hc with rfl | rfl | rfl | rfl
  ·exact k a1 .times H8 (s1.trans s28) ⟨a1,_,rfl,s28 _ _ f1,rfl⟩ (.inl rfl)
  ·refine k a5 (.load e.1 [10^(31:Int).toNat,7]) H8 (s1.trans s28) ⟨a5,_,rfl,s58 _ _ f5,a4,rfl,_,(s5.trans s58) _ _ f4,.cons ⟨a2,rfl,(s3.trans (s4.trans (s5.trans s58))) _ _ f2⟩ (.cons ⟨a3,rfl,(s4.trans (s5.trans s58)) _ _ f3⟩ .nil),by simp⟩ (.inr (.inl ⟨_,rfl⟩))
  ·exact k a6 (.jump 0) H8 (s1.trans s28) ⟨a6,_,rfl,(s7.trans s8) _ _ f6,rfl⟩ (.inr (.inr (.inl rfl)))
  ·exact k a7 (.push 1) H8 (s1.trans s28) ⟨a7,_,rfl,s8 _ _ f7,rfl⟩ (.inr (.inr (.inr ⟨_,rfl⟩)))
theorem A6x (T:Txt K mg t):FO P w base T.bn 2 A8c:=by
 have Ga9:= @A7q P w K mg base t T;refine T.bn.F.ok A3w (by walk_at "ln") λ_ A _ s H _ Q E hr h=> ?_
 ·obtain ⟨a,b,bx,rfl,ha,hb,lb,k⟩:=h
  refine ⟨_,(A2a (A1z (PW.pt (B0w (A5d (A4f (A0v A1v (by rfl) T.aj Z0d (A0a (pv 0) (A0a (A4k (v:=V.ty "list") rfl T.dz Z1o rfl) A0b))))) (A7n (A0m B2y (A0v A0r (by rfl) T.bj Z0r (A0a (pv 0) A0b)) (A0v A0r (by rfl) T.bj Z0r (A0a (pv 1) A0b)) (A0u _)))))
    (A0h (A0s A6b))
    A0x)
   (A0c (A7a PassesOwn.never rfl (A3v rfl T.dv (A0a (A0v A0r (by rfl) T.bj Z0r (A0a (pv 1) A0b)) A0b)) (A0l (i:=2) A3w.nd rfl (.inl rfl))
    (A2a (A1z (PW.pt (A5w (A0m A9v (A1h A1i (pv 1) (pv 2) (λ_ _=>rfl)) A3t (A0u _)) (A5r (A0m B1d (A1h A1i (pv 0) (pv 2) (λ_ _=>rfl)) A3t (A0u _)))))
     (A0h (A0s A6b))
     A0x)
    (A0h (A1z (PW.pt (A5w (A0m B1d (A1h A1i (pv 1) (pv 2) (λ_ _=>rfl)) A3t (A0u _)) (A5r (PW.pt (B0w (A5d (A4f (pcl Ga9 hr T.cv (A0a (A1h A1i (pv 0) (pv 2) (λ_ _=>rfl)) A0b)))) (A7n (A0m B2y (A1h A1i (pv 0) (pv 2) (λ_ _=>rfl)) (A1h A1i (pv 1) (pv 2) (λ_ _=>rfl)) (A0u _))))))))
     (A0h (A0s A6b))
     A0x))))
   (A0h (A0s A6b)))),?_⟩
  refine ⟨λσ G=>σ=[Sro a,Sro b,none]/\H=G,?_,?_⟩
  ·refine ⟨_,rfl,_,_,_,_,rfl,A7x.lst ha,A4d "list",true,rfl,A7z ?_⟩;exact ⟨_,rfl,a,_,rfl,.inl (SqL.of ha),_,rfl,b,_,rfl,.inl (SqL.of hb),rfl,_,rfl,A6r (λe=>absurd rfl e) (λ_=>⟨rfl,rfl⟩)⟩
  rintro σ G ⟨rfl,rfl⟩;refine ⟨_,rfl,b,_,rfl,.inl (SqL.of hb),_,rfl,(by rw [Z08];omega),(by rw [Z08];omega),?_⟩;refine A5e (λi σ G=>∃(o2:Option V),σ=[Sro a,Sro b,o2]/\H=G) ⟨none,rfl,rfl⟩ ?_ ?_
  ·rintro i σ G hi ⟨o2,rfl,rfl⟩;have hi:i<bx.length:=by simpa using hi
   have ea:atI (bx.map enO) (0+(i:Int))=some (enO bx[i]):=by rw [Int.zero_add];exact A1f (by rw [Z1z,Z0b hi];rfl)
   cases hx:bx[i] with
   | none =>
    rw [hx] at ea;refine ⟨λσ G=>σ=[Sro a,Sro b,Sio (0+(i:Int))]/\H=G,?_,?_⟩
    ·refine ⟨_,rfl,_,rfl,b,_,_,_,rfl,rfl,SqL.of hb,ea,rfl,_,rfl,A3d rfl ?_⟩;exact ⟨_,rfl,_,rfl,a,_,_,_,rfl,rfl,SqL.of ha,ea,rfl,_,rfl,A6r (λe=>absurd rfl e) (λ_=>⟨rfl,rfl⟩)⟩
    rintro σ G ⟨rfl,rfl⟩;refine ⟨_,rfl,_,rfl,b,_,_,_,rfl,rfl,SqL.of hb,ea,rfl,_,rfl,A6r (λe=>absurd rfl e) (λ_=>A7z ⟨_,rfl,rfl⟩)⟩
   | some v =>
    rw [hx] at ea;refine ⟨λσ G=>σ=[Sro a,Sro b,Sio (0+(i:Int))]/\H=G,?_,?_⟩
    ·refine ⟨_,rfl,_,rfl,b,_,_,_,rfl,rfl,SqL.of hb,ea,rfl,_,rfl,A3u (by intro z;cases z) (A7z ⟨rfl,rfl⟩)⟩
    rintro σ G ⟨rfl,rfl⟩;refine ⟨_,rfl,_,rfl,b,_,_,_,rfl,rfl,SqL.of hb,ea,rfl,_,rfl,A6r (λ_=> ?_) (λe=>by cases e)⟩;refine ⟨_,rfl,_,rfl,a,_,_,_,rfl,rfl,SqL.of ha,ea,v,rfl,true,rfl,A7z ?_⟩;exact ⟨_,rfl,_,rfl,a,_,_,_,rfl,rfl,SqL.of ha,ea,_,rfl,_,rfl,b,_,_,_,rfl,rfl,SqL.of hb,ea,rfl,_,rfl,A6r (λe=>absurd rfl e) (λ_=>⟨_,rfl,rfl⟩)⟩
  ·rintro σ G ⟨o2,rfl,rfl⟩;exact k
theorem A6j (T:Txt K mg t):FO P w base T.bq 2 A8z:=by
 have Ga9:= @A7q P w K mg base t T;refine T.bq.F.ok A2t (by walk_at "ln") λ_ A _ s H _ Q E hr h=> ?_
 ·obtain ⟨a,b,xs,ys,tr,rfl,ha,hb,px,py,lt,sok,k⟩:=h;have lx:=Paired.length px;have ly:=Paired.length py
  refine ⟨_,(A2a (A1z (PW.pt (B0w (A5d (A4f (A0v A1v (by rfl) T.aj Z0d (A0a (pv 0) (A0a (A4k (v:=V.ty "list") rfl T.dz Z1o rfl) A0b))))) (A7n (A0m B2y (A0v A0r (by rfl) T.bj Z0r (A0a (pv 0) A0b)) (A0v A0r (by rfl) T.bj Z0r (A0a (pv 1) A0b)) (A0u _)))))
    (A0h (A0s A6b))
    A0x)
   (A0c (A7a PassesOwn.never rfl (A3v rfl T.dv (A0a (A0v A0r (by rfl) T.bj Z0r (A0a (pv 1) A0b)) A0b)) (A0l (i:=2) A2t.nd rfl (.inl rfl))
    (A0c (A0t (i:=3) A2t.nd rfl (.inl rfl) (A1h A1i (pv 0) (pv 2) (λ_ _=>rfl)))
    (A2a (A1z (PW.pt (B0w (A5d (A4f (A0v A1v (by rfl) T.aj Z0d (A0a (pv 3) (A0a (A4k (v:=V.ty "tuple") rfl T.em Z0m rfl) A0b))))) (B0w (A0m B2y (A0v A0r (by rfl) T.bj Z0r (A0a (pv 3) A0b)) A0f (A0u _)) (A7n (A5d (A4f (A0v A1v (by rfl) T.aj Z0d (A0a (A1h A1o (pv 3) A0f (λ_ _=>rfl)) (A0a (A4k (v:=V.ty "str") rfl T.gH PyProof.Rows.boot_str rfl) A0b)))))))))
     (A0h (A0s A6b))
     A0x)
    (A0h (A1z (PW.pt (B0w (A5d (A4f (pcl Ga9 hr T.cv (A0a (A1h A1o (pv 3) A0f (λ_ _=>rfl)) A0b)))) (A7n (A0m (B6e hr.units) (pv 3) (A1h A1i (pv 1) (pv 2) (λ_ _=>rfl)) (A0u _)))))
     (A0h (A0s A6b))
     A0x)))))
   (A0h (A0s A6b)))),?_⟩
  refine ⟨λσ G=>σ=[Sro a,Sro b,none,none]/\H=G,?_,?_⟩
  ·refine ⟨_,rfl,_,_,_,_,rfl,A7x.lst ha,A4d "list",true,rfl,A7z ?_⟩;exact ⟨_,rfl,a,_,rfl,.inl (SqL.of ha),_,rfl,b,_,rfl,.inl (SqL.of hb),rfl,_,rfl,A6r (λe=>absurd (by rw [lx,ly]) e) (λ_=>⟨rfl,rfl⟩)⟩
  rintro σ G ⟨rfl,rfl⟩;refine ⟨_,rfl,b,_,rfl,.inl (SqL.of hb),_,rfl,by omega,by omega,?_⟩;refine A5e (λi σ G=>∃(o2 o3:Option V),σ=[Sro a,Sro b,o2,o3]/\H=G) ⟨none,none,rfl,rfl⟩ ?_ ?_
  ·rintro i σ G hi ⟨o2,o3,rfl,rfl⟩;have hi:i<ys.length:=by simpa using hi
   obtain ⟨x,hx⟩:∃x,xs[i]? =some x:=⟨_,Z0b (by omega)⟩;obtain ⟨y,hy⟩:∃y,ys[i]? =some y:=⟨_,Z0b hi⟩;obtain ⟨e,he,p,rfl,hp⟩:=C0a px hx;obtain ⟨e',he',q,rfl,hq⟩:=C0a py hy;rw [he] at he';cases he';have so:=sok e (Z13 he);have ea:atI xs (0+(i:Int))=some (.ref p):=by rw [Int.zero_add];exact A1f hx
   have eb:atI ys (0+(i:Int))=some (.ref q):=by rw [Int.zero_add];exact A1f hy
   refine ⟨_,rfl,_,rfl,a,_,_,_,rfl,rfl,SqL.of ha,ea,?_⟩;refine ⟨λσ G=>σ=[Sro a,Sro b,Sio (0+(i:Int)),Sro p]/\H=G,?_,?_⟩
   ·refine ⟨_,rfl,_,_,_,_,rfl,A7x.tup hp,A4d "tuple",true,rfl,A7z ?_⟩;refine ⟨_,rfl,p,_,rfl,.inr (SqT.of hp),rfl,_,rfl,A6r (λe=>absurd rfl e) (λ_=> ?_)⟩;exact ⟨_,rfl,p,_,_,_,rfl,rfl,SqT.of hp,at0,_,_,_,_,rfl,A7x.str e.1,A4d "str",true,rfl,A7z ⟨rfl,rfl⟩⟩
   rintro σ G ⟨rfl,rfl⟩;refine ⟨_,rfl,p,_,_,_,rfl,rfl,SqT.of hp,A1f (j:=1) rfl,_,rfl,true,rfl,A7z ?_⟩;refine ⟨_,rfl,_,rfl,_,rfl,b,_,_,_,rfl,rfl,SqL.of hb,eb,dT2 e,dT2 e,.tup hp (.cons (.str _) (.cons (.int _) .nil)),.tup hq (.cons (.str _) (.cons (.int _) .nil)),B8o so,B8o so,_,rfl,?_⟩;show if (!PyData.eqv (dT2 e) (dT2 e))=true then _ else _
   rw [SeqAt.eqv_refl _ (B6d so)];exact A7z ⟨_,_,rfl,rfl⟩
  ·rintro σ G ⟨o2,o3,rfl,rfl⟩;exact k
theorem B4q (T:Txt K mg t):FO P w base T.fi 3 B9h:=by
 have Gb0:= @A6x P w K mg base t T;have Gb1:= @A6j P w K mg base t T;refine T.fi.F.ok B4g (by walk_at "ln") λ_ A _ s H _ Q E hr h=> ?_
 ·obtain ⟨p,a,b,c,d,bx,xs,ys,tr,rfl,hp,ha,hc,lb,hb,hd,px,py,lt,sok,k⟩:=h
  refine ⟨_,(A2a (A1z (PW.pt (B0w (A5d (A4f (A0v A1v (by rfl) T.aj Z0d (A0a (pv 0) (A0a (A4k (v:=V.ty "tuple") rfl T.em Z0m rfl) A0b))))) (A7n (A0m B2y (A0v A0r (by rfl) T.bj Z0r (A0a (pv 0) A0b)) A0f (A0u _)))))
    (A0h (A0s A6b))
    A0x)
   (A0h (A0s (B8w (pcl Gb0 hr T.bn (A0a (A1h A1o (pv 0) A0f (λ_ _=>rfl)) (A0a (pv 1) A0b))) (B8l (pcl Gb1 hr T.bq (A0a (A1h A1o (pv 0) A0f (λ_ _=>rfl)) (A0a (pv 2) A0b)))))))),?_⟩
  refine ⟨λσ G=>σ=[Sro p,Sro c,Sro d]/\H=G,?_,?_⟩
  ·refine ⟨_,rfl,_,_,_,_,rfl,A7x.tup hp,A4d "tuple",true,rfl,A7z ?_⟩;exact ⟨_,rfl,p,_,rfl,.inr (SqT.of hp),rfl,_,rfl,A6r (λe=>absurd rfl e) (λ_=>⟨rfl,rfl⟩)⟩
  rintro σ G ⟨rfl,rfl⟩;refine ⟨_,rfl,p,_,_,_,rfl,rfl,SqT.of hp,at0,_,rfl,a,c,bx,rfl,ha,hc,lb,true,rfl,C3d ?_⟩;exact ⟨_,rfl,p,_,_,_,rfl,rfl,SqT.of hp,A1f (j:=1) rfl,_,rfl,b,d,xs,ys,tr,rfl,hb,hd,px,py,lt,sok,k⟩
def B8d (tr:List (Str×Nat)):Prop:=∀e∈tr,e.1="read"\/e.1="write"
theorem B8d.add {tr:List (Str×Nat)} {x:Str} {b:Nat} (h:B8d tr) (hx:x="read"\/x="write"):B8d (tr++[(x,b)]):=λe he=>by
 rcases Z07.mp he with z | z
 ·exact h e z
 ·rw [Z0w.mp z];exact hx
theorem B8u {wh x:Int} {bx:List (Option Int)} {b:Nat} (h:C1k wh bx) (hx:0<=x/\x<wh):C1k wh (bx.set b (some x)):=λv hv=>by
 rcases List.mem_or_eq_of_mem_set hv with z | z
 ·exact h v z
 ·cases z;exact hx
theorem md {x wh:Int} (h:0<wh):0<=x%wh/\x%wh<wh:=⟨Z1v _ (by omega),Z1p _ h⟩
theorem B8g {wh:Int} (w0:0<wh) {D:List (Str×Hm)} {m m':Mc} {r:Ro} {to:Option Nat} (iv:InV wh m) (tk:B8d m.tr) (h:A2d wh D m r= .nx m' to):InV wh m'/\B8d m'.tr:=by
 obtain ⟨bx,st,tr⟩:=m;have cons:∀{x:Int} {s:List Int},(0<=x/\x<wh)->(∀y∈s,0<=y/\y<wh)->∀y∈x::s,0<=y/\y<wh:=λhx hs y hy=>(Z0e.mp hy).elim (λe=>by rw [e];exact hx) (hs y)
 cases r with
 | push n=>cases h;exact ⟨⟨iv.bx,cons (md w0) iv.st⟩,tk⟩
 | jump n=>cases h;exact ⟨iv,tk⟩
 | plus=>cases st with
  | nil=>cases h
  | cons a s=>cases s with
   | nil=>cases h
   | cons b s=>cases h;exact ⟨⟨iv.bx,cons (md w0) λy hy=>iv.st y (Z1f _ (Z1f _ hy))⟩,tk⟩
 | minus=>cases st with
  | nil=>cases h
  | cons a s=>cases s with
   | nil=>cases h
   | cons b s=>cases h;exact ⟨⟨iv.bx,cons (md w0) λy hy=>iv.st y (Z1f _ (Z1f _ hy))⟩,tk⟩
 | times=>cases st with
  | nil=>cases h
  | cons a s=>cases s with
   | nil=>cases h
   | cons b s=>cases h;exact ⟨⟨iv.bx,cons (md w0) λy hy=>iv.st y (Z1f _ (Z1f _ hy))⟩,tk⟩
 | skip a ix n =>
  simp only [A2d] at h
  cases hh:A5c D a ix with
  | none=>rw [hh] at h;cases h;exact ⟨iv,tk⟩
  | some z=>rw [hh] at h;cases h;exact ⟨iv,tk⟩
 | load a ix =>
  simp only [A2d] at h
  cases hb:A6d D bx.length a ix with
  | none=>simp only [hb] at h;cases h
  | some b =>
   simp only [hb] at h
   cases hv:bx[b]? with
   | none=>simp only [hv] at h;cases h
   | some o=>cases o with
    | none=>simp only [hv] at h;cases h
    | some v=>simp only [hv] at h;cases h;exact ⟨⟨iv.bx,cons (md w0) iv.st⟩,tk.add (.inl rfl)⟩
 | store a ix =>
  simp only [A2d] at h
  cases hb:A6d D bx.length a ix with
  | none=>simp only [hb] at h;cases h
  | some b =>
   simp only [hb] at h
   cases st with
   | nil=>cases h
   | cons x s=>cases h;exact ⟨⟨B8u iv.bx (md w0),λy hy=>iv.st y (Z1f _ hy)⟩,tk.add (.inr rfl)⟩
 | gather a ix =>
  simp only [A2d] at h
  cases hb:A6d D bx.length a ix with
  | none=>simp only [hb] at h;cases h
  | some b =>
   simp only [hb] at h
   cases hv:bx[b]? with
   | none=>simp only [hv] at h;cases h
   | some o=>cases o with
    | none=>simp only [hv] at h;cases h
    | some v =>
     simp only [hv] at h
     cases st with
     | nil=>cases h
     | cons x s=>cases h;exact ⟨⟨B8u iv.bx (md w0),λy hy=>iv.st y (Z1f _ hy)⟩,(tk.add (.inl rfl)).add (.inr rfl)⟩
def Ran (wh:Int) (D:List (Str×Hm)) (T:List Ro) (i:Nat) (m0 m:Mc):Prop:=∀(rest:List Ro) (f:Nat),A8e wh D (T++rest) (f+i) 0 m0=A8e wh D (T++rest) f T.length m
theorem C5w {wh:Int} {D:List (Str×Hm)} {tp:List Ro} {pl f:Nat} {m m':Mc} {r:Ro} {to:Option Nat} (h:tp[pl]? =some r) (e:A2d wh D m r= .nx m' to):A8e wh D tp (f+1) pl m=A8e wh D tp f (to.getD (pl+1)) m':=by
 have:=(Z03.mp h).1;show (if pl=tp.length then _ else _)=_;rw [Z0t (by omega)];simp only [h,e]
theorem B9c {T rest:List Ro} {r:Ro}:(T++(r::rest))[T.length]? =some r:=by rw [Z1l (Z09 _),Nat.sub_self];rfl
theorem Ran.row {wh:Int} {D:List (Str×Hm)} {T:List Ro} {i:Nat} {m0 m m':Mc} {r:Ro} (h:Ran wh D T i m0 m) (e:A2d wh D m r= .nx m' none):Ran wh D (T++[r]) (i+1) m0 m':=λrest f=>by
 rw [Z0z,List.singleton_append,show f+(i+1)=f+1+i by omega,h (r::rest) (f+1),C5w B9c e,Z06];rfl
theorem Ran.jump {wh:Int} {D:List (Str×Hm)} {T:List Ro} {i:Nat} {m0 m:Mc} {r:Ro} (h:Ran wh D T i m0 m):Ran wh D (T++[.jump (T.length+2)]++[r]) (i+1) m0 m:=λrest f=>by
 rw [Z0z,Z0z,List.singleton_append,List.singleton_append,show f+(i+1)=f+1+i by omega,h (.jump (T.length+2)::r::rest) (f+1),C5w B9c (m':=m) (to:=some (T.length+2)) rfl];show A8e wh D _ f (T.length+2) m=A8e wh D _ f (T++[Ro.jump (T.length+2)]++[r]).length m;rw [Z06,Z06];rfl
theorem Ran.good {wh:Int} {D:List (Str×Hm)} {T:List Ro} {i:Nat} {m0 m:Mc} (h:Ran wh D T i m0 m):A8e wh D T i 0 m0= .good m:=by
 have:=h [] 0;rw [Z0u,Nat.zero_add] at this;rw [this];show (if T.length=T.length then _ else _)=_;rw [Z12 rfl]
theorem B7f {wh:Int} {D:List (Str×Hm)} {m:Mc} {b:Nat} {e:Pl} {r:Ro} (h:C0u m b e r) (hb:A6d D m.bx.length e.1 e.2.1=some b) (nj:r≠.jump 0):∃m',A2d wh D m r= .nx m' none:=by
 obtain ⟨bx,st,tr⟩:=m;have hb:A6d D bx.length e.1 e.2.1=some b:=hb;rcases h with ⟨n,rfl⟩ | rfl | ⟨l2,rfl | rfl | rfl⟩ | ⟨rfl,v,hv⟩ | ⟨rfl,hs⟩ | ⟨rfl,hs,v,hv⟩
 ·exact ⟨_,rfl⟩
 ·exact absurd rfl nj
 ·cases st with
  | nil=>exact absurd l2 (by simp)
  | cons a s=>cases s with
   | nil=>exact absurd l2 (by simp)
   | cons b s=>exact ⟨_,rfl⟩
 ·cases st with
  | nil=>exact absurd l2 (by simp)
  | cons a s=>cases s with
   | nil=>exact absurd l2 (by simp)
   | cons b s=>exact ⟨_,rfl⟩
 ·cases st with
  | nil=>exact absurd l2 (by simp)
  | cons a s=>cases s with
   | nil=>exact absurd l2 (by simp)
   | cons b s=>exact ⟨_,rfl⟩
 ·have hv:bx[b]? =some (some v):=hv;exact ⟨⟨bx,v%wh::st,tr++[(("read":Str),b)]⟩,by simp only [A2d,hb,hv]⟩
 ·cases st with
  | nil=>exact absurd rfl hs
  | cons x s=>exact ⟨⟨bx.set b (some (x%wh)),s,tr++[(("write":Str),b)]⟩,by simp only [A2d,hb]⟩
 ·have hv:bx[b]? =some (some v):=hv
  cases st with
  | nil=>exact absurd rfl hs
  | cons x s=>exact ⟨⟨bx.set b (some ((v+x)%wh)),s,tr++[(("read":Str),b)]++[(("write":Str),b)]⟩,by simp only [A2d,hb,hv]⟩
theorem C3c {wh x:Int} (h:0<=x/\x<wh) (w3:wh<=10^30):Sm x:=by unfold Sm;omega
theorem cutI (ns:List Int) (lo hi:Option Int):∃cs:List Int,C1j (ns.map V.int) lo hi=cs.map V.int/\cs.length<=ns.length:=by
 refine ⟨(ns.drop (HT.sIx ns.length 0 lo)).take (HT.sIx ns.length ns.length hi-HT.sIx ns.length 0 lo),?_,?_⟩
 ·unfold C1j;rw [Z08,List.map_take,List.map_drop]
 ·rw [Z0x,List.length_drop];omega
theorem div3 (c:Int) {n:Nat} (h:0<n):∃k:Nat,c%(n:Int)=(k:Int)/\k<n:=by
 have h1:=Z1v c (show (n:Int)≠0 by omega);have h2:=Z1p c (show (0:Int)<n by omega);exact ⟨(c%n).toNat,by omega,by omega⟩
structure C4r (D:List (Str×Hm)) (n:Nat) (e:Pl):Prop where
 ar:∀ix,C2j D e.1 ix
 bx:∃b:Nat,e.2.2=(b:Int)/\A6d D n e.1 e.2.1=some b
def B5t (K:Frag):Sp:=λvs H Q _=>∃(sc PL bl:Addr) (ns:List Int) (wh:Int) (ps:List V) (es:List Pl) (bx:List (Option Int)) (D:List (Str×Hm)),vs=[.ref sc,.int wh,.ref PL,.ref bl]/\SqL K H sc (ns.map V.int)/\ns.length<=63/\H PL=some (.lst ps)/\PL≠bl/\Paired (B5l H) ps es/\0<es.length/\es.length<=70/\(∀e∈es,C4r D bx.length e)/\H bl=some (.lst (bx.map enO))/\C1k wh bx/\(0<wh/\wh<=10^30)/\
 ∀(p tp R:Addr) (xs vs:List V) (T:List Ro) (m:Mc) (n:Nat) (H':Hp),(∀b o,b≠bl->H b=some o->H' b=some o)->H tp=none->H R=none->tp≠R->H' p=some (.tup [.ref tp,.ref R,.int n])->H' tp=some (.lst xs)->Paired (A9f H') xs T->H' R=some (.lst vs)->Paired (TrP H') vs m.tr->H' bl=some (.lst (m.bx.map enO))->m.bx.length=bx.length->(∀r∈T,B5z D r)->T.length<=200->n<=63->m.tr.length<=200->B8d m.tr->
  A8e wh D T n 0 ⟨bx,[],[]⟩= .good m->Q (.ref p) H'
def KP (tp:Addr) (g:Mh) (H H':Hp):Prop:=∀b o,b≠tp->b≠g.b->b≠g.s->b≠g.r->H b=some o->H' b=some o
theorem KP.of {tp:Addr} {g:Mh} {H H':Hp} (s:A1p H H'):KP tp g H H':=λ_ _ _ _ _ _ e=>s _ _ e
theorem KP.kg {tp:Addr} {g:Mh} {H H':Hp} (k:KG g H H'):KP tp g H H':=λb o _ n1 n2 n3 e=>k b o n1 n2 n3 e
theorem KP.trans {tp:Addr} {g:Mh} {H H' H2:Hp} (a:KP tp g H H') (b:KP tp g H' H2):KP tp g H H2:=λc o n0 n1 n2 n3 e=>b c o n0 n1 n2 n3 (a c o n0 n1 n2 n3 e)
theorem KP.tz {tp:Addr} {g:Mh} {H:Hp} {o:HO}:KP tp g H (upd H tp o):=λb u n _ _ _ e=>by rw [A0e n];exact e
theorem LAt.tape {H:Hp} {g:Mh} {m:Mc} {tp:Addr} {o:HO} {xs:List V} (h:LAt H g m) (ht:H tp=some (.lst xs)) (n1:tp≠g.b) (n2:tp≠g.s) (n3:tp≠g.r):LAt (upd H tp o) g m:=by
 obtain ⟨vs,hr,pr⟩:=h.tr;exact ⟨by rw [A0e n1.symm];exact h.bx,by rw [A0e n2.symm];exact h.st,⟨vs,by rw [A0e n3.symm];exact hr,Paired.tr (A2f ht) pr⟩,h.n1,h.n2,h.n3⟩
theorem LAt.ktup {H H':Hp} {g:Mh} {m:Mc} (h:LAt H g m) (k:KG g H H'):∀p ys,H p=some (.tup ys)->H' p=some (.tup ys):=λp ys e=>by
 obtain ⟨vs,ht,_⟩:=h.tr;exact k _ _ (A1g e h.bx (by intro z;cases z)) (A1g e h.st (by intro z;cases z)) (A1g e ht (by intro z;cases z)) e
theorem C2p {D:List (Str×Hm)} {n:Nat} {e:Pl} {m:Mc} {b:Nat} {r:Ro} (po:C4r D n e) (h:C0u m b e r):B5z D r:=by
 rcases h with ⟨n,rfl⟩ | rfl | ⟨_,rfl | rfl | rfl⟩ | ⟨rfl,_⟩ | ⟨rfl,_⟩ | ⟨rfl,_⟩ <;> first | trivial | exact po.ar _
structure PlSt (wh:Int) (D:List (Str×Hm)) (bx:List (Option Int)) (B G:Hp) (tp:Addr) (g:Mh) (T:List Ro) (m:Mc) (xs:List V) (i:Nat):Prop where
 kp:KP tp g B G
 tp:G tp=some (.lst xs)
 pr:Paired (A9f G) xs T
 la:LAt G g m
 iv:InV wh m
 bl:m.bx.length=bx.length
 ls:m.st.length<=i
 lr:m.tr.length<=2*i
 lt:T.length<=2*i
 ok:∀r∈T,B5z D r
 tk:B8d m.tr
theorem B1i (T:Txt K mg t):FO P w base T.dk 3 (B5t K):=by
 have Gb2:= @B0a P w K mg base t T;have Gb3:= @B5r P w K mg base t T;have Gb4:= @B0z P w K mg base t T;have Gb5:= @A8t P w K mg base t T;refine T.dk.F.ok A1c (by walk_at "ln") λ_ A _ s H _ Q E hr h=> ?_
 ·obtain ⟨sc,PL,bl,ns,wh,ps,es,bx,D,rfl,hS,ln,hPL,npb,pp,e0,e7,po,hbl,bo,wp,k⟩:=h;have lp:=Paired.length pp
  refine ⟨_,(A0c (A0t (i:=4) A1c.nd rfl (.inl rfl) (A3n A0b))
   (A0c (A0t (i:=5) A1c.nd rfl (.inl rfl) (A3n A0b))
   (A0c (A0t (i:=6) A1c.nd rfl (.inl rfl) (A3n A0b))
   (A0c (A0t (i:=7) A1c.nd rfl (.inl rfl) A0f)
   (A0c (A7a PassesOwn.never rfl (B4a (B7l B9i (pv 0) (B6j A0f) (B6j A0f))) (A0l (i:=8) A1c.nd rfl (.inl rfl))
    (A0c (A0t (i:=9) A1c.nd rfl (.inl rfl) (A1h A1i (pv 2) (A0p A1t (A0p A5u (pv 8) A0f) (A0v A0r (by rfl) T.bj Z0r (A0a (pv 2) A0b))) (λ_ _=>rfl)))
    (A0c (A0t (i:=10) A1c.nd rfl (.inl rfl) (pcl Gb4 hr T.dj (A0a (pv 8) (A0a (pv 5) (A0a (pv 9) (A0a (pv 3) A0b))))))
    (A0c (A0t (i:=7) A1c.nd rfl (.inl rfl) (A0p A2g (pv 7) A0f))
    (A2a (A1z (A0m A4m (A1h A1o (pv 10) A0f (λ_ _=>rfl)) A1a (A0u _))
     (A0c (A0z (A4p Z0k Z0n Z0o A0w (pv 4) (A0a (A0y (A0a A1a (A0a (A0p A2g (A0v A0r (by rfl) T.bj Z0r (A0a (pv 4) A0b)) A0f) A0b))) A0b)))
     (A0h (A0t (i:=10) A1c.nd rfl (.inl rfl) (pcl Gb5 hr T.cb (A0a (pv 8) (A0a (pv 9) A0b))))))
     (A0h (A1z (A0m A4m (A1h A1o (pv 10) A0f (λ_ _=>rfl)) A1a (A0u _))
      (A0h (A0z (A4p Z0k Z0n Z0o A0w (pv 5) (A0a (A0p A1t (A1h A1o (pv 10) A0f (λ_ _=>rfl)) (pv 1)) A0b))))
      (A0h (A1z (A0m A4m (A0v A0r (by rfl) T.bj Z0r (A0a (pv 10) A0b)) A0f (A0u _))
       (A0h (A0z (A4p Z0k Z0n Z0o A0w (pv 5) (A0a (A0p A1t (pcl Gb3 hr T.eu (A0a (A1h A1o (pv 10) A0f (λ_ _=>rfl)) (A0a (pv 5) A0b))) (pv 1)) A0b))))
       (A0h (A0z (pcl Gb2 hr T.cj (A0a (pv 10) (A0a (A1h A1o (pv 9) A0f (λ_ _=>rfl)) (A0a (pv 5) (A0a (pv 3) (A0a (pv 6) (A0a (pv 1) A0b))))))))))))))
    (A0h (A0z (A4p Z0k Z0n Z0o A0w (pv 4) (A0a (pv 10) A0b)))))))))
   (A0h (A0s (A0y (A0a (pv 4) (A0a (pv 6) (A0a (pv 7) A0b))))))))))),?_⟩
  refine ⟨A0o rfl,λtp htp=> ?_⟩;obtain ⟨H1,s1,f1,eNH⟩:=nH (o:= .lst []) htp;rw [eNH];refine ⟨A0o rfl,λS hSS=> ?_⟩;obtain ⟨H2,s2,f2,eNH⟩:=nH (o:= .lst []) hSS;have n21:tp≠S:=A0g f1 hSS;rw [eNH];refine ⟨A0o rfl,λR hR=> ?_⟩;obtain ⟨H3,s3,f3,eNH⟩:=nH (o:= .lst []) hR;have n31:tp≠R:=A0g (s2 _ _ f1) hR;have n32:S≠R:=A0g f2 hR;rw [eNH];have s13:=s1.trans (s2.trans s3);obtain ⟨cs,ecs,lcs⟩:=cutI ns (some 5) (some 63);refine ⟨_,rfl,_,rfl,_,rfl,sc,_,rfl,s13.seq hS,λcl hcl=> ?_⟩;rw [ecs];obtain ⟨B,s4,f4,eNH⟩:=nH (o:= .lst (cs.map V.int)) hcl;have c1:cl≠tp:=(A0g ((s2.trans s3) _ _ f1) hcl).symm;have c2:cl≠S:=(A0g (s3 _ _ f2) hcl).symm;have c3:cl≠R:=(A0g f3 hcl).symm;have c4:cl≠bl:=(A0g (s13 _ _ hbl) hcl).symm;rw [eNH];have tH:H tp=none:=htp;have SH:H S=none:=s1.free hSS;have RH:H R=none:=(s1.trans s2).free hR;have ntb:tp≠bl:=λz=>by rw [z,hbl] at tH;cases tH
  have nsb:S≠bl:=λz=>by rw [z,hbl] at SH;cases SH
  have nrb:R≠bl:=λz=>by rw [z,hbl] at RH;cases RH
  have sB:=s13.trans s4;obtain ⟨g,hg⟩:∃g:Mh,g=⟨0,bl,S,R,0,0⟩:=⟨_,rfl⟩;have gb:g.b=bl:=by rw [hg]
  have gs:g.s=S:=by rw [hg]
  have gr:g.r=R:=by rw [hg]
  have la0:LAt B g ⟨bx,[],[]⟩:=by rw [hg];exact ⟨sB _ _ hbl,(s3.trans s4) _ _ f2,⟨[],s4 _ _ f3,.nil⟩,nsb.symm,nrb.symm,n32⟩
  clear hg;refine ⟨cl,rfl,⟨_,SqL.of f4⟩,?_⟩;have keep:∀{G:Hp},KP tp g B G->G cl=some (.lst (cs.map V.int)):=λkp=>kp _ _ c1 (by rw [gb];exact c4) (by rw [gs];exact c2) (by rw [gr];exact c3) f4;have keepP:∀{G:Hp},KP tp g B G->G PL=some (.lst ps):=λkp=>kp _ _ (λz=>by rw [z,tH] at hPL;cases hPL) (by rw [gb];exact npb) (by rw [gs];exact λz=>by rw [z,SH] at hPL;cases hPL) (by rw [gr];exact λz=>by rw [z,RH] at hPL;cases hPL) (sB _ _ hPL)
  have keepT:∀{G:Hp} {xs:List V},KP tp g B G->∀p ys,B p=some (.tup ys)->G p=some (.tup ys):=λkp p ys e=>by
   obtain ⟨vs,ht,_⟩:=la0.tr;exact kp _ _ (A1g e ((s2.trans (s3.trans s4)) _ _ f1) (by intro z;cases z)) (A1g e la0.bx (by intro z;cases z)) (A1g e la0.st (by intro z;cases z)) (A1g e ht (by intro z;cases z)) e
  refine B1p (K:=K) (a:=cl) (xs:=cs.map V.int) (λi σ G=>∃(o8 o9 o10:Option V) (xs:List V) (T:List Ro) (m:Mc),σ=[Sro sc,Sio wh,Sro PL,Sro bl,Sro tp,Sro S,Sro R,Sio (i:Nat),o8,o9,o10]/\PlSt wh D bx B G tp g T m xs i/\Ran wh D T i ⟨bx,[],[]⟩ m)
   ⟨none,none,none,[],[],_,rfl,⟨KP.of (A1p.refl _),(s2.trans (s3.trans s4)) _ _ f1,.nil,la0,⟨bo,λx hx=>nomatch hx⟩,rfl,Z09 _,Z09 _,Z09 _,(λr hr=>nomatch hr),(λe he=>nomatch he)⟩,λrest f=>rfl⟩ (by rintro i σ G _ ⟨_,_,_,_,_,_,_,ps',_⟩;exact SqL.of (keep ps'.kp)) ?_ ?_
  ·rintro i y σ G hy ⟨o8,o9,o10,xs,T',m,rfl,ps',rn⟩;obtain ⟨c,hc,rfl⟩:=B1q hy;have hi:i<63:=by have:=(Z03.mp hc).1;omega
   obtain ⟨q,hq,hqn⟩:=div3 (c/24) e0;obtain ⟨e,he⟩:∃e,es[q]? =some e:=⟨_,Z0b hqn⟩;obtain ⟨v,hv⟩:∃v,ps[q]? =some v:=⟨_,Z0b (by omega)⟩;obtain ⟨e',he',pl⟩:=C0a pp hv;rw [he] at he';cases he';have poe:=po e (Z13 he);obtain ⟨b,eb,hbx⟩:=poe.bx;have plG:B5l G v e:=(pl.kt λ_ _ z=>sB _ _ z).kt (keepT (xs:=[]) ps'.kp);have hPG:=keepP ps'.kp;have la:=ps'.la;have lla:G S=some (.lst (m.st.reverse.map V.int)):=by rw [<-gs];exact la.st
   have hblG:G bl=some (.lst (m.bx.map enO)):=by rw [<-gb];exact la.bx
   have hbm:A6d D m.bx.length e.1 e.2.1=some b:=by rw [ps'.bl];exact hbx
   refine ⟨_,rfl,_,rfl,_,_,rfl,rfl,⟨by decide,by decide⟩,_,rfl,PL,_,rfl,.inl (SqL.of hPG),_,_,rfl,rfl,(by show (0:Int)<(ps.length:Int);omega),PL,_,_,v,rfl,rfl,SqL.of hPG,?_,?_⟩
   ·rw [lp,hq];exact A1f hv
   refine ⟨_,rfl,_,rfl,_,rfl,_,rfl,c,S,bl,v,e,m,b,rfl,lla,plG,hblG,eb,A9o hbm,λrp r G1 sG1 ra ro=> ?_⟩;have la1:=la.same sG1;have tp1:=sG1 _ _ ps'.tp;have pr1:=Paired.mapP ps'.pr λ_ _ z=>z.kt λ_ _ y=>sG1 _ _ y;have kp1:=ps'.kp.trans (KP.of sG1);refine ⟨_,rfl,_,_,rfl,rfl,?_⟩;have lxs:xs.length=T'.length:=Paired.length ps'.pr;have hls:=ps'.ls;have hlr:=ps'.lr;have hlt:=ps'.lt;refine ⟨λσ G2=>∃(xs0:List V) (T0:List Ro) (m':Mc) (p':Addr) (r':Ro),σ=[Sro sc,Sio wh,Sro PL,Sro bl,Sro tp,Sro S,Sro R,Sio ((i:Nat)+1),Sio c,some v,Sro p']/\KP tp g B G2/\G2 tp=some (.lst xs0)/\Paired (A9f G2) xs0 T0/\LAt G2 g m'/\InV wh m'/\m'.bx.length=bx.length/\m'.st.length<=i+1/\m'.tr.length<=2*(i+1)/\T0.length<=2*i+1/\(∀r∈T0,B5z D r)/\B8d m'.tr/\A9f G2 (.ref p') r'/\B5z D r'/\Ran wh D (T0++[r']) (i+1) ⟨bx,[],[]⟩ m',?_,?_⟩
   ·
    have done:∀(m':Mc) (G2:Hp),r≠.jump 0->A2d wh D m r= .nx m' none->KG g G1 G2->LAt G2 g m'->∃(xs0:List V) (T0:List Ro) (m':Mc) (p':Addr) (r':Ro),([some (.ref sc),some (.int wh),some (.ref PL),some (.ref bl),some (.ref tp),some (.ref S),some (.ref R),some (.int ((i:Nat)+1)),some (.int c),some v,some (.ref rp)]:St)=[some (.ref sc),some (.int wh),some (.ref PL),some (.ref bl),some (.ref tp),some (.ref S),some (.ref R),some (.int ((i:Nat)+1)),some (.int c),some v,some (.ref p')]/\KP tp g B G2/\G2 tp=some (.lst xs0)/\Paired (A9f G2) xs0 T0/\LAt G2 g m'/\InV wh m'/\m'.bx.length=bx.length/\m'.st.length<=i+1/\m'.tr.length<=2*(i+1)/\T0.length<=2*i+1/\(∀r∈T0,B5z D r)/\B8d m'.tr/\A9f G2 (.ref p') r'/\B5z D r'/\Ran wh D (T0++[r']) (i+1) ⟨bx,[],[]⟩ m':=λm' G2 _ hst kg l2=>by
     obtain ⟨q1,q2,q3⟩:=B1s hst;obtain ⟨i1,i2⟩:=B8g wp.1 ps'.iv ps'.tk hst;have kt:=la1.ktup kg;exact ⟨xs,T',m',rp,r,rfl,kp1.trans (KP.kg kg),kg _ _ (by rw [gb];exact ntb) (by rw [gs];exact n21) (by rw [gr];exact n31) tp1,Paired.mapP pr1 (λ_ _ z=>z.kt kt),l2,i1,q3.trans ps'.bl,by omega,by omega,by omega,ps'.ok,i2,ra.kt kt,C2p poe ro,rn.row hst⟩
    have iv:=ps'.iv;obtain ⟨pp',vs,rfl',hpp,rv⟩:=id ra;cases rfl';have hS1:G1 S=some (.lst (m.st.reverse.map V.int)):=sG1 _ _ lla;have lS:(m.st.reverse.map V.int).length<=1000:=by rw [Z08,List.length_reverse];omega
    have sets:∀st':List Int,LAt (upd G1 S (.lst (st'.reverse.map V.int))) g { m with st:=st' }/\KG g G1 (upd G1 S (.lst (st'.reverse.map V.int))):=λst'=>by
     have l:=la1.setS (st':=st');have kk:KG g G1 (upd G1 g.s (.lst (st'.reverse.map V.int))):=KG.s;rw [gs] at l kk;exact ⟨l,kk⟩
    have wne:∀{x y:Str},(x == y)=false->¬(V.str x=V.str y):=λh z=>by
     injection z with z;rw [z] at h;simp at h
    have two:2<=m.st.length->∃x y st,m.st=y::x::st:=λl2=>by
     cases h1:m.st with
     | nil=>rw [h1] at l2;exact absurd l2 (by simp)
     | cons y s=>cases h2:s with
      | nil=>rw [h1,h2] at l2;exact absurd l2 (by simp)
      | cons x s=>exact ⟨x,y,s,rfl⟩
    have pairs:(r= .plus\/r= .minus\/r= .times)->2<=m.st.length->vs=[.str (opW r)]->∃(x y:Int) (st:List Int),m.st=y::x::st/\Sm x/\Sm y/\A2d wh D m r= .nx { m with st:=opF r x y%wh::st } none:=λho l2 hvs=>by
     obtain ⟨x,y,st,e1⟩:=two l2;have sx:=C3c (iv.st x (by rw [e1];exact Z1f _ Z27)) wp.2;have sy:=C3c (iv.st y (by rw [e1];exact Z27)) wp.2;refine ⟨x,y,st,e1,sx,sy,?_⟩;obtain ⟨mb,ms,mt⟩:=m;have e1:ms=y::x::st:=e1;subst e1;rcases ho with rfl | rfl | rfl <;> rfl
    obtain ⟨hq',zq,ev,hhq,hzq,_⟩:=id (plG.kt λ_ _ z=>sG1 _ _ z);subst ev;rcases id ro with ⟨n,rfl⟩ | rfl | ⟨l2,ho⟩ | hbox
    ·cases (show vs=_ from rv)
     refine ⟨_,rfl,rp,_,_,_,rfl,rfl,SqT.of hpp,at0,rfl,_,rfl,A3u (wne (by decide +kernel)) ?_⟩;refine ⟨_,rfl,rp,_,_,_,rfl,rfl,SqT.of hpp,at0,rfl,_,rfl,A3d rfl ?_⟩;refine ⟨_,rfl,.inl ⟨rfl,_,SqL.of hS1⟩,_,rfl,rp,_,_,_,rfl,rfl,SqT.of hpp,A1f (j:=1) rfl,_,rfl,_,_,rfl,rfl,wp.1,S,_,_,rfl,rfl,hS1,A1m (by omega),?_⟩;obtain ⟨l1,k1⟩:=sets (n%wh::m.st);rw [List.reverse_cons,Z0s] at l1 k1;exact done _ _ (by intro z;cases z) rfl k1 l1
    ·cases (show vs=_ from rv)
     refine ⟨_,rfl,rp,_,_,_,rfl,rfl,SqT.of hpp,at0,rfl,_,rfl,A3d rfl ?_⟩;refine ⟨_,rfl,.inl ⟨rfl,_,SqL.of tp1⟩,_,rfl,tp,_,rfl,.inl (SqL.of tp1),_,_,rfl,rfl,A0o rfl,λy hy=> ?_⟩;dsimp only;rw [show (xs.length:Int)+2=((T'.length+2:Nat):Int) by rw [lxs];rfl];obtain ⟨G2,v1,g1,eNH⟩:=nH (o:= .tup [.str "jump",.int ((T'.length+2:Nat):Int)]) hy;rw [eNH];have tp2:=v1 _ _ tp1;refine ⟨tp,_,_,rfl,rfl,tp2,A1m (by omega),?_⟩;have kt3:=A2f (o:= .lst (xs++[.ref y])) tp2;have la3:=(la1.same v1).tape (o:= .lst (xs++[.ref y])) tp2 (by rw [gb];exact ntb) (by rw [gs];exact n21) (by rw [gr];exact n31);have kp3:KP tp g B (upd G2 tp (.lst (xs++[.ref y]))):=kp1.trans ((KP.of v1).trans KP.tz);have tp3:upd G2 tp (.lst (xs++[.ref y])) tp=some (.lst (xs++[.ref y])):=A0d;have pr3:Paired (A9f (upd G2 tp (.lst (xs++[.ref y])))) (xs++[.ref y]) (T'++[.jump (T'.length+2)]):=Paired.snoc ⟨y,_,rfl,kt3 _ _ g1,rfl⟩ (Paired.mapP pr1 λ_ _ z=>z.kt λ_ _ q=>kt3 _ _ (v1 _ _ q));have pl3:=((plG.kt λ_ _ z=>sG1 _ _ z).kt λ_ _ z=>v1 _ _ z).kt kt3;generalize upd G2 tp (.lst (xs++[.ref y]))=G3 at la3 kp3 tp3 pr3 pl3⊢;refine ⟨_,rfl,_,rfl,c,.ref hq',e,rfl,pl3,λp2 r2 G4 s4 ra2 hr2=> ?_⟩;refine ⟨xs++[.ref y],T'++[.jump (T'.length+2)],m,p2,r2,rfl,kp3.trans (KP.of s4),s4 _ _ tp3,Paired.mapP pr3 (λ_ _ z=>z.kt λ_ _ q=>s4 _ _ q),la3.same s4,iv,ps'.bl,by omega,by omega,by simp;omega,(λr hr=> ?_),ps'.tk,ra2,?_,rn.jump⟩
     ·rcases Z07.mp hr with z | z
      ·exact ps'.ok r z
      ·rw [Z0w.mp z];trivial
     ·rcases hr2 with rfl | ⟨ix,rfl⟩ | rfl | ⟨n,rfl⟩
      ·trivial
      ·exact poe.ar ix
      ·trivial
      ·trivial
    ·have hvs:vs=[.str (opW r)]:=by rcases ho with rfl | rfl | rfl <;> exact rv
     have nj:r≠.jump 0:=by rcases ho with rfl | rfl | rfl <;> intro z <;> cases z
     obtain ⟨x,y,st,e1,sx,sy,hst⟩:=pairs ho l2 hvs;subst hvs;have w1:¬(V.str (opW r)=V.str "jump"):=by rcases ho with rfl | rfl | rfl <;> exact wne (by decide +kernel)
     have w2:¬(V.str (opW r)=V.str "push"):=by rcases ho with rfl | rfl | rfl <;> exact wne (by decide +kernel)
     refine ⟨_,rfl,rp,_,_,_,rfl,rfl,SqT.of hpp,at0,rfl,_,rfl,A3u w1 ?_⟩;refine ⟨_,rfl,rp,_,_,_,rfl,rfl,SqT.of hpp,at0,rfl,_,rfl,A3u w2 ?_⟩;refine ⟨_,rfl,rp,_,rfl,.inr (SqT.of hpp),rfl,_,rfl,A3d rfl ?_⟩;rw [e1] at hS1;refine ⟨_,rfl,.inl ⟨rfl,_,SqL.of hS1⟩,_,rfl,rp,_,_,_,rfl,rfl,SqT.of hpp,at0,_,rfl,S,r,x,y,st,rfl,hS1,sx,sy,ho,_,rfl,_,_,rfl,rfl,wp.1,S,_,_,rfl,rfl,A0d,A1m (by rw [e1] at lS;simp at lS⊢;omega),?_⟩;rw [B0r];obtain ⟨l1,k1⟩:=sets (opF r x y%wh::st);rw [List.reverse_cons,Z0s] at l1 k1;exact done _ _ nj hst k1 l1
    ·have hk:r= .load e.1 e.2.1\/r= .store e.1 e.2.1\/r= .gather e.1 e.2.1:=by
      rcases hbox with ⟨h,_⟩ | ⟨h,_⟩ | ⟨h,_⟩
      ·exact .inl h
      ·exact .inr (.inl h)
      ·exact .inr (.inr h)
     have nj:r≠.jump 0:=by rcases hk with rfl | rfl | rfl <;> intro z <;> cases z
     obtain ⟨m',hst⟩:=B7f (wh:=wh) ro hbm nj
     obtain ⟨wd,qa,hvs,w1,w2⟩:∃(wd:Str) (qa:Addr),vs=[.str wd,.str e.1,.ref qa]/\¬(V.str wd=V.str "jump")/\¬(V.str wd=V.str "push"):=by
      rcases hk with rfl | rfl | rfl
      ·obtain ⟨qa,h,_⟩:=rv;exact ⟨_,qa,h,wne (by decide +kernel),wne (by decide +kernel)⟩
      ·obtain ⟨qa,h,_⟩:=rv;exact ⟨_,qa,h,wne (by decide +kernel),wne (by decide +kernel)⟩
      ·obtain ⟨qa,h,_⟩:=rv;exact ⟨_,qa,h,wne (by decide +kernel),wne (by decide +kernel)⟩
     subst hvs;refine ⟨_,rfl,rp,_,_,_,rfl,rfl,SqT.of hpp,at0,rfl,_,rfl,A3u w1 ?_⟩;refine ⟨_,rfl,rp,_,_,_,rfl,rfl,SqT.of hpp,at0,rfl,_,rfl,A3u w2 ?_⟩;refine ⟨_,rfl,rp,_,rfl,.inr (SqT.of hpp),rfl,_,rfl,A3u (by intro z;injection z with z;have z:(3:Int)=1:=z;omega) ?_⟩;refine ⟨_,rfl,_,rfl,hq',_,_,.int e.2.2,rfl,rfl,SqT.of hhq,A1f (j:=2) rfl,_,rfl,_,rfl,_,rfl,_,rfl,g,m,m',.ref rp,r,b,wh,e,D,(by rw [gs,gb,gr,eb];rfl),ra,hk,la1,iv,wp.1,hbm,hst,by omega,by omega,λG2 k2 l2=>done m' G2 nj hst k2 l2⟩
   ·rintro σ G2 ⟨xs0,T0,m',p',r',rfl,kp2,tp2,pr2,l2,i2,b2,q1,q2,q3,ok2,tk2,ra2,ro2,rn2⟩;have lx0:=Paired.length pr2;refine ⟨_,rfl,.inl ⟨rfl,_,SqL.of tp2⟩,_,rfl,tp,_,_,rfl,rfl,tp2,A1m (by omega),?_⟩;have kt3:=A2f (o:= .lst (xs0++[.ref p'])) tp2;refine ⟨some (.int c),some v,some (.ref p'),xs0++[.ref p'],T0++[r'],m',rfl,⟨kp2.trans KP.tz,A0d,Paired.snoc (ra2.kt kt3) (Paired.mapP pr2 λ_ _ z=>z.kt kt3),l2.tape tp2 (by rw [gb];exact ntb) (by rw [gs];exact n21) (by rw [gr];exact n31),i2,b2,q1,q2,by simp;omega,(λr hr=> ?_),tk2⟩,rn2⟩;rcases Z07.mp hr with z | z
    ·exact ok2 r z
    ·rw [Z0w.mp z];exact ro2
  ·rintro σ G ⟨o8,o9,o10,xs,T',m,rfl,ps',rn⟩;rw [Z08] at ps' rn;have la:=ps'.la;obtain ⟨vs,hr',pt⟩:=la.tr;have h1:=ps'.ls;have h2:=ps'.lr;have h3:=ps'.lt;refine ⟨_,rfl,_,rfl,_,rfl,A0o rfl,λp hp=> ?_⟩;rw [Z08];have s5:A1p G (upd G p (.tup [.ref tp,.ref R,.int (cs.length:Nat)])):=A0q hp;have kH:∀b o,b≠bl->H b=some o->upd G p (.tup [.ref tp,.ref R,.int (cs.length:Nat)]) b=some o:=λb o nb e=>s5 _ _ (ps'.kp b o (λz=>by rw [z,tH] at e;cases e) (by rw [gb];exact nb) (by rw [gs];exact λz=>by rw [z,SH] at e;cases e) (by rw [gr];exact λz=>by rw [z,RH] at e;cases e) (sB _ _ e));refine k p tp R xs vs T' m cs.length _ kH tH RH n31 A0d (s5 _ _ ps'.tp) (Paired.mapP ps'.pr λ_ _ z=>z.kt λ_ _ q=>s5 _ _ q) (s5 _ _ (by rw [<-gr];exact hr')) (Paired.tr (λ_ _ z=>s5 _ _ z) pt) (s5 _ _ (by rw [<-gb];exact la.bx)) ps'.bl ps'.ok (by omega) (by omega) (by omega) ps'.tk rn.good
def plL (c n:Int) (j:Nat):List Pl:=(List.range j).map (plc c n)
def sel (x:Str) (es:List Pl):Hm:=(es.filter λe=>decide (e.1=x)).map (·.2)
def B0p (es:List Pl):List (Str×Hm):=[("all",sel "all" es),("row",sel "row" es),("col",sel "col" es)]
theorem A6e {c n:Int} {j:Nat}:plL c n (j+1)=plL c n j++[plc c n j]:=by unfold plL;rw [List.range_succ,Z0s];rfl
theorem A7c {c n:Int} {j:Nat}:(plL c n j).length=j:=by unfold plL;rw [Z08,List.length_range]
theorem A6o {c n:Int} {j:Nat} {e:Pl} (h:e∈plL c n j):∃k,k<j/\e=plc c n k:=by
 obtain ⟨k,hk,rfl⟩:=Z2c.mp h;exact ⟨k,List.mem_range.mp hk,rfl⟩
theorem A3r {x:Str} {es fs:List Pl}:sel x (es++fs)=sel x es++sel x fs:=by unfold sel;rw [List.filter_append,Z0s]
theorem B5v {e:Pl}:sel e.1 [e]=[e.2]:=by unfold sel;simp
theorem A6w {x:Str} {e:Pl} (h:e.1≠x):sel x [e]=[]:=by unfold sel;simp [h]
theorem A9c {x:Str} {es:List Pl} {y:List Int×Int} (h:y∈sel x es):(x,y)∈es:=by
 obtain ⟨e,he,rfl⟩:=Z2c.mp h;obtain ⟨h1,h2⟩:=List.mem_filter.mp he;have:=of_decide_eq_true h2;subst this;exact h1
theorem nar:("all":Str)≠"row":=by decide
theorem nac:("all":Str)≠"col":=by decide
theorem nrc:("row":Str)≠"col":=by decide
theorem B1y (c n:Int) (k:Nat):(plc c n k).1="all"\/(plc c n k).1="row"\/(plc c n k).1="col":=by
 unfold plc;split
 ·exact .inl rfl
 ·split
  ·exact .inr (.inl rfl)
  ·exact .inr (.inr rfl)
theorem B9x (c n:Int) (k:Nat):(plc c n k).2.2=((k:Int)+c)%n:=by
 unfold plc;split
 ·rfl
 ·split <;> rfl
theorem B2e (P:Program) (w:World) {c n:Int} {j i:Nat} (hj:j<100) (hi:i<100) (hn:(plc c n j).1=(plc c n i).1) (hh:A4n P w ((plc c n j).2.1.map Sum.inl)=A4n P w ((plc c n i).2.1.map Sum.inl)):j=i:=by
 unfold plc at hn hh;by_cases j0:j=0
 ·by_cases i0:i=0
  ·omega
  ·rw [Z12 j0,Z0t i0] at hn;split at hn
   ·exact absurd hn nar
   ·exact absurd hn nac
 ·by_cases i0:i=0
  ·rw [Z0t j0,Z12 i0] at hn;split at hn
   ·exact absurd hn.symm nar
   ·exact absurd hn.symm nac
  ·rw [Z0t j0,Z0t i0] at hn hh;by_cases j1:j%2=1
   ·by_cases i1:i%2=1
    ·rw [Z12 j1,Z12 i1] at hh;have:=B7t P w (x:=B0q c+j) (y:=B0q c+i) (by omega) (by omega) hh;omega
    ·rw [Z12 j1,Z0t i1] at hn;exact absurd hn nrc
   ·by_cases i1:i%2=1
    ·rw [Z0t j1,Z12 i1] at hn;exact absurd hn.symm nrc
    ·rw [Z0t j1,Z0t i1] at hh;have:=(B6w P w (a:=(j:Int)%4) (b:=(i:Int)%4) (x:=B0q c-j) (y:=B0q c-i) (by omega) (by omega) (by omega) (by omega) hh).2;omega
theorem B4l (P:Program) (w:World) {c n:Int} {j i:Nat} (hj:j<100) (hi:i<100) (hn:(plc c n j).1=(plc c n i).1) (hh:(plc c n j).2.1=(plc c n i).2.1):j=i:=B2e P w hj hi hn (by rw [hh])
theorem B0f (P:Program) (w:World) {c n:Int} (x:Str):∀{j:Nat},j<100->((kvT (sel x (plL c n j))).map λe=>A4n P w e.1).Nodup
 | 0,_=>by unfold plL sel kvT;simp
 | j+1,hj=>by
  have ih:=B0f P w (c:=c) (n:=n) x (j:=j) (by omega);rw [A6e,A3r];by_cases hx:(plc c n j).1=x
  ·subst hx;rw [B5v];unfold kvT at ih⊢;rw [Z0s,Z0s];refine List.nodup_append.mpr ⟨ih,by simp,λa ha b hb=> ?_⟩;rw [Z0p,List.map_nil,Z0p,List.map_nil,Z0w] at hb;obtain ⟨u,hu,rfl⟩:=Z2c.mp ha;obtain ⟨y,hy,rfl⟩:=Z2c.mp hu;obtain ⟨k,hk,ek⟩:=A6o (A9c hy);intro z;rw [hb] at z;have:=B2e P w (c:=c) (n:=n) (j:=k) (i:=j) (by omega) (by omega) (by rw [<-ek]) (by rw [<-ek];exact z);omega
  ·rw [A6w hx,Z0u];exact ih
theorem C0b {l m:Hm}:kvT (l++m)=kvT l++kvT m:=by unfold kvT;rw [Z0s]
theorem B9r (P:Program) (w:World) {c n:Int} {j:Nat} (hj:j<99):A6s (kvT (sel (plc c n j).1 (plL c n j))) ((plc c n j).2.1.map Sum.inl) (.int (plc c n j).2.2)=kvT (sel (plc c n j).1 (plL c n (j+1))):=by
 have:((kvT (sel (plc c n j).1 (plL c n j))).any λkv=>decide (kv.1=(plc c n j).2.1.map Sum.inl))=false:=by
  rw [List.any_eq_false];intro u hu;obtain ⟨y,hy,rfl⟩:=Z2c.mp hu;obtain ⟨k,hk,ek⟩:=A6o (A9c hy);intro z;have z:=B9f.mp (of_decide_eq_true z);have:=B4l P w (c:=c) (n:=n) (j:=k) (i:=j) (by omega) (by omega) (by rw [<-ek]) (by rw [<-ek];exact z);omega
 unfold A6s;rw [this,Z0t Z0v,A6e,A3r,B5v,C0b];rfl
theorem B9y {es:List Pl} {x:Str} (h:x="all"\/x="row"\/x="col"):hmL (B0p es) x=some (sel x es):=by
 rcases h with rfl | rfl | rfl <;> simp [hmL,B0p,nar,nac,nrc,nar.symm,nac.symm,nrc.symm]
theorem B4b {c n:Int} {x:Str} {j:Nat} {y:List Int×Int} (hn:0<n) (h:y∈sel x (plL c n j)):0<=y.2/\y.2<n:=by
 obtain ⟨k,hk,ek⟩:=A6o (A9c h);have:=B9x c n k;rw [<-ek] at this;dsimp only at this;rw [this];exact ⟨Z1v _ (by omega),Z1p _ hn⟩
theorem B5n {l:Hm} {ix:List Int} {h:Int} (e:hmI l ix=some h):(ix,h)∈l:=by
 unfold hmI at e
 cases hf:l.find? λe=>decide (e.1=ix) with
 | none=>rw [hf] at e;cases e
 | some y =>
  rw [hf] at e;cases e;have:=of_decide_eq_true (List.find?_some (p:=λe:List Int×Int=>decide (e.1=ix)) hf);subst this;exact List.mem_of_find?_eq_some hf
theorem B9m {l:Hm} {y:List Int×Int} (h:y∈l):∃v,hmI l y.1=some v:=by
 unfold hmI
 cases hf:l.find? λe=>decide (e.1=y.1) with
 | none=>exact absurd (List.find?_eq_none.mp hf y h) (by simp)
 | some z=>exact ⟨_,rfl⟩
theorem C4d (P:Program) (w:World) {c:Int} {n j:Nat} (hn:0<n) (h60:n<=60) (hj:j<100):∀e∈plL c n j,C4r (B0p (plL c n j)) n e:=by
 intro e he;obtain ⟨k,hk,rfl⟩:=A6o he;have nm:=B1y c n k;have hm:=B9y (es:=plL c n j) nm;refine ⟨λix=>⟨by rw [hm];rfl,by rcases nm with z | z | z <;> rw [z] <;> exact ⟨by decide,by decide +kernel⟩,λh eh=> ?_⟩,?_⟩
 ·unfold A5c at eh;rw [hm] at eh;have:=B4b (c:=c) (n:=n) (by omega) (B5n eh);dsimp only at this;unfold Sm;have:h.natAbs<=60:=by omega
  exact Z1n this (by decide)
 ·have hm2:(plc c n k).2∈sel (plc c n k).1 (plL c n j):=Z2c.mpr ⟨_,List.mem_filter.mpr ⟨he,by simp⟩,rfl⟩;obtain ⟨v,hv⟩:=B9m hm2;obtain ⟨i,hi,ei⟩:=A6o (A9c (B5n hv));have:i=k:=B4l P w (c:=c) (n:=n) (by omega) (by omega) (by rw [<-ei]) (by rw [<-ei]);subst this;have ev:v=(plc c n i).2.2:=by rw [<-ei]
  have bd:=B4b (c:=c) (n:=n) (by omega) hm2;refine ⟨(plc c n i).2.2.toNat,by omega,?_⟩;unfold A6d A5c;rw [hm];show ((hmI (sel (plc c n i).1 (plL c n j)) (plc c n i).2.1).bind _)=_;rw [hv,ev];show (if 0<=(plc c n i).2.2/\(plc c n i).2.2<(n:Int) then some (plc c n i).2.2.toNat else none)=_;rw [Z12 bd]
def dIx (i:Int):PyData:= .tuple [.int (-1),.int i]
def dRo:Ro->PyData
 | .push n=> .tuple [.str "push",.int n]
 | .plus=> .tuple [.str "plus"]
 | .minus=> .tuple [.str "minus"]
 | .times=> .tuple [.str "times"]
 | .load a ix=> .tuple [.str "load",.str a,.tuple (ix.map dIx)]
 | .store a ix=> .tuple [.str "store",.str a,.tuple (ix.map dIx)]
 | .gather a ix=> .tuple [.str "gather",.str a,.tuple (ix.map dIx)]
 | .skip a ix to=> .tuple [.str "skip",.str a,.tuple (ix.map dIx),.int to]
 | .jump to=> .tuple [.str "jump",.int to]
def dBx:Option Int->PyData
 | none=> .none
 | some v=> .int v
theorem A6g {H:Hp} {α:Type} {F:V->α->Prop} {d:α->PyData} (f:∀v r,F v r->Rep H v (d r)):∀{vs:List V} {rs:List α},Paired F vs rs->B7j H vs (rs.map d)
 | _,_,.nil=> .nil
 | _,_,.cons a b=> .cons (f _ _ a) (A6g f b)
theorem B2f {H:Hp} {q:Addr} {ix:List Int} (h:IxT H q ix):Rep H (.ref q) (.tuple (ix.map dIx)):=by
 obtain ⟨vs,hq,pr,_⟩:=h;refine .tup hq (A6g (λv i z=> ?_) pr);obtain ⟨p,rfl,hp⟩:=z;exact .tup hp (.cons (.int _) (.cons (.int _) .nil))
theorem B8s {H:Hp} {v:V} {r:Ro} (h:A9f H v r):Rep H v (dRo r):=by
 obtain ⟨p,vs,rfl,hp,h⟩:=h
 cases r with
 | push n=>have h:vs=[.str "push",.int n]:=h;subst h;exact .tup hp (.cons (.str _) (.cons (.int _) .nil))
 | plus=>have h:vs=[.str "plus"]:=h;subst h;exact .tup hp (.cons (.str _) .nil)
 | minus=>have h:vs=[.str "minus"]:=h;subst h;exact .tup hp (.cons (.str _) .nil)
 | times=>have h:vs=[.str "times"]:=h;subst h;exact .tup hp (.cons (.str _) .nil)
 | load a ix=>obtain ⟨q,rfl,hq⟩:=h;exact .tup hp (.cons (.str _) (.cons (.str _) (.cons (B2f hq) .nil)))
 | store a ix=>obtain ⟨q,rfl,hq⟩:=h;exact .tup hp (.cons (.str _) (.cons (.str _) (.cons (B2f hq) .nil)))
 | gather a ix=>obtain ⟨q,rfl,hq⟩:=h;exact .tup hp (.cons (.str _) (.cons (.str _) (.cons (B2f hq) .nil)))
 | skip a ix to=>obtain ⟨q,rfl,hq⟩:=h;exact .tup hp (.cons (.str _) (.cons (.str _) (.cons (B2f hq) (.cons (.int _) .nil))))
 | jump to=>have h:vs=[.str "jump",.int to]:=h;subst h;exact .tup hp (.cons (.str _) (.cons (.int _) .nil))
theorem A8h {α:Type} {d:α->PyData}:∀{l:List α},(∀x∈l,(d x).canLay0=true)->PyData.canLayAll0 (l.map d)=true
 | [],_=>rfl
 | x::l,h=>by
  rw [Z0p];simp only [PyData.canLayAll0,Bool.and_eq_true];exact ⟨h x (by simp),A8h λy hy=>h y (by simp [hy])⟩
theorem A8y {α:Type} {d:α->PyData} {n:Nat}:∀{l:List α},(∀x∈l,(d x).depth<=n)->PyData.depthAll (l.map d)<=n
 | [],_=>Z1e _
 | x::l,h=>by
  rw [Z0p];simp only [PyData.depthAll];have h1:=h x (by simp);have h2:=A8y (d:=d) (n:=n) (l:=l) λy hy=>h y (by simp [hy]);omega
theorem B1r (ix:List Int):PyData.canLayAll0 (ix.map dIx)=true:=A8h λ_ _=>by simp [dIx,PyData.canLay0,PyData.canLayAll0]
theorem B1t (ix:List Int):PyData.depthAll (ix.map dIx)<=5:=A8y λ_ _=>by simp [dIx,PyData.depth,PyData.depthAll]
theorem C2k {D:List (Str×Hm)} {r:Ro} (h:B5z D r):(dRo r).canLay0=true:=by
 have s1:PyData.strOk "push"=true:=by decide +kernel
 have s2:PyData.strOk "plus"=true:=by decide +kernel
 have s3:PyData.strOk "minus"=true:=by decide +kernel
 have s4:PyData.strOk "times"=true:=by decide +kernel
 have s5:PyData.strOk "load"=true:=by decide +kernel
 have s6:PyData.strOk "store"=true:=by decide +kernel
 have s7:PyData.strOk "gather"=true:=by decide +kernel
 have s8:PyData.strOk "skip"=true:=by decide +kernel
 have s9:PyData.strOk "jump"=true:=by decide +kernel
 cases r with
 | load a ix=>simp [dRo,PyData.canLay0,PyData.canLayAll0,B1r,s5,h.2.1.2]
 | store a ix=>simp [dRo,PyData.canLay0,PyData.canLayAll0,B1r,s6,h.2.1.2]
 | gather a ix=>simp [dRo,PyData.canLay0,PyData.canLayAll0,B1r,s7,h.2.1.2]
 | skip a ix to=>simp [dRo,PyData.canLay0,PyData.canLayAll0,B1r,s8,h.2.1.2]
 | _=>simp [dRo,PyData.canLay0,PyData.canLayAll0,s1,s2,s3,s4,s9]
theorem C2o (r:Ro):(dRo r).depth<=20:=by
 cases r with
 | load a ix=>have:=B1t ix;simp [dRo,PyData.depth,PyData.depthAll];omega
 | store a ix=>have:=B1t ix;simp [dRo,PyData.depth,PyData.depthAll];omega
 | gather a ix=>have:=B1t ix;simp [dRo,PyData.depth,PyData.depthAll];omega
 | skip a ix to=>have:=B1t ix;simp [dRo,PyData.depth,PyData.depthAll];omega
 | _=>simp [dRo,PyData.depth,PyData.depthAll]
theorem B2v {H:Hp} {a b:Addr} {xs:List V} {T:List Ro} {D:List (Str×Hm)} (ha:H a=some (.lst xs)) (hb:H b=some (.lst xs)) (pr:Paired (A9f H) xs T) (ok:∀r∈T,B5z D r):A6i H (.ref a) (.ref b):=by
 refine .inl (.inl ⟨.list (T.map dRo),.lst ha (A6g (λ_ _ z=>B8s z) pr),.lst hb (A6g (λ_ _ z=>B8s z) pr),?_,?_⟩)
 ·simp only [PyData.canLay0];exact A8h λr hr=>C2k (ok r hr)
 ·simp only [PyData.depth];have:=A8y (d:=dRo) (n:=20) (l:=T) λr _=>C2o r;omega
theorem A8b {H:Hp}:∀{bx:List (Option Int)},B7j H (bx.map enO) (bx.map dBx)
 | []=> .nil
 | none::bx=> .cons .non A8b
 | some v::bx=> .cons (.int v) A8b
theorem B7q {H:Hp} {a b:Addr} {bx:List (Option Int)} (ha:H a=some (.lst (bx.map enO))) (hb:H b=some (.lst (bx.map enO))):A6i H (.ref a) (.ref b):=by
 refine .inl (.inl ⟨.list (bx.map dBx),.lst ha A8b,.lst hb A8b,?_,?_⟩)
 ·simp only [PyData.canLay0];exact A8h λr _=>by cases r <;> simp [dBx,PyData.canLay0]
 ·simp only [PyData.depth];have:=A8y (d:=dBx) (n:=20) (l:=bx) λr _=>by cases r <;> simp [dBx,PyData.depth]
  omega
def ksD (a1 a2 a3:Addr):List (Key×V):=[(.inr "all",.ref a1),(.inr "row",.ref a2),(.inr "col",.ref a3)]
structure Hs (G:Hp) (hm a1 a2 a3:Addr) (es:List Pl):Prop where
 hm:G hm=some (.dK (ksD a1 a2 a3))
 h1:G a1=some (.dT (kvT (sel "all" es)))
 h2:G a2=some (.dT (kvT (sel "row" es)))
 h3:G a3=some (.dT (kvT (sel "col" es)))
 n12:a1≠a2
 n13:a1≠a3
 n23:a2≠a3
theorem iar:(Sum.inr ("all":Str):Key)≠Sum.inr ("row":Str):=λz=>nar (by injection z)
theorem iac:(Sum.inr ("all":Str):Key)≠Sum.inr ("col":Str):=λz=>nac (by injection z)
theorem irc:(Sum.inr ("row":Str):Key)≠Sum.inr ("col":Str):=λz=>nrc (by injection z)
theorem C5q {a1 a2 a3:Addr}:some (V.ref a1)=A7k (ksD a1 a2 a3) (Sum.inr "all"):=by simp [A7k,ksD]
theorem C5t {a1 a2 a3:Addr}:some (V.ref a2)=A7k (ksD a1 a2 a3) (Sum.inr "row"):=by simp [A7k,ksD,nar,nac,nrc]
theorem C5r {a1 a2 a3:Addr}:some (V.ref a3)=A7k (ksD a1 a2 a3) (Sum.inr "col"):=by simp [A7k,ksD,nar,nac,nrc]
theorem Hs.up {G G':Hp} {hm a1 a2 a3:Addr} {es:List Pl} (h:Hs G hm a1 a2 a3 es) (f:∀b o,b=hm\/b=a1\/b=a2\/b=a3->G b=some o->G' b=some o):Hs G' hm a1 a2 a3 es :=
 ⟨f _ _ (.inl rfl) h.hm,f _ _ (.inr (.inl rfl)) h.h1,f _ _ (.inr (.inr (.inl rfl))) h.h2,f _ _ (.inr (.inr (.inr rfl))) h.h3,h.n12,h.n13,h.n23⟩
theorem Hs.put {G:Hp} {hm a1 a2 a3:Addr} {es:List Pl} (h:Hs G hm a1 a2 a3 es) (e:Pl) (he:e.1="all"\/e.1="row"\/e.1="col") :
  ∃a,C1g G hm (.str e.1) (some (.ref a))/\G a=some (.dT (kvT (sel e.1 es)))/\(a=a1\/a=a2\/a=a3)/\Hs (upd G a (.dT (kvT (sel e.1 (es++[e]))))) hm a1 a2 a3 (es++[e]):=by
 have m1:hm≠a1:=A1g h.hm h.h1 (by intro z;cases z);have m2:hm≠a2:=A1g h.hm h.h2 (by intro z;cases z);have m3:hm≠a3:=A1g h.hm h.h3 (by intro z;cases z);rcases he with he | he | he
 ·have r:sel "row" (es++[e])=sel "row" es:=by rw [A3r,A6w (by rw [he];exact nar),Z0u]
  have c:sel "col" (es++[e])=sel "col" es:=by rw [A3r,A6w (by rw [he];exact nac),Z0u]
  rw [he];exact ⟨a1,.inl ⟨_,Sum.inr "all",.inl h.hm,rfl,C5q⟩,h.h1,.inl rfl,by rw [A0e m1];exact h.hm,A0d,by rw [A0e h.n12.symm,r];exact h.h2,by rw [A0e h.n13.symm,c];exact h.h3,h.n12,h.n13,h.n23⟩
 ·have r:sel "all" (es++[e])=sel "all" es:=by rw [A3r,A6w (by rw [he];exact nar.symm),Z0u]
  have c:sel "col" (es++[e])=sel "col" es:=by rw [A3r,A6w (by rw [he];exact nrc),Z0u]
  rw [he];exact ⟨a2,.inl ⟨_,Sum.inr "row",.inl h.hm,rfl,C5t⟩,h.h2,.inr (.inl rfl),by rw [A0e m2];exact h.hm,by rw [A0e h.n12,r];exact h.h1,A0d,by rw [A0e h.n23.symm,c];exact h.h3,h.n12,h.n13,h.n23⟩
 ·have r:sel "all" (es++[e])=sel "all" es:=by rw [A3r,A6w (by rw [he];exact nac.symm),Z0u]
  have c:sel "row" (es++[e])=sel "row" es:=by rw [A3r,A6w (by rw [he];exact nrc.symm),Z0u]
  rw [he];exact ⟨a3,.inl ⟨_,Sum.inr "col",.inl h.hm,rfl,C5r⟩,h.h3,.inr (.inr rfl),by rw [A0e m3];exact h.hm,by rw [A0e h.n13,r];exact h.h1,by rw [A0e h.n23,c];exact h.h2,A0d,h.n12,h.n13,h.n23⟩
theorem C3w {a1 a2 a3:Addr} {es:List Pl} {G:Hp} (h1:G a1=some (.dT (kvT (sel "all" es)))) (h2:G a2=some (.dT (kvT (sel "row" es)))) (h3:G a3=some (.dT (kvT (sel "col" es)))) {j:Nat} {k:Key} {v:V} (h:(ksD a1 a2 a3)[j]? =some (k,v)) :
  ∃x a,k= .inr x/\some (V.ref a)=A7k (ksD a1 a2 a3) (Sum.inr x)/\G a=some (.dT (kvT (sel x es)))/\(B0p es)[j]? =some (x,sel x es)/\∀e∈(B0p es).take j,e.1≠x:=by
 have:j=0\/j=1\/j=2:=by have:=(Z03.mp h).1;simp [ksD] at this;omega
 rcases this with rfl | rfl | rfl
 ·simp [ksD] at h;obtain ⟨rfl,rfl⟩:=h;exact ⟨_,_,rfl,C5q,h1,rfl,by intro e he;simp at he⟩
 ·simp [ksD] at h;obtain ⟨rfl,rfl⟩:=h;refine ⟨_,_,rfl,C5t,h2,rfl,?_⟩;intro e he;simp [B0p] at he;rw [he];exact nar
 ·simp [ksD] at h;obtain ⟨rfl,rfl⟩:=h;refine ⟨_,_,rfl,C5r,h3,rfl,?_⟩;intro e he;simp [B0p] at he;rcases he with he | he
  ·rw [he];exact nac
  ·rw [he];exact nrc
theorem A6c {kvs:List (Key×V)} {k:Key} {v:V} (h:∀e∈kvs,e.1≠k):A6s kvs k v=kvs++[(k,v)]:=by
 unfold A6s;rw [Z0t];intro z;obtain ⟨e,he,ez⟩:=List.any_eq_true.mp z;exact h e he (of_decide_eq_true ez)
theorem C2e {α β:Type} {F:α->β->Prop}:∀{l:List α} {m:List β},Paired F l m->∀{x:α},x∈l->∃y,y∈m/\F x y
 | _,_,.cons r t,x,h=>by
  rcases Z0e.mp h with rfl | h
  ·exact ⟨_,Z27,r⟩
  ·obtain ⟨y,h1,h2⟩:=C2e t h;exact ⟨y,Z1f _ h1,h2⟩
theorem B7g {H:Hp} {hd hm a1 a2 a3:Addr} {ds:List (Key×V)} {es:List Pl} (hh:Hs H hm a1 a2 a3 es) (h:H hd=some (.dK ds)) (pr:Paired (HmP H) ds (B0p es)):A6i H (.ref hd) (.ref hm):=by
 refine .inr ⟨hd,hm,ds,_,rfl,rfl,.inl h,.inl hh.hm,?_⟩
 have vi:∀l:Hm,∀e∈kvT l,∃i,e.2=V.int i:=λl e he=>by
  obtain ⟨y,_,rfl⟩:=Z2c.mp he;exact ⟨_,rfl⟩
 cases pr with
 | cons r1 t=>cases t with
  | cons r2 t=>cases t with
   | cons r3 t=>cases t with
    | nil =>
     obtain ⟨e1,p1,q1,w1⟩:=r1;obtain ⟨e2,p2,q2,w2⟩:=r2;obtain ⟨e3,p3,q3,w3⟩:=r3;exact .cons ⟨e1,p1,a1,_,q1,rfl,.inl w1,.inl hh.h1,vi _⟩ (.cons ⟨e2,p2,a2,_,q2,rfl,.inl w2,.inl hh.h2,vi _⟩ (.cons ⟨e3,p3,a3,_,q3,rfl,.inl w3,.inl hh.h3,vi _⟩ .nil))
def B7p (K:Frag):Sp:=λvs H Q _=>∃(a:Addr) (ns:List Int),vs=[.ref a]/\SqL K H a (ns.map V.int)/\ns.length<=63/\∀H',Q (.bl true) H'
theorem w2 {i:Int} (h0:0<=i) (h4:i<2):∃v:Int,atI [V.int 9,V.int (10^(30:Int).toNat-2)] i=some (.int v)/\0<v/\v<=999999999999999999999999999998:=by
 have e:(10:Int)^(30:Int).toNat-2=999999999999999999999999999998:=by decide
 rw [e];have:i=0\/i=1:=by omega
 rcases this with rfl | rfl
 ·exact ⟨9,rfl,by decide,by decide⟩
 ·exact ⟨_,rfl,by decide,by decide⟩
theorem w4 {i:Int} (h0:0<=i) (h4:i<4):∃v:Int,atI [V.int 9,V.int 9,V.int 9,V.int 60] i=some (.int v)/\0<v/\v<=60:=by
 have:i=0\/i=1\/i=2\/i=3:=by omega
 rcases this with rfl | rfl | rfl | rfl
 ·exact ⟨9,rfl,by decide,by decide⟩
 ·exact ⟨9,rfl,by decide,by decide⟩
 ·exact ⟨9,rfl,by decide,by decide⟩
 ·exact ⟨60,rfl,by decide,by decide⟩
theorem B7x {a1 a2 a3:Addr}:A6z [] (ksD a1 a2 a3)=ksD a1 a2 a3:=by
 have e1:A6s [] (Sum.inr ("all":Str):Key) (V.ref a1)=[(Sum.inr ("all":Str),V.ref a1)]:=A6c (by intro e he;cases he);have e2:A6s [((Sum.inr ("all":Str):Key),V.ref a1)] (Sum.inr ("row":Str)) (V.ref a2)=[(Sum.inr ("all":Str),V.ref a1),(Sum.inr ("row":Str),V.ref a2)]:=A6c (by intro e he;rw [Z0w.mp he];exact iar)
 have e3:A6s [((Sum.inr ("all":Str):Key),V.ref a1),(Sum.inr ("row":Str),V.ref a2)] (Sum.inr ("col":Str)) (V.ref a3)=[(Sum.inr ("all":Str),V.ref a1),(Sum.inr ("row":Str),V.ref a2),(Sum.inr ("col":Str),V.ref a3)]:=A6c (by
  intro e he;rcases Z0e.mp he with rfl | he
  ·exact iac
  ·rw [Z0w.mp he];exact irc)
 unfold A6z ksD;rw [List.foldl_cons,List.foldl_cons,List.foldl_cons,List.foldl_nil];dsimp only;rw [e1,e2,e3]
theorem C1w {A:Around} {k:Nat} (hr:A4i k A):A.units+70<cLine:=by have:=hr.un;omega
theorem C1x (T:Txt K mg t):FO P w base T.gp 7 (B7p K):=by
 have Gb6:= @A8m P w K mg base t T;have Gb7:= @A9u P w K mg base t T;have Gb8:= @A9h P w K mg base t T;have Gb9:= @B1i P w K mg base t T;have Gc0:= @B4q P w K mg base t T;have Gc1:= @C4f P w K mg base t T;refine T.gp.F.ok A2k (by walk_at "ln") λ_ A _ s H _ Q E hr h=> ?_
 ·obtain ⟨sc,ns,rfl,hS,ln,k⟩:=h;have hu:=C1q hr
  refine ⟨_,(A0c (A0t (i:=1) A2k.nd rfl (.inl rfl) (A0p A2g A0f (A0p A1t (A0p A5u (pcl Gb7 hr T.af (A0a (pv 0) (A0a A0f A0b))) A0f) (A1h A1i (A3n (A0a A0f (A0a (A0p A4g (A0p A7m A0f A0f) A0f) A0b))) (A0p A1t (pcl Gb7 hr T.af (A0a (pv 0) (A0a A0f A0b))) A0f) (λ_ _=>rfl)))))
   (A0c (A0t (i:=2) A2k.nd rfl (.inr rfl) (A0p A2g A0f (A0p A1t (A0p A5u (pcl Gb7 hr T.af (A0a (pv 0) (A0a A0f A0b))) A0f) (A1h A1i (A3n (A0a A0f (A0a A0f (A0a A0f (A0a A0f A0b))))) (A0p A1t (pcl Gb7 hr T.af (A0a (pv 0) (A0a A0f A0b))) A0f) (λ_ _=>rfl)))))
   (A0c (B9t (i₀:=3) (N':=["_law_k","_law_script","_law_size"]) (ix:=(List.replicate 1 none++[some 0,some 2])) A2k.nd rfl (.inl rfl) rfl (B5p (cl:=[("_law_size",_),("_law_script",_)]) (xs:=["_law_size","_law_script"]) rfl ⟨rfl,rfl,trivial⟩ rfl rfl (by decide +kernel) (by decide +kernel)) (B4m (N0:=["_law_k"]) (xs:=["_law_script","_law_size"]) (js:=[0,2]) ⟨⟨rfl,Or.inl rfl,(by walk_at "ix")⟩,⟨rfl,Or.inl rfl,(by walk_at "ix")⟩,trivial⟩) (A3v rfl T.dv (A0a (A0p A2g (A0p A2g (pv 2) A0f) (A0p A1t (pcl Gb7 hr T.af (A0a (pv 0) (A0a A0f A0b))) A0f)) A0b)) (λ_ _ _ _=>(A0l (i:=0) B5u rfl (.inl rfl))) (λ_ _ _ _=>(pcl Gb8 hr T.ci (A0a (pv 0) (A0a (pv 2) (A0a (pcl Gb7 hr T.af (A0a (pv 1) (A0a A0f A0b))) A0b))))))
   (A0c (A0t (i:=4) A2k.nd rfl (.inl rfl) (C0c (A8i A1a A9e (A8i A1a A9e (A8i A1a A9e B9q))) rfl rfl (by simp) (by decide)))
   (A0c (A7a PassesOwn.never rfl (B4a (pv 3)) (A3p (n:=3) rfl (A0k (A0l (i:=5) A2k.nd rfl (.inl rfl)) (A0k (A0l (i:=6) A2k.nd rfl (.inl rfl)) (A0k (A0l (i:=7) A2k.nd rfl (.inl rfl)) A2l))))
    (A0h (B5y hu (B1a hu (pv 4) (pv 5) (λ_ _=>rfl)) (pv 6) (pv 7) rfl)))
   (A0c (A0t (i:=8) A2k.nd rfl (.inl rfl) (pcl Gb6 hr T.ce (A0a (pv 2) (A0a (pcl Gb7 hr T.af (A0a (pv 0) (A0a A0f A0b))) (A0a (pv 1) A0b)))))
   (A0c (A0t (i:=9) A2k.nd rfl (.inl rfl) (A2s A2w (by rfl) T.dz Z1o (A0a (pv 8) A0b)))
   (A0c (A3h (pcl Gb9 hr T.dk (A0a (pv 0) (A0a (pv 1) (A0a (pv 3) (A0a (pv 9) A0b))))) (A3p (n:=3) rfl (A0k (A0l (i:=10) A2k.nd rfl (.inl rfl)) (A0k (A0l (i:=11) A2k.nd rfl (.inl rfl)) (A0k (A0l (i:=12) A2k.nd rfl (.inl rfl)) A2l)))))
   (A0c (A7a PassesOwn.never rfl (A3v rfl T.dv (A0a A0f A0b)) (A0l (i:=13) A2k.nd rfl (.inl rfl))
    (A0c (A0t (i:=14) A2k.nd rfl (.inl rfl) (A0y (A0a (A2s A2w (by rfl) T.dz Z1o (A0a (pv 10) A0b)) (A0a B2h (A0a (A2s A2w (by rfl) T.dz Z1o (A0a (pv 8) A0b)) A0b)))))
    (A0c (A7a PassesOwn.never rfl (B9p (pv 4)) (A0l (i:=5) A2k.nd rfl (.inl rfl))
     (A0h (B5y hu (A1h A1o (pv 14) A0f (λ_ _=>rfl)) (pv 5) (A2s (B2z) (by rfl) T.gv PyProof.Rows.boot_dict (A0a (B1a hu (pv 4) (pv 5) (λ_ _=>rfl)) A0b)) rfl)))
    (B6r (A0c (A0t (i:=15) A2k.nd rfl (.inl rfl) (B5x Gc1 (hr.mono (by omega)) rfl T.gl.m T.gl.F.kp T.gl.b .nil C2f (A0a (A1h A1o (pv 14) A0f (λ_ _=>rfl)) (A0a (pv 1) (A0a (A1h A1o (pv 14) A0f (λ_ _=>rfl)) (A0a (A1h A1o (pv 14) A0f (λ_ _=>rfl)) (A0a (pv 12) A0b)))))))
    (A2a (A1z (A5d (A4f (pcl Gc0 hr T.fi (A0a (pv 15) (A0a (pv 9) (A0a (pv 11) A0b))))))
     (A0h (A0s A6b))
     A0x)
    (A2a (A1z (A0m (B9s (C1w hr)) (pv 14) (A0y (A0a (pv 10) (A0a (pv 4) (A0a (pv 8) A0b)))) (A0u _))
     (A0h (A0s A6b))
     A0x)
    (A0c (A0z (A4p Z0k Z0n Z0o A0w (A1h A1o (pv 15) A0f (λ_ _=>rfl)) (A0a A3t A0b)))
    (A0h (A0z (A5f Z0k PySem.F.slot_list_clear PySem.F.type_list_clear B6x (A1h A1o (pv 15) A0f (λ_ _=>rfl)))))))))))))
   (A0h (A0s A6b))))))))))),?_⟩
  refine ⟨_,rfl,sc,ns,0,rfl,hS,_,_,rfl,rfl,⟨by decide,by decide⟩,_,_,rfl,rfl,⟨by decide,by decide,by decide⟩,_,_,rfl,rfl,A0o rfl,λz1 hz1=> ?_⟩;obtain ⟨H1,u1,f1,eNH⟩:=nH (o:= .lst [.int 9,.int (10^(30:Int).toNat-2)]) hz1;rw [eNH];obtain ⟨v,hv,v0,v60⟩:=w2 (i:=cA ns 0%2) (by omega) (by omega);refine ⟨_,rfl,sc,ns,0,rfl,u1.seq hS,_,_,rfl,rfl,C5z,z1,_,_,.int v,rfl,rfl,SqL.of f1,hv,_,_,rfl,rfl,v0,_,_,rfl,rfl,?_⟩;dsimp only
  obtain ⟨wh,hwh,wp⟩:∃wh:Int,2+cA ns 0/2%v=wh/\(0<wh/\wh<=10^30):=by
   have h1:=Z1v (cA ns 0/2) (show v≠0 by omega);have h2:=Z1p (cA ns 0/2) v0;have e:(10:Int)^30=1000000000000000000000000000000:=by decide
   rw [e];exact ⟨_,rfl,by omega,by omega⟩
  rw [hwh];refine ⟨_,rfl,sc,ns,1,rfl,u1.seq hS,_,_,rfl,rfl,⟨by decide,by decide⟩,A0o rfl,λz2 hz2=> ?_⟩;obtain ⟨H2,u2,f2,eNH⟩:=nH (o:= .lst [.int 9,.int 9,.int 9,.int 60]) hz2;rw [eNH];have u12:=u1.trans u2;obtain ⟨v',hv',v0',v60'⟩:=w4 (i:=cA ns 1%4) (by omega) (by omega);refine ⟨_,rfl,sc,ns,1,rfl,u12.seq hS,_,_,rfl,rfl,C5h,z2,_,_,.int v',rfl,rfl,SqL.of f2,hv',_,_,rfl,rfl,v0',_,_,rfl,rfl,?_⟩;dsimp only
  obtain ⟨N,hN,N1,N60⟩:∃N:Nat,1+cA ns 1/4%v'=(N:Int)/\0<N/\N<=60:=by
   have h1:=Z1v (cA ns 1/4) (show v'≠0 by omega);have h2:=Z1p (cA ns 1/4) v0';exact ⟨(1+cA ns 1/4%v').toNat,by omega,by omega,by omega⟩
  rw [hN];obtain ⟨J,hJ,J1,J63⟩:∃J:Nat,(N:Int)+1+cA ns 3%3=(J:Int)/\0<J/\J<=63:=⟨((N:Int)+1+cA ns 3%3).toNat,by omega,by omega,by omega⟩;refine ⟨_,rfl,_,_,rfl,rfl,_,rfl,sc,ns,3,rfl,u12.seq hS,_,_,rfl,rfl,C4s,_,_,rfl,rfl,?_⟩;dsimp only;rw [hJ];refine ⟨_,rfl,by omega,by omega,λPL hPL=> ?_⟩;refine B4t (D:=PL) J (λi ys G=>A1p H2 G/\G PL=some (.lst ys)/\Paired (B5l G) ys (plL (cA ns 2) N i)) ⟨A0q hPL,A0d,.nil⟩ (λi ys H3 hi _=>hi) (λys H3 _=>Z09 _) ?_ ?_
  ·rintro i ys G hi ⟨sG,hp,pp⟩ x H4 ⟨rfl,rfl⟩;refine ⟨⟨rfl,rfl,True.intro⟩,_,rfl,_,rfl,_,rfl,sc,ns,2,rfl,(u12.trans sG).seq hS,i,N,cA ns 2,by rw [Int.zero_add];rfl,by omega,λq G' s' pq=> ?_⟩;have lp:=Paired.length pp;rw [A7c] at lp;refine ⟨s' _ _ hp,A1m (by omega),A1j (sG.trans s') hPL,A0d,?_⟩;rw [A6e];exact Paired.snoc (pq.kt (A2f (s' _ _ hp))) (Paired.mapP pp λ_ _ z=>z.kt λ_ _ y=>A2f (s' _ _ hp) _ _ (s' _ _ y))
  rintro ys H3 ⟨s3,hPL3,pp⟩;have u13:=u12.trans s3;have lp:=Paired.length pp;rw [A7c] at lp;intro hm hhm;obtain ⟨H4,t1,g1,eNH⟩:=nH (o:= .dK []) hhm;rw [eNH];intro a1 ha1;obtain ⟨H5,t2,g2,eNH⟩:=nH (o:= .dT []) ha1;rw [eNH];intro a2 ha2;obtain ⟨H6,t3,g3,eNH⟩:=nH (o:= .dT []) ha2;have n12:a1≠a2:=A0g g2 ha2;rw [eNH];intro a3 ha3;obtain ⟨H7,t4,g4,eNH⟩:=nH (o:= .dT []) ha3;have n13:a1≠a3:=A0g (t3 _ _ g2) ha3;have n23:a2≠a3:=A0g g3 ha3;rw [eNH];have m7:H7 hm=some (.dK []):=(t2.trans (t3.trans t4)) _ _ g1;have g27:=(t3.trans t4) _ _ g2;have g37:=t4 _ _ g3;have x1:H3 a1=none:=t1.free ha1;have x2:H3 a2=none:=(t1.trans t2).free ha2;have x3:H3 a3=none:=(t1.trans (t2.trans t3)).free ha3;refine ⟨m7,ksD a1 a2 a3,rfl,by show 3<=15;decide,?_⟩;rw [B7x]
  have hs0:Hs (upd H7 hm (.dK (ksD a1 a2 a3))) hm a1 a2 a3 (plL (cA ns 2) N 0):=by
   have m1:hm≠a1:=A1g m7 g27 (by intro z;cases z);have m2:hm≠a2:=A1g m7 g37 (by intro z;cases z);have m3:hm≠a3:=A1g m7 g4 (by intro z;cases z);exact ⟨A0d,by rw [A0e m1.symm];exact g27,by rw [A0e m2.symm];exact g37,by rw [A0e m3.symm];exact g4,n12,n13,n23⟩
  have s38:A1p H3 (upd H7 hm (.dK (ksD a1 a2 a3))):=A1j (t1.trans (t2.trans (t3.trans t4))) hhm;generalize upd H7 hm (.dK (ksD a1 a2 a3))=H8 at hs0 s38⊢;refine ⟨_,rfl,PL,rfl,⟨_,SqL.of (s38 _ _ hPL3)⟩,?_⟩;refine B1p (K:=K) (a:=PL) (xs:=ys) (λi σ G=>∃(o5 o6 o7:Option V),σ=[Sro sc,Sio wh,Sio N,Sro PL,Sro hm,o5,o6,o7,none,none,none,none,none,none,none,none]/\A1p H3 G/\Hs G hm a1 a2 a3 (plL (cA ns 2) N i)) ⟨none,none,none,rfl,s38,hs0⟩ (λi σ G _ h=>by obtain ⟨_,_,_,_,s',_⟩:=h;exact SqL.of (s' _ _ hPL3)) ?_ ?_
  ·rintro i x σ G hx ⟨o5,o6,o7,rfl,sG,hs⟩;have hi:i<J:=by have:=(Z03.mp hx).1;omega
   obtain ⟨e,he,q,z,rfl,hq,hz,l2⟩:=C0a pp hx
   have ee:e=plc (cA ns 2) N i:=by
    unfold plL at he;rw [Z1z,List.getElem?_range hi] at he
    simpa using he.symm
   subst ee;obtain ⟨a,gd,ga,ai,hs'⟩:=hs.put (plc (cA ns 2) N i) (B1y _ _ _);have fa:H3 a=none:=by rcases ai with rfl | rfl | rfl <;> assumption
   refine ⟨q,_,rfl,SqT.of (sG _ _ hq),rfl,_,_,rfl,_,_,rfl,_,_,rfl,rfl,?_⟩;refine ⟨_,rfl,_,rfl,_,rfl,hm,_,rfl,gd,_,rfl,a,_,rfl,B8h.t (k:=(plc (cA ns 2) N i).2.1.map Sum.inl) ga (by rw [List.map_map];exact sG _ _ hz) ?_,?_⟩
   ·have l1:(sel (plc (cA ns 2) N i).1 (plL (cA ns 2) N i)).length<=i:=by
     unfold sel;rw [Z08];exact Z1n (List.length_filter_le _ _) (by rw [A7c];exact Z09 _)
    exact A1m (by unfold kvT;rw [Z08];omega)
   ·rw [B9r P w (by omega),A6e];exact ⟨_,_,_,rfl,A1j sG fa,hs'⟩
  ·rintro σ G ⟨o5,o6,o7,rfl,sG,hs⟩;rw [lp] at hs;refine ⟨_,rfl,_,rfl,sc,ns,4,rfl,(u13.trans sG).seq hS,_,rfl,N,cA ns 4,wh,rfl,N60,wp.1,λFL bx G1 hFL s1 h1 lbx bok=> ?_⟩;refine ⟨_,rfl,FL,_,rfl,.inl (SqL.of h1),λBL hBL=> ?_⟩;obtain ⟨G2,s2,h2,eNH⟩:=nH (o:= .lst (bx.map enO)) hBL;have nFB:FL≠BL:=A0g h1 hBL;rw [eNH];have s02:=sG.trans (s1.trans s2);have hs2:=hs.up (λb o _ e=>(s1.trans s2) _ _ e);have nPB:PL≠BL:=A0g ((sG.trans s1) _ _ hPL3) hBL;refine ⟨_,rfl,_,rfl,_,rfl,_,rfl,sc,PL,BL,ns,wh,ys,plL (cA ns 2) N J,bx,B0p (plL (cA ns 2) N J),rfl,(u13.trans s02).seq hS,ln,s02 _ _ hPL3,nPB,Paired.mapP pp (λ_ _ z=>z.kt λ_ _ y=>s02 _ _ y),by rw [A7c];exact J1,by rw [A7c];omega,by rw [lbx];exact C4d P w N1 N60 (by omega),h2,bok,wp,λp tp R xs vs TT m n G3 kk htp hR ntR hp htp3 prT hR3 prR hB3 lmb rok lT n63 ltr tok run=> ?_⟩;have hF3:G3 FL=some (.lst (bx.map enO)):=kk _ _ nFB (s2 _ _ h1)
   have hs3:Hs G3 hm a1 a2 a3 (plL (cA ns 2) N J):=hs2.up (λb o hb e=>kk _ _ (by
    rcases hb with rfl | rfl | rfl | rfl
    ·exact A1g hs2.hm h2 (by intro z;cases z)
    ·exact A1g hs2.h1 h2 (by intro z;cases z)
    ·exact A1g hs2.h2 h2 (by intro z;cases z)
    ·exact A1g hs2.h3 h2 (by intro z;cases z)) e)
   have nd:=λx=>B0f P w (c:=cA ns 2) (n:=(N:Int)) x (j:=J) (by omega);generalize plL (cA ns 2) (N:Int) J=es at hs3 rok run nd;clear hs2 hs;have tok':∀e∈m.tr,PyData.strOk e.1=true:=λe he=>by rcases tok e he with z | z <;> rw [z] <;> decide +kernel
   have nofz:∀o' u',H hm≠some (.frz o' u'):=λo' u' z=>by rw [u13.free hhm] at z;cases z
   refine ⟨p,_,rfl,SqT.of hp,rfl,_,_,rfl,_,_,rfl,_,_,rfl,rfl,?_⟩;refine ⟨2,rfl,by decide,by decide,A5e (n:=2) (λi σ G=>∃(o5 o13 o14 o15:Option V),σ=[Sro sc,Sio wh,Sio N,Sro PL,Sro hm,o5,o6,o7,Sro FL,Sro BL,Sro tp,Sro R,Sio n,o13,o14,o15]/\A1p G3 G) ⟨_,_,_,_,rfl,A1p.refl _⟩ ?_ ?_⟩
   ·rintro i σ G' hi ⟨o5,o13,o14,o15,rfl,sB⟩;refine ⟨_,rfl,tp,_,rfl,.inl (SqL.of (sB _ _ htp3)),λt1 ht1=> ?_⟩;obtain ⟨G4,v1,w1,eNH⟩:=nH (o:= .lst xs) ht1;rw [eNH];intro hd hhd;obtain ⟨G5,v2,w2,eNH⟩:=nH (o:= .dK []) hhd;have hd3:G3 hd=none:=(sB.trans v1).free hhd;have nhd:hm≠hd:=A0g ((sB.trans v1) _ _ hs3.hm) hhd;rw [eNH];refine ⟨_,rfl,FL,_,rfl,.inl (SqL.of ((sB.trans (v1.trans v2)) _ _ hF3)),λf1 hf1=> ?_⟩;obtain ⟨G6,v3,w3,eNH⟩:=nH (o:= .lst (bx.map enO)) hf1;rw [eNH];refine ⟨A0o rfl,λq hq=> ?_⟩;obtain ⟨G7,v4,w4,eNH⟩:=nH (o:= .tup [.ref t1,.ref hd,.ref f1]) hq;rw [eNH];have e1:=(v2.trans (v3.trans v4)) _ _ w1;have e2:=(v3.trans v4) _ _ w2;have e3:=v4 _ _ w3;have s7:=sB.trans (v1.trans (v2.trans (v3.trans v4)));have hs7:=hs3.up (λb o _ e=>s7 _ _ e);clear w1 w2 w3 hq hf1 ht1 v1 v2 v3 v4 hhd;refine ⟨_,rfl,hm,ksD a1 a2 a3,rfl,hs7.hm,λo=> ?_⟩;have m1:a1≠hm:=A1g hs7.h1 hs7.hm (by intro z;cases z);have m2:a2≠hm:=A1g hs7.h2 hs7.hm (by intro z;cases z);have m3:a3≠hm:=A1g hs7.h3 hs7.hm (by intro z;cases z);have d1:a1≠hd:=A1g hs7.h1 e2 (by intro z;cases z);have d2:a2≠hd:=A1g hs7.h2 e2 (by intro z;cases z);have d3:a3≠hd:=A1g hs7.h3 e2 (by intro z;cases z)
    refine B8c (a:=hm) (o:=o) (kvs:=ksD a1 a2 a3) (λj σ G8=>∃(o5:Option V) (ds:List (Key×V)),σ=[Sro sc,Sio wh,Sio N,Sro PL,Sro hm,o5,o6,o7,Sro FL,Sro BL,Sro tp,Sro R,Sio n,Sio (0+(i:Int)),Sro q,o15]/\(∀b u,b≠hm->b≠hd->G7 b=some u->G8 b=some u)/\G8 hm=some (.frz o (.dK (ksD a1 a2 a3)))/\G8 hd=some (.dK ds)/\Paired (HmP G8) ds ((B0p es).take j))
     ⟨_,[],rfl,λb u nb _ e=>by rw [A0e nb];exact e,A0d,by rw [A0e nhd.symm];exact e2,.nil⟩ (by rintro j σ G8 ⟨_,_,_,_,z,_⟩;exact z) ?_ ?_
    ·rintro j k' v σ G8 hkv ⟨o5,ds,rfl,kk8,hm8,hd8,pr8⟩;obtain ⟨x,a,rfl,ev,ga,sj,nx⟩:=C3w (kk8 _ _ m1 d1 hs7.h1) (kk8 _ _ m2 d2 hs7.h2) (kk8 _ _ m3 d3 hs7.h3) hkv;have gd:C1g G8 hm (.str x) (some (.ref a)):= .inl ⟨_,Sum.inr x,.inr ⟨o,hm8⟩,rfl,ev⟩;refine ⟨_,rfl,_,rfl,hm,_,rfl,gd,a,_,rfl,.inl ga,nd x,λc hc=> ?_⟩;have nc:c≠hd:=(A0g hd8 hc).symm;have nc2:c≠hm:=(A0g hm8 hc).symm;have qn1:q≠hm:=A1g w4 hs7.hm (by intro z;cases z);have qn2:q≠hd:=A1g w4 e2 (by intro z;cases z);have hq8:G8 q=some (.tup [.ref t1,.ref hd,.ref f1]):=kk8 _ _ qn1 qn2 w4;have hq9:upd G8 c (.dT (kvT (sel x es))) q=some (.tup [.ref t1,.ref hd,.ref f1]):=by rw [A0e (A0g hq8 hc)];exact hq8
     have ld:=Paired.length pr8;have l3:((B0p es).take j).length<=3:=by rw [Z0x];exact Z1n (Nat.min_le_right _ _) (by show 3<=3;decide)
     refine ⟨_,rfl,q,_,_,_,rfl,rfl,SqT.of hq9,A1f (j:=1) rfl,_,rfl,hd,_,rfl,B8h.k (k:=Sum.inr x) (kvs:=ds) (by rw [A0e nc.symm];exact hd8) (A1m (by omega)),?_⟩
     rw [A6c (λe he=>by
      obtain ⟨y,hy,z⟩:=C2e pr8 he;rw [z.1];intro w
      exact nx y hy (by injection w))]
     have tk:(B0p es).take (j+1)=(B0p es).take j++[(x,sel x es)]:=by rw [Z14,sj];rfl
     refine ⟨_,_,rfl,λb u nb nh e=> ?_,?_,A0d,?_⟩
     ·have e8:=kk8 _ _ nb nh e;rw [A0e nh,A0e (A0g e8 hc)];exact e8
     ·rw [A0e nhd,A0e nc2.symm];exact hm8
     ·rw [tk];refine Paired.snoc ⟨rfl,c,rfl,by rw [A0e nc];exact A0d⟩ (Paired.mapP pr8 λ_ _ z=> ?_);obtain ⟨z1,p',z2,z3⟩:=z;exact ⟨z1,p',z2,by rw [A0e (A1g z3 hd8 (by intro z;cases z)),A0e (A0g z3 hc)];exact z3⟩
    rintro σ G8 ⟨o5,ds,rfl,kk8,hm8,hd8,pr8⟩;refine ⟨hm,o,_,hm8,nofz,?_⟩;have pr8:Paired (HmP G8) ds (B0p es):=pr8
    have kk9:∀b u,b≠hd->G7 b=some u->upd G8 hm (.dK (ksD a1 a2 a3)) b=some u:=λb u nb e=>by
     by_cases hb:b=hm
     ·subst hb;rw [hs7.hm] at e;cases e;exact A0d
     ·rw [A0e hb];exact kk8 _ _ hb nb e
    have hd9:upd G8 hm (.dK (ksD a1 a2 a3)) hd=some (.dK ds):=by rw [A0e nhd.symm];exact hd8
    have pr9:Paired (HmP (upd G8 hm (.dK (ksD a1 a2 a3)))) ds (B0p es):=Paired.mapP pr8 λ_ _ z=>by
     obtain ⟨z1,p',z2,z3⟩:=z;exact ⟨z1,p',z2,by rw [A0e (A1g z3 hm8 (by intro z;cases z))];exact z3⟩
    generalize upd G8 hm (.dK (ksD a1 a2 a3))=G9 at kk9 hd9 pr9⊢;have s39:A1p G3 G9:=λb u e=>kk9 _ _ (A0g e hd3) (s7 _ _ e);have t9:G9 t1=some (.lst xs):=kk9 _ _ (A1g e1 e2 (by intro z;cases z)) e1;have f9:G9 f1=some (.lst (bx.map enO)):=kk9 _ _ (A1g e3 e2 (by intro z;cases z)) e3;have q9:G9 q=some (.tup [.ref t1,.ref hd,.ref f1]):=kk9 _ _ (A1g w4 e2 (by intro z;cases z)) w4;clear kk8 kk9 e1 e2 e3 w4 hs7 s7 pr8 hd8 hm8;refine ⟨_,rfl,q,_,_,_,rfl,rfl,SqT.of q9,at0,_,rfl,_,rfl,q,_,_,_,rfl,rfl,SqT.of q9,A1f (j:=1) rfl,_,rfl,q,_,_,_,rfl,rfl,SqT.of q9,A1f (j:=2) rfl,_,rfl,t1,hd,f1,wh,n,xs,TT,bx,B0p es,rfl,t9,Paired.mapP prT (λ_ _ z=>z.kt λ_ _ y=>s39 _ _ y),rok,⟨ds,hd9,pr9⟩,f9,wp,by omega,by omega,?_⟩;rw [run];rintro p2 b r vs2 G10 s10 fb fr nbr hp2 hb10 hr10 pr10;have s310:=s39.trans s10;refine ⟨λσ G=>σ=[Sro sc,Sio wh,Sio N,Sro PL,Sro hm,o5,o6,o7,Sro FL,Sro BL,Sro tp,Sro R,Sio n,Sio (0+(i:Int)),Sro q,Sro p2]/\G10=G,?_,?_⟩
    ·exact ⟨_,rfl,_,rfl,_,rfl,p2,b,r,BL,R,m.bx,vs2,vs,m.tr,rfl,hp2,hb10,s310 _ _ hB3,by omega,hr10,s310 _ _ hR3,pr10,Paired.mapP prR (λ_ _ z=>by obtain ⟨z1,z2,z3⟩:=z;exact ⟨z1,z2,s310 _ _ z3⟩),by omega,tok',true,rfl,A7z ⟨rfl,rfl⟩⟩
    rintro σ G ⟨rfl,rfl⟩;refine ⟨λσ G=>σ=[Sro sc,Sio wh,Sio N,Sro PL,Sro hm,o5,o6,o7,Sro FL,Sro BL,Sro tp,Sro R,Sio n,Sio (0+(i:Int)),Sro q,Sro p2]/\A1p G10 G,?_,?_⟩
    ·refine ⟨_,rfl,_,rfl,_,rfl,_,rfl,A0o rfl,λq2 hq2=> ?_⟩;obtain ⟨G11,x1,x2,eNH⟩:=nH (o:= .tup [.ref tp,.ref hm,.ref FL]) hq2;rw [eNH];have s911:=s10.trans x1;have s311:=s310.trans x1;refine ⟨q,q2,_,_,rfl,rfl,s911 _ _ q9,x2,?_,false,rfl,A7z ⟨rfl,x1⟩⟩;refine .cons (B2v (s911 _ _ t9) (s311 _ _ htp3) (Paired.mapP prT (λ_ _ z=>z.kt λ_ _ y=>s311 _ _ y)) rok) (.cons (B7g (hs3.up (λb o _ e=>s311 _ _ e)) (s911 _ _ hd9) (Paired.mapP pr9 λ_ _ z=> ?_)) (.cons (B7q (s911 _ _ f9) (s311 _ _ hF3)) .nil));obtain ⟨z1,p',z2,z3⟩:=z;exact ⟨z1,p',z2,s911 _ _ z3⟩
    rintro σ G ⟨rfl,x1⟩;have hp3:=x1 _ _ hp2;have hb3:=x1 _ _ hb10;have hr3:=x1 _ _ hr10;refine ⟨_,rfl,p2,_,_,_,rfl,rfl,SqT.of hp3,at0,.inl ⟨rfl,_,SqL.of hb3⟩,b,_,_,rfl,rfl,hb3,A1m (by rw [Z08];omega),?_⟩;have hp4:upd G b (.lst (m.bx.map enO++[.non])) p2=some (.tup [.ref b,.ref r]):=by rw [A0e (A1g hp3 hb3 (by intro z;cases z))];exact hp3
    have hr4:upd G b (.lst (m.bx.map enO++[.non])) r=some (.lst vs2):=by rw [A0e nbr.symm];exact hr3
    exact ⟨_,rfl,p2,_,_,_,rfl,rfl,SqT.of hp4,A1f (j:=1) rfl,.inl ⟨rfl,_,SqL.of hr4⟩,r,_,rfl,rfl,hr4,_,_,_,_,rfl,A1j (A1j (s310.trans x1) (s39.free fb)) (s39.free fr)⟩
   ·rintro σ G' ⟨o5,o13,o14,o15,rfl,_⟩;exact k _
end My
namespace PySem.W.Fast
def tw1877413726142378334:=()
def tw7295191571273398365:=()
def tw821236761278072553:=()
def tw5634798018885462526:=()
def tw6310633468192751224:=()
def tw7569710958540000497:=()
def tw16397711593662159220:=()
def tw17569015164663030971:=()
def tw16185384901954550932:=()
def tw9888849432598221017:=()
def tw6538582869498926414:=()
def tw11073880999231320305:=()
def tw7036166651127063772:=()
def tw8751838657124377847:=()
def tw4555326425547604065:=()
def tw4813110865554811137:=()
def tw15860927307974995547:=()
def tw12751898645390637291:=()
def tw17727451985393912646:=()
def tw6576976392277473932:=()
def tw10984374681654662087:=()
def tw17311754484960065156:=()
def tw1695468885567406557:=()
def tw5555838501625801252:=()
def tw6568952561060398468:=()
def tw17103936238701244743:=()
def tw436096574092593293:=()
def tw14726738622731879601:=()
def tw1332821213051815458:=()
def tw8620054645078833201:=()
def tw9840894535146936918:=()
def tw10530790956536737593:=()
def tw16120140234909007990:=()
def tw2535581226627620056:=()
def tw13832599452972828980:=()
def tw14183547132028267153:=()
def tw6581495053943410536:=()
def tw7024693427836506019:=()
def tw2231686744196523686:=()
def tw16848620881305097674:=()
def tw7289454941633836377:=()
def tw14127553953521056198:=()
def tw6424431342345659451:=()
def tw10111765743536231055:=()
def tw4846750892790040506:=()
def tw8304187281601410617:=()
def tw6244659575749165874:=()
def tw8236980405553864352:=()
def tw3764349348784292378:=()
def tw5585102400976462811:=()
def tw5796227821055186386:=()
def tw13247147023318148968:=()
def tw14900839552840226026:=()
def tw11904322041247932121:=()
def tw4502095613063516417:=()
def tw12946920551219195996:=()
def tw5463361887626197313:=()
def tw2819220324924838940:=()
def tw10352262566162161875:=()
def tw15801427638042711631:=()
def tw8571255527392148717:=()
def tw12647571978386922958:=()
def tw5818389900858022510:=()
def tw8530178941910672539:=()
def tw17462395032825084530:=()
def tw2938989819732016867:=()
def tw5641219992139847894:=()
def tw4736066412275607464:=()
def tw3999369006193754941:=()
def tw5075276668056071734:=()
def tw10099281793761916054:=()
def tw5269013050871636169:=()
def tw12561110673274626818:=()
def tw10222734517954641750:=()
def tw3169649208987537580:=()
def tw10585872035946448328:=()
def tw5040385637774635145:=()
def tw8422719242664389492:=()
def tw7283029220728055882:=()
def tw2390108394779128089:=()
def tw4824885028467465345:=()
def tw15506129901704411277:=()
def tw5491948896991852734:=()
def tw8632412602433535808:=()
def tw17916997255994804911:=()
def tw17643488893032220528:=()
def tw15995731956602347410:=()
def tw13300539008678201947:=()
def tw1595912358825443821:=()
def tw6473488717784459279:=()
def tw11598822004687158382:=()
def tw16003788023791020055:=()
def tw9083175603249268979:=()
def tw1999198915417891754:=()
def tw16201789747026432730:=()
def tw6620866324869104317:=()
def tw7333292792135044949:=()
def tw2621429764316015458:=()
def tw4325056210537572557:=()
def tw15479430119073563557:=()
def tw9007233082431517219:=()
def tw16061295658318949992:=()
def tw4569896077221586812:=()
def tw5597912464342934171:=()
def tw10188307714106621106:=()
def tw11431191752008262018:=()
def tw2464971571532273339:=()
def tw983101007292091383:=()
def tw11818174985836111400:=()
def tw1131320093838151136:=()
def tw2720889958022559565:=()
def tw17641992807271822641:=()
def tw7267084820229077365:=()
def tw4280125568112964291:=()
def tw11448551474535404892:=()
def tw6337252313215203688:=()
def tw17977568493270407190:=()
def tw11943822997172659593:=()
def tw11409720292893177302:=()
def tw17655872908249941654:=()
def tw17943849320723709707:=()
def tw1923000635428850369:=()
def tw18166480431133751796:=()
def tw15127366163179120173:=()
def tw6115891086904917705:=()
def tw13345096248498551812:=()
def tw5096394474850588696:=()
def tw8751176361788606316:=()
def tw1775633205523650182:=()
def tw7891492170643077500:=()
def tw16337909451408427649:=()
def tw8738909400067477801:=()
def tw4564588248966086970:=()
def tw4936034179599387361:=()
def tw2642828871089911102:=()
def tw9917561657997828922:=()
def tw6594375424856075151:=()
def tw18162965459344525927:=()
def tw16936362093973281820:=()
def tw14698798334681162475:=()
def tw4703657684880872168:=()
def tw8232301011443418858:=()
def tw6397288576587477200:=()
def tw13906076468715169421:=()
def tw18253070138482647835:=()
def tw10980596661526493893:=()
def tw11896038364832454074:=()
def tw15071959245974817862:=()
end PySem.W.Fast
namespace My
open PySem L2
abbrev LkF (K:Frag) (x q:Str) (st:Stmt) (f:Addr):Prop:=∃(oc:Value) (od:Option Addr) (kV dc pm:Value) (an:Option Addr) (cd ct:Value) (sl:Array (Option Value)),K.lookup f=some ⟨oc,od,.func (fnOf x q (A4y st) (A3m st) (A0i st) .none kV dc pm an cd ct),sl⟩/\codeIn K cd q=true/\keepIn K (.ref f)=true
theorem C2q {K:Frag} {x q:Str} {st:Stmt} {f:Addr} {oc:Value} {od:Option Addr} {kV dc pm:Value} {an:Option Addr} {cd ct:Value} {sl:Array (Option Value)} (l:K.lookup f=some ⟨oc,od,.func (fnOf x q (A4y st) (A3m st) (A0i st) .none kV dc pm an cd ct),sl⟩) (c:codeIn K cd q=true) (k:keepIn K (.ref f)=true):LkF K x q st f:=⟨_,_,_,_,_,_,_,_,_,l,c,k⟩
theorem A1l {K:Frag} {x q:Str} {st:Stmt} {f:Addr} {ps:List Str} (l:LkF K x q st f) (h:∀(kV doc pm:Value) (an:Option Addr) (cdv ct:Value) (us:List Value),us.length=ps.length->bindArgs (fnOf x q (A4y st) (A3m st) (A0i st) .none kV doc pm an cdv ct) ⟨us,[]⟩=pure (ps.zip us)):∃d,Fun K x q st f d/\A4q K d ps []/\keepIn K (.ref f)=true:=by
 obtain ⟨_,_,_,_,_,_,_,_,_,l,c,k⟩:=l;have F:=B8m (st:=st) l c k;exact ⟨_,F,F.binds h,k⟩
theorem len0 {p:List Value->Prop} (h:p []):∀us:List Value,us.length=0->p us:=λus e=>by rw [List.length_eq_zero_iff.mp e];exact h
theorem lenS {n:Nat} {p:List Value->Prop} (h:∀(a:Value) (us:List Value),us.length=n->p (a::us)):∀us:List Value,us.length=n+1->p us
 | a::r,e=>h a r (Nat.succ.inj e)
local macro_rules | `(tactic| walk_at "le") => `(tactic| (intro _ _ _ _ _ _; (repeat (refine lenS fun _ => ?_)); exact len0 rfl))
theorem C2s {l:PySem.W.OpenLaw} {w:World} {K:Frag} {h:Heap} {mg:Str->Option Value} {fa:Addr} (X:K.In h) (G:h.Ns mainGlobals mg) (hfa:mg "law"=some (.ref fa))
  {bJ bQ bI aS aA:Addr}
  (bF:nsIn K mainGlobals "LoomError"=some (some (.ref bJ)))
  (bK:nsIn K mainGlobals "NoEnd"=some (some (.ref bQ)))
  (aT:nsIn K mainGlobals "Outside"=some (some (.ref bI)))
  (aP:nsIn K mainGlobals "Unwritten"=some (some (.ref aS)))
  (aU:nsIn K mainGlobals "Machine"=some (some (.ref aA)))
  {f0:Addr}
  (a0:nsIn K mainGlobals "go"=some (some (.ref f0)))
  (l0:LkF K "go" "go" C4e f0)
  {f1:Addr}
  (a1:findIn K (.ref aA) "__init__"=some (some (.ref f1)))
  (l1:LkF K "__init__" "Machine.__init__" A2x f1)
  (i1:isFn K (.ref f1)=true)
  {f2:Addr}
  (a2:findIn K (.ref aA) "put"=some (some (.ref f2)))
  (l2:LkF K "put" "Machine.put" A3l f2)
  (i2:isFn K (.ref f2)=true)
  {f3:Addr}
  (a3:findIn K (.ref aA) "two_taken"=some (some (.ref f3)))
  (l3:LkF K "two_taken" "Machine.two_taken" A1x f3)
  (i3:isFn K (.ref f3)=true)
  {f4:Addr}
  (a4:findIn K (.ref aA) "home_of"=some (some (.ref f4)))
  (l4:LkF K "home_of" "Machine.home_of" A2h f4)
  (i4:isFn K (.ref f4)=true)
  {f5:Addr}
  (a5:findIn K (.ref aA) "index_at"=some (some (.ref f5)))
  (l5:LkF K "index_at" "Machine.index_at" A2e f5)
  (i5:isFn K (.ref f5)=true)
  {f6:Addr}
  (a6:findIn K (.ref aA) "box_of"=some (some (.ref f6)))
  (l6:LkF K "box_of" "Machine.box_of" A2m f6)
  (i6:isFn K (.ref f6)=true)
  {f7:Addr}
  (a7:findIn K (.ref aA) "number_in"=some (some (.ref f7)))
  (l7:LkF K "number_in" "Machine.number_in" A1y f7)
  (i7:isFn K (.ref f7)=true)
  {f8:Addr}
  (a8:findIn K (.ref aA) "put_in"=some (some (.ref f8)))
  (l8:LkF K "put_in" "Machine.put_in" A2n f8)
  (i8:isFn K (.ref f8)=true)
  {f9:Addr}
  (a9:nsIn K mainGlobals "do_push"=some (some (.ref f9)))
  (l9:LkF K "do_push" "do_push" A7g f9)
  {cB:Addr}
  (cP:nsIn K mainGlobals "do_count"=some (some (.ref cB)))
  (cQ:LkF K "do_count" "do_count" A7v cB)
  {cC:Addr}
  (cR:nsIn K mainGlobals "do_plus"=some (some (.ref cC)))
  (cS:LkF K "do_plus" "do_plus" A7b cC)
  {cD:Addr}
  (cT:nsIn K mainGlobals "do_minus"=some (some (.ref cD)))
  (cU:LkF K "do_minus" "do_minus" A5s cD)
  {cE:Addr}
  (cV:nsIn K mainGlobals "do_times"=some (some (.ref cE)))
  (cW:LkF K "do_times" "do_times" A5p cE)
  {cF:Addr}
  (cX:nsIn K mainGlobals "do_load"=some (some (.ref cF)))
  (cY:LkF K "do_load" "do_load" A7e cF)
  {cG:Addr}
  (cZ:nsIn K mainGlobals "do_store"=some (some (.ref cG)))
  (dA:LkF K "do_store" "do_store" A5n cG)
  {cH:Addr}
  (dB:nsIn K mainGlobals "do_gather"=some (some (.ref cH)))
  (dC:LkF K "do_gather" "do_gather" A4j cH)
  {cI:Addr}
  (dD:nsIn K mainGlobals "do_skip"=some (some (.ref cI)))
  (dE:LkF K "do_skip" "do_skip" A6l cI)
  {cJ:Addr}
  (dF:nsIn K mainGlobals "do_jump"=some (some (.ref cJ)))
  (dG:LkF K "do_jump" "do_jump" A6k cJ)
  {cK:Addr}
  (dH:nsIn K mainGlobals "do_zero"=some (some (.ref cK)))
  (dI:LkF K "do_zero" "do_zero" A9s cK)
  {cL:Addr}
  (dJ:nsIn K mainGlobals "do_begin"=some (some (.ref cL)))
  (dK:LkF K "do_begin" "do_begin" A7t cL)
  {cM:Addr}
  (dL:nsIn K mainGlobals "do_step"=some (some (.ref cM)))
  (dM:LkF K "do_step" "do_step" B0j cM)
  {cN:Addr}
  (dN:nsIn K mainGlobals "do_unless"=some (some (.ref cN)))
  (dO:LkF K "do_unless" "do_unless" A6m cN)
  {cO:Addr}
  (dP:nsIn K mainGlobals "do_within"=some (some (.ref cO)))
  (dQ:LkF K "do_within" "do_within" A7h cO)
  {eR:Addr}
  (dR:nsIn K mainGlobals "_law_cell_at"=some (some (.ref eR)))
  (dS:LkF K "_law_cell_at" "_law_cell_at" A4r eR)
  {eS:Addr}
  (dT:nsIn K mainGlobals "_law_whole"=some (some (.ref eS)))
  (dU:LkF K "_law_whole" "_law_whole" A6v eS)
  {eT:Addr}
  (dV:nsIn K mainGlobals "_law_home_by"=some (some (.ref eT)))
  (dW:LkF K "_law_home_by" "_law_home_by" A4w eT)
  {eU:Addr}
  (dX:nsIn K mainGlobals "_law_boxes_by"=some (some (.ref eU)))
  (dY:LkF K "_law_boxes_by" "_law_boxes_by" A4a eU)
  {eV:Addr}
  (dZ:nsIn K mainGlobals "_law_address"=some (some (.ref eV)))
  (eA:LkF K "_law_address" "_law_address" A4u eV)
  {eW:Addr}
  (eB:nsIn K mainGlobals "_law_row_by"=some (some (.ref eW)))
  (eC:LkF K "_law_row_by" "_law_row_by" A5t eW)
  {eX:Addr}
  (eD:nsIn K mainGlobals "_law_pair"=some (some (.ref eX)))
  (eE:LkF K "_law_pair" "_law_pair" A8o eX)
  {eY:Addr}
  (eF:nsIn K mainGlobals "_law_box_row"=some (some (.ref eY)))
  (eG:LkF K "_law_box_row" "_law_box_row" A4l eY)
  {eZ:Addr}
  (eH:nsIn K mainGlobals "_law_side_row"=some (some (.ref eZ)))
  (eI:LkF K "_law_side_row" "_law_side_row" A3z eZ)
  {fA:Addr}
  (eJ:nsIn K mainGlobals "_law_same_boxes"=some (some (.ref fA)))
  (eK:LkF K "_law_same_boxes" "_law_same_boxes" A2y fA)
  {fB:Addr}
  (eL:nsIn K mainGlobals "_law_same_trace"=some (some (.ref fB)))
  (eM:LkF K "_law_same_trace" "_law_same_trace" A2z fB)
  {fC:Addr}
  (eN:nsIn K mainGlobals "_law_told"=some (some (.ref fC)))
  (eO:LkF K "_law_told" "_law_told" A8g fC)
  {fD:Addr}
  (eP:nsIn K mainGlobals "_law_played"=some (some (.ref fD)))
  (eQ:LkF K "_law_played" "_law_played" A5m fD)
  {fE:Addr}
  (cA:nsIn K mainGlobals "law"=some (some (.ref fE)))
  (bZ:LkF K "law" "law" B7h fE)
  {bN:Tok}
  (aO:nsIn K mainGlobals "NO_COUNTER"=some (some (.int (-1) bN)))
  {bM:Addr}
  (bG:nsIn K mainGlobals "DOINGS"=some (some (.ref bM)))
  (bH:B8t K bM [("push",V.ref f9),("count",V.ref cB),("plus",V.ref cC),("minus",V.ref cD),("times",V.ref cE),("load",V.ref cF),("store",V.ref cG),("gather",V.ref cH),("skip",V.ref cI),("jump",V.ref cJ),("zero",V.ref cK),("begin",V.ref cL),("step",V.ref cM),("unless",V.ref cN),("within",V.ref cO)])
  (bL:excIn K bQ [.type "ValueError",.type "Exception",.type "BaseException",.type "object"] "ValueError.__new__"=true)
  (aV:excIn K bI [.type "ValueError",.type "Exception",.type "BaseException",.type "object"] "ValueError.__new__"=true)
  (aQ:excIn K aS [.type "ValueError",.type "Exception",.type "BaseException",.type "object"] "ValueError.__new__"=true)
  (aW:plainGet K aA Str.empty=true)
  (aX:hasDictIn K aA=true)
  (aY:plainOver K aA=true)
  (aZ:findIn K (.ref aA) "__setattr__"=some (some (.builtin "object.__setattr__")))
  (bA:makesIn K aA=true)
  (bB:keepIn K (.ref aA)=true)
  (bC:findIn K (.ref aA) "__init__"=some (some (.ref f1)))
  (aI:findIn K (.ref aA) "wheel"=some none)
  (aJ:findIn K (.ref aA) "homes"=some none)
  (aK:findIn K (.ref aA) "boxes"=some none)
  (aF:findIn K (.ref aA) "counts"=some none)
  (aL:findIn K (.ref aA) "stack"=some none)
  (aM:findIn K (.ref aA) "trace"=some none)
  (aG:findIn K (.ref aA) "box_of"=some (some (.ref f6)))
  (aE:findIn K (.ref aA) "home_of"=some (some (.ref f4)))
  (aD:findIn K (.ref aA) "index_at"=some (some (.ref f5)))
  (aB:findIn K (.ref aA) "number_in"=some (some (.ref f7)))
  (aN:findIn K (.ref aA) "put"=some (some (.ref f2)))
  (aH:findIn K (.ref aA) "put_in"=some (some (.ref f8)))
  (aC:findIn K (.ref aA) "two_taken"=some (some (.ref f3)))
  (bD:findIn K (.ref aA) "__class__"=some (some (.builtin "object.__class__")))
  (bX:specialIn K (.builtin "object.__class__") "__get__"=some (some (.builtin "getset_descriptor.__get__")))
  (bY:takesIn K (.builtin "object.__class__")=some true)
  (bE:mroIn K aA (.type "object")=some true)
  (bU:nsIn K mainGlobals "len"=some none)
  (bR:nsIn K mainGlobals "list"=some none)
  (bO:nsIn K mainGlobals "tuple"=some none)
  (aR:nsIn K mainGlobals "isinstance"=some none)
  (bS:nsIn K mainGlobals "bool"=some none)
  (bV:nsIn K mainGlobals "int"=some none)
  (bP:nsIn K mainGlobals "range"=some none)
  (bW:nsIn K mainGlobals "str"=some none)
  (bT:nsIn K mainGlobals "dict"=some none)
  :∃fd:FuncData,(∀(s:Shared) (v:Value),BindsTo s fd ⟨[v],[]⟩ [("_law_script",v)])/\∀base:Heap,K.In base->base.Ns mainGlobals mg->A5j l.prog w K mg base CX0 7 fa fd ["_law_script"] (B7p K):=by
 have e:=hfa.symm.trans (Z0f X G cA);cases e;obtain ⟨d0,F0,b0,k0⟩:=A1l (ps:=C3q) l0 (by walk_at "le");obtain ⟨d1,F1,b1,k1⟩:=A1l (ps:=C5i) l1 (by walk_at "le");obtain ⟨d2,F2,b2,k2⟩:=A1l (ps:=["self","number"]) l2 (by walk_at "le");obtain ⟨d3,F3,b3,k3⟩:=A1l (ps:=["self"]) l3 (by walk_at "le");obtain ⟨d4,F4,b4,k4⟩:=A1l (ps:=B9u) l4 (by walk_at "le");obtain ⟨d5,F5,b5,k5⟩:=A1l (ps:=C4g) l5 (by walk_at "le");obtain ⟨d6,F6,b6,k6⟩:=A1l (ps:=B9u) l6 (by walk_at "le");obtain ⟨d7,F7,b7,k7⟩:=A1l (ps:=["self","box"]) l7 (by walk_at "le");obtain ⟨d8,F8,b8,k8⟩:=A1l (ps:=C3p) l8 (by walk_at "le");obtain ⟨d9,F9,b9,k9⟩:=A1l (ps:=A3a) l9 (by walk_at "le");obtain ⟨d10,F10,b10,k10⟩:=A1l (ps:=A3a) cQ (by walk_at "le");obtain ⟨d11,F11,b11,k11⟩:=A1l (ps:=A3a) cS (by walk_at "le");obtain ⟨d12,F12,b12,k12⟩:=A1l (ps:=A3a) cU (by walk_at "le");obtain ⟨d13,F13,b13,k13⟩:=A1l (ps:=A3a) cW (by walk_at "le");obtain ⟨d14,F14,b14,k14⟩:=A1l (ps:=A3a) cY (by walk_at "le");obtain ⟨d15,F15,b15,k15⟩:=A1l (ps:=A3a) dA (by walk_at "le");obtain ⟨d16,F16,b16,k16⟩:=A1l (ps:=A3a) dC (by walk_at "le");obtain ⟨d17,F17,b17,k17⟩:=A1l (ps:=A3a) dE (by walk_at "le");obtain ⟨d18,F18,b18,k18⟩:=A1l (ps:=A3a) dG (by walk_at "le");obtain ⟨d19,F19,b19,k19⟩:=A1l (ps:=A3a) dI (by walk_at "le");obtain ⟨d20,F20,b20,k20⟩:=A1l (ps:=A3a) dK (by walk_at "le");obtain ⟨d21,F21,b21,k21⟩:=A1l (ps:=A3a) dM (by walk_at "le");obtain ⟨d22,F22,b22,k22⟩:=A1l (ps:=A3a) dO (by walk_at "le");obtain ⟨d23,F23,b23,k23⟩:=A1l (ps:=A3a) dQ (by walk_at "le");obtain ⟨d24,F24,b24,k24⟩:=A1l (ps:=C4b) dS (by walk_at "le");obtain ⟨d25,F25,b25,k25⟩:=A1l (ps:=["_law_found"]) dU (by walk_at "le");obtain ⟨d26,F26,b26,k26⟩:=A1l (ps:=C3u) dW (by walk_at "le");obtain ⟨d27,F27,b27,k27⟩:=A1l (ps:=C4v) dY (by walk_at "le");obtain ⟨d28,F28,b28,k28⟩:=A1l (ps:=["_law_home"]) eA (by walk_at "le");obtain ⟨d29,F29,b29,k29⟩:=A1l (ps:=C4a) eC (by walk_at "le");obtain ⟨d30,F30,b30,k30⟩:=A1l (ps:=["_law_word","_law_stack"]) eE (by walk_at "le");obtain ⟨d31,F31,b31,k31⟩:=A1l (ps:=C1e) eG (by walk_at "le");obtain ⟨d32,F32,b32,k32⟩:=A1l (ps:=["_law_cell","_law_home"]) eI (by walk_at "le");obtain ⟨d33,F33,b33,k33⟩:=A1l (ps:=B3l) eK (by walk_at "le");obtain ⟨d34,F34,b34,k34⟩:=A1l (ps:=B3l) eM (by walk_at "le");obtain ⟨d35,F35,b35,k35⟩:=A1l (ps:=C0k) eO (by walk_at "le");obtain ⟨d36,F36,b36,k36⟩:=A1l (ps:=C0e) eQ (by walk_at "le");obtain ⟨_,_,_,_,_,_,_,_,_,bZ,c,k37⟩:=bZ;have F37:=B8m (st:=B7h) bZ c k37;have b37:=F37.binds (ps:=["_law_script"]) (by walk_at "le");exact ⟨_,λs v=> .of_eq rfl,λbase _ _=>C1x (t:=⟨bJ,bQ,bI,aS,aA,bM,f0,_,f1,_,f2,_,f3,_,f4,_,f5,_,f6,_,f7,_,f8,_,f9,_,cB,_,cC,_,cD,_,cE,_,cF,_,cG,_,cH,_,cI,_,cJ,_,cK,_,cL,_,cM,_,cN,_,cO,_,eR,_,eS,_,eT,_,eU,_,eV,_,eW,_,eX,_,eY,_,eZ,_,fA,_,fB,_,fC,_,fD,_,fa,_⟩) ⟨⟨F0,Z0f X G a0,b0⟩,⟨F1,b1⟩,⟨F2,b2⟩,⟨F3,b3⟩,⟨F4,b4⟩,⟨F5,b5⟩,⟨F6,b6⟩,⟨F7,b7⟩,⟨F8,b8⟩,⟨F9,Z0f X G a9,b9⟩,⟨F10,Z0f X G cP,b10⟩,⟨F11,Z0f X G cR,b11⟩,⟨F12,Z0f X G cT,b12⟩,⟨F13,Z0f X G cV,b13⟩,⟨F14,Z0f X G cX,b14⟩,⟨F15,Z0f X G cZ,b15⟩,⟨F16,Z0f X G dB,b16⟩,⟨F17,Z0f X G dD,b17⟩,⟨F18,Z0f X G dF,b18⟩,⟨F19,Z0f X G dH,b19⟩,⟨F20,Z0f X G dJ,b20⟩,⟨F21,Z0f X G dL,b21⟩,⟨F22,Z0f X G dN,b22⟩,⟨F23,Z0f X G dP,b23⟩,⟨F24,Z0f X G dR,b24⟩,⟨F25,Z0f X G dT,b25⟩,⟨F26,Z0f X G dV,b26⟩,⟨F27,Z0f X G dX,b27⟩,⟨F28,Z0f X G dZ,b28⟩,⟨F29,Z0f X G eB,b29⟩,⟨F30,Z0f X G eD,b30⟩,⟨F31,Z0f X G eF,b31⟩,⟨F32,Z0f X G eH,b32⟩,⟨F33,Z0f X G eJ,b33⟩,⟨F34,Z0f X G eL,b34⟩,⟨F35,Z0f X G eN,b35⟩,⟨F36,Z0f X G eP,b36⟩,⟨F37,Z0f X G cA,b37⟩,⟨_,Z0f X G aO,⟨_,rfl⟩⟩,⟨_,Z0f X G bG,rfl⟩,bH,Z0f X G bK,Z0f X G aT,Z0f X G aP,bL,aV,aQ,Z0f X G aU,⟨aW,aX,aY,aZ⟩,⟨bA,bC,i1,bB⟩,aI,aJ,aK,aF,aL,aM,⟨aG,i6,k6⟩,⟨aE,i4,k4⟩,⟨aD,i5,k5⟩,⟨aB,i7,k7⟩,⟨aN,i2,k2⟩,⟨aH,i8,k8⟩,⟨aC,i3,k3⟩,⟨bD,bX,bY,bE⟩,Z1c X G bU,Z1c X G bR,Z1c X G bO,Z1c X G aR,Z1c X G bS,Z1c X G bV,Z1c X G bP,Z1c X G bW,Z1c X G bT⟩⟩
theorem walk {l:PySem.W.OpenLaw} {q:Program} {loose:List Str} {XP:(Str->Option Value)->Heap->Prop} {YP:World->Heap->Prop} {d:DefRec} {K:Params->Frag} (hn:l.most=some 63) (hdf:d.params.defaults=[])
  (hY:∀(w:World) (h:Heap),YP w h->(K w.params).In h)
  (F:∀(w:World) (mg:Str->Option Value) (fa:Addr) (h:Heap),(K w.params).In h->h.Ns mainGlobals mg->mg d.name=some (.ref fa)->
   ∃fd:FuncData,(∀(s:Shared) (u:Value),BindsTo s fd ⟨[u],[]⟩ [("_law_script",u)])/\∀base:Heap,(K w.params).In base->base.Ns mainGlobals mg->A5j l.prog w (K w.params) mg base CX0 7 fa fd ["_law_script"] (B7p (K w.params))) :
  PySem.W.WalkO q loose XP YP l.row.toRowW d [] (λf vs=>PySem.call f vs) :=
 L2.C0v (n:=63) (k:=7) (x:="_law_script") (CX:=λ_=>CX0) (sp:=λw=>B7p (K w.params)) hn (by decide) hdf ⟨rfl,by decide,by decide,rfl⟩ hY F (λ_ _ a ns hl _ hS=>⟨a,ns,rfl,hS,hl,λ_=>rfl⟩) λ_ _ _ _ _ z=>z
end My
local macro_rules | `(tactic| walk_at "kf") => `(tactic| (refine' My.C2q ?l ?c ?k; (case l => k_is); (case c => k_is); (case k => k_is)))
open PySem PySem.W PyProof.Rows
set_option maxRecDepth 100000 in
set_option maxHeartbeats 0 in
theorem PySem.Challenge.cw_arrayloom_k71_sums_on_the_tape_holds : PySem.Challenge.rw_arrayloom_k71_sums_on_the_tape.Holds := by
 w_on;o_law;k_head;(case hw=>w_witness2)
 k_fill
 refine My.walk (l:=PySem.Challenge.rw_arrayloom_k71_sums_on_the_tape) rfl rfl (λw h Y=>PySem.W.kIn_of Y) ?F
 case F =>
  intro w mg fa h KX G hmg;refine' My.C2s KX G hmg ?bF ?bK ?aT ?aP ?aU ?a0 ?l0 ?a1 ?l1 ?i1 ?a2 ?l2 ?i2 ?a3 ?l3 ?i3 ?a4 ?l4 ?i4 ?a5 ?l5 ?i5 ?a6 ?l6 ?i6 ?a7 ?l7 ?i7 ?a8 ?l8 ?i8 ?a9 ?l9 ?cP ?cQ ?cR ?cS ?cT ?cU ?cV ?cW ?cX ?cY ?cZ ?dA ?dB ?dC ?dD ?dE ?dF ?dG ?dH ?dI ?dJ ?dK ?dL ?dM ?dN ?dO ?dP ?dQ ?dR ?dS ?dT ?dU ?dV ?dW ?dX ?dY ?dZ ?eA ?eB ?eC ?eD ?eE ?eF ?eG ?eH ?eI ?eJ ?eK ?eL ?eM ?eN ?eO ?eP ?eQ ?cA ?bZ ?aO ?bG ?bH ?bL ?aV ?aQ ?aW ?aX ?aY ?aZ ?bA ?bB ?bC ?aI ?aJ ?aK ?aF ?aL ?aM ?aG ?aE ?aD ?aB ?aN ?aH ?aC ?bD ?bX ?bY ?bE ?bU ?bR ?bO ?aR ?bS ?bV ?bP ?bW ?bT
  (case bF | bK | aT | aP | aU=>k_is)
  (case a0=>k_is);(case l0=>walk_at "kf")
  (case a1=>k_is);(case l1=>walk_at "kf")
  (case i1=>k_is)
  (case a2=>k_is);(case l2=>walk_at "kf")
  (case i2=>k_is)
  (case a3=>k_is);(case l3=>walk_at "kf")
  (case i3=>k_is)
  (case a4=>k_is);(case l4=>walk_at "kf")
  (case i4=>k_is)
  (case a5=>k_is);(case l5=>walk_at "kf")
  (case i5=>k_is)
  (case a6=>k_is);(case l6=>walk_at "kf")
  (case i6=>k_is)
  (case a7=>k_is);(case l7=>walk_at "kf")
  (case i7=>k_is)
  (case a8=>k_is);(case l8=>walk_at "kf")
  (case i8=>k_is)
  (case a9=>k_is);(case l9=>walk_at "kf")
  (case cP=>k_is);(case cQ=>walk_at "kf")
  (case cR=>k_is);(case cS=>walk_at "kf")
  (case cT=>k_is);(case cU=>walk_at "kf")
  (case cV=>k_is);(case cW=>walk_at "kf")
  (case cX=>k_is);(case cY=>walk_at "kf")
  (case cZ=>k_is);(case dA=>walk_at "kf")
  (case dB=>k_is);(case dC=>walk_at "kf")
  (case dD=>k_is);(case dE=>walk_at "kf")
  (case dF=>k_is);(case dG=>walk_at "kf")
  (case dH=>k_is);(case dI=>walk_at "kf")
  (case dJ=>k_is);(case dK=>walk_at "kf")
  (case dL=>k_is);(case dM=>walk_at "kf")
  (case dN=>k_is);(case dO=>walk_at "kf")
  (case dP=>k_is);(case dQ=>walk_at "kf")
  (case dR=>k_is);(case dS=>walk_at "kf")
  (case dT=>k_is);(case dU=>walk_at "kf")
  (case dV=>k_is);(case dW=>walk_at "kf")
  (case dX=>k_is);(case dY=>walk_at "kf")
  (case dZ=>k_is);(case eA=>walk_at "kf")
  (case eB=>k_is);(case eC=>walk_at "kf")
  (case eD=>k_is);(case eE=>walk_at "kf")
  (case eF=>k_is);(case eG=>walk_at "kf")
  (case eH=>k_is);(case eI=>walk_at "kf")
  (case eJ=>k_is);(case eK=>walk_at "kf")
  (case eL=>k_is);(case eM=>walk_at "kf")
  (case eN=>k_is);(case eO=>walk_at "kf")
  (case eP=>k_is);(case eQ=>walk_at "kf")
  (case cA=>k_is);(case bZ=>walk_at "kf")
  (case aO | bG=>k_is)
  (case bH=>first | (unfold L2.B8t;kernel_rfl) | (unfold L2.B8t;rfl) | (unfold L2.B8t;decide))
  (case bL | aV | aQ=>k_exc)
  (case aW | aX | aY | aZ | bA | bB | bC | aI | aJ | aK | aF=>k_is)
  (case aL | aM | aG | aE | aD | aB | aN | aH | aC | bD | bX=>k_is)
  (case bY | bE | bU | bR | bO | aR | bS | bV | bP | bW | bT=>k_is)
